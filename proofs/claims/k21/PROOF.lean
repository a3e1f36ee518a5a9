import PyProof.Rows.All
import Wide.All
import OpenK.AllK
import Wide.FinOn
import Lean
import PyProof.EqAt
import PyProof.EqKinds
import PyProof.TupleCall
import KE.KNestM
import PyProof.IsiH_list
import PyProof.RaisesAny
import KE.KDictOf
import PyProof.CollectWalk
import PyProof.CompFree
import KE.KDictList
import PyProof.NeKinds
import PyProof.ConsumeWalk
import PyProof.StrBlockI
import PyProof.EnumFor
import PyProof.TupleIter
import PyProof.EnumMake
import KE.KLam
import PyProof.DictUpdate
import PyProof.SeqI3
import PyProof.DictWalks
import PyProof.ConsumeS
import PyProof.Rows.CallKwBuiltin
import KE.KDictLaws
import PyProof.AutoListH
import PyProof.ZipIter
import PyProof.ListNew
import KE.KRevSl
import PyProof.StrOps
import PyProof.StrOps2
import KE.KSortKey
import PyProof.Rows.SetFrom
import PyProof.MinMaxWalk
import PySem.Challenge.RW_wright_k21_what_can_begin
set_option Elab.async false
set_option linter.all false
set_option maxRecDepth 100000
local macro_rules | `(tactic| omega) => `(tactic| first | lia | omega (config := {}))
local macro_rules | `(∅) => `(by omega)
local macro_rules | `(nofun) => `(by first | decide +kernel | kernel_rfl)
def bo:=@Or.inl
abbrev ba:=PySem.W.Frag
def tI:0<=PySem.sizeLine:=by decide
def I9:1<=PySem.sizeLine:=by decide
def kN:2<=PySem.sizeLine:=by decide
def I8:3<=PySem.sizeLine:=by decide
def Wn:4<=PySem.sizeLine:=by decide
def R8:5<=PySem.sizeLine:=by decide
def ax.{u,v}:=@List.length_map.{u,v}
def bj.{u}:=@List.getElem?_eq_some_iff.{u}
def bq.{u,v}:=@List.getElem?_map.{u,v}
def cq.{u,v}:=@Option.map_eq_some_iff.{u,v}
def cx:=@PySem.Heap.get?_push_of_some
def aD:=@PySem.wpAny_bind
def bU.{u}:=@List.length_append.{u}
def cE.{u}:=@List.mem_of_getElem?.{u}
def bB.{u,v}:=@List.map_append.{u,v}
def cO.{u}:=@List.mem_singleton.{u}
def aE:=@Nat.le_refl
def bW.{u}:=@List.mem_cons_of_mem.{u}
def bK.{u}:=@List.mem_cons_self.{u}
def cR.{u}:=@List.getElem?_eq_getElem.{u}
def a0:=@PySem.Paired.length
def ar.{u}:=@if_pos.{u}
def au.{u}:=@if_neg.{u}
def aR:=@PySem.wpAny_pure
def dA.{u}:=@List.mem_append_right.{u}
def cU:=@Bool.false_ne_true
def cH.{u}:=@List.take_length.{u}
def cQ.{u}:=@List.take_add_one.{u}
def cP.{u}:=@List.size_toArray.{u}
def cf:=@PySem.PassesOwn.never
def bR.{u}:=@List.mem_cons.{u}
def cS:=@of_decide_eq_true
def cD.{u}:=@List.mem_append.{u}
def bJ:=@PySem.Heap.lt_size
def dP.{u}:=@List.mem_append_left.{u}
def cC:=@decide_eq_true
def dH:=@PySem.Heap.get?_push_size
def fY:=@PySem.F.type_list_append
def fX:=@PySem.F.slot_list_append
def bV.{u,v}:=@List.mem_map.{u,v}
def bX:=@Nat.ne_of_lt
def fV:=@PySem.F.plainAttrs_list
def cA.{u,v}:=@List.map_cons.{u,v}
def dG.{u}:=@List.length_cons.{u}
def fU.{u}:=@List.getElem?_of_mem.{u}
def dO.{u}:=@List.length_take.{u}
def dN.{u}:=@List.all_eq_true.{u}
def fS:=@Nat.lt_of_lt_of_le
def ic.{u}:=@List.length_singleton.{u}
def fA:=@decide_eq_false
def g_:=@PySem.W.mg_none_of
def fQ.{u}:=@Option.some.inj.{u}
def fw:=@PySem.boot_len
def iC.{u,v}:=@List.mem_map_of_mem.{u,v}
def gG.{u}:=@List.append_nil.{u}
def mw.{u}:=@List.take_append_of_le_length.{u}
def kM.{u}:=@List.getElem?_append_right.{u}
def gO.{u}:=@List.mem_filter.{u}
def iZ:=@Bool.and_eq_true_iff
def ff:=@Nat.le_trans
def dw:=@PySem.wpAny_mono
def mr.{u}:=@List.getElem?_append_left.{u}
def mq.{u}:=@Option.isSome_iff_exists.{u}
def iB.{u}:=@List.nodup_cons.{u}
def jR.{u}:=@beq_eq_false_iff_ne.{u}
def fO:=@PySem.Paired.snoc
def jE.{u}:=@List.nodup_append.{u}
def jD.{u}:=@List.append_assoc.{u}
def mn.{u}:=@List.length_filter_le.{u}
def iY:=@Bool.eq_iff_iff
def iN.{u}:=@List.nodup_nil.{u}
def tG:=@PyProof.Rows.slot_tuple_getitem
def jQ:=@Int.toNat_natCast
def iX:=@List.mem_range
def g9:=@Nat.zero_le
def iA.{u,v,w}:=@List.map_map.{u,v,w}
def jP.{u}:=@List.length_nil.{u}
def tF.{u}:=@List.getD_eq_getElem?_getD.{u}
def oY.{u}:=@Array.length_toList.{u}
def ml:=@PySem.wpAny_truthy_bool
def mj:=@PySem.wpAny_newObj_type
def mi.{u,v}:=@List.mem_flatMap.{u,v}
def mh:=@Bool.and_eq_true
def qj.{u}:=@List.mem_iff_getElem.{u}
def jO.{u}:=@List.sum_cons.{u}
def tE:=@PySem.wpAny_callSpecial?_slot
def oX:=@Nat.lt_succ_self
def iW:=@PySem.wpAny_field
def kK:=@Nat.lt_irrefl
def qi.{u}:=@List.filter_append.{u}
def jC:=@Int.le_refl
def kJ:=@PySem.wpAny_holding
def qh:=@PySem.wpAny_Call_Name_kw
def qg.{u,v}:=@Option.isSome_map.{u,v}
def kI:=@Nat.ne_of_gt
def mf:=@Bool.true_and
def wR.{u}:=@List.take_of_length_le.{u}
def Az:=@PyProof.Rows.boot_isinstance
def tu.{u,v}:=@List.map_singleton.{u,v}
def qf:=@PySem.wpAny_call_entry
def Ay:=@PyProof.Rows.callWith_type1
def qe.{u}:=@List.nil_append.{u}
def me:=@Int.zero_add
def qd:=@PySem.Around.in1_units
def tq:=@PySem.tupleKind_room_in1
def s_:=@PySem.Calls.spliced_cons
def qC.{u}:=@List.mem_of_mem_take.{u}
def jq:=@PySem.wpAny_typeOf
def kW:=@PySem.wpAny_passesOwn
def n8.{u}:=@beq_self_eq_true.{u}
def n6.{u,v}:=@List.getElem_map.{u,v}
def nZ.{u}:=@List.filter_cons.{u}
def nY:=@PySem.wpAny_pyIter_list
def qB:=@PySem.mem_of_lookup
def qA.{u}:=@List.take_succ_cons.{u}
def jV:=@Nat.lt_trans
def jU:=@Nat.le_of_lt
def u_.{u}:=@List.getElem?_take_of_lt.{u}
def u9:=@PySem.F.slot_tuple_iterator_next
def qz:=@PySem.Around.under_plainId
def u7:=@PyProof.Rows.boot_tuple
def nX:=@Nat.not_lt_zero
def qy:=@Nat.lt_of_le_of_lt
def nW.{u}:=@List.find?_cons.{u}
def u6:=@PySem.F.slot_list_getattribute
def jT.{u,v}:=@Sum.inr.inj.{u,v}
def gq.{u}:=@Ne.symm.{u}
def qx:=@Nat.lt_succ_of_lt
def jS:=@Nat.le_succ
def qw:=@Bool.eq_false_iff
def nV:=@Bool.false_and
def qv:=@PySem.wpAny_setField_rec
def u5:=@PySem.wpAny_loadPart'
def u4:=@PyProof.Rows.boot_sum
def kU.{u,v}:=@List.map_nil.{u,v}
def u3.{u}:=@List.getElem?_eq_none.{u}
def uZ:=@PySem.Calls.callWith_builtin
def nU:=@PySem.W.mg_of
def iD.{u,v}:=@Prod.ext.{u,v}
def nR.{u}:=@List.any_cons.{u}
def nQ:=@PySem.Heap.size_push
def uY:=@PySem.wpAny_pyNext_list_end
def qt:=@PySem.W.kia_one
def qr.{u,v}:=@Option.map_some.{u,v}
def uX.{u,v}:=@List.map_congr_left.{u,v}
def uW:=@PySem.F.slot_enumerate_next
def uV.{u}:=@Array.toList_append.{u}
def uU:=@PySem.wpAny_loadName_local
def nP:=@Nat.zero_add
def nO:=@Nat.sub_self
def uT.{u}:=@List.pairwise_cons.{u}
def nN:=@Int.le_trans
def uS:=@PySem.Calls.evalArgs_plain
def nK:=@PySem.plainId_quiet
def qp.{u}:=@List.drop_zero.{u}
def qo:=@PySem.codeAny_builtin
def yJ:=@PySem.F.slot_dict_update
def yI:=@PySem.F.args_tuple_add_2
def yH:=@PyProof.Rows.boot_sorted
def uR:=@List.length_range
def yG.{u}:=@List.length_erase_of_mem.{u}
def uQ.{u,v}:=@List.foldl_append.{u,v}
def yF:=@PySem.F.plainAttrs_dict
def yE:=@PySem.F.entry_tuple_add
def qm.{u,v}:=@Prod.mk.injEq.{u,v}
def ql.{u,v}:=@List.map_take.{u,v}
def uP:=@PySem.wpAny_pyIter_tuple
def nJ:=@PySem.codeAny_mono
def uO.{u}:=@List.length_drop.{u}
def uN.{u}:=@List.getElem_mem.{u}
def uM.{u}:=@List.getElem_inj.{u}
def qk:=@PySem.wpAny_seqItems
def yD:=@PySem.F.slot_tuple_add
def yC.{u}:=@List.length_pos_of_mem.{u}
namespace L2
open PySem PySem.Spec PyProof.Rows
abbrev aL:=Sum Int Str
def rg:aL->Value->Bool
 | .inl k,v=>Value.isInt k v
 | .inr x,v=>Value.isStrOf x v
def T4 (w:World):aL->Int
 | .inl k=>hashInt k
 | .inr x=>hashStr w x
def df:∀{k:aL}{v:Value},rg k v=true->(∃i t,k=Sum.inl i/\v=Value.int i t)\/(∃x t,k=Sum.inr x/\v=Value.str x t)
 | .inl i,v,h=>by
  obtain⟨t,e⟩:=Value.isInt_shape (k:=i) (v:=v) h;exact .inl ⟨i,t,rfl,e⟩
 | .inr x,v,h=>by
  obtain⟨t,e⟩:=Value.isStrOf_shape (x:=x) (v:=v) h;exact .inr ⟨x,t,rfl,e⟩
def Ct (i:Int)(t:Tok):rg (.inl i) (.int i t)=true:=by simp [rg,Value.isInt]
def Cs (x:Str)(t:Tok):rg (.inr x) (.str x t)=true:=by simp [rg,Value.isStrOf]
def Lw (a b:Int):decide ((Sum.inl a:aL)=Sum.inl b)=(a == b):=by
 by_cases e:a=b
 .subst e;simp
 have h:¬(Sum.inl a:aL)=Sum.inl b:=λq=>e (Sum.inl.inj q);rw [fA h];exact(jR.mpr e).symm
def Ls (a b:Str):decide ((Sum.inr a:aL)=Sum.inr b)=decide (a=b):=by
 by_cases e:a=b
 .subst e;simp
 have h:¬(Sum.inr a:aL)=Sum.inr b:=λq=>e (jT q);rw [fA h,fA e]
def Lv (a:Int)(b:Str):decide ((Sum.inl a:aL)=Sum.inr b)=false:=fA (λq=>nomatch q)
def Lu (a:Str) (b:Int):decide ((Sum.inr a:aL)=Sum.inl b)=false:=fA (λq=>nomatch q)
def bf (prog:Program)(w:World):PySem.KeyKind prog w aL where
 is:=rg
 hash:=T4 w
 inj:=λv a b ha hb=>by
  rcases df ha with ⟨i,t,rfl,rfl⟩ | ⟨x,t,rfl,rfl⟩
  .rcases df hb with ⟨j,u,rfl,e⟩ | ⟨y,u,rfl,e⟩
   .injection e with e1 _;rw [e1]
   exact nomatch e
  rcases df hb with ⟨j,u,rfl,e⟩ | ⟨y,u,rfl,e⟩
  .exact nomatch e
  injection e with e1 _;rw [e1]
 byValue:=λk v h=>by
  rcases df h with ⟨i,t,rfl,rfl⟩ | ⟨x,t,rfl,rfl⟩ <;> rfl
 pyHash:=λhv h=>by
  rcases df hv with ⟨i,t,rfl,rfl⟩ | ⟨x,t,rfl,rfl⟩
  .exact wpAny_pyHash_int h
  exact wpAny_pyHash_str h
 eqBool:=λhu hv h=>by
  rcases df hu with ⟨i,t,rfl,rfl⟩ | ⟨x,t,rfl,rfl⟩
  .rcases df hv with ⟨j,u,rfl,rfl⟩ | ⟨y,u,rfl,rfl⟩
   .rw [Lw] at h;exact wpAny_eqBool_int h
   rw [Lv] at h;exact SeqAt.EqAt.int_str i t y u _ _ _ _ h
  rcases df hv with ⟨j,u,rfl,rfl⟩ | ⟨y,u,rfl,rfl⟩
  .rw [Lu] at h;exact SeqAt.EqAt.str_int x t j u _ _ _ _ h
  rw [Ls] at h;exact wpAny_eqBool_str h
 «strs»:=λk x t v h=>by
  rcases df h with ⟨i,u,rfl,e⟩ | ⟨y,u,rfl,e⟩
  .exact nomatch e
  injection e with e1 _;subst e1;cases v <;> rfl
def xF (prog:Program)(w:World) (i:Int)(t:Tok):(bf prog w).is (.inl i) (.int i t)=true:=Ct i t
def xE (prog:Program)(w:World)(x:Str)(t:Tok):(bf prog w).is (.inr x) (.str x t)=true:=Cs x t
inductive V where
 | fc | bl (b:Bool) | int (i:Int) | str (x:Str) | Ak (b:Array UInt8) | Mf (b:UInt64) | ref (a:Addr) | ty (n:String)
 deriving DecidableEq
def RelV:V->Value->Prop
 | .fc,u=>u=Value.none
 | .bl b,u=>u=Value.bool b
 | .int i,u=>∃t,u=Value.int i t
 | .str x,u=>∃t,u=Value.str x t
 | .Ak b,u=>∃t,u=Value.bytes b t
 | .Mf b,u=>∃t,u=Value.float b t
 | .ref a,u=>u=Value.ref a
 | .ty n,u=>u=Value.type n
abbrev a_:List V->List Value->Prop:=Paired RelV
theorem a_.length {xs:List V}{us:List Value}(r:a_ xs us):xs.length=us.length:=a0 r
theorem a_.get:∀{xs:List V}{us:List Value}{i:Nat}{x:V},a_ xs us->xs[i]?=some x->∃u,us[i]?=some u/\RelV x u
 | _,_,_,_,.nil,e=>by simp at e
 | _,_,0,_,.cons r _,e=>by simp at e;subst e;exact⟨_,rfl,r⟩
 | _,_,i+1,x,.cons _ t,e=>by
  obtain⟨u,h1,h2⟩:=a_.get (i:=i) (x:=x) t (by simpa using e);exact⟨u,by simpa using h1,h2⟩
theorem a_.set {x:V}{u:Value}(r:RelV x u):∀{xs:List V}{us:List Value}(i:Nat),a_ xs us->a_ (xs.set i x) (us.set i u)
 | _,_,_,.nil=>.nil
 | _,_,0,.cons _ t=>.cons r t
 | _,_,i+1,.cons q t=>.cons q (a_.set r i t)
theorem a_.append:∀{xs ys:List V}{us ws:List Value},a_ xs us->a_ ys ws->a_ (xs++ys) (us++ws)
 | _,_,_,_,.nil,s=>s
 | _,_,_,_,.cons r t,s=>.cons r (a_.append t s)
theorem a_.take:∀{xs:List V}{us:List Value}(n:Nat),a_ xs us->a_ (xs.take n) (us.take n)
 | _,_,0,_=>.nil
 | _,_,_+1,.nil=>.nil
 | _,_,n+1,.cons r t=>.cons r (a_.take n t)
theorem a_.drop:∀{xs:List V}{us:List Value}(n:Nat),a_ xs us->a_ (xs.drop n) (us.drop n)
 | _,_,0,r=>r
 | _,_,_+1,.nil=>.nil
 | _,_,n+1,.cons _ t=>a_.drop n t
def a_.none_of:∀{xs:List V}{us:List Value}{i:Nat},a_ xs us->xs[i]?=none->us[i]?=none:=λ{xs us i} r e=>by
 have h1:=r.length;have h2:xs.length<=i:=List.getElem?_eq_none_iff.mp e;exact List.getElem?_eq_none_iff.mpr ∅
def jB:Option V->Option Value->Prop
 | some v,some u=>RelV v u
 | none,none=>True
 | _,_=>False
def KV {κ:Type}:List (κ×V)->List (κ×Value)->Prop:=Paired λ(p:κ×V)(q:κ×Value)=>p.1=q.1/\RelV p.2 q.2
def kV:aL->V
 | .inl i=>.int i
 | .inr x=>.str x
inductive HO where
 | lst (xs:List V)
 | tup (xs:List V)
 | dK (kvs:List (aL×V)) | dT (kvs:List (List aL×V))
 | set (S:Int->Bool) (n:Nat)
 | ins (C dx:Addr)(fs:List (Str×V))
 | own (x:Addr)
 | xd (fs:List (Str×V))
 | met (f x:Addr)
 | EC (lo hi:Int)
 | jN (o:Obj)(u:HO)
 | sL (ps:Array Value)
 | ext (φ:Heap->Prop)
abbrev Hp:=Addr->Option HO
def upd (H:Hp)(a:Addr)(o:HO):Hp:=λb=>if b=a then some o else H b
def ae {H:Hp}{a:Addr}{o:HO}:upd H a o a=some o:=by unfold upd;rw [ar rfl]
def ak {H:Hp}{a b:Addr}{o:HO}(h:b≠a):upd H a o b=H b:=by unfold upd;rw [au h]
def mx {H:Hp}{a:Addr}{o u:HO}:upd (upd H a o) a u=upd H a u:=by
 funext b;unfold upd;split <;> rfl
def OD {H:Hp}{a b:Addr}{o u:HO}(h:H a=some o)(h':H b=some u)(d:o≠u):a≠b:=by
 intro e;subst e;rw [h] at h';exact d (fQ h')
def ay {H:Hp}{a b:Addr}{o:HO}(h:H a=some o)(h':H b=none):a≠b:=by
 intro e;subst e;rw [h] at h';cases h'
section
variable (P:Program)(w:World)
def cJ (H:Hp)(h:Heap)(a:Addr):HO->Prop
 | .lst xs=>xs.length<=sizeLine/\∃(aT:List Value) (n:Nat),a_ xs aT/\h.get? a=some { cls:=.type "list",data:=.seq aT.toArray n }
 | .tup xs=>xs.length<=sizeLine/\∃aT:List Value,a_ xs aT/\IsTup h a aT.toArray
 | .dK kvs=>kvs.length<=sizeLine/\(a == sysModules)=false/\∃vs,KV kvs vs/\h.DictOf (bf P w) a vs
 | .dT kvs=>kvs.length<=sizeLine/\(a == sysModules)=false/\∃xs:List (List aL×Addr×Value),
   Paired (λ(p:List aL×V)(q:List aL×Addr×Value)=>p.1=q.1/\H q.2.1=some (.tup (p.1.map kV))/\RelV p.2 q.2.2) kvs xs /\
   ∃o es ep,h.get? a=some o/\o.ExactDict/\o.data=.dict es ep/\es.toList=xs.map (entryOfKey (tupleKind (bf P w)))/\(xs.map (·.1)).Nodup
 | .set S n=>h.SetOf (intKind P w) a S n
 | .ins C dx fs=>H dx=some (.own a)/\fs.length<=1000/\dx≠a/\h.get? a=some (PySem.W.instObj C dx) /\
   ∃mA,h.Ns1 dx mA/\(∀f,jB (fs.lookup f) (mA f))/\PySem.Within mA (fs.map (·.1))
 | .own _=>∃o,h.get? a=some o
 | .xd fs=>∃mA,h.Ns1 a mA/\∀f,jB (fs.lookup f) (mA f)
 | .EC lo hi=>∃t u v,h.get? a=some { cls:=.type "range",data:=.fields #[.int lo t,.int hi u,.int 1 v] }
 | .jN o u=>h.get? a=some o/\cJ H h a u
 | .sL ps=>h.get? a=some { cls:=.none,data:=.fields ps }
 | .met f x=>h.get? a=some (PySem.W.methodObj (.ref f) (.ref x))
 | .ext φ=>φ h/\(∃o,h.get? a=some o)/\∀h1 h2:Heap,φ h1->(∀o,h1.get? a=some o->h2.get? a=some o)->φ h2
def kT (H:Hp)(h:Heap):Prop:=∀a o,H a=some o->cJ P w H h a o
end
section
variable {P:Program}{w:World}{H H':Hp}{h h':Heap}{a:Addr}{o:HO}
theorem cJ.lt (x:cJ P w H h a o):a < h.objs.size:=by
 cases o with
 | lst xs=>obtain⟨_,_,_,_,e⟩:=x;exact bJ e
 | tup xs=>obtain⟨_,_,_,p⟩:=x;exact p.lt
 | dK kvs=>obtain⟨_,_,_,_,o,_,_,e,_⟩:=x;exact bJ e
 | dT kvs=>obtain⟨_,_,_,_,o,_,_,e,_⟩:=x;exact bJ e
 | set S n=>obtain⟨o,_,_,_,e,_⟩:=x;exact bJ e
 | ins C dx fs=>obtain⟨_,_,_,e,_⟩:=x;exact bJ e
 | own y=>obtain⟨_,e⟩:=x;exact bJ e
 | xd fs=>obtain⟨_,⟨_,_,_,e,_⟩,_⟩:=x;exact bJ e
 | EC lo hi=>obtain⟨_,_,_,e⟩:=x;exact bJ e
 | jN ob u=>obtain⟨e,_⟩:=x;exact bJ e
 | sL ps=>exact bJ (show h.get? a=some _ from x)
 | met f y=>exact bJ (show h.get? a=some _ from x)
 | ext φ=>obtain⟨_,⟨_,e⟩,_⟩:=x;exact bJ e
theorem Paired.di {α β:Type}{F G:α->β->Prop}:∀{l₁:List α}{l₂:List β},Paired F l₁ l₂->(∀a b,F a b->G a b)->Paired G l₁ l₂
 | _,_,.nil,_=>.nil
 | _,_,.cons r t,f=>.cons (f _ _ r) (Paired.di t f)
def cJ.jY (x:cJ P w H h a o)(k:∀b u,(b=a\/H b=some (.own a))->h.get? b=some u->h'.get? b=some u)
  (ho:∀b,H b=some (.own a)->H' b=some (.own a))(ht:∀b xs,H b=some (.tup xs)->H' b=some (.tup xs)):cJ P w H' h' a o:=by
 induction o with
 | lst xs=>obtain⟨z,aT,n,r,e⟩:=x;exact⟨z,aT,n,r,k _ _ (.inl rfl) e⟩
 | tup xs=>obtain⟨z,aT,r,ob,e,c⟩:=x;exact⟨z,aT,r,ob,k _ _ (.inl rfl) e,c⟩
 | dK kvs=>obtain⟨z,y,vs,r,ob,es,ep,e,c⟩:=x;exact⟨z,y,vs,r,ob,es,ep,k _ _ (.inl rfl) e,c⟩
 | dT kvs =>
  obtain⟨z,y,xs,r,ob,es,ep,e,c⟩:=x;exact⟨z,y,xs,Paired.di r λp q z=>⟨z.1,ht _ _ z.2.1,z.2.2⟩,ob,es,ep,k _ _ (.inl rfl) e,c⟩
 | set S n=>obtain⟨ob,es,ep,t,e,c⟩:=x;exact⟨ob,es,ep,t,k _ _ (.inl rfl) e,c⟩
 | ins C dx fs =>
  obtain⟨d,z,ne,e,mA,⟨od,es,ep,e2,c⟩,r⟩:=x;exact⟨ho _ d,z,ne,k _ _ (.inl rfl) e,mA,⟨od,es,ep,k _ _ (.inr d) e2,c⟩,r⟩
 | own y=>obtain⟨ob,e⟩:=x;exact⟨ob,k _ _ (.inl rfl) e⟩
 | xd fs=>obtain⟨mA,⟨od,es,ep,e,c⟩,r⟩:=x;exact⟨mA,⟨od,es,ep,k _ _ (.inl rfl) e,c⟩,r⟩
 | EC lo hi=>obtain⟨t,u,v,e⟩:=x;exact⟨t,u,v,k _ _ (.inl rfl) e⟩
 | jN ob u ih=>obtain⟨e,q⟩:=x;exact⟨k _ _ (.inl rfl) e,ih q⟩
 | sL ps =>
  have e:h.get? a=some { cls:=.none,data:=.fields ps }:=x;show h'.get? a=some { cls:=.none,data:=.fields ps };exact k a _ (.inl rfl) e
 | met f y =>
  have e:h.get? a=some (PySem.W.methodObj (.ref f) (.ref y)):=x;show h'.get? a=some (PySem.W.methodObj (.ref f) (.ref y));exact k a _ (.inl rfl) e
 | ext φ=>obtain⟨p,⟨o,e⟩,st⟩:=x;exact⟨st _ _ p λo q=>k _ _ (.inl rfl) q,⟨o,k _ _ (.inl rfl) e⟩,st⟩
theorem kT.lt (x:kT P w H h)(e:H a=some o):a < h.objs.size:=(x a o e).lt
def kT.fresh (x:kT P w H h)(e:h.objs.size<=a):H a=none:=by
 cases q:H a with
 | none=>rfl
 | some u=>exact absurd (fS (x.lt q) e) (kK _)
def kT.kept (x:kT P w H h)(k:∀b u,h.get? b=some u->h'.get? b=some u):kT P w H h':=λa o e =>
 (x a o e).jY (λb u _ q=>k b u q) (λ_ q=>q) λ_ _ q=>q
def kT.laid (x:kT P w H h)(k:∀b u,h.get? b=some u->h'.get? b=some u)(hp:h.objs.size<=a)(new:cJ P w (upd H a o) h' a o):kT P w (upd H a o) h':=λb u e=>by
 have hn:=x.fresh hp;by_cases hb:b=a
 .subst hb;rw [ae] at e;cases e;exact new
 rw [ak hb] at e;exact(x b u e).jY (λc v _ q=>k c v q) (λc q=>by rw [ak (ay q hn)];exact q) λc xs q=>by rw [ak (ay q hn)];exact q
end
def Rd (H:Hp)(a:Addr)(u:HO):Prop:=H a=some u\/∃o,H a=some (.jN o u)
def Rd.of {H:Hp}{a:Addr}{u:HO}(h:H a=some u):Rd H a u:=.inl h
def Rd.ok {P:Program}{w:World}{H:Hp}{h:Heap}{a:Addr}{u:HO}(r:Rd H a u)(x:kT P w H h):cJ P w H h a u:=by
 rcases r with r | ⟨o,r⟩
 .exact x a u r
 obtain⟨_,q⟩:=x a _ r;exact q
def QG:Option HO->Prop
 | some (.lst _)=>True
 | some (.dK _)=>True
 | some (.dT _)=>True
 | some (.set _ _)=>True
 | some (.ins _ _ _)=>True
 | some (.ext _)=>True
 | _=>False
section
variable {P:Program}{w:World}{H:Hp}{h h':Heap}{x e:Addr}{o':HO}
def kT.write (ok:kT P w H h)(mu:QG (H x))(he:e=x\/H e=some (.own x))(k:∀b u,b≠e->h.get? b=some u->h'.get? b=some u)(Nh:∃u,h'.get? e=some u)
  (new:cJ P w (upd H x o') h' x o'):kT P w (upd H x o') h':=λb u q=>by
 have Oz:∀c y,H c=some (.own y)->c≠x:=λc y r z=>by subst z;rw [r] at mu;exact mu
 have Te:∀c xs,H c=some (.tup xs)->c≠x:=λc xs r z=>by subst z;rw [r] at mu;exact mu
 by_cases hb:b=x
 .subst hb;rw [ae] at q;cases q;exact new
 rw [ak hb] at q;by_cases LR:b=e
 .have q':H b=some (.own x):=by
   rcases he with z | z
   .exact absurd (LR.trans z) hb
   rw [LR];exact z
  rw [q] at q';cases q';obtain⟨v,hv⟩:=Nh;exact⟨v,by rw [LR];exact hv⟩
 refine(ok b u q).jY (λc v hc r=>k c v ?_ r) (λc r=>by rw [ak (Oz c b r)];exact r) λc xs r=>by rw [ak (Te c xs r)];exact r
 rcases hc with rfl | hc
 .exact LR
 rintro rfl;rcases he with z | z
 .exact Oz c b hc z
 rw [hc] at z;cases z;exact hb rfl
end
structure Un (fs ex:List Addr)(H H':Hp)(h h':Heap):Prop where
 keep:∀b o,h.get? b=some o->H b=none->b∉fs->b∉ex->h'.get? b=some o
 slot:∀b o,h.get? b=some o->H b=none->b∈fs->b∉ex->∃sl,h'.get? b=some { o with slots:=sl }
 free:∀b o,h.get? b=some o->H b=none->b∉ex->H' b=none
 there:∀b o,h.get? b=some o->b∉ex->∃o',h'.get? b=some o'
 oh:∀b xs,H b=some (.tup xs)->H' b=some (.tup xs)
 lW:∀b o u,H b=some (.jN o u)->H' b=some (.jN o u)
 mz:∀b ps,H b=some (.sL ps)->∃more,H' b=some (.sL (ps++more))
section
variable {fs G6 ex Yo:List Addr}{H H1 H2:Hp}{h h1 h2 h':Heap}{a x e:Addr}{o:HO}
def Un.any (u:Un fs ex H H1 h h1){b:Addr}{ob:Obj}(q:h.get? b=some ob)(n:H b=none)(hx:b∉ex):∃sl,h1.get? b=some { ob with slots:=sl }:=by
 by_cases hb:b∈fs
 .exact u.slot b ob q n hb hx
 exact⟨ob.slots,u.keep b ob q n hb hx⟩
def Un.trans (a:Un fs ex H H1 h h1)(b:Un fs ex H1 H2 h1 h2):Un fs ex H H2 h h2 where
 keep:=λc ob q n hc hx=>b.keep c ob (a.keep c ob q n hc hx) (a.free c ob q n hx) hc hx
 slot:=λc ob q n hc hx=>by
  obtain⟨sl,e1⟩:=a.slot c ob q n hc hx;obtain⟨Sz,e2⟩:=b.slot c _ e1 (a.free c ob q n hx) hc hx;exact⟨Sz,e2⟩
 free:=λc ob q n hx=>by
  obtain⟨o',e1⟩:=a.there c ob q hx;exact b.free c o' e1 (a.free c ob q n hx) hx
 there:=λc ob q hx=>by
  obtain⟨o',e1⟩:=a.there c ob q hx;exact b.there c o' e1 hx
 oh:=λc xs q=>b.oh c xs (a.oh c xs q)
 lW:=λc ob xs q=>b.lW c ob xs (a.lW c ob xs q)
 mz:=λc ps q=>by
  obtain⟨m1,e1⟩:=a.mz c ps q;obtain⟨m2,e2⟩:=b.mz c _ e1;exact⟨m1++m2,by rw [e2,Array.append_assoc]⟩
def Un.kept (k:∀b u,h.get? b=some u->h'.get? b=some u):Un fs ex H H h h' :=
 ⟨λb ob q _ _ _=>k b ob q,λb ob q _ _ _=>⟨ob.slots,k b ob q⟩,λ_ _ _ n _=>n,λb ob q _=>⟨ob,k b ob q⟩,λ_ _ q=>q,λ_ _ _ q=>q,λ_ ps q=>⟨#[],by rw [q];simp⟩⟩
def Un.refl:Un fs ex H H h h:=Un.kept λ_ _ q=>q
def Un.laid (k:∀b u,h.get? b=some u->h'.get? b=some u)(hp:h.objs.size<=a)(hn:H a=none):Un fs ex H (upd H a o) h h' where
 keep:=λb u q _ _ _=>k b u q
 slot:=λb u q _ _ _=>⟨u.slots,k b u q⟩
 free:=λb u q n _=>by rw [ak (bX (fS (bJ q) hp))];exact n
 there:=λb u q _=>⟨u,k b u q⟩
 oh:=λb xs q=>by rw [ak (ay q hn)];exact q
 lW:=λb u xs q=>by rw [ak (ay q hn)];exact q
 mz:=λb ps q=>⟨#[],by rw [ak (ay q hn),q];simp⟩
def Un.write (mu:QG (H x))(he:e=x\/H e=some (.own x))(k:∀b u,b≠e->h.get? b=some u->h'.get? b=some u)(Nh:∃u,h'.get? e=some u):Un fs ex H (upd H x o) h h':=by
 have hx:∀b,H b=none->b≠x:=λb n z=>by subst z;rw [n] at mu;exact mu
 have hb:∀b,H b=none->b≠e:=λb n z=>by
  subst z;rcases he with r | r
  .exact hx b n r
  rw [n] at r;cases r
 have hm:∀b u,H b=some u->¬QG (some u)->b≠x:=λb u q nm z=>by subst z;rw [q] at mu;exact nm mu
 refine⟨λb u q n _ _=>k b u (hb b n) q,λb u q n _ _=>⟨u.slots,k b u (hb b n) q⟩,λb u q n _=>by rw [ak (hx b n)];exact n,λb u q _=>?_,
  λb xs q=>by rw [ak (hm b _ q λz=>z)];exact q,λb u xs q=>by rw [ak (hm b _ q λz=>z)];exact q,λb ps q=>⟨#[],by rw [ak (hm b _ q λz=>z),q];simp⟩⟩
 by_cases LR:b=e
 .subst LR;exact Nh
 exact⟨u,k b u LR q⟩
def Un.mono (u:Un fs ex H H1 h h1)(hs:∀b∈fs,b∈G6)(hx:∀b∈ex,b∈Yo):Un G6 Yo H H1 h h1 :=
 ⟨λb ob q n hb he=>u.keep b ob q n (λz=>hb (hs b z)) λz=>he (hx b z),λ_ _ q n _ he=>u.any q n λz=>he (hx _ z),λb ob q n he=>u.free b ob q n λz=>he (hx b z),λb ob q he=>u.there b ob q λz=>he (hx b z),u.oh,u.lW,u.mz⟩
end
def GA (h:Heap)(H:Hp):List Addr:=(List.range h.objs.size).filter λa=>(H a).isSome
def lU (h:Heap)(H:Hp):Heap:=PySem.W.hideAll h (GA h H)
def uk (h:Heap)(H:Hp):(lU h H).objs.size=h.objs.size:=PySem.W.hideAll_size _ _
def xO {h:Heap}{H:Hp}{b:Addr}{o:Obj}(e:h.get? b=some o)(n:H b=none):(lU h H).get? b=some o :=
 PySem.W.hideAll_get _ e λhm=>by
  have q:(H b).isSome=true:=(gO.mp hm).2;rw [n] at q;simp at q
def Bd {h:Heap}{H:Hp}{b:Addr}{o:Obj}(e:(lU h H).get? b=some o):h.get? b=some o/\H b=none:=by
 have e':h.get? b=some o:=PySem.W.of_hideAll (GA h H) e;refine⟨e',?_⟩;cases q:H b with
 | none=>rfl
 | some x =>
  have hm:b∈GA h H:=gO.mpr ⟨iX.mpr (bJ e'),by simp [q]⟩;have z:(lU h H).get? b=none:=PySem.W.hideAll_none (GA h H) hm;rw [z] at e;cases e
def IS (g h:Heap)(L:Addr):List (Addr×Obj):=(List.range h.objs.size).filterMap λa=>if a=L\/(g.get? a).isSome=true then none else (h.get? a).map λo=>(a,o)
def rest (g h:Heap)(L d:Addr):List (Addr×Obj):=(IS g h L).filter λp=>decide (p.1≠d)
structure Mod (K:ba)(mg:Str->Option Value)(base:Heap):Prop where
 OX:K.In base
 glob:base.Ns mainGlobals mg
 blt:∃mb,base.Ns builtinsNs mb/\∀x:Str,x ≠ "__name__" -> mb x=bootBuiltins x
 nolimit:base.NoLimit
structure Cx where
 prog:Program
 w:World
 K:ba
 mg:Str->Option Value
 base:Heap
 A:Around
 N:List Str
 s₀:Shared
 H₀:Hp
 env:Env
 outer:List Env
 stack:List Env
 ex:List Addr
 fn:Str->Bool
 calm:Bool
 pn:List (Addr×Obj)
 xe:Value->Shared->Prop
def CF (l:List Env):List Addr:=l.filterMap (·.frame)
abbrev Cx.fs (X:Cx):List Addr:=CF X.outer
def RQ (sc:Scope)(x:Str):Prop:=sc.names.lookup x=some .local\/sc.names.lookup x=some .cell\/sc.names.lookup x=some .free
def Loc (sc:Scope)(x:Str):Prop:=sc.names.lookup x=some .local\/sc.names.lookup x=some .cell
def Look (env:Env)(h:Heap)(m:Str->Option Value)(x:Str)(u:Value):Prop :=
 (env.kindOf x=some .local/\m x=some u)\/((env.kindOf x=some .cell\/env.kindOf x=some .free)/\∃c,env.cells.lookup x=some c/\h.IsCell c (some u))
structure Cx.Ok (X:Cx):Prop where
 mod:Mod X.K X.mg X.base
 kind:X.env.scope.kind=.function
 glob:X.env.globals=mainGlobals
 blt:X.env.builtins=builtinsNs
 above:X.s₀.heap.objs.size<=X.env.locals
 inj:∀x y c,X.env.cells.lookup x=some c->X.env.cells.lookup y=some c->x=y
 has:∀x,(X.env.kindOf x=some .cell\/X.env.kindOf x=some .free)->∃c,X.env.cells.lookup x=some c
 Qk:∀x c,X.fn x=true->X.env.cells.lookup x=some c->X.s₀.heap.objs.size<=c
 hd:X.calm=true->X.A.handled=none
 frames:X.A.frames=some X.stack
 Q2:X.stack=X.outer\/(X.stack=X.env::X.outer/\X.env.frame=some X.env.locals)
 Nn:∀b∈X.ex,b≠X.env.locals/\∀x c,X.env.cells.lookup x=some c->c≠b
 bs:∀b o,X.base.get? b=some o->X.s₀.heap.get? b=some o/\X.H₀ b=none
 Ha:X.base.objs.size<=X.s₀.heap.objs.size
 Fd:∀b o,X.base.get? b=some o->b∉X.ex
 CH:∀b∈X.ex,b∉X.fs
 oQ:X.s₀.heap.FunFrames X.base X.outer
 JL:∀b∈X.fs,X.H₀ b=none
structure Inv (X:Cx)(ag:List (Addr×Obj))(σ:List (Option V))(H:Hp)(s:Shared):Prop where
 ok:X.Ok
 os:s.os=X.s₀.os
 bare:AllBare s.gens
 base:Un X.fs X.ex X.H₀ H X.s₀.heap s.heap
 loc:∃m,s.heap.Ns X.env.locals m/\∀(i:Nat)(x:Str)(v:V),X.N[i]?=some x->σ[i]?=some (some v)->RQ X.env.scope x->∃u,RelV v u/\Look X.env s.heap m x u
 cell:∀x c,X.env.cells.lookup x=some c->∃v,s.heap.IsCell c v
 free:H X.env.locals=none
 j_:∀x c,X.env.cells.lookup x=some c->H c=none
 pin:∀p∈X.pn++ag,s.heap.get? p.1=some p.2/\H p.1=none/\p.1≠X.env.locals/\p.1∉X.fs/\∀v,p.2.data≠.cell v
 b8:kT X.prog X.w H s.heap
 len:σ.length=X.N.length
section
variable {X:Cx}{ag:List (Addr×Obj)}{σ:List (Option V)}{H H':Hp}{s:Shared}{h':Heap}
def Cx.Ok.Th (ok:X.Ok){b:Addr}{o:Obj}(e:X.base.get? b=some o):b∉X.fs:=λhb=>by
 have:=(ok.oQ.mem hb).1;rw [e] at this;cases this
theorem Inv.bs (I:Inv X ag σ H s):∀b o,X.base.get? b=some o->s.heap.get? b=some o/\H b=none:=λb o e =>
 ⟨I.base.keep b o (I.ok.bs b o e).1 (I.ok.bs b o e).2 (I.ok.Th e) (I.ok.Fd b o e),I.base.free b o (I.ok.bs b o e).1 (I.ok.bs b o e).2 (I.ok.Fd b o e)⟩
def Inv.bk (I:Inv X ag σ H s):∀b o,X.base.get? b=some o->s.heap.get? b=some o:=λb o e=>(I.bs b o e).1
theorem Inv.mod (I:Inv X ag σ H s):Mod X.K X.mg X.base:=I.ok.mod
def Inv.uf (I:Inv X ag σ H s):X.K.In s.heap:=I.ok.mod.OX.keeps I.bk
theorem Inv.nolimit (I:Inv X ag σ H s):s.heap.NoLimit:=I.ok.mod.nolimit.keeps I.bk
def Inv.fr (I:Inv X ag σ H s):∃m,Fr X.base X.env.locals s.heap m :=
 let ⟨m,hn,_⟩:=I.loc
 ⟨m,hn,I.bk,ff I.ok.Ha I.ok.above⟩
theorem Inv.lt (I:Inv X ag σ H s):X.env.locals < s.heap.objs.size:=let ⟨_,hn,_⟩:=I.loc;hn.lt
def Inv.sz (I:Inv X ag σ H s):X.s₀.heap.objs.size<=s.heap.objs.size:=ff I.ok.above (jU I.lt)
def Inv.Tg (I:Inv X ag σ H s){a:Addr}(h:s.heap.objs.size<=a):a∉X.fs:=λhb=>by
 obtain⟨_,o,ho,_⟩:=I.ok.oQ.mem hb;exact absurd (fS (bJ ho) (ff I.sz h)) (kK _)
def Inv.Mz (I:Inv X ag σ H s):∀x c,X.env.cells.lookup x=some c->c≠X.env.locals:=λx c e z=>by
 obtain⟨v,o,ho,hd⟩:=I.cell x c e;obtain⟨m,⟨o',es,ep,Fy,CA,_⟩,_⟩:=I.loc;rw [z,Fy] at ho;cases ho;rw [CA] at hd;cases hd
theorem Inv.oQ (I:Inv X ag σ H s):s.heap.FunFrames X.base X.outer:=by
 have all:∀(l:List Env),(∀b∈CF l,b∈X.fs)->X.s₀.heap.FunFrames X.base l->s.heap.FunFrames X.base l:=by
  intro l
  induction l with
  | nil=>intro _ _;trivial
  | cons env r ih =>
   intro hs hl;obtain⟨hk,⟨L,o,hf,hn,ho,hd⟩,hr⟩:=hl;have hL:L∈X.fs:=hs L (by unfold CF;rw [List.filterMap_cons,hf];exact bK);obtain⟨sl,e⟩:=I.base.slot L o ho (I.ok.JL L hL) hL λz=>I.ok.CH L z hL;exact⟨hk,⟨L,_,hf,hn,e,hd⟩,ih (λb hb=>hs b (by unfold CF;rw [List.filterMap_cons,hf];exact bW _ hb)) hr⟩
 exact all X.outer (λ_ hb=>hb) I.ok.oQ
theorem Inv.stack (I:Inv X ag σ H s):s.heap.FunFrames X.base X.stack:=by
 rcases I.ok.Q2 with e | ⟨e,hf⟩
 .rw [e];exact I.oQ
 rw [e];obtain⟨m,hn,_⟩:=I.loc;refine .cons (by rw [I.ok.kind];decide) hf hn ?_ I.oQ;exact Heap.get?_none_of_le (ff I.ok.Ha I.ok.above)
def Inv.yQ (I:Inv X ag σ H s):∀b∈CF X.stack,b∈X.env.locals::X.fs:=λb hb=>by
 rcases I.ok.Q2 with e | ⟨e,hf⟩
 .rw [e] at hb;exact bW _ hb
 rw [e] at hb;unfold CF at hb;rw [List.filterMap_cons,hf] at hb;exact hb
def Inv.AR (I:Inv X ag σ H s):∀b∈CF X.stack,H b=none:=λb hb=>by
 rcases bR.mp (I.yQ b hb) with e | hb
 .rw [e];exact I.free
 obtain⟨_,o,ho,_⟩:=I.ok.oQ.mem hb;exact I.base.free b o ho (I.ok.JL b hb) λz=>I.ok.CH b z hb
def Inv.step {g':Array GenState}{t':Nat}{d':Drawn}{ch:List Addr}(I:Inv X ag σ H s)
  (G1:∀b∈ch,(b∈X.ex\/X.s₀.heap.objs.size<=b)/\b≠X.env.locals/\(∀x c,X.env.cells.lookup x=some c->c≠b)/\∀p∈X.pn++ag,p.1≠b)
  (keep:∀b o,b≠X.env.locals->b∉X.fs->b∉ch->s.heap.get? b=some o->H b=none->h'.get? b=some o)
  (slot:∀b o,b≠X.env.locals->b∈X.fs->b∉ch->s.heap.get? b=some o->H b=none->∃sl,h'.get? b=some { o with slots:=sl })(free:∀b o,b∉ch->s.heap.get? b=some o->H b=none->H' b=none)
  (there:∀b o,b∉ch->s.heap.get? b=some o->∃o',h'.get? b=some o')
  (oh:∀b xs,H b=some (.tup xs)->H' b=some (.tup xs))(lW:∀b o u,H b=some (.jN o u)->H' b=some (.jN o u))(mz:∀b ps,H b=some (.sL ps)->∃more,H' b=some (.sL (ps++more)))
  (ns:∀m,s.heap.Ns X.env.locals m->h'.Ns X.env.locals m)(b8:kT X.prog X.w H' h')(hg:AllBare g') :
  Inv X ag σ H' { s with heap:=h',gens:=g',drawn:=d',toks:=t' }:=by
 have Xb:∀b o,X.s₀.heap.get? b=some o->b≠X.env.locals:=λb o e=>bX (fS (bJ e) I.ok.above);have M5:∀b o,X.s₀.heap.get? b=some o->b∉X.ex->b∉ch:=λb o e hx hb=>by
  rcases (G1 b hb).1 with z | z
  .exact hx z
  exact absurd (fS (bJ e) z) (kK _)
 have cellK:∀x c,X.env.cells.lookup x=some c->∀v,s.heap.IsCell c v->h'.IsCell c v:=λx c e v ⟨o,ho,hd⟩=>by
  have OF:c∉ch:=λz=>(G1 c z).2.2.1 x c e rfl;by_cases hc:c∈X.fs
  .obtain⟨sl,q⟩:=slot c o (I.Mz x c e) hc OF ho (I.j_ x c e);exact⟨_,q,hd⟩
  exact⟨o,keep c o (I.Mz x c e) hc OF ho (I.j_ x c e),hd⟩
 refine⟨I.ok,I.os,hg,⟨λb o e n hb hx=>?_,λb o e n hb hx=>?_,λb o e n hx=>?_,λb o e hx=>?_,λb xs e=>oh b xs (I.base.oh b xs e),λb o xs e=>lW b o xs (I.base.lW b o xs e),λb ps e=>?_⟩,?_,λx c e=>?_,?_,λx c e=>?_,λp hp=>?_,b8,I.len⟩
 .exact keep b o (Xb b o e) hb (M5 b o e hx) (I.base.keep b o e n hb hx) (I.base.free b o e n hx)
 .obtain⟨sl,e1⟩:=I.base.slot b o e n hb hx;obtain⟨Sz,e2⟩:=slot b _ (Xb b o e) hb (M5 b o e hx) e1 (I.base.free b o e n hx);exact⟨Sz,e2⟩
 .obtain⟨o',e1⟩:=I.base.there b o e hx;exact free b o' (M5 b o e hx) e1 (I.base.free b o e n hx)
 .obtain⟨o',e1⟩:=I.base.there b o e hx;exact there b o' (M5 b o e hx) e1
 .obtain⟨m1,e1⟩:=I.base.mz b ps e;obtain⟨m2,e2⟩:=mz b _ e1;exact⟨m1++m2,by rw [e2,Array.append_assoc]⟩
 .obtain⟨m,hn,hl⟩:=I.loc;refine⟨m,ns m hn,λi x v e1 e2 e3=>?_⟩;obtain⟨u,r,l⟩:=hl i x v e1 e2 e3;refine⟨u,r,?_⟩;rcases l with l | ⟨k,c,e,z⟩
  .exact .inl l
  exact .inr ⟨k,c,e,cellK x c e _ z⟩
 .obtain⟨v,z⟩:=I.cell x c e;exact⟨v,cellK x c e v z⟩
 .obtain⟨m,⟨o,_,_,ho,_⟩,_⟩:=I.loc;exact free _ o (λz=>(G1 _ z).2.1 rfl) ho I.free
 .obtain⟨v,o,ho,hd⟩:=I.cell x c e;exact free c o (λz=>(G1 c z).2.2.1 x c e rfl) ho (I.j_ x c e)
 obtain⟨e,n,ne,nf,d⟩:=I.pin p hp;have OF:p.1∉ch:=λz=>(G1 p.1 z).2.2.2 p hp rfl;exact⟨keep p.1 p.2 ne nf OF e n,free p.1 p.2 OF e n,ne,nf,d⟩
def Inv.un {t':Nat}(I:Inv X ag σ H s)(u:Un X.fs [] H H' s.heap h')(b8:kT X.prog X.w H' h'):Inv X ag σ H' { s with heap:=h',toks:=t' }:=by
 obtain⟨m,⟨o,es,ep,ho,r⟩,_⟩:=id I.loc;obtain⟨sl,hL⟩:=u.any ho I.free (by simp);exact I.step (g':=s.gens) (d':=s.drawn) (ch:=[]) (λ_ z=>nomatch z) (λb o _ hb _ e n=>u.keep b o e n hb (by simp)) (λb o _ hb _ e n=>u.slot b o e n hb (by simp)) (λb o _ e n=>u.free b o e n (by simp)) (λb o _ e=>u.there b o e (by simp)) u.oh u.lW u.mz (λm' hm=>by
  obtain⟨o',wa,Ve,Fy,r'⟩:=hm;rw [ho] at Fy;cases Fy;exact⟨_,wa,Ve,hL,r'⟩) b8 I.bare
def Inv.call {g':Array GenState}{t':Nat}{d':Drawn}{ch:List Addr}(I:Inv X ag σ H s)(u:Un (CF X.stack) ch H H' s.heap h')(b8:kT X.prog X.w H' h')(hg:AllBare g')
  (G1:∀b∈ch,(b∈X.ex\/X.s₀.heap.objs.size<=b)/\b≠X.env.locals/\(∀x c,X.env.cells.lookup x=some c->c≠b)/\∀p∈X.pn++ag,p.1≠b) :
  Inv X ag σ H' { s with heap:=h',gens:=g',drawn:=d',toks:=t' }:=by
 obtain⟨m,⟨o,es,ep,ho,r⟩,_⟩:=id I.loc;obtain⟨sl,hL⟩:=u.any ho I.free λz=>(G1 _ z).2.1 rfl;exact I.step (ch:=ch) G1 (λb o hL hb hc e n=>u.keep b o e n (λz=>(bR.mp (I.yQ b z)).elim hL hb) hc) (λb o _ _ hc e n=>u.any e n hc) (λb o hc e n=>u.free b o e n hc) (λb o hc e=>u.there b o e hc) u.oh u.lW u.mz (λm' hm=>by
  obtain⟨o',wa,Ve,Fy,r'⟩:=hm;rw [ho] at Fy;cases Fy;exact⟨_,wa,Ve,hL,r'⟩) b8 hg
def Inv.turned {t':Nat}{it:Addr}(I:Inv X ag σ H s)(k:∀b o,b≠it->s.heap.get? b=some o->h'.get? b=some o)(hn:H it=none)(hL:it≠X.env.locals)
  (h1:it∈X.ex\/X.s₀.heap.objs.size<=it)(h2:∀x c,X.env.cells.lookup x=some c->c≠it)(h3:∀p∈X.pn++ag,p.1≠it):Inv X ag σ H { s with heap:=h',toks:=t' }:=by
 have W_:∀b u,H b=some u->b≠it:=λb u e z=>by rw [z,hn] at e;cases e
 refine I.step (g':=s.gens) (d':=s.drawn) (ch:=[it]) (λb hb=>?_) (λb o _ _ hc e _=>k b o (λz=>hc (by simp [z])) e) (λb o _ _ hc e _=>⟨o.slots,k b o (λz=>hc (by simp [z])) e⟩) (λ_ _ _ _ n=>n)
  (λb o hc e=>⟨o,k b o (λz=>hc (by simp [z])) e⟩) (λ_ _ e=>e) (λ_ _ _ e=>e) (λb ps e=>⟨#[],by rw [e];simp⟩) (λm hm=>?_) (λb u e=>?_) I.bare
 .have e:b=it:=by simpa using hb
  subst e;exact⟨h1,hL,h2,h3⟩
 .obtain⟨o,es,ep,ho,r⟩:=hm;exact⟨o,es,ep,k _ o (gq hL) ho,r⟩
 refine(I.b8 b u e).jY (λc v hc q=>k c v ?_ q) (λ_ q=>q) λ_ _ q=>q;rcases hc with z | z
 .rw [z];exact W_ b u e
 exact W_ c _ z
def Inv.tok (I:Inv X ag σ H s) (t:Nat):Inv X ag σ H { s with toks:=t }:=I.un (h':=s.heap) (t':=t) Un.refl I.b8
theorem Inv.kept {t':Nat}(I:Inv X ag σ H s)(k:∀b u,s.heap.get? b=some u->h'.get? b=some u):Inv X ag σ H { s with heap:=h',toks:=t' }:=I.un (Un.kept k) (I.b8.kept k)
theorem Inv.laid {a:Addr}{o:HO}{t':Nat}(I:Inv X ag σ H s)(k:∀b u,s.heap.get? b=some u->h'.get? b=some u)(hp:s.heap.objs.size<=a)(new:cJ X.prog X.w (upd H a o) h' a o) :
  Inv X ag σ (upd H a o) { s with heap:=h',toks:=t' }:=I.un (Un.laid k hp (I.b8.fresh hp)) (I.b8.laid k hp new)
theorem Inv.write {x e:Addr}{o:HO}{t':Nat}(I:Inv X ag σ H s)(mu:QG (H x))(he:e=x\/H e=some (.own x))(k:∀b u,b≠e->s.heap.get? b=some u->h'.get? b=some u)(Nh:∃u,h'.get? e=some u)
  (new:cJ X.prog X.w (upd H x o) h' x o):Inv X ag σ (upd H x o) { s with heap:=h',toks:=t' }:=I.un (Un.write mu he k Nh) (I.b8.write mu he k Nh new)
def Inv.A9 {jG:List (Addr×Obj)}(I:Inv X ag σ H s)(h:∀p∈jG,s.heap.get? p.1=some p.2/\H p.1=none/\p.1≠X.env.locals/\p.1∉X.fs/\∀v,p.2.data≠.cell v):Inv X jG σ H s :=
 ⟨I.ok,I.os,I.bare,I.base,I.loc,I.cell,I.free,I.j_,λp hp=>(cD.mp hp).elim (λz=>I.pin p (dP _ z)) (h p),I.b8,I.len⟩
def xB {N:List Str}(hN:N.Nodup){i j:Nat}{x:Str}(a:N[i]?=some x)(b:N[j]?=some x):i=j:=by
 obtain⟨h1,e1⟩:=bj.mp a;obtain⟨h2,e2⟩:=bj.mp b;exact(uM hN).mp (e1.trans e2.symm)
def tO {M:Model}{A:Around}{E:Value->Shared->Prop}{i:Nat}{x:Str}{v:V}{u:Value}{Q:Unit->Shared->Prop}(I:Inv X ag σ H s)(hN:X.N.Nodup)(hi:X.N[i]?=some x)(hx:Loc X.env.scope x)(r:RelV v u)
  (h:∀s',Inv X ag (σ.set i (some v)) H s'->(∃a,Heap.SameBut a s.heap s'.heap/\(a=X.env.locals\/X.env.cells.lookup x=some a))->Q () s')(hf:X.fn x=true\/X.env.scope.names.lookup x=some .local:=by first | exact .inl rfl | exact .inr rfl | assumption):wpAny M A (storeName X.env x u) Q E s:=by
 obtain⟨m,hn,hl⟩:=id I.loc;have UN:(X.env.scope.kind == .class || (X.env.scope.kind == .module && X.env.locals != X.env.globals))=false:=by rw [I.ok.kind];rfl
 have X1:i < σ.length:=by rw [I.len];exact(bj.mp hi).1
 have Mz:=I.Mz;have tracked:∀{a:Addr}{h':Heap},(∃o,s.heap.get? a=some o/\H a=none)->Heap.SameBut a s.heap h'->kT X.prog X.w H h':=λ{a h'} ha hs b ob e=>by
  obtain⟨_,_,mX⟩:=ha;refine(I.b8 b ob e).jY (λc w' hc q=>(hs.2 c ?_).trans q) (λ_ q=>q) λ_ _ q=>q;rintro rfl;rcases hc with rfl | hc
  .rw [mX] at e;cases e
  rw [mX] at hc;cases hc
 rcases hx with hk | hk
 .refine wpAny_storeName_local hk hn (λh' Bk hs=>?_) UN;obtain⟨oL,_,_,Rn,_⟩:=id hn;refine h _ ⟨I.ok,I.os,I.bare,⟨λb o e n hb hx=>?_,λb o e n hb hx=>?_,I.base.free,λb o e hx=>?_,I.base.oh,I.base.lW,I.base.mz⟩,⟨_,Bk,λj y v' e1 e2 e3=>?_⟩,λy c e=>?_,I.free,I.j_,λp hp=>?_,tracked ⟨oL,Rn,I.free⟩ hs,by simpa using I.len⟩ ⟨_,hs,.inl rfl⟩
  .exact(hs.2 b (bX (fS (bJ e) I.ok.above))).trans (I.base.keep b o e n hb hx)
  .obtain⟨sl,e1⟩:=I.base.slot b o e n hb hx;exact⟨sl,(hs.2 b (bX (fS (bJ e) I.ok.above))).trans e1⟩
  .obtain⟨o',e1⟩:=I.base.there b o e hx;exact⟨o',(hs.2 b (bX (fS (bJ e) I.ok.above))).trans e1⟩
  .by_cases hj:j=i
   .subst hj;rw [hi] at e1;cases e1;rw [List.getElem?_set_self X1] at e2;cases e2;exact⟨u,r,.inl ⟨hk,by simp⟩⟩
   rw [List.getElem?_set_ne (gq hj)] at e2;obtain⟨u',r',q⟩:=hl j y v' e1 e2 e3;refine⟨u',r',?_⟩;rcases q with ⟨k,e⟩ | ⟨k,c,e,z⟩
   .refine .inl ⟨k,?_⟩;have:y≠x:=λe=>hj (xB hN e1 (e ▸ hi));simp [this,e]
   exact .inr ⟨k,c,e,z.sameBut hs (Mz y c e)⟩
  .obtain⟨w',z⟩:=I.cell y c e;exact⟨w',z.sameBut hs (Mz y c e)⟩
  obtain⟨e,n,ne,nf,d⟩:=I.pin p hp;exact⟨(hs.2 p.1 ne).trans e,n,ne,nf,d⟩
 have UE:X.fn x=true:=by
  rcases hf with z | z
  .exact z
  rw [z] at hk;cases hk
 obtain⟨c,hc⟩:=I.ok.has x (.inl hk);obtain⟨w',z⟩:=I.cell x c hc;refine wpAny_storeName_cell I.ok.kind hk hc z (λh' lV hs=>?_);obtain⟨oc,yw,Us⟩:=id z;refine h { s with heap:=h' } ⟨I.ok,I.os,I.bare,⟨λb o e n hb hx=>?_,λb o e n hb hx=>?_,I.base.free,λb o e hx=>?_,I.base.oh,I.base.lW,I.base.mz⟩,⟨m,hn.sameBut hs (gq (Mz x c hc)),λj y v' e1 e2 e3=>?_⟩,λy c' e=>?_,I.free,I.j_,λp hp=>?_,tracked ⟨oc,yw,I.j_ x c hc⟩ hs,by simpa using I.len⟩ ⟨c,hs,.inr hc⟩
 .exact(hs.2 b (bX (fS (bJ e) (I.ok.Qk x c UE hc)))).trans (I.base.keep b o e n hb hx)
 .obtain⟨sl,e1⟩:=I.base.slot b o e n hb hx;exact⟨sl,(hs.2 b (bX (fS (bJ e) (I.ok.Qk x c UE hc)))).trans e1⟩
 .obtain⟨o',e1⟩:=I.base.there b o e hx;exact⟨o',(hs.2 b (bX (fS (bJ e) (I.ok.Qk x c UE hc)))).trans e1⟩
 .by_cases hj:j=i
  .subst hj;rw [hi] at e1;cases e1;rw [List.getElem?_set_self X1] at e2;cases e2;exact⟨u,r,.inr ⟨.inl hk,c,hc,lV⟩⟩
  rw [List.getElem?_set_ne (gq hj)] at e2;obtain⟨u',r',q⟩:=hl j y v' e1 e2 e3;refine⟨u',r',?_⟩;rcases q with q | ⟨k,c',e,z'⟩
  .exact .inl q
  refine .inr ⟨k,c',e,z'.sameBut hs ?_⟩;rintro rfl;exact hj (xB hN e1 (I.ok.inj _ _ _ e hc ▸ hi))
 .by_cases PB:c'=c
  .subst PB;exact⟨_,lV⟩
  obtain⟨w2,z2⟩:=I.cell y c' e;exact⟨w2,z2.sameBut hs PB⟩
 obtain⟨e,n,ne,nf,d⟩:=I.pin p hp;refine⟨(hs.2 p.1 ?_).trans e,n,ne,nf,d⟩;intro q;rw [q,yw] at e;have q':oc=p.2:=fQ e;exact d w' (by rw [<-q'];exact Us)
def qK {M:Model}{A:Around}{E:Value->Shared->Prop}{i:Nat}{x:Str}{v:V}{u:Value}{Q:Unit->Shared->Prop}(I:Inv X ag σ H s)(hN:X.N.Nodup)(hi:X.N[i]?=some x)(hx:Loc X.env.scope x)(r:RelV v u)
  (h:∀s',Inv X ag (σ.set i (some v)) H s'->Q () s')(hf:X.fn x=true\/X.env.scope.names.lookup x=some .local:=by first | exact .inl rfl | exact .inr rfl | assumption):wpAny M A (storeName X.env x u) Q E s :=
 tO I hN hi hx r (λs' I' _=>h s' I') hf
def Inv.JU {s':Shared}{ch:List Addr}(I:Inv X ag σ H s)(ho:s'.os=s.os)(u:Un (CF X.stack) ch H H' s.heap s'.heap)(b8:kT X.prog X.w H' s'.heap)(hg:AllBare s'.gens)
  (G1:∀b∈ch,(b∈X.ex\/X.s₀.heap.objs.size<=b)/\b≠X.env.locals/\(∀x c,X.env.cells.lookup x=some c->c≠b)/\∀p∈X.pn++ag,p.1≠b):Inv X ag σ H' s':=by
 obtain⟨h',g',d',t',o'⟩:=s';have e:o'=s.os:=ho;subst e;exact I.call (g':=g') (t':=t') (d':=d') u b8 hg G1
end
abbrev XK:=Value->Option Addr->Hp->Prop
abbrev St:=List (Option V)
abbrev aF (a:Addr):Option V:=some (.ref a)
abbrev VK:=V->Hp->Prop
abbrev TE:=St->Hp->VK->Prop
abbrev TT:=St->Hp->(Bool->Hp->Prop)->Prop
abbrev TA:=St->Hp->(List V->Hp->Prop)->Prop
structure Ends where
 nx:St->Hp->Prop
 rt:VK
 bk:St->Hp->Prop:=λ_ _=>False
 ct:St->Hp->Prop:=λ_ _=>False
abbrev TS:=Ends->St->Hp->Prop
def EP (X:Cx)(ag:List (Addr×Obj))(σ:St)(Q:VK)(u:Value)(s':Shared):Prop:=∃v H',Inv X ag σ H' s'/\RelV v u/\Q v H'
def TP (X:Cx)(ag:List (Addr×Obj))(σ:St)(Q:Bool->Hp->Prop)(b:Bool)(s':Shared):Prop:=∃H',Inv X ag σ H' s'/\Q b H'
def AP (X:Cx)(ag:List (Addr×Obj))(σ:St)(Q:List V->Hp->Prop)(us:List Value)(s':Shared):Prop:=∃vs H',Inv X ag σ H' s'/\a_ vs us/\Q vs H'
def SP (X:Cx)(ag:List (Addr×Obj))(D:Ends)(f:Flow)(s':Shared):Prop :=
 match f with
 | .next=>∃σ' H',Inv X ag σ' H' s'/\D.nx σ' H'
 | .brk=>∃σ' H',Inv X ag σ' H' s'/\D.bk σ' H'
 | .cont=>∃σ' H',Inv X ag σ' H' s'/\D.ct σ' H'
 | .ret u=>∃v σ' H',Inv X ag σ' H' s'/\RelV v u/\D.rt v H'
def PE (X:Cx)(e:Expr)(t:TE):Prop :=
 ∀(ag:List (Addr×Obj))(s:Shared)(σ:St)(H:Hp)(Q:VK),Inv X ag σ H s->t σ H Q->wpAny (model X.prog X.w) X.A (eval e X.env) (EP X ag σ Q) X.xe s
def PT (X:Cx)(e:Expr)(t:TT):Prop :=
 ∀(ag:List (Addr×Obj))(s:Shared)(σ:St)(H:Hp)(Q:Bool->Hp->Prop),Inv X ag σ H s->t σ H Q->wpAny (model X.prog X.w) X.A (isTrue e X.env (eval e X.env)) (TP X ag σ Q) X.xe s
def PW (X:Cx)(e:Expr)(t:TT):Prop :=
 ∀(whole:Sem Value)(ag:List (Addr×Obj))(s:Shared)(σ:St)(H:Hp)(Q:Bool->Hp->Prop),Inv X ag σ H s->t σ H Q->wpAny (model X.prog X.w) X.A (isTrue e X.env whole) (TP X ag σ Q) X.xe s
def PW.pt {X:Cx}{e:Expr}{t:TT}(h:PW X e t):PT X e t:=h _
def PA (X:Cx)(es:List Expr)(t:TA):Prop :=
 ∀(pos:Pos)(ag:List (Addr×Obj))(s:Shared)(σ:St)(H:Hp)(Q:List V->Hp->Prop),Inv X ag σ H s->t σ H Q->wpAny (model X.prog X.w) X.A (spliced (backTo pos (starEach es X.env))) (AP X ag σ Q) X.xe s
def PS (X:Cx)(st:Stmt)(t:TS):Prop :=
 ∀(ag:List (Addr×Obj))(s:Shared)(σ:St)(H:Hp)(D:Ends),Inv X ag σ H s->t D σ H->wpAny (model X.prog X.w) X.A (exec st X.env) (SP X ag D) X.xe s
def Aq (X:Cx)(st:List Stmt)(t:TS):Prop :=
 ∀(ag:List (Addr×Obj))(s:Shared)(σ:St)(H:Hp)(D:Ends),Inv X ag σ H s->t D σ H->wpAny (model X.prog X.w) X.A (execs st X.env) (SP X ag D) X.xe s
def cW {α:Type}{t:Sem α}{Q Q':α->Shared->Prop}{M:Model}{A:Around}{E:Value->Shared->Prop}{s:Shared}(h:wpAny M A t Q E s)(hQ:∀a s,Q a s->Q' a s):wpAny M A t Q' E s:=dw h hQ λ_ _ x=>x
section
variable {X:Cx}
def bin {a b:Expr}{ta tb:TE}(ha:PE X a ta)(hb:PE X b tb){ag:List (Addr×Obj)}{s:Shared}{σ:St}{H:Hp}{R:V->V->Hp->Prop}(I:Inv X ag σ H s)(h:ta σ H λx H1=>tb σ H1 λy H2=>R x y H2)
  {α:Type}{Q:α->Shared->Prop}{f:Value->Value->Sem α}
  (hf:∀v u s2 x y H2,Inv X ag σ H2 s2->RelV x v->RelV y u->R x y H2->wpAny (model X.prog X.w) X.A (f v u) Q X.xe s2) :
  wpAny (model X.prog X.w) X.A (eval a X.env) (λv s₁=>wpAny (model X.prog X.w) X.A (eval b X.env) (λu s₂=>wpAny (model X.prog X.w) X.A (f v u) Q X.xe s₂) X.xe s₁) X.xe s:=by
 refine cW (ha ag s σ H _ I h) λv s1 bF=>?_;obtain⟨x,H1,I1,r1,q1⟩:=bF;refine cW (hb ag s1 σ H1 _ I1 q1) λu s2 bF=>?_;obtain⟨y,H2,I2,r2,q2⟩:=bF;exact hf v u s2 x y H2 I2 r1 r2 q2
inductive Qw (o:Option (Option V))(R:V->Prop):Prop
|mk(v:V)(e:o=some (some v))(q:R v)
inductive XB (x:V)(R:Bool->Prop):Prop
|mk(c:Bool)(e:x=.bl c)(q:R c)
inductive V7 (x:V)(R:Int->Prop):Prop
|mk(i:Int)(e:x=.int i)(q:R i)
inductive Zm (x y:V)(R:Int->Int->Prop):Prop
|mk(i j:Int)(e:x=.int i)(e2:y=.int j)(q:R i j)
inductive Zl (x y:V)(C:Int->Int->Prop)(R:Int->Int->Prop):Prop
|mk(i j:Int)(e:x=.int i)(e2:y=.int j)(c:C i j)(q:R i j)
inductive JZ (vs:List V)(R:V->List V->Prop):Prop
|mk(v:V)(r:List V)(e:vs=v::r)(q:R v r)
inductive Qx (v:V)(S:Addr->List V->Prop) (n:Nat)(R:List V->Prop):Prop
|mk(a:Addr)(xs:List V)(e:v=.ref a)(s:S a xs)(l:xs.length=n)(q:R xs)
inductive RP (x:V)(S:Addr->Prop)(R:Addr->Prop):Prop
|mk(a:Addr)(e:x=.ref a)(s:S a)(q:R a)
inductive V5 (x:V)(S:Addr->List V->Prop)(R:List V->Prop):Prop
|mk(a:Addr)(xs:List V)(e:x=.ref a)(s:S a xs)(q:R xs)
inductive V_ (S:Addr->List V->Prop)(x y:V)(R:List V->List V->Prop):Prop
|mk(a b:Addr)(xs ys:List V)(e:x=.ref a)(e2:y=.ref b)(s:S a xs)(s2:S b ys)(z:xs.length+ys.length<=sizeLine)(q:R xs ys)
inductive Zi (vs:List V)(R:Int->Prop):Prop
|mk(j:Int)(e:vs=[.int j])(l:-(2 ^ 62)<=j)(u:j < 2 ^ 62)(q:R j)
inductive V8 (vs:List V)(S:Addr->List V->Prop)(R:Addr->Prop):Prop
|mk(a:Addr)(xs:List V)(e:vs=[.ref a])(s:S a xs)(q:R a)
inductive MM (xs:List V)(S:Addr->List V->Prop)(R:List V->Prop):Prop
|mk(p:Addr)(ys:List V)(e:xs=[.ref p])(s:S p ys)(q:R ys)
def gE (i:Nat):TE:=λσ H Q=>Qw σ[i]? λv=>Q v H
def tC (v:V):TE:=λ_ H Q=>Q v H
def K0 {i:Nat}{x:Str}{pos:Pos}(hN:X.N[i]?=some x)(hv:RQ X.env.scope x)(hd:(x == ("__debug__":Str))=false:=by decide)(v8:(x == ("__classdict__":Str))=false:=by decide):PE X (.Name x pos) (gE i):=by
 intro ag s σ H Q I h;obtain⟨v,e,h⟩:=h;obtain⟨m,hn,hl⟩:=I.loc;obtain⟨u,r,l⟩:=hl i x v hN e hv;have fin:EP X ag σ Q u s:=⟨v,H,I,r,h⟩;rcases l with ⟨hk,hm⟩ | ⟨hk,c,hc,jf⟩
 .exact wpAny_Name (uU I.ok.kind hk hn hm fin) hd
 rcases hk with hk | hk
 .exact wpAny_Name (wpAny_loadName_cell I.ok.kind hk hc jf fin) hd
 exact wpAny_Name (wpAny_loadName_free I.ok.kind hk hc jf fin v8) hd
def av {i j pos}:PE X (.Constant (.int i) j pos) (tC (.int i)):=λ_ _ _ H _ I h=>wpAny_Constant_int ⟨.int i,H,I.tok _,⟨_,rfl⟩,h⟩
def eX {b j pos}:PE X (.Constant (.bool b) j pos) (tC (.bl b)):=λ_ _ _ H _ I h=>Constant_bool ⟨.bl b,H,I,rfl,h⟩
def bI {x j pos}:PE X (.Constant (.str x) j pos) (tC (.str x)):=λ_ _ _ H _ I h=>Calls.Constant_str ⟨.str x,H,I.tok _,⟨_,rfl⟩,h⟩
def Gl (X:Cx)(x:Str):Prop:=X.env.kindOf x=some .globalImplicit
def vX {E:Value->Shared->Prop}{ag:List (Addr×Obj)}{s:Shared}{σ:St}{H:Hp}{x:Str}{u:Value}{pos:Pos}{Q:Value->Shared->Prop}(I:Inv X ag σ H s)(hg:Gl X x)(hm:X.mg x=some u)(h:Q u s)
  (hd:(x == ("__debug__":Str))=false:=by decide):wpAny (model X.prog X.w) X.A (eval (.Name x pos) X.env) Q E s :=
 Calls.Name_function_global I.ok.kind hg (Calls.loadGlobal_global (by rw [I.ok.glob];exact I.mod.glob.keeps I.bk) hm h) hd
def jy {E:Value->Shared->Prop}{ag:List (Addr×Obj)}{s:Shared}{σ:St}{H:Hp}{x:Str}{u:Value}{pos:Pos}{Q:Value->Shared->Prop}(I:Inv X ag σ H s)(hg:Gl X x)(hm:X.mg x=none)(hv:bootBuiltins x=some u)(h:Q u s)
  (hn:x ≠ "__name__" := by decide)(hd:(x == ("__debug__":Str))=false:=by decide):wpAny (model X.prog X.w) X.A (eval (.Name x pos) X.env) Q E s:=by
 obtain⟨mb,h1,h2⟩:=I.mod.blt;exact Calls.Name_function_global I.ok.kind hg (Calls.loadGlobal_builtin (by rw [I.ok.glob];exact I.mod.glob.keeps I.bk) hm (by rw [I.ok.blt];exact h1.keeps I.bk) ((h2 x hn).trans hv) h) hd
def HG {x:Str}{v:V}{u:Value}{pos:Pos}(hg:Gl X x)(hm:X.mg x=some u)(r:RelV v u)(hd:(x == ("__debug__":Str))=false:=by decide):PE X (.Name x pos) (tC v) :=
 λ_ _ _ H _ I h=>vX I hg hm ⟨v,H,I,r,h⟩ hd
def pW {x:Str}{v:V}{u:Value}{pos:Pos}(hg:Gl X x)(hm:X.mg x=none)(hv:bootBuiltins x=some u)(r:RelV v u)(hn:x ≠ "__name__" := by decide)(hd:(x == ("__debug__":Str))=false:=by decide):PE X (.Name x pos) (tC v) :=
 λ_ _ _ H _ I h=>jy I hg hm hv ⟨v,H,I,r,h⟩ hn hd
variable {a b:Expr}{ta tb:TE}{pos:Pos}
def PC (X:Cx)(op:CmpOp)(a b:Expr)(t:TE):Prop :=
 ∀(ag:List (Addr×Obj))(s:Shared)(σ:St)(H:Hp)(Q:VK),Inv X ag σ H s->t σ H Q ->
  wpAny (model X.prog X.w) X.A (eval a X.env) (λv s₁=>wpAny (model X.prog X.w) X.A (eval b X.env) (λu s₂=>wpAny (model X.prog X.w) X.A (compareOp op v u) (EP X ag σ Q) X.xe s₂) X.xe s₁) X.xe s
def xC (b:Expr){op:CmpOp}(h:op≠.In)(h2:op≠.NotIn):behindInMarks op b=false:=by
 have e1:(op == CmpOp.In)=false:=by cases op <;> first | rfl | exact absurd rfl h
 have e2:(op == CmpOp.NotIn)=false:=by cases op <;> first | rfl | exact absurd rfl h2
 cases b <;> simp [behindInMarks,e1,e2]
def So (ta:TE):TE:=λσ H Q=>ta σ H λx H1=>Q (.bl (decide (x=.fc))) H1
def RelV.Fc {x:V}{v:Value}(r:RelV x v):(v == Value.none)=decide (x=.fc):=by
 cases x with
 | fc=>cases r;rfl
 | bl _=>cases r;rfl
 | int _=>obtain⟨t,rfl⟩:=r;rfl
 | str _=>obtain⟨t,rfl⟩:=r;rfl
 | Ak _=>obtain⟨t,rfl⟩:=r;rfl
 | Mf _=>obtain⟨t,rfl⟩:=r;rfl
 | ref _=>cases r;rfl
 | ty _=>cases r;rfl
def K2 {j pos'}(ha:PE X a ta):PC X .Is a (.Constant .none j pos') (So ta):=by
 intro ag s σ H Q I h;refine cW (ha ag s σ H _ I h) λv s1 bF=>?_;obtain⟨x,H1,I1,r1,q1⟩:=bF;exact Constant_none (is_none_gen ⟨.bl _,H1,I1,by rw [r1.Fc];rfl,q1⟩)
def tB (t:TE):TT:=λσ H Q=>t σ H λx H1=>XB x λc=>Q c H1
def zy {op:CmpOp}{t:TE}(h:PC X op a b t)(h1:behindInMarks op b=false:=by first | exact xC _ nofun nofun | rfl):PE X (.Compare a [op] [b] pos) t:=λag s σ H Q I hw=>wpAny_Compare1 (h ag s σ H Q I hw) h1
def gr {op:CmpOp}{t:TE}(h:PC X op a b t)(h1:behindInMarks op b=false:=by first | exact xC _ nofun nofun | rfl):PT X (.Compare a [op] [b] pos) (tB t):=by
 intro ag s σ H Q I hw;refine wpAny_isTrue_Compare1 (cW (h ag s σ H _ I hw) λv s1 h1=>cW h1 λu s2 h2=>cW h2 λc s3 bF=>?_) h1;obtain⟨x,H1,I1,r1,q1⟩:=bF;obtain⟨d,rfl,q⟩:=q1;cases r1;exact ml ⟨H1,I1,q⟩
def eK {e:Expr}{t:TE}(h:PE X e t)(he:∀whole,isTrue e X.env whole=(do let v <-whole;standAt e.pos;holding [v] (truthy v)):=by intro _;rfl):PT X e (tB t):=by
 intro ag s σ H Q I hw;refine isTrue_plain (cW (h ag s σ H _ I hw) λv s1 bF=>?_) (he _);obtain⟨x,H1,I1,r1,q1⟩:=bF;obtain⟨d,rfl,q⟩:=q1;cases r1;exact ml ⟨H1,I1,q⟩
variable {tA QY:TT}{rest:List Expr}
def Sv (t u:TT):TT:=λσ H Q=>t σ H λc H1=>if c=true then u σ H1 Q else Q false H1
def ZJ (t u:TT):TT:=λσ H Q=>t σ H λc H1=>if c=true then Q true H1 else u σ H1 Q
def Sm (t:TT):TT:=λσ H Q=>t σ H λc H1=>Q (!c) H1
def ig (ha:PT X a tA):PW X (.BoolOp .And [a] pos) tA:=by
 intro wh ag s σ H Q I h;refine isTrue_and (cW (ha ag s σ H Q I h) λc s1 e=>?_);cases c with
 | true=>exact isTrue_and_nil e
 | false=>exact e
def qU (ha:PT X a tA):PW X (.BoolOp .Or [a] pos) tA:=by
 intro wh ag s σ H Q I h;refine isTrue_or (cW (ha ag s σ H Q I h) λc s1 e=>?_);cases c with
 | false=>exact isTrue_or_nil e
 | true=>exact e
def jw (ha:PT X a tA)(hb:PW X (.BoolOp .And (b::rest) pos) QY):PW X (.BoolOp .And (a::b::rest) pos) (Sv tA QY):=by
 intro wh ag s σ H Q I h;refine isTrue_and (cW (ha ag s σ H _ I h) λc s1 bF=>?_);obtain⟨H1,I1,q1⟩:=bF;cases c with
 | true=>exact hb wh ag s1 σ H1 Q I1 q1
 | false=>exact⟨H1,I1,q1⟩
def qV (ha:PT X a tA)(hb:PW X (.BoolOp .Or (b::rest) pos) QY):PW X (.BoolOp .Or (a::b::rest) pos) (ZJ tA QY):=by
 intro wh ag s σ H Q I h;refine isTrue_or (cW (ha ag s σ H _ I h) λc s1 bF=>?_);obtain⟨H1,I1,q1⟩:=bF;cases c with
 | true=>exact⟨H1,I1,q1⟩
 | false=>exact hb wh ag s1 σ H1 Q I1 q1
def lB (ha:PT X a tA):PT X (.UnaryOp .Not a pos) (Sm tA):=by
 intro ag s σ H Q I h;exact isTrue_not (ha ag s σ H (λc H1=>Q (!c) H1) I h)
def N7 (ta tb:TE):TE:=λσ H Q=>ta σ H λx H1=>XB x λc=>if c=true then tb σ H1 Q else Q (.bl false) H1
def Sl (ta tb:TE):TE:=λσ H Q=>ta σ H λx H1=>XB x λc=>if c=true then Q (.bl true) H1 else tb σ H1 Q
def NU (ta:TE):TE:=λσ H Q=>ta σ H λx H1=>XB x λc=>Q (.bl (!c)) H1
def lC {op}{t:TE}(h:PE X a t):PE X (.BoolOp op [a] pos) t:=λag s σ H Q I hw=>BoolOp_one (h ag s σ H Q I hw)
def lD (ha:PE X a ta)(hb:PE X (.BoolOp .And (b::rest) pos) tb):PE X (.BoolOp .And (a::b::rest) pos) (N7 ta tb):=by
 intro ag s σ H Q I h;refine BoolOp_and (cW (ha ag s σ H _ I h) λv s1 bF=>?_);obtain⟨x,H1,I1,r1,q1⟩:=bF;obtain⟨c,rfl,q1⟩:=q1;cases r1;refine ml ?_;cases c with
 | true=>exact hb ag s1 σ H1 Q I1 q1
 | false=>exact⟨.bl false,H1,I1,rfl,q1⟩
def Jo (ha:PE X a ta)(hb:PE X (.BoolOp .Or (b::rest) pos) tb):PE X (.BoolOp .Or (a::b::rest) pos) (Sl ta tb):=by
 intro ag s σ H Q I h;refine BoolOp_or (cW (ha ag s σ H _ I h) λv s1 bF=>?_);obtain⟨x,H1,I1,r1,q1⟩:=bF;obtain⟨c,rfl,q1⟩:=q1;cases r1;refine ml ?_;cases c with
 | false=>exact hb ag s1 σ H1 Q I1 q1
 | true=>exact⟨.bl true,H1,I1,rfl,q1⟩
def K1 (ha:PE X a ta):PE X (.UnaryOp .Not a pos) (NU ta):=by
 intro ag s σ H Q I h;refine UnaryOp_ (cW (ha ag s σ H _ I h) λv s1 bF=>?_);obtain⟨x,H1,I1,r1,q1⟩:=bF;obtain⟨c,rfl,q1⟩:=q1;cases r1;exact not_of (ml ⟨.bl (!c),H1,I1,rfl,q1⟩)
def ZK (t:TT)(ta tb:TE):TE:=λσ H Q=>t σ H λc H1=>if c=true then ta σ H1 Q else tb σ H1 Q
def xr {c:Expr}(hc:PT X c tA)(ha:PE X a ta)(hb:PE X b tb):PE X (.IfExp c a b pos) (ZK tA ta tb):=by
 intro ag s σ H Q I h;refine wpAny_IfExp (cW (hc ag s σ H _ I h) λd s1 bF=>?_);obtain⟨H1,I1,q1⟩:=bF;cases d with
 | true=>exact ha ag s1 σ H1 Q I1 q1
 | false=>exact hb ag s1 σ H1 Q I1 q1
end
def aK (K:ba)(H:Hp)(a:Addr)(xs:List V):Prop :=
 Rd H a (.lst xs) \/
  ∃(o:Obj)(aT:Array Value) (n:Nat),K.lookup a=some o/\o.cls=.type "list" /\ o.dict=none/\o.data=.seq aT n/\aT.size<=sizeLine/\a_ xs aT.toList
def aS (K:ba)(H:Hp)(a:Addr)(xs:List V):Prop :=
 Rd H a (.tup xs) \/
  ∃(o:Obj)(aT:Array Value) (n:Nat),K.lookup a=some o/\o.cls=.type "tuple" /\ o.data=.seq aT n/\aT.size<=sizeLine/\a_ xs aT.toList
def V3:Value->Option V
 | .none=>some .fc
 | .bool b=>some (.bl b)
 | .int i _=>some (.int i)
 | .str x _=>some (.str x)
 | .bytes b _=>some (.Ak b)
 | .float b _=>some (.Mf b)
 | .ref a=>some (.ref a)
 | .type n=>some (.ty n)
 | _=>none
def RelV.abs {x:V}{u:Value}(r:RelV x u):V3 u=some x:=by
 cases x with
 | fc=>cases r;rfl
 | bl _=>cases r;rfl
 | int _=>obtain⟨t,rfl⟩:=r;rfl
 | str _=>obtain⟨t,rfl⟩:=r;rfl
 | Ak _=>obtain⟨t,rfl⟩:=r;rfl
 | Mf _=>obtain⟨t,rfl⟩:=r;rfl
 | ref _=>cases r;rfl
 | ty _=>cases r;rfl
def RelV.inj {x y:V}{u:Value}(r:RelV x u)(q:RelV y u):x=y:=fQ (r.abs.symm.trans q.abs)
theorem a_.inj:∀{xs ys:List V}{us:List Value},a_ xs us->a_ ys us->xs=ys
 | _,_,_,.nil,.nil=>rfl
 | _,_,_,.cons r t,.cons r' t'=>by rw [r.inj r',a_.inj t t']
section
variable {X:Cx}{ag:List (Addr×Obj)}{σ:St}{H:Hp}{s:Shared}{a:Addr}{xs ys:List V}
def aK.of {K:ba}(h:H a=some (.lst xs)):aK K H a xs:=.inl (.inl h)
def aS.of {K:ba}(h:H a=some (.tup xs)):aS K H a xs:=.inl (.inl h)
def Inv.list (I:Inv X ag σ H s)(h:aK X.K H a xs):∃aT:List Value,a_ xs aT/\PlainL s.heap a aT.toArray/\xs.length<=sizeLine:=by
 rcases h with h | ⟨o,aT,n,hk,hc,hd,hs,hz,r⟩
 .obtain⟨z,aT,n,r,e⟩:=h.ok I.b8;exact⟨aT,r,⟨_,n,e,rfl,rfl,rfl⟩,z⟩
 refine⟨aT.toList,r,⟨o,n,I.uf a o hk,hc,hd,by simpa using hs⟩,?_⟩;have e:=r.length;simp only [oY] at e;omega
def Inv.tuple (I:Inv X ag σ H s)(h:aS X.K H a xs):∃aT:List Value,a_ xs aT/\IsTup s.heap a aT.toArray/\xs.length<=sizeLine:=by
 rcases h with h | ⟨o,aT,n,hk,hc,hs,hz,r⟩
 .obtain⟨z,aT,r,p⟩:=h.ok I.b8;exact⟨aT,r,p,z⟩
 refine⟨aT.toList,r,⟨o,I.uf a o hk,hc,n,by simpa using hs⟩,?_⟩;have e:=r.length;simp only [oY] at e;omega
def Inv.q_ (I:Inv X ag σ H s)(h:aK X.K H a xs)(h':aK X.K H a ys):xs=ys:=by
 obtain⟨aT,r,⟨o,n,e,_,_,d⟩,_⟩:=I.list h;obtain⟨vY,r',⟨o',n',e',_,_,d'⟩,_⟩:=I.list h';rw [e] at e';cases e';rw [d] at d';injection d' with d1 _;have:aT=vY:=by simpa using congrArg Array.toList d1
 subst this;exact r.inj r'
def Inv.iu (I:Inv X ag σ H s)(h:aS X.K H a xs)(h':aS X.K H a ys):xs=ys:=by
 obtain⟨aT,r,⟨o,e,_,n,d⟩,_⟩:=I.tuple h;obtain⟨vY,r',⟨o',e',_,n',d'⟩,_⟩:=I.tuple h';rw [e] at e';cases e';rw [d] at d';injection d' with d1 _;have:aT=vY:=by simpa using congrArg Array.toList d1
 subst this;exact r.inj r'
end
abbrev Cx.pC (X:Cx)(E:Value->Shared->Prop):Cx:={ X with xe:=E }
abbrev Cx.Ck (X:Cx):Cx:=X.pC λ_ _=>False
theorem Cx.Ok.pC {X:Cx}(ok:X.Ok)(E:Value->Shared->Prop):(X.pC E).Ok :=
 ⟨ok.mod,ok.kind,ok.glob,ok.blt,ok.above,ok.inj,ok.has,ok.Qk,ok.hd,ok.frames,ok.Q2,ok.Nn,ok.bs,ok.Ha,ok.Fd,ok.CH,ok.oQ,ok.JL⟩
def Cx.Ok.iS {X:Cx}{E:Value->Shared->Prop}(ok:(X.pC E).Ok):X.Ok :=
 ⟨ok.mod,ok.kind,ok.glob,ok.blt,ok.above,ok.inj,ok.has,ok.Qk,ok.hd,ok.frames,ok.Q2,ok.Nn,ok.bs,ok.Ha,ok.Fd,ok.CH,ok.oQ,ok.JL⟩
section
variable {X:Cx}{ag:List (Addr×Obj)}{σ:St}{H:Hp}{s:Shared}{E:Value->Shared->Prop}
theorem Inv.pC (I:Inv X ag σ H s)(E:Value->Shared->Prop):Inv (X.pC E) ag σ H s:=⟨I.ok.pC E,I.os,I.bare,I.base,I.loc,I.cell,I.free,I.j_,I.pin,I.b8,I.len⟩
theorem Inv.iS (I:Inv (X.pC E) ag σ H s):Inv X ag σ H s:=⟨I.ok.iS,I.os,I.bare,I.base,I.loc,I.cell,I.free,I.j_,I.pin,I.b8,I.len⟩
theorem SP.iS {D:Ends}{f:Flow}{s':Shared}(h:SP (X.pC E) ag D f s'):SP X ag D f s':=by
 cases f with
 | next=>obtain⟨σ',H',I,q⟩:=h;exact⟨σ',H',I.iS,q⟩
 | brk=>obtain⟨σ',H',I,q⟩:=h;exact⟨σ',H',I.iS,q⟩
 | cont=>obtain⟨σ',H',I,q⟩:=h;exact⟨σ',H',I.iS,q⟩
 | ret u=>obtain⟨v,σ',H',I,r,q⟩:=h;exact⟨v,σ',H',I.iS,r,q⟩
theorem PE.Ck {e:Expr}{t:TE}(h:PE X.Ck e t):PE X e t:=λag s σ H Q I hw =>
 dw (h ag s σ H Q (I.pC _) hw) (λ_ _ ⟨v,H',I',r,q⟩=>⟨v,H',I'.iS,r,q⟩) λ_ _ z=>False.elim z
theorem PT.Ck {e:Expr}{t:TT}(h:PT X.Ck e t):PT X e t:=λag s σ H Q I hw =>
 dw (h ag s σ H Q (I.pC _) hw) (λ_ _ ⟨H',I',q⟩=>⟨H',I'.iS,q⟩) λ_ _ z=>False.elim z
theorem Aq.Ck {st:List Stmt}{t:TS}(h:Aq X.Ck st t):Aq X st t:=λag s σ H D I hw =>
 dw (h ag s σ H D (I.pC _) hw) (λ_ _ q=>q.iS) λ_ _ z=>False.elim z
end
section
variable {X:Cx}{st:Stmt}{rest:List Stmt}{t u:TS}{e:Expr}{te:TE}{pos:Pos}
def NV:TS:=λD σ H=>D.nx σ H
def Kk (t u:TS):TS:=λD σ H=>t { D with nx:=u D } σ H
def aY:Aq X [] NV:=λ_ _ σ H _ I h=>wpAny_execs_nil ⟨σ,H,I,h⟩
def aj (h1:PS X st t)(h2:Aq X rest u):Aq X (st::rest) (Kk t u):=by
 intro ag s σ H D I h;refine wpAny_execs_cons (cW (h1 ag s σ H { D with nx:=u D } I h) λf s1 q=>?_);cases f with
 | next =>
  obtain⟨σ',H',I',q⟩:=q;exact h2 ag s1 σ' H' D I' q
 | ret v=>exact q
 | brk=>exact q
 | cont=>exact q
def ao (h1:PS X st t):Aq X [st] t:=by
 intro ag s σ H D I h;refine wpAny_execs_cons (cW (h1 ag s σ H D I h) λf s1 q=>?_);cases f with
 | next=>exact wpAny_execs_nil q
 | ret v=>exact q
 | brk=>exact q
 | cont=>exact q
def Ko:TS:=λD σ H=>D.bk σ H
def EF:PS X (.Break pos) Ko:=λ_ _ σ H _ I h=>wpAny_Break ⟨σ,H,I,h⟩
def Inv.quiet {ag:List (Addr×Obj)}{σ:St}{H:Hp}{s:Shared}(I:Inv X ag σ H s):interactive X.env=false:=by simp [interactive,I.ok.kind]
def N1 (te:TE):TS:=λD σ H=>te σ H λ_ H1=>D.nx σ H1
def b_ (he:PE X e te)(hs:swapsWith e none pos.line X.env=pure false:=by rfl):PS X (.Expr e pos) (N1 te):=by
 intro ag s σ H D I h;refine wpAny_Expr_any (cW (he ag s σ H _ I h) λv s1 bF=>?_) I.quiet hs;obtain⟨x,H1,I1,r1,q1⟩:=bF;exact⟨σ,H1,I1,q1⟩
def Sk (te:TE):TS:=λD σ H=>te σ H D.rt
def bz (he:PE X e te):PS X (.Return (some e) pos) (Sk te):=by
 intro ag s σ H D I h;refine wpAny_Return_some (cW (he ag s σ H _ I h) λv s1 bF=>?_);obtain⟨x,H1,I1,r1,q1⟩:=bF;exact⟨x,σ,H1,I1,r1,q1⟩
def Sq (c:TT)(t u:TS):TS:=λD σ H=>c σ H λb H1=>if b=true then t D σ H1 else u D σ H1
def b9 {c:Expr}{a b:List Stmt}{tc:TT}(hc:PT X c tc)(ha:Aq X a t)(hb:Aq X b u):PS X (.If c a b pos) (Sq tc t u):=by
 intro ag s σ H D I h;refine wpAny_If (cW (hc ag s σ H _ I h) λd s1 bF=>?_);obtain⟨H1,I1,q1⟩:=bF;cases d with
 | true=>exact ha ag s1 σ H1 D I1 q1
 | false=>exact hb ag s1 σ H1 D I1 q1
def Kl:TS:=λ_ _ _=>False
def iG:PS X st Kl:=λ_ _ _ _ _ _ h=>h.elim
end
abbrev TG:=V->St->Hp->(St->Hp->Prop)->Prop
abbrev J0:=List V->St->Hp->(St->Hp->Prop)->Prop
def PG (X:Cx)(target:Expr)(t:TG):Prop :=
 ∀(ag:List (Addr×Obj))(s:Shared)(σ:St)(H:Hp)(v:V)(u:Value)(Q:St->Hp->Prop),Inv X ag σ H s->RelV v u->t v σ H Q ->
  wpAny (model X.prog X.w) X.A (assign target X.env u) (λ_ s'=>∃σ' H',Inv X ag σ' H' s'/\Q σ' H') X.xe s
def QC (X:Cx)(ts:List Expr)(t:J0):Prop :=
 ∀(ag:List (Addr×Obj))(s:Shared)(σ:St)(H:Hp)(vs:List V)(us:List Value)(Q:St->Hp->Prop),Inv X ag σ H s->a_ vs us->t vs σ H Q ->
  wpAny (model X.prog X.w) X.A (assignInOrder ((assignEach ts X.env).map (·.2)) us) (λ_ s'=>∃σ' H',Inv X ag σ' H' s'/\Q σ' H') X.xe s
abbrev RR:=V->V->Hp->VK->Prop
def Zt (X:Cx)(op:Operator)(t:RR):Prop :=
 ∀(ag:List (Addr×Obj))(s:Shared)(σ:St)(H:Hp)(x y:V)(v u:Value)(Q:VK),Inv X ag σ H s->RelV x v->RelV y u->t x y H Q ->
  wpAny (model X.prog X.w) X.A (inplaceOp op v u) (EP X ag σ Q) X.xe s
section
variable {X:Cx}{pos:Pos}
def dB (i:Nat):TG:=λv σ H Q=>Q (σ.set i (some v)) H
def aq {i:Nat}{x:Str}(hN:X.N.Nodup)(hi:X.N[i]?=some x)(hx:Loc X.env.scope x)(hf:X.fn x=true\/X.env.scope.names.lookup x=some .local:=by first | exact .inl rfl | exact .inr rfl | assumption):PG X (.Name x pos) (dB i):=by
 intro ag s σ H v u Q I r h;exact wpAny_assign_Name (qK I hN hi hx r (λs' I'=>⟨_,H,I',h⟩) hf)
def CD:J0:=λvs σ H Q=>vs=[]/\Q σ H
def ji (t:TG)(u:J0):J0:=λvs σ H Q=>JZ vs λv r=>t v σ H λσ' H'=>u r σ' H' Q
def bH:QC X [] CD:=by
 intro ag s σ H vs us Q I r h;obtain⟨e,h⟩:=h;subst e;cases r;exact assignInOrder_nil ⟨σ,H,I,h⟩
def aA {e:Expr}{es:List Expr}{t:TG}{u:J0}(h1:PG X e t)(h2:QC X es u)
  (hs:(assignEach (e::es) X.env).map (·.2)=assign e X.env::(assignEach es X.env).map (·.2):=by rfl):QC X (e::es) (ji t u):=by
 intro ag s σ H vs us Q I r h;obtain⟨v,vr,e1,h⟩:=h;subst e1;cases r with
 | cons r rr =>
  rw [hs];refine assignInOrder_cons (cW (h1 ag s σ H _ _ _ I r h) λ_ s1 bF=>?_);obtain⟨σ1,H1,I1,q1⟩:=bF;exact h2 ag s1 σ1 H1 _ _ Q I1 rr q1
def z9 (K:ba) (n:Nat)(t:J0):TG:=λv σ H Q=>Qx v (aS K H) n λxs=>t xs σ H Q
def fJ {es:List Expr}{k:Nat}{t:J0}{n:Nat}(hc:X.calm=true)(h:QC X es t)
  (hn:(assignEach es X.env).length=n:=by rfl)(yt:(assignEach es X.env).findIdx? (·.1)=none:=by rfl):PG X (.Tuple es k pos) (z9 X.K n t):=by
 intro ag s σ H v u Q I r hw;obtain⟨a,xs,e1,hq,hl,hw⟩:=hw;subst e1;cases r;obtain⟨aT,rv,ht,hz⟩:=I.tuple hq;refine assign_Tuple_tuple (I.ok.hd hc) ht (by simp [hn,<-hl,rv.length]) yt λh' hx=>?_;have I1:Inv X ag σ H { s with heap:=h' }:=I.kept (t':=s.toks) λb o e=>hx b o (bX (bJ e)) e;exact h ag _ σ H xs _ Q I1 (by simpa using rv) hw
def Kq (te:TE)(g:TG):TS:=λD σ H=>te σ H λx H1=>g x σ H1 D.nx
def KZ {tg e:Expr}{te:TE}{g:TG}(he:PE X e te)(hg:PG X tg g)(hs:swapsWithSole [tg] e pos.line X.env=pure false:=by rfl)(hw:swappedStores [tg] e X.env=pure none:=by rfl)
  (h1:(assignEach [tg] X.env).map (·.2)=[assign tg X.env]:=by rfl):PS X (.Assign [tg] e pos) (Kq te g):=by
 intro ag s σ H D I h;refine wpAny_Assign_stores (cW (he ag s σ H _ I h) λv s1 bF=>?_) hs hw;obtain⟨x,H1,I1,r1,q1⟩:=bF;rw [h1];exact cW (hg ag s1 σ H1 x v _ I1 r1 q1) λ_ s2 q=>q
def aB {i:Nat}{x:Str}{e:Expr}{te:TE}{pos':Pos}(hN:X.N.Nodup)(hi:X.N[i]?=some x)(hx:Loc X.env.scope x)(he:PE X e te)(hs:swapsWith e (some (.Name x pos')) pos.line X.env=pure false:=by rfl)(hf:X.fn x=true\/X.env.scope.names.lookup x=some .local:=by first | exact .inl rfl | exact .inr rfl | assumption) :
  PS X (.Assign [.Name x pos'] e pos) (Kq te (dB i)):=by
 intro ag s σ H D I h;refine wpAny_Assign_Name (cW (he ag s σ H _ I h) λv s1 bF=>?_) hs;obtain⟨y,H1,I1,r1,q1⟩:=bF;exact qK I1 hN hi hx r1 (λs2 I2=>⟨_,H1,I2,q1⟩) hf
def Su (i:Nat)(te:TE)(ti:RR):TS:=λD σ H=>∃x,σ[i]?=some (some x)/\te σ H λy H1=>ti x y H1 λz H2=>D.nx (σ.set i (some z)) H2
def KY {i:Nat}{x:Str}{e:Expr}{te:TE}{op:Operator}{ti:RR}{pos':Pos}(hN:X.N.Nodup)(hi:X.N[i]?=some x)(hx:Loc X.env.scope x)(he:PE X e te)(ho:Zt X op ti)(hf:X.fn x=true\/X.env.scope.names.lookup x=some .local:=by first | exact .inl rfl | exact .inr rfl | assumption) :
  PS X (.AugAssign (.Name x pos') op e pos) (Su i te ti):=by
 intro ag s σ H D I h;obtain⟨v,e1,h⟩:=h;obtain⟨m,hn,hl⟩:=I.loc;have ZC:RQ X.env.scope x:=by rcases hx with k | k;exact .inl k;exact .inr (.inl k)
 obtain⟨u,r,l⟩:=hl i x v hi e1 ZC;refine wpAny_AugAssign_Name ?_;have go:wpAny (model X.prog X.w) X.A (eval e X.env) (λw s₂=>wpAny (model X.prog X.w) X.A (inplaceOp op u w) (λr s₃=>wpAny (model X.prog X.w) X.A (storeName X.env x r) (λ_=>SP X ag D .next) X.xe s₃) X.xe s₂) X.xe s:=by
  refine cW (he ag s σ H _ I h) λw s1 bF=>?_;obtain⟨y,H1,I1,r1,q1⟩:=bF;refine cW (ho ag s1 σ H1 v y u w _ I1 r r1 q1) λz s2 bF=>?_;obtain⟨zv,H2,I2,r2,q2⟩:=bF;exact qK I2 hN hi hx r2 (λs3 I3=>⟨_,H2,I3,q2⟩) hf
 rcases l with ⟨hk,hm⟩ | ⟨hk,c,hc,jf⟩
 .exact uU I.ok.kind hk hn hm go
 rcases hk with hk | hk
 .exact wpAny_loadName_cell I.ok.kind hk hc jf go
 rcases hx with k | k
 .have:X.env.scope.names.lookup x=some .free:=hk;rw [k] at this;cases this
 have:X.env.scope.names.lookup x=some .free:=hk;rw [k] at this;cases this
def ipI (f:Int->Int->Int):RR:=λx y H Q=>∃i j,x=.int i/\y=.int j/\Q (.int (f i j)) H
def Lx:Zt X .Add (ipI λi j=>i+j):=by
 intro ag s σ H x y v u Q I r1 r2 h;obtain⟨i,j,e1,e2,q⟩:=h;subst e1;subst e2;obtain⟨t,rfl⟩:=r1;obtain⟨t',rfl⟩:=r2;exact iadd_int ⟨.int _,H,I.tok _,⟨_,rfl⟩,q⟩
end
section
variable {X:Cx}{pos:Pos}
def Ki (c:TT)(tb:TS):TS:=λD σ H=>∃W:Nat->St->Hp->Prop,(∃m,W m σ H)/\∀m σ H,W m σ H ->
 c σ H λb H1=>if b=true then ∃N:St->Hp->Prop,(∀σ' H',N σ' H'->∃m',m' < m/\W m' σ' H')/\tb { D with nx:=N,ct:=N,bk:=D.nx } σ H1 else D.nx σ H1
def i8 {c:Expr}{body:List Stmt}{tc:TT}{tb:TS}(hp:PassesOwn (model X.prog X.w) X.A X.env X.xe)(hc:PT X c tc)(hb:Aq X body tb):PS X (.While c body [] pos) (Ki tc tb):=by
 intro ag s σ H D I h;obtain⟨W,⟨m0,w0⟩,turn⟩:=h;refine wpAny_While (codeAny_whileLoop (λn s'=>∃σ' H',Inv X ag σ' H' s'/\W n σ' H') ?_ m0 ⟨σ,H,I,w0⟩);rintro n s1 ⟨σ1,H1,I1,w1⟩;refine kW hp (cW (hc ag s1 σ1 H1 _ I1 (turn n σ1 H1 w1)) λb s2 bF=>?_);obtain⟨H2,I2,q2⟩:=bF;cases b with
 | true =>
  obtain⟨N,hN,q2⟩:=q2;rw [ar rfl];refine kW hp (cW (hb ag s2 σ1 H2 _ I2 q2) λf s3 q3=>?_);cases f with
  | next =>
   obtain⟨σ3,H3,I3,n3⟩:=q3;obtain⟨m',hm,w3⟩:=hN σ3 H3 n3;exact⟨m',hm,σ3,H3,I3,w3⟩
  | cont =>
   obtain⟨σ3,H3,I3,n3⟩:=q3;obtain⟨m',hm,w3⟩:=hN σ3 H3 n3;exact⟨m',hm,σ3,H3,I3,w3⟩
  | brk=>exact q3
  | ret v=>exact q3
 | false =>
  rw [au cU];exact wpAny_execs_nil ⟨σ1,H2,I2,q2⟩
end
structure It where
 go:Nat->Hp->Prop
 kX:Nat->Hp->V->Hp->Prop
 stop:Nat->Hp->Prop
def wF (X:Cx)(ag:List (Addr×Obj))(H:Hp)(b:Addr):Prop :=
 H b=none/\b≠X.env.locals/\b∉X.fs/\(b∈X.ex\/X.s₀.heap.objs.size<=b)/\(∀x c,X.env.cells.lookup x=some c->c≠b)/\∀p∈X.pn++ag,p.1≠b
def Inv.v_ {X:Cx}{ag:List (Addr×Obj)}{σ:St}{H H':Hp}{s:Shared}{b:Addr}(I:Inv X ag σ H s)(hb:s.heap.objs.size<=b)(hn:H' b=none):wF X ag H' b:=by
 refine⟨hn,kI (fS I.lt hb),I.Tg hb,.inr (ff I.sz hb),λx c e z=>?_,λp hp z=>?_⟩
 .obtain⟨v,q⟩:=I.cell x c e;exact absurd (fS q.lt (by rw [z];exact hb)) (kK _)
 exact absurd (fS (bJ (I.pin p hp).1) (by rw [z];exact hb)) (kK _)
structure Turn (P:Program)(w:World)(K:ba)(tg:Expr)(J:It)(fp:List Addr)(it:Addr)(tn:Nat->Heap->Prop):Prop where
 mem:it∈fp
 obj:∀i h,tn i h->∀b∈fp,∃o,h.get? b=some o/\∀v,o.data≠.cell v
 keep:∀i h h',tn i h->(∀b∈fp,∀o,h.get? b=some o->h'.get? b=some o)->tn i h'
 item:∀(X:Cx),X.prog=P->X.w=w->X.K=K->X.calm=true->∀(i:Nat)(ag:List (Addr×Obj))(s:Shared)(σ:St)(H:Hp)(E:Value->Shared->Prop),Inv X ag σ H s->(∀b∈fp,wF X ag H b)->tn i s.heap->J.go i H ->
  wpAny (model P w) X.A (pyNext (.ref it)) (λr s1=>∃u,r=some u /\
   wpAny (model P w) X.A (letOwnedTupleGo tg (.ref it) u) (λ_ s2=>∃x H',Inv X ag σ H' s2/\RelV x u/\J.kX i H x H'/\tn (i+1) s2.heap/\∀b∈fp,H' b=none) E s1) E s
 done:∀(X:Cx),X.prog=P->X.w=w->X.K=K->X.calm=true->∀(i:Nat)(ag:List (Addr×Obj))(s:Shared)(σ:St)(H:Hp)(E:Value->Shared->Prop),Inv X ag σ H s->(∀b∈fp,wF X ag H b)->tn i s.heap->J.stop i H ->
  wpAny (model P w) X.A (pyNext (.ref it)) (λr s1=>r=none/\Inv X ag σ H s1) E s
 self:∀(A:Around) (i:Nat)(s:Shared)(Q:Value->Shared->Prop)(E:Value->Shared->Prop),tn i s.heap->Q (.ref it) s->wpAny (model P w) A (pyIter (.ref it)) Q E s
abbrev TI:=St->Hp->(It->Hp->Prop)->Prop
def Zu (X:Cx)(ag:List (Addr×Obj))(σ:St)(tg:Expr)(R:It->Hp->Prop)(Ri:Value)(s2:Shared):Prop :=
 ∃(it:Addr)(fp:List Addr)(tn:Nat->Heap->Prop)(J:It)(H':Hp),Ri=.ref it/\Inv X ag σ H' s2/\Turn X.prog X.w X.K tg J fp it tn/\tn 0 s2.heap/\(∀b∈fp,wF X ag H' b)/\R J H'
def PI (X:Cx)(tg iter:Expr)(wi:TI):Prop :=
 ∀(ag:List (Addr×Obj))(s:Shared)(σ:St)(H:Hp)(R:It->Hp->Prop),Inv X ag σ H s->wi σ H R ->
  wpAny (model X.prog X.w) X.A (eval iter X.env) (λv s1=>wpAny (model X.prog X.w) X.A (pyIter v) (Zu X ag σ tg R) X.xe s1) X.xe s
def Bn {M:Model}{A:Around}{E:Value->Shared->Prop}{s:Shared}{tg:Expr}{it:Addr}{u:Value}{o:Obj}{n:String}{vs:Array Value}{Q:Unit->Shared->Prop}(ho:s.heap.get? it=some o)(hc:o.cls=.type n)(hd:o.data=.fields vs)
  (hn:["enumerate","zip","dict_itemiterator","dict_reverseitemiterator","odict_iterator","itertools.zip_longest","itertools.pairwise"].contains n=false)(hQ:Q () s):wpAny M A (letOwnedTupleGo tg (.ref it) u) Q E s:=by
 unfold letOwnedTupleGo;cases tg <;> first
  | exact aR hQ
  | (cases u <;> first
    | exact aR hQ
    | (refine aD (wpAny_load ho ?_)
       rw [hc,hd];show wpAny M A (if (["enumerate","zip","dict_itemiterator","dict_reverseitemiterator","odict_iterator","itertools.zip_longest","itertools.pairwise"].contains n && vs[0]? == some (rawInt _))=true then _ else _) Q E s;rw [au (by intro h;rw [hn,nV] at h;cases h)];exact aR hQ))
def jn (K:ba)(a:Addr):It :=
 ⟨λi H=>∃xs x,aK K H a xs/\xs[i]?=some x,λi H x H'=>H'=H/\∀xs,aK K H a xs->xs[i]?=some x,λi H=>∃xs,aK K H a xs/\xs.length<=i⟩
def nF (K:ba)(a:Addr):It :=
 ⟨λi H=>∃xs x,aS K H a xs/\xs[i]?=some x,λi H x H'=>H'=H/\∀xs,aS K H a xs->xs[i]?=some x,λi H=>∃xs,aS K H a xs/\xs.length<=i⟩
def NH (lo:Int) (n:Nat):It:=⟨λi _=>i < n,λi H x H'=>H'=H/\x=.int (lo+i),λi _=>n<=i⟩
def BQ {P:Program}{w:World}{K:ba}{tg:Expr}(a it:Addr):Turn P w K tg (jn K a) [it] it (λi h=>h.IsListIter it a i) where
 mem:=by simp
 obj:=λi h st b hb=>by
  have e:b=it:=by simpa using hb
  subst e;obtain⟨o,e,c,d⟩:=st;exact⟨o,e,λv z=>by rw [d] at z;cases z⟩
 keep:=λi h h' st k=>st.at λo e=>k it (by simp) o e
 item:=by
  intro X hP hw hK hc i ag s σ H E I hf st hg;subst hP hw hK;obtain⟨xs,x,hq,hx⟩:=hg;obtain⟨aT,rv,p,hz⟩:=I.list hq;obtain⟨u,hu,ru⟩:=rv.get hx;obtain⟨f0,f1,f2,f3,f4,f5⟩:=hf it (by simp);refine wpAny_pyNext_list_item st p.isList (x:=u) (by simpa using hu) λh' wL sb=>?_;have I1:Inv X ag σ H { s with heap:=h' }:=I.turned (t':=s.toks) (λb o hb e=>(sb.2 b hb).trans e) f0 f1 f3 f4 f5;obtain⟨o,e,c,d⟩:=id wL;exact⟨u,rfl,Bn (s:={ s with heap:=h' }) e c d nofun ⟨x,H,I1,ru,⟨rfl,λys hy=>by rw [I.q_ hy hq];exact hx⟩,wL,λb hb=>(hf b hb).1⟩⟩
 done:=by
  intro X hP hw hK hc i ag s σ H E I hf st hg;subst hP hw hK;obtain⟨xs,hq,hx⟩:=hg;obtain⟨aT,rv,p,hz⟩:=I.list hq;obtain⟨f0,f1,f2,f3,f4,f5⟩:=hf it (by simp);have hl:=rv.length;exact uY (I.ok.hd hc) st p.isList (by simp;omega) λh' eb=>⟨rfl,I.turned (t':=s.toks) (λb o hb e=>eb b o hb e) f0 f1 f3 f4 f5⟩
 self:=λ_ _ _ _ _ st h=>wpAny_pyIter_listiter st h
def yL {P:Program}{w:World}{K:ba}{tg:Expr}(a it:Addr):Turn P w K tg (nF K a) [it] it (λi h=>h.IsTupleIter it a i) where
 mem:=by simp
 obj:=λi h st b hb=>by
  have e:b=it:=by simpa using hb
  subst e;obtain⟨o,e,c,d⟩:=st;exact⟨o,e,λv z=>by rw [d] at z;cases z⟩
 keep:=λi h h' st k=>st.at λo e=>k it (by simp) o e
 item:=by
  intro X hP hw hK hc i ag s σ H E I hf st hg;subst hP hw hK;obtain⟨xs,x,hq,hx⟩:=hg;obtain⟨aT,rv,p,hz⟩:=I.tuple hq;obtain⟨u,hu,ru⟩:=rv.get hx;obtain⟨f0,f1,f2,f3,f4,f5⟩:=hf it (by simp);refine wpAny_pyNext_tuple_item st (show s.heap.IsTuple a aT.toArray from p) (x:=u) (by simpa using hu) λh' wL sb=>?_;have I1:Inv X ag σ H { s with heap:=h' }:=I.turned (t':=s.toks) (λb o hb e=>(sb.2 b hb).trans e) f0 f1 f3 f4 f5;obtain⟨o,e,c,d⟩:=id wL;exact⟨u,rfl,Bn (s:={ s with heap:=h' }) e c d nofun ⟨x,H,I1,ru,⟨rfl,λys hy=>by rw [I.iu hy hq];exact hx⟩,wL,λb hb=>(hf b hb).1⟩⟩
 done:=by
  intro X hP hw hK hc i ag s σ H E I hf st hg;subst hP hw hK;obtain⟨xs,hq,hx⟩:=hg;obtain⟨aT,rv,p,hz⟩:=I.tuple hq;obtain⟨f0,f1,f2,f3,f4,f5⟩:=hf it (by simp);have hl:=rv.length;exact wpAny_pyNext_tuple_end (I.ok.hd hc) st (show s.heap.IsTuple a aT.toArray from p) (by simp;omega) λh' eb=>⟨rfl,I.turned (t':=s.toks) (λb o hb e=>eb b o hb e) f0 f1 f3 f4 f5⟩
 self:=λ_ _ _ _ _ st h=>wpAny_pyIter_tupleiter st h
def yM {P:Program}{w:World}{K:ba}{tg:Expr}(it:Addr) (lo:Int) (n:Nat):Turn P w K tg (NH lo n) [it] it (λi h=>IsRangeIter h it (lo+(i:Nat) * 1) ((n:Int) - (i:Nat)) 1) where
 mem:=by simp
 obj:=λi h st b hb=>by
  have e:b=it:=by simpa using hb
  subst e;exact⟨_,st,λv z=>by
   have z':Data.fields _=Data.cell v:=z;cases z'⟩
 keep:=λi h h' st k=>k it (by simp) _ st
 item:=by
  intro X hP hw hK hc i ag s σ H E I hf st hg;subst hP hw hK;obtain⟨f0,f1,f2,f3,f4,f5⟩:=hf it (by simp);have W:=Walks.range (prog:=X.prog) (w:=X.w) (I.ok.hd hc) it lo 1 n;refine W.item i s _ _ hg st λv h' tk hv wL kk=>?_;obtain⟨t,rfl⟩:=hv;have I1:Inv X ag σ H { s with heap:=h',toks:=tk }:=I.turned (λb o hb e=>kk b o (by simpa using hb) e) f0 f1 f3 f4 f5;refine⟨_,rfl,Bn (s:={ s with heap:=h',toks:=tk }) (n := "range_iterator") wL rfl rfl nofun ⟨.int (lo+i),H,I1,⟨t,?_⟩,⟨rfl,rfl⟩,wL,λb hb=>(hf b hb).1⟩⟩;rw [Int.mul_one]
 done:=by
  intro X hP hw hK hc i ag s σ H E I hf st hg;subst hP hw hK;obtain⟨f0,f1,f2,f3,f4,f5⟩:=hf it (by simp);exact wpAny_pyNext_range_end (I.ok.hd hc) st (by have:n<=i:=hg;omega) λh' eb=>⟨rfl,I.turned (t':=s.toks) (λb o hb e=>eb b o hb e) f0 f1 f3 f4 f5⟩
 self:=λ_ _ _ _ _ st h=>wpAny_pyIter_rangeiter st h
section
variable {X:Cx}{tg:Expr}
def O2 (K:ba)(tl:TE):TI:=λσ H R=>tl σ H λx H1=>RP x (λa=>∃xs,aK K H1 a xs) λa=>R (jn K a) H1
def T8 (K:ba)(tl:TE):TI:=λσ H R=>tl σ H λx H1=>RP x (λa=>∃xs,aS K H1 a xs) λa=>R (nF K a) H1
def aQ {l:Expr}{tl:TE}(hl:PE X l tl):PI X tg l (O2 X.K tl):=by
 intro ag s σ H R I h;refine cW (hl ag s σ H _ I h) λv s1 bF=>?_;obtain⟨x,H1,I1,r1,q1⟩:=bF;obtain⟨a,e,⟨xs,hq⟩,q⟩:=q1;subst e;cases r1;obtain⟨aT,rv,p,hz⟩:=I1.list hq;refine nY p.isList ?_;refine⟨s1.heap.objs.size,[s1.heap.objs.size],_,_,H1,rfl,I1.kept (t':=s1.toks) λb o e=>cx _ e,BQ a _,⟨_,dH _ rfl,rfl,rfl⟩,λb hb=>?_,q⟩;have e:b=s1.heap.objs.size:=by simpa using hb
 subst e;exact I1.v_ (aE _) (I1.b8.fresh (aE _))
def eQ {l:Expr}{tl:TE}(hl:PE X l tl):PI X tg l (T8 X.K tl):=by
 intro ag s σ H R I h;refine cW (hl ag s σ H _ I h) λv s1 bF=>?_;obtain⟨x,H1,I1,r1,q1⟩:=bF;obtain⟨a,e,⟨xs,hq⟩,q⟩:=q1;subst e;cases r1;obtain⟨aT,rv,p,hz⟩:=I1.tuple hq;refine uP (show s1.heap.IsTuple a aT.toArray from p) ?_;refine⟨s1.heap.objs.size,[s1.heap.objs.size],_,_,H1,rfl,I1.kept (t':=s1.toks) λb o e=>cx _ e,yL a _,⟨_,dH _ rfl,rfl,rfl⟩,λb hb=>?_,q⟩;have e:b=s1.heap.objs.size:=by simpa using hb
 subst e;exact I1.v_ (aE _) (I1.b8.fresh (aE _))
def ED {ag:List (Addr×Obj)}{σ:St}{H:Hp}{s:Shared}{R:It->Hp->Prop}{E:Value->Shared->Prop}{lo hi:Int}{t u v:Tok}{tk:Nat}(I:Inv X ag σ H s)(h1:-(2 ^ 62)<=lo)(h2:lo < 2 ^ 62)(h3:-(2 ^ 62)<=hi)(h4:hi < 2 ^ 62)
  (q:R (NH lo (hi - lo).toNat) H):wpAny (model X.prog X.w) X.A (pyIter (.ref s.heap.objs.size)) (Zu X ag σ tg R) E { s with heap:=s.heap.push { cls:=.type "range",data:=.fields #[.int lo t,.int hi u,.int 1 v] },toks:=tk }:=by
 refine wpAny_pyIter_range (IsRange.new ..) (small_one h1 h2 h3 h4) ?_;have I1:Inv X ag σ H { s with heap:=s.heap.push { cls:=.type "range",data:=.fields #[.int lo t,.int hi u,.int 1 v] },toks:=tk }:=I.kept λb o e=>cx _ e;refine⟨(s.heap.push { cls:=.type "range",data:=.fields #[.int lo t,.int hi u,.int 1 v] }).objs.size,[(s.heap.push { cls:=.type "range",data:=.fields #[.int lo t,.int hi u,.int 1 v] }).objs.size],_,_,H,rfl,
  I1.kept (t':=tk) λb o e=>cx _ e,yM _ lo (hi - lo).toNat,?_,λb hb=>?_,q⟩
 .have e1:lo+((0:Nat):Int) * 1=lo:=by simp
  have e2:(((hi - lo).toNat:Nat):Int) - ((0:Nat):Int)=Builtin.Range.rangeSize lo hi 1:=by rw [rangeSize_one];split <;> omega
  show IsRangeIter _ _ (lo+((0:Nat):Int) * 1) ((((hi - lo).toNat:Nat):Int) - ((0:Nat):Int)) 1;rw [e1,e2];exact dH _ rfl
 have e:b=(s.heap.push { cls:=.type "range",data:=.fields #[.int lo t,.int hi u,.int 1 v] }).objs.size:=by simpa using hb
 subst e;exact I1.v_ (aE _) (I1.b8.fresh (aE _))
def O0 (ta:TA):TI:=λσ H R=>ta σ H λvs H1=>Zi vs λj=>R (NH 0 j.toNat) H1
def ix {a:Expr}{ta:TA}{p pos:Pos}(hg:Gl X "range")(hm:X.mg "range"=none)(ha:PA X [a] ta)(hs:starEach [a] X.env=[(false,eval a X.env)]:=by rfl):PI X tg (.Call (.Name "range" p) [a] [] pos) (O0 ta):=by
 intro ag s σ H R I h;refine Call_ (jy I hg hm boot_range (Ay (cW (ha pos ag s σ H _ I h) λus s1 bF=>?_) hs rfl));obtain⟨vs,H1,I1,r1,q1⟩:=bF;obtain⟨j,e,q1,q2,q⟩:=q1;subst e;cases r1 with
 | cons r rr =>
  cases rr;obtain⟨t,rfl⟩:=r;exact call_range_1 (ED I1 ∅ ∅ q1 q2 (by simpa using q))
def Sr (wi:TI)(g:TG)(tb:TS):TS:=λD σ H=>wi σ H λJ H1=>∃W:Nat->Nat->St->Hp->Prop,(∃m,W 0 m σ H1)/\∀i m σ H,W i m σ H ->
 (J.stop i H/\D.nx σ H)\/(J.go i H/\∃N:St->Hp->Prop,(∀σ' H',N σ' H'->∃m',m' < m/\W (i+1) m' σ' H')/\∀x H',J.kX i H x H'->g x σ H' λσ2 H2=>tb { D with nx:=N,ct:=N,bk:=D.nx } σ2 H2)
def oB (fp:List Addr)(h:Heap):List (Addr×Obj):=fp.filterMap λb=>(h.get? b).map λo=>(b,o)
def gU {fp:List Addr}{h:Heap}{b:Addr}{o:Obj}(hb:b∈fp)(e:h.get? b=some o):(b,o)∈oB fp h:=List.mem_filterMap.mpr ⟨b,hb,by rw [e];rfl⟩
def Ci {fp:List Addr}{h:Heap}{p:Addr×Obj}(hp:p∈oB fp h):p.1∈fp/\h.get? p.1=some p.2:=by
 obtain⟨b,hb,e⟩:=List.mem_filterMap.mp hp;cases q:h.get? b with
 | none=>rw [q] at e;cases e
 | some o =>
  rw [q] at e;have e':(b,o)=p:=fQ e;subst e';exact⟨hb,q⟩
def Inv.pinned {ag:List (Addr×Obj)}{σ:St}{H:Hp}{s:Shared}{fp:List Addr}(I:Inv X ag σ H s)(hf:∀b∈fp,wF X ag H b)(ho:∀b∈fp,∃o,s.heap.get? b=some o/\∀v,o.data≠.cell v):Inv X (ag++oB fp s.heap) σ H s :=
 I.A9 λp hp=>(cD.mp hp).elim (λz=>I.pin p (dA _ z)) λz=>by
  obtain⟨hb,e⟩:=Ci z;obtain⟨f0,f1,f2,_⟩:=hf p.1 hb;obtain⟨o,e',d⟩:=ho p.1 hb;rw [e] at e';cases e';exact⟨e,f0,f1,f2,d⟩
def Inv.jW {ag pl:List (Addr×Obj)}{σ:St}{H:Hp}{s:Shared}(I:Inv X (ag++pl) σ H s):Inv X ag σ H s:=I.A9 λp hp=>I.pin p (dA _ (dP _ hp))
def bS {iter:Expr}{body:List Stmt}{wi:TI}{g:TG}{tb:TS}{pos:Pos}(hp:PassesOwn (model X.prog X.w) X.A X.env X.xe)(hc:X.calm=true)(hi:PI X tg iter wi)(hg:PG X tg g)(hb:Aq X body tb)
  (hs:∀x,foldedSetIterable iter X.env x=pure x:=by intro _;rfl):PS X (.For tg iter body [] pos) (Sr wi g tb):=by
 intro ag s σ H D I h;refine wpAny_For (cW (hi ag s σ H _ I h) λv s1 h1=>cW h1 λRi s2 h2=>?_) hs;obtain⟨it,fp,tn,J,H2,e,I2,T,GI,f2,W,⟨m0,w0⟩,turn⟩:=h2;subst e;have qL:∀{H':Hp},(∀b∈fp,H' b=none)->∀b∈fp,wF X ag H' b:=λhn b hb=>⟨hn b hb,(f2 b hb).2⟩;refine codeAny_forLoop_any (λn s'=>∃i σ' H',Inv X ag σ' H' s'/\tn i s'.heap/\(∀b∈fp,H' b=none)/\W i n σ' H') ?_ m0 ⟨0,σ,H2,I2,GI,λb hb=>(f2 b hb).1,w0⟩;rintro n s3 ⟨i,σ3,H3,I3,N_,Yh,w3⟩;rcases turn i n σ3 H3 w3 with ⟨stop,qn⟩ | ⟨go,N,hN,step⟩
 .refine kW hp (cW (T.done X rfl rfl rfl hc i ag s3 σ3 H3 X.xe I3 (qL Yh) N_ stop) λr s4 ⟨hr,I4⟩=>?_);subst hr;exact wpAny_execs_nil ⟨σ3,H3,I4,qn⟩
 refine kW hp (cW (T.item X rfl rfl rfl hc i ag s3 σ3 H3 X.xe I3 (qL Yh) N_ go) λr s4 ⟨u,hr,h4⟩=>?_);subst hr;refine kW hp (cW h4 λ_ s5 bF=>?_);obtain⟨x,H5,I5,r5,y5,BV,PV⟩:=bF;have I5':=I5.pinned (qL PV) (T.obj _ _ BV);refine kW hp (cW (hg _ s5 σ3 H5 x u _ I5' r5 (step x H5 y5)) λ_ s6 bF=>?_);obtain⟨σ6,H6,I6,q6⟩:=bF;refine kW hp (cW (hb _ s6 σ6 H6 _ I6 q6) λf s7 q7=>?_);have again:∀{σ7:St}{H7:Hp},Inv X (ag++oB fp s5.heap) σ7 H7 s7->N σ7 H7->∃m,m < n/\∃i σ' H',Inv X ag σ' H' s7/\tn i s7.heap/\(∀b∈fp,H' b=none)/\W i m σ' H':=λ{σ7 H7} I7 n7=>by
  obtain⟨m',hm,w7⟩:=hN σ7 H7 n7;refine⟨m',hm,i+1,σ7,H7,I7.jW,T.keep _ _ _ BV λb hb o e=>(I7.pin (b,o) (dA _ (dA _ (gU hb e)))).1,λb hb=>?_,w7⟩;obtain⟨o,e,d⟩:=T.obj _ _ BV b hb;exact(I7.pin (b,o) (dA _ (dA _ (gU hb e)))).2.1
 cases f with
 | next=>obtain⟨σ7,H7,I7,n7⟩:=q7;exact again I7 n7
 | cont=>obtain⟨σ7,H7,I7,n7⟩:=q7;exact again I7 n7
 | brk=>obtain⟨σ7,H7,I7,q7⟩:=q7;exact⟨σ7,H7,I7.jW,q7⟩
 | ret v=>obtain⟨x7,σ7,H7,I7,r7,q7⟩:=q7;exact⟨x7,σ7,H7,I7.jW,r7,q7⟩
end
def cv {K:ba}{a:Addr}{xs:List V}{g:TG}{tb:TS}{D:Ends}{σ:St}{H:Hp}(Pv:Nat->St->Hp->Prop)(h0:Pv 0 σ H)(hl:∀i σ H,i<=xs.length->Pv i σ H->aK K H a xs)
  (hs:∀i x σ H,xs[i]?=some x->Pv i σ H->g x σ H λσ2 H2=>tb { D with nx:=Pv (i+1),ct:=Pv (i+1),bk:=D.nx } σ2 H2)(hd:∀σ H,Pv xs.length σ H->D.nx σ H) :
  ∃W:Nat->Nat->St->Hp->Prop,(∃m,W 0 m σ H)/\∀i m σ H,W i m σ H ->
   ((jn K a).stop i H/\D.nx σ H)\/((jn K a).go i H/\∃N:St->Hp->Prop,(∀σ' H',N σ' H'->∃m',m' < m/\W (i+1) m' σ' H')/\∀x H',(jn K a).kX i H x H'->g x σ H' λσ2 H2=>tb { D with nx:=N,ct:=N,bk:=D.nx } σ2 H2):=by
 refine⟨λi m σ H=>m=xs.length - i/\i<=xs.length/\Pv i σ H,⟨xs.length,by simp,g9 _,h0⟩,?_⟩;rintro i m σ H ⟨rfl,hi,p⟩;have q:=hl i σ H hi p;by_cases jI:i < xs.length
 .refine .inr ⟨⟨xs,xs[i],q,by simp [jI]⟩,Pv (i+1),λσ' H' p'=>⟨xs.length - (i+1),∅,rfl,jI,p'⟩,λx H' y=>?_⟩;obtain⟨e,y⟩:=y;subst e;exact hs i x σ _ (y xs q) p
 have e:i=xs.length:=by omega
 subst e;exact .inl ⟨⟨xs,q,aE _⟩,hd σ H p⟩
def Bq {K:ba}{a:Addr}{xs:List V}{g:TG}{tb:TS}{D:Ends}{σ:St}{H:Hp}(Pv:Nat->St->Hp->Prop)(h0:Pv 0 σ H)(hl:∀i σ H,i<=xs.length->Pv i σ H->aS K H a xs)
  (hs:∀i x σ H,xs[i]?=some x->Pv i σ H->g x σ H λσ2 H2=>tb { D with nx:=Pv (i+1),ct:=Pv (i+1),bk:=D.nx } σ2 H2)(hd:∀σ H,Pv xs.length σ H->D.nx σ H) :
  ∃W:Nat->Nat->St->Hp->Prop,(∃m,W 0 m σ H)/\∀i m σ H,W i m σ H ->
   ((nF K a).stop i H/\D.nx σ H)\/((nF K a).go i H/\∃N:St->Hp->Prop,(∀σ' H',N σ' H'->∃m',m' < m/\W (i+1) m' σ' H')/\∀x H',(nF K a).kX i H x H'->g x σ H' λσ2 H2=>tb { D with nx:=N,ct:=N,bk:=D.nx } σ2 H2):=by
 refine⟨λi m σ H=>m=xs.length - i/\i<=xs.length/\Pv i σ H,⟨xs.length,by simp,g9 _,h0⟩,?_⟩;rintro i m σ H ⟨rfl,hi,p⟩;have q:=hl i σ H hi p;by_cases jI:i < xs.length
 .refine .inr ⟨⟨xs,xs[i],q,by simp [jI]⟩,Pv (i+1),λσ' H' p'=>⟨xs.length - (i+1),∅,rfl,jI,p'⟩,λx H' y=>?_⟩;obtain⟨e,y⟩:=y;subst e;exact hs i x σ _ (y xs q) p
 have e:i=xs.length:=by omega
 subst e;exact .inl ⟨⟨xs,q,aE _⟩,hd σ H p⟩
def iz {lo:Int}{n:Nat}{g:TG}{tb:TS}{D:Ends}{σ:St}{H:Hp}(Pv:Nat->St->Hp->Prop)(h0:Pv 0 σ H)
  (hs:∀i σ H,i < n->Pv i σ H->g (.int (lo+i)) σ H λσ2 H2=>tb { D with nx:=Pv (i+1),ct:=Pv (i+1),bk:=D.nx } σ2 H2)(hd:∀σ H,Pv n σ H->D.nx σ H) :
  ∃W:Nat->Nat->St->Hp->Prop,(∃m,W 0 m σ H)/\∀i m σ H,W i m σ H ->
   ((NH lo n).stop i H/\D.nx σ H)\/((NH lo n).go i H/\∃N:St->Hp->Prop,(∀σ' H',N σ' H'->∃m',m' < m/\W (i+1) m' σ' H')/\∀x H',(NH lo n).kX i H x H'->g x σ H' λσ2 H2=>tb { D with nx:=N,ct:=N,bk:=D.nx } σ2 H2):=by
 refine⟨λi m σ H=>m=n - i/\i<=n/\Pv i σ H,⟨n,by simp,g9 _,h0⟩,?_⟩;rintro i m σ H ⟨rfl,hi,p⟩;by_cases jI:i < n
 .refine .inr ⟨jI,Pv (i+1),λσ' H' p'=>⟨n - (i+1),∅,rfl,jI,p'⟩,λx H' y=>?_⟩;obtain⟨e,y⟩:=y;subst e y;exact hs i σ _ jI p
 have e:i=n:=by omega
 subst e;exact .inl ⟨aE _,hd σ H p⟩
abbrev R2:=V->V->Hp->VK->Prop
def jM (X:Cx)(f:Value->Value->Sem Value)(r:R2):Prop :=
 ∀(ag:List (Addr×Obj))(s:Shared)(σ:St)(H:Hp)(x y:V)(v u:Value)(Q:VK),Inv X ag σ H s->RelV x v->RelV y u->r x y H Q ->
  wpAny (model X.prog X.w) X.A (f v u) (EP X ag σ Q) X.xe s
def Wa (X:Cx)(f:Value->Sem Value)(r:V->Hp->VK->Prop):Prop :=
 ∀(ag:List (Addr×Obj))(s:Shared)(σ:St)(H:Hp)(x:V)(v:Value)(Q:VK),Inv X ag σ H s->RelV x v->r x H Q ->
  wpAny (model X.prog X.w) X.A (f v) (EP X ag σ Q) X.xe s
def fC (X:Cx)(f:Value)(r:List V->Hp->VK->Prop):Prop :=
 ∀(ag:List (Addr×Obj))(s:Shared)(σ:St)(H:Hp)(xs:List V)(us:List Value)(Q:VK),Inv X ag σ H s->a_ xs us->r xs H Q ->
  wpAny (model X.prog X.w) X.A (call f us) (EP X ag σ Q) X.xe s
def Wb (X:Cx)(r:V->Hp->(Bool->Hp->Prop)->Prop):Prop :=
 ∀(ag:List (Addr×Obj))(s:Shared)(σ:St)(H:Hp)(x:V)(v:Value)(Q:Bool->Hp->Prop),Inv X ag σ H s->RelV x v->r x H Q ->
  wpAny (model X.prog X.w) X.A (truthy v) (TP X ag σ Q) X.xe s
def QX (r:R2)(ta tb:TE):TE:=λσ H Q=>ta σ H λx H1=>tb σ H1 λy H2=>r x y H2 Q
def ZI (r:V->Hp->VK->Prop)(ta:TE):TE:=λσ H Q=>ta σ H λx H1=>r x H1 Q
def rI (C:Int->Int->Prop)(g:Int->Int->V):R2:=λx y H Q=>Zl x y C λi j=>Q (g i j) H
def KW (g:Int->Int->V):R2:=λx y H Q=>Zm x y λi j=>Q (g i j) H
def rU (g:Int->V):V->Hp->VK->Prop:=λx H Q=>V7 x λi=>Q (g i) H
section
variable {X:Cx}{a b c:Expr}{ta tb tc:TE}{pos:Pos}
def MD (ha:PE X a ta)(hb:PE X b tb){ag:List (Addr×Obj)}{s:Shared}{σ:St}{H:Hp}{R:V->V->Hp->Prop}(I:Inv X ag σ H s)
  (h:ta σ H λx H1=>tb σ H1 λy H2=>R x y H2){Q:Value->Shared->Prop}{f:Value->Value->Sem Value}
  (hf:∀v u s2 x y H2,Inv X ag σ H2 s2->RelV x v->RelV y u->R x y H2->wpAny (model X.prog X.w) X.A (f v u) Q X.xe s2) :
  wpAny (model X.prog X.w) X.A (eval a X.env) (λv s₁=>wpAny (model X.prog X.w) X.A (eval b X.env) (λu s₂=>wpAny (model X.prog X.w) X.A (f v u) Q X.xe s₂) X.xe s₁) X.xe s:=by
 refine cW (ha ag s σ H _ I h) λv s1 bF=>?_;obtain⟨x,H1,I1,r1,q1⟩:=bF;refine cW (hb ag s1 σ H1 _ I1 q1) λu s2 bF=>?_;obtain⟨y,H2,I2,r2,q2⟩:=bF;exact hf v u s2 x y H2 I2 r1 r2 q2
def aN {op:Operator}{r:R2}(ho:jM X (binaryOp op) r)(ha:PE X a ta)(hb:PE X b tb):PE X (.BinOp a op b pos) (QX r ta tb):=by
 intro ag s σ H Q I h;exact wpAny_BinOp (MD ha hb I h λv u s2 x y H2 I2 rx ry q=>ho ag s2 σ H2 x y v u Q I2 rx ry q)
def xq {op:UnaryOp}{r:V->Hp->VK->Prop}(ho:Wa X (unaryOp op) r)(ha:PE X a ta):PE X (.UnaryOp op a pos) (ZI r ta):=by
 intro ag s σ H Q I h;refine UnaryOp_ (cW (ha ag s σ H _ I h) λv s1 bF=>?_);obtain⟨x,H1,I1,r1,q1⟩:=bF;exact ho ag s1 σ H1 x v Q I1 r1 q1
def SW {f:Value->Value->Sem Value}{C:Int->Int->Prop}{g:Int->Int->Int}
  (rule:∀(i j:Int)(t u:Tok)(s:Shared)(Q:Value->Shared->Prop)(E:Value->Shared->Prop),C i j->Q (.int (g i j) s.toks) { s with toks:=s.toks+1 }->wpAny (model X.prog X.w) X.A (f (.int i t) (.int j u)) Q E s) :
  jM X f (rI C λi j=>.int (g i j)):=by
 intro ag s σ H x y v u Q I rx ry h;obtain⟨i,j,rfl,rfl,hc,q⟩:=h;obtain⟨t,rfl⟩:=rx;obtain⟨t',rfl⟩:=ry;exact rule i j t t' s _ _ hc ⟨.int (g i j),H,I.tok _,⟨_,rfl⟩,q⟩
def Ox {f:Value->Value->Sem Value}{g:Int->Int->Int}
  (rule:∀(i j:Int)(t u:Tok)(s:Shared)(Q:Value->Shared->Prop)(E:Value->Shared->Prop),Q (.int (g i j) s.toks) { s with toks:=s.toks+1 }->wpAny (model X.prog X.w) X.A (f (.int i t) (.int j u)) Q E s) :
  jM X f (KW λi j=>.int (g i j)):=by
 intro ag s σ H x y v u Q I rx ry h;obtain⟨i,j,rfl,rfl,q⟩:=h;obtain⟨t,rfl⟩:=rx;obtain⟨t',rfl⟩:=ry;exact rule i j t t' s _ _ ⟨.int (g i j),H,I.tok _,⟨_,rfl⟩,q⟩
def K7 {f:Value->Value->Sem Value}{g:Int->Int->Bool}
  (rule:∀(i j:Int)(t u:Tok)(s:Shared)(Q:Value->Shared->Prop)(E:Value->Shared->Prop),Q (.bool (g i j)) s->wpAny (model X.prog X.w) X.A (f (.int i t) (.int j u)) Q E s) :
  jM X f (KW λi j=>.bl (g i j)):=by
 intro ag s σ H x y v u Q I rx ry h;obtain⟨i,j,rfl,rfl,q⟩:=h;obtain⟨t,rfl⟩:=rx;obtain⟨t',rfl⟩:=ry;exact rule i j t t' s _ _ ⟨.bl (g i j),H,I,rfl,q⟩
def Wl (i j:Int):Prop:=0 < j/\j < 1073741824
def MT (i j:Int):Prop:=(-(2 ^ 64) < i/\i < 2 ^ 64)\/(-(2 ^ 64) < j/\j < 2 ^ 64)
def MT.ok {i j:Int}(h:MT i j):IntMulOk i j:=by
 rcases h with ⟨h1,h2⟩ | ⟨h1,h2⟩
 .exact .of_left (intBits_le_64 h1 h2)
 exact .of_right (intBits_le_64 h1 h2)
def d5:jM X (binaryOp .Add) (KW λi j=>.int (i+j)):=Ox λ_ _ _ _ _ _ _ q=>add_int q
def ES:jM X (binaryOp .Sub) (KW λi j=>.int (i - j)):=Ox λ_ _ _ _ _ _ _ q=>sub_int q
def K5:jM X (binaryOp .Mult) (rI MT λi j=>.int (i * j)):=SW λ_ _ _ _ _ _ _ hc q=>mul_int q hc.ok
def dq:jM X (binaryOp .FloorDiv) (rI Wl λi j=>.int (i / j)):=SW λi j _ _ _ _ _ hc q=>by
 have h1:(0:Int) < j:=hc.1;have h2:j < 1073741824:=hc.2;exact floordiv_int ∅ (by rw [Int.fdiv_eq_ediv_of_nonneg i ∅];exact q) (.inl (PyProof.noPylong_small ∅))
def cX:jM X (binaryOp .Mod) (rI (λ_ j=>0 < j) λi j=>.int (i % j)):=SW λi j _ _ _ _ _ hc q=>by
 have h1:(0:Int) < j:=hc;exact mod_int' ∅ (by rw [Int.fmod_eq_emod_of_nonneg i ∅];exact q)
def ZH {f:Value->Sem Value}{g:Int->Int}
  (rule:∀(i:Int)(t:Tok)(s:Shared)(Q:Value->Shared->Prop)(E:Value->Shared->Prop),Q (.int (g i) s.toks) { s with toks:=s.toks+1 }->wpAny (model X.prog X.w) X.A (f (.int i t)) Q E s) :
  Wa X f (rU λi=>.int (g i)):=by
 intro ag s σ H x v Q I rx h;obtain⟨i,rfl,q⟩:=h;obtain⟨t,rfl⟩:=rx;exact rule i t s _ _ ⟨.int (g i),H,I.tok _,⟨_,rfl⟩,q⟩
def qI:Wa X (unaryOp .USub) (rU λi=>.int (-i)):=ZH λ_ _ _ _ _ q=>neg_int q
end
def Od:V->V->Bool
 | .fc,.fc=>true | .fc,.int _=>true | .int _,.fc=>true | .fc,.bl _=>true | .bl _,.fc=>true | .fc,.str _=>true | .str _,.fc=>true
 | .int _,.int _=>true | .bl _,.bl _=>true | .str _,.str _=>true | .Ak _,.Ak _=>true
 | .int _,.str _=>true | .str _,.int _=>true | .bl _,.str _=>true | .str _,.bl _=>true
 | _,_=>false
def Z8:R2:=λx y H Q=>Od x y=true/\Q (.bl (decide (x=y))) H
def Z7:R2:=λx y H Q=>Od x y=true/\Q (.bl (!decide (x=y))) H
def Bv {i j:Int}:decide (V.int i=V.int j)=(i == j):=by
 rw [iY];simp
def F4 {i j:Bool}:decide (V.bl i=V.bl j)=(i == j):=by
 rw [iY];simp
def Bu {i j:Str}:decide (V.str i=V.str j)=(i == j):=by
 rw [iY];simp
def Bw {i j:Array UInt8}:decide (V.Ak i=V.Ak j)=(i.toList == j.toList):=by
 rw [iY];cases i;cases j;simp
section
variable {X:Cx}{a b c:Expr}{ta tb tc:TE}{pos:Pos}
def cy {ag:List (Addr×Obj)}{σ:St}{H:Hp}{s:Shared}{Q:VK}{k k':Bool}(I:Inv X ag σ H s)(q:Q (.bl k) H)(e:k=k'):EP X ag σ Q (.bool k') s:=by
 subst e;exact⟨.bl k,H,I,rfl,q⟩
def i_:jM X (compareOp .Eq) Z8:=by
 intro ag s σ H x y v u Q I rx ry h;obtain⟨hs,q⟩:=h;cases x with
 | fc =>
  cases rx;cases y with
  | fc=>cases ry;exact PySem.EqNone.eq_none_none (cy I q (by simp))
  | bl j=>cases ry;exact PySem.EqNone.eq_none_bool (cy I q (by simp))
  | int j=>obtain⟨t',rfl⟩:=ry;exact PySem.EqNone.eq_none_int (cy I q (by simp))
  | str j=>obtain⟨t',rfl⟩:=ry;exact PySem.EqNone.eq_none_str (cy I q (by simp))
  | _=>exact absurd (show false=true from hs) cU
 | bl i =>
  cases rx;cases y with
  | fc=>cases ry;exact PySem.EqNone.eq_bool_none (cy I q (by simp))
  | bl j=>cases ry;exact eq_bool (cy I q F4)
  | str j=>obtain⟨t',rfl⟩:=ry;exact PySem.EqMixed.eq_bool_str (cy I q (by simp))
  | _=>exact absurd (show false=true from hs) cU
 | int i =>
  obtain⟨t,rfl⟩:=rx;cases y with
  | fc=>cases ry;exact PySem.EqNone.eq_int_none (cy I q (by simp))
  | int j=>obtain⟨t',rfl⟩:=ry;exact eq_int (cy I q Bv)
  | str j=>obtain⟨t',rfl⟩:=ry;exact PySem.EqMixed.eq_int_str (cy I q (by simp))
  | _=>exact absurd (show false=true from hs) cU
 | str i =>
  obtain⟨t,rfl⟩:=rx;cases y with
  | fc=>cases ry;exact PySem.EqNone.eq_str_none (cy I q (by simp))
  | bl j=>cases ry;exact PySem.EqMixed.eq_str_bool (cy I q (by simp))
  | int j=>obtain⟨t',rfl⟩:=ry;exact PySem.EqMixed.eq_str_int (cy I q (by simp))
  | str j=>obtain⟨t',rfl⟩:=ry;exact eq_str (cy I q Bu)
  | _=>exact absurd (show false=true from hs) cU
 | Ak i =>
  obtain⟨t,rfl⟩:=rx;cases y with
  | Ak j=>obtain⟨t',rfl⟩:=ry;exact PySem.W.eq_bytes (cy I q Bw)
  | _=>exact absurd (show false=true from hs) cU
 | _=>cases y <;> exact absurd (show false=true from hs) cU
def ET:jM X (compareOp .NotEq) Z7:=by
 intro ag s σ H x y v u Q I rx ry h;obtain⟨hs,q⟩:=h;cases x with
 | fc =>
  cases rx;cases y with
  | fc=>cases ry;exact PySem.EqNone.ne_none_none (cy I q (by simp))
  | bl j=>cases ry;exact PySem.EqNone.ne_none_bool (cy I q (by simp))
  | int j=>obtain⟨t',rfl⟩:=ry;exact PySem.EqNone.ne_none_int (cy I q (by simp))
  | str j=>obtain⟨t',rfl⟩:=ry;exact PySem.EqNone.ne_none_str (cy I q (by simp))
  | _=>exact absurd (show false=true from hs) cU
 | bl i =>
  cases rx;cases y with
  | fc=>cases ry;exact PySem.EqNone.ne_bool_none (cy I q (by simp))
  | bl j=>cases ry;exact ne_bool (cy I q (congrArg not F4))
  | str j=>obtain⟨t',rfl⟩:=ry;exact PySem.EqMixed.ne_bool_str (cy I q (by simp))
  | _=>exact absurd (show false=true from hs) cU
 | int i =>
  obtain⟨t,rfl⟩:=rx;cases y with
  | fc=>cases ry;exact PySem.EqNone.ne_int_none (cy I q (by simp))
  | int j=>obtain⟨t',rfl⟩:=ry;exact ne_int (cy I q (congrArg not Bv))
  | str j=>obtain⟨t',rfl⟩:=ry;exact PySem.EqMixed.ne_int_str (cy I q (by simp))
  | _=>exact absurd (show false=true from hs) cU
 | str i =>
  obtain⟨t,rfl⟩:=rx;cases y with
  | fc=>cases ry;exact PySem.EqNone.ne_str_none (cy I q (by simp))
  | bl j=>cases ry;exact PySem.EqMixed.ne_str_bool (cy I q (by simp))
  | int j=>obtain⟨t',rfl⟩:=ry;exact PySem.EqMixed.ne_str_int (cy I q (by simp))
  | str j=>obtain⟨t',rfl⟩:=ry;exact ne_str (cy I q (congrArg not Bu))
  | _=>exact absurd (show false=true from hs) cU
 | Ak i =>
  obtain⟨t,rfl⟩:=rx;cases y with
  | Ak j=>obtain⟨t',rfl⟩:=ry;exact PySem.W.ne_bytes (cy I q (congrArg not Bw))
  | _=>exact absurd (show false=true from hs) cU
 | _=>cases y <;> exact absurd (show false=true from hs) cU
def mT:jM X (compareOp .Lt) (KW λi j=>.bl (decide (i < j))):=K7 λ_ _ _ _ _ _ _ q=>lt_int q
def EU:jM X (compareOp .LtE) (KW λi j=>.bl (decide (i<=j))):=K7 λ_ _ _ _ _ _ _ q=>le_int q
def EV:jM X (compareOp .Gt) (KW λi j=>.bl (decide (j < i))):=K7 λ_ _ _ _ _ _ _ q=>gt_int q
def jM.or {f:Value->Value->Sem Value}{r r':R2}(h:jM X f r)(h':jM X f r'):jM X f (λx y H Q=>r x y H Q\/r' x y H Q):=by
 intro ag s σ H x y v u Q I rx ry q;rcases q with q | q
 .exact h ag s σ H x y v u Q I rx ry q
 exact h' ag s σ H x y v u Q I rx ry q
def cg (b:Expr){op:CmpOp}(h:op≠.In:=by decide)(h2:op≠.NotIn:=by decide):behindInMarks op b=false:=by
 have e1:(op == CmpOp.In)=false:=by cases op <;> first | rfl | exact absurd rfl h
 have e2:(op == CmpOp.NotIn)=false:=by cases op <;> first | rfl | exact absurd rfl h2
 cases b <;> simp [behindInMarks,e1,e2]
def dM {op:CmpOp}{r:R2}(ho:jM X (compareOp op) r)(ha:PE X a ta)(hb:PE X b tb)(hm:behindInMarks op b=false):PE X (.Compare a [op] [b] pos) (QX r ta tb):=by
 intro ag s σ H Q I h;exact wpAny_Compare1 (MD ha hb I h λv u s2 x y H2 I2 rx ry q=>ho ag s2 σ H2 x y v u Q I2 rx ry q) hm
def NT (t:TE):TT:=λσ H Q=>t σ H λx H'=>XB x λk=>Q k H'
def a8 {op:CmpOp}{r:R2}(ho:jM X (compareOp op) r)(ha:PE X a ta)(hb:PE X b tb)(hm:behindInMarks op b=false):PT X (.Compare a [op] [b] pos) (NT (QX r ta tb)):=by
 intro ag s σ H Q I h;refine wpAny_isTrue_Compare1 (cW (ha ag s σ H _ I h) λv s1 ⟨x,H1,I1,r1,q1⟩=>cW (hb ag s1 σ H1 _ I1 q1) λu s2 ⟨y,H2,I2,r2,q2⟩ =>
  cW (ho ag s2 σ H2 x y v u _ I2 r1 r2 q2) λc s3 ⟨z,H3,I3,r3,k,e,q3⟩=>?_) hm
 subst e;cases r3;exact ml ⟨H3,I3,q3⟩
def Kn (r r':R2)(ta tb tc:TE):TE:=λσ H Q=>ta σ H λx H1=>tb σ H1 λy H2=>r x y H2 λz H3=>∃k,z=.bl k /\
 (if k=true then tc σ H3 λw' H4=>r' y w' H4 Q else Q (.bl false) H3)
def EM {op SX:CmpOp}{r r':R2}(ho:jM X (compareOp op) r)(Fy:jM X (compareOp SX) r')(ha:PE X a ta)(hb:PE X b tb)(hc:PE X c tc)
  (hm:lastMarks [op,SX] [b,c]=false:=by with_unfolding_all rfl):PE X (.Compare a [op,SX] [b,c] pos) (Kn r r' ta tb tc):=by
 intro ag s σ H Q I h;refine Compare_chain (cW (ha ag s σ H _ I h) λv s1 ⟨x,H1,I1,r1,q1⟩=>chain_link (cW (hb ag s1 σ H1 _ I1 q1) λu s2 ⟨y,H2,I2,r2,q2⟩ =>
  cW (ho ag s2 σ H2 x y v u _ I2 r1 r2 q2) λd s3 ⟨z,H3,I3,r3,k,e,q3⟩=>?_)) hm
 subst e;cases r3;refine ml ?_;cases k with
 | false=>exact ite_ff ⟨.bl false,H3,I3,rfl,q3⟩
 | true=>exact ite_tt (chain_last (cW (hc ag s3 σ H3 _ I3 q3) λw' s4 ⟨z',H4,I4,r4,q4⟩=>Fy ag s4 σ H4 y z' u w' Q I4 r2 r4 q4))
def Gm (K:ba)(x:V)(H:Hp)(k:Bool):Prop :=
 match x with
 | .fc=>k=false
 | .bl b=>k=b
 | .int i=>k=(i != 0)
 | .str y=>y.length<=sizeLine/\k=((y.length:Int) != 0)
 | .Ak y=>y.size<=sizeLine/\k=((y.size:Int) != 0)
 | .ref p=>(∃xs,aK K H p xs/\k=!xs.isEmpty)\/(∃xs,aS K H p xs/\k=!xs.isEmpty)\/∃kvs,H p=some (.dK kvs)/\k=!kvs.isEmpty
 | _=>False
def zU {κ:Type}{kvs:List (κ×V)}{vs:List (κ×Value)}(r:KV kvs vs):(!vs.isEmpty)=!kvs.isEmpty:=by
 cases r <;> rfl
def rh {xs:List V}{aT:List Value}(r:a_ xs aT):(!aT.toArray.isEmpty)=!xs.isEmpty:=by
 cases r <;> simp
def vW:(sizeLine:Nat) < 2 ^ 63:=by rw [sizeLine_eq];decide
def Kh:Wb X (λx H Q=>∃k,Gm X.K x H k/\Q k H):=by
 intro ag s σ H x v Q I rx h;obtain⟨k,e,q⟩:=h;have hl:=vW;have hs:sizeLine=16777216:=sizeLine_eq;cases x with
 | fc =>
  cases rx;have e':k=false:=e;subst e';exact truthy_none ⟨H,I,q⟩
 | bl b =>
  cases rx;have e':k=b:=e;subst e';exact ml ⟨H,I,q⟩
 | int i =>
  obtain⟨t,rfl⟩:=rx;have e':k=(i != 0):=e;subst e';exact PySem.P.truthy_int ⟨H,I,q⟩
 | str y =>
  obtain⟨t,rfl⟩:=rx;obtain⟨hy,e'⟩:y.length<=sizeLine/\k=((y.length:Int) != 0):=e;subst e';exact PySem.P.truthy_str ∅ ⟨H,I.tok _,q⟩
 | Ak y =>
  obtain⟨t,rfl⟩:=rx;obtain⟨hy,e'⟩:y.size<=sizeLine/\k=((y.size:Int) != 0):=e;subst e';exact PySem.W.truthy_bytes ∅ ⟨H,I.tok _,q⟩
 | ref p =>
  cases rx;have e':(∃xs,aK X.K H p xs/\k=!xs.isEmpty)\/(∃xs,aS X.K H p xs/\k=!xs.isEmpty)\/∃kvs,H p=some (.dK kvs)/\k=!kvs.isEmpty:=e;rcases e' with ⟨xs,hx,e'⟩ | ⟨xs,hx,e'⟩ | ⟨kvs,hx,e'⟩
  .subst e';obtain⟨aT,r,pl,hz⟩:=I.list hx;have bM:=r.length;exact wpAny_truthy_list pl.isList (by simp only [cP];omega) ⟨H,I.tok _,by rw [rh r];exact q⟩
  .subst e';obtain⟨aT,r,pl,hz⟩:=I.tuple hx;have bM:=r.length;exact truthy_tuple pl (by simp only [cP];omega) ⟨H,I.tok _,by rw [rh r];exact q⟩
  subst e';obtain⟨hz,hS,vs,r,m⟩:kvs.length<=sizeLine/\(p == sysModules)=false/\∃vs,KV kvs vs/\s.heap.DictOf (bf X.prog X.w) p vs:=I.b8 p _ hx;have bM:kvs.length=vs.length:=a0 r;exact wpAny_truthy_dict hS m ∅ ⟨H,I.tok _,by rw [zU r];exact q⟩
 | _=>exact(show False from e).elim
def i7 (ha:PE X a ta)(he:∀whole,isTrue a X.env whole=(do let v <-whole;standAt a.pos;holding [v] (truthy v))) :
  PT X a (λσ H Q=>ta σ H λx H'=>∃k,Gm X.K x H' k/\Q k H'):=by
 intro ag s σ H Q I h;refine isTrue_plain (cW (ha ag s σ H _ I h) λv s1 bF=>?_) (he _);obtain⟨x,H1,I1,r1,q1⟩:=bF;exact Kh ag s1 σ H1 x v Q I1 r1 q1
def fh:jM X (binaryOp .Add) (λx y H Q=>∃i j,x=.str i/\y=.str j/\i.length+j.length<=sizeLine/\Q (.str (i++j)) H):=by
 intro ag s σ H x y v u Q I rx ry h;obtain⟨i,j,rfl,rfl,hz,q⟩:=h;obtain⟨t,rfl⟩:=rx;obtain⟨t',rfl⟩:=ry;exact add_str (λt' tk=>⟨.str (i++j),H,I.tok _,⟨_,rfl⟩,q⟩) hz
def vals1 {x:V}{us:List Value}(r:a_ [x] us):∃u,us=[u]/\RelV x u:=by
 cases r with
 | cons r1 r2=>cases r2;exact⟨_,rfl,r1⟩
def vals2 {x y:V}{us:List Value}(r:a_ [x,y] us):∃u w',us=[u,w']/\RelV x u/\RelV y w':=by
 cases r with
 | cons r1 r2 =>
  cases r2 with
  | cons r3 r4=>cases r4;exact⟨_,_,rfl,r1,r3⟩
def uB (hc:X.calm=true):fC X (.builtin "max") (λxs H Q=>∃i j,xs=[.int i,.int j]/\Q (.int (if j > i then j else i)) H):=by
 intro ag s σ H xs us Q I r h;obtain⟨i,j,rfl,q⟩:=h;obtain⟨u,w',rfl,⟨t,rfl⟩,⟨t',rfl⟩⟩:=vals2 r;refine max_two_ints (I.ok.hd hc) λh' tk k=>⟨_,H,I.kept k,?_,q⟩;by_cases hj:j > i
 .rw [ar hj,ar hj];exact⟨_,rfl⟩
 rw [au hj,au hj];exact⟨_,rfl⟩
def CU (hc:X.calm=true):fC X (.builtin "min") (λxs H Q=>∃i j,xs=[.int i,.int j]/\Q (.int (if j < i then j else i)) H):=by
 intro ag s σ H xs us Q I r h;obtain⟨i,j,rfl,q⟩:=h;obtain⟨u,w',rfl,⟨t,rfl⟩,⟨t',rfl⟩⟩:=vals2 r;refine min_two_ints (I.ok.hd hc) λh' tk k=>⟨_,H,I.kept k,?_,q⟩;by_cases hj:j < i
 .rw [ar hj,ar hj];exact⟨_,rfl⟩
 rw [au hj,au hj];exact⟨_,rfl⟩
def d6:fC X (.type "str") (λxs H Q=>∃i,xs=[.int i]/\i.natAbs.log2 < 1920/\Q (.str (toString i)) H):=by
 intro ag s σ H xs us Q I r h;obtain⟨i,rfl,hz,q⟩:=h;obtain⟨u,rfl,t,rfl⟩:=vals1 r;exact PySem.P.str_of_int hz ⟨.str _,H,I.tok _,⟨_,rfl⟩,q⟩
end
structure As (h:Heap)(x dx C:Addr)(mA:Str->Option Value):Prop where
 obj:h.get? x=some (PySem.W.instObj C dx)
 ns:h.Ns1 dx mA
 ne:dx≠x
def Co {h:Heap}{dx:Addr}{mA:Str->Option Value}(n:h.Ns1 dx mA):∃od,h.get? dx=some od/\∀name,PySem.W.lookIn name od=some (mA name):=by
 obtain⟨o,es,ep,ho,hd,hk,_,hm⟩:=n;refine⟨o,ho,λname=>?_⟩;have e:=hm name;unfold nsFind findBy at e;rw [<-Array.find?_toList] at e;unfold PySem.W.lookIn;rw [hd];dsimp only
 split
 .rename_i y q
  rw [q] at e;exact congrArg some e
 rename_i q
 rw [q] at e;have a:es.toList.any (·.refKey)=false:=by
  rw [List.any_eq_false];intro y hy;obtain⟨z,t,Uy⟩:=hk y (Array.mem_toList_iff.mp hy);simp [DictEntry.refKey,Uy]
 have a':¬es.toList.any (·.refKey)=true:=by rw [a];exact cU
 rw [au a'];exact congrArg some e
def As.look {h:Heap}{x dx C:Addr}{mA:Str->Option Value}(I:As h x dx C mA):∃od,PySem.W.InstAt h x (PySem.W.instObj C dx) C (some od)/\∀name,PySem.W.lookIn name od=some (mA name) :=
 let ⟨od,ho,hl⟩:=Co I.ns
 ⟨od,⟨I.obj,rfl,rfl,ho⟩,hl⟩
section
variable {prog:Program}{w:World}{A:Around}{E:Value->Shared->Prop}{s:Shared}{K:ba}{x dx C f:Addr}{mA:Str->Option Value}{name:Str}{v:Value}
def get_map {expr:Bool}{Q:Value->Shared->Prop}(X:K.In s.heap)(I:As s.heap x dx C mA)(hg:PySem.W.plainGet K C name=true)(hh:PySem.W.hasDictIn K C=true)
  (ha:PySem.W.findIn K (.ref C) name=some none)(hv:mA name=some v)(hv':PySem.W.handedIn v=true)(h:Q v { s with toks:=s.toks+1 }) :
  wpAny (model prog w) A (getAttr (.ref x) name expr) Q E s:=by
 obtain⟨od,J,hl⟩:=I.look;exact PySem.W.get_value X J (PySem.W.plainGet_of hg).1 (PySem.W.findObj_own hh ha rfl (by rw [hl,hv])) hv' h
def FK {pl:Sem Bool}{Q:Value×List Value->Shared->Prop}(X:K.In s.heap)(I:As s.heap x dx C mA)(hg:PySem.W.plainGet K C name=true)
  (hf:PySem.W.findIn K (.ref C) name=some (some (.ref f)))(ht:PySem.W.isFn K (.ref f)=true)(hv:mA name=none)(h:Q (.ref f,[.ref x]) s) :
  wpAny (model prog w) A (getMethod (.ref x) name pl) Q E s:=by
 obtain⟨od,J,hl⟩:=I.look;exact PySem.W.method_fn X J (PySem.W.plainGet_of hg).1 (PySem.W.plainGet_of hg).2 hf (beq_iff_eq.mp ht) (by show (PySem.W.lookIn name od).map (·.isSome)=some false;rw [hl,hv];rfl) h
def Hk {ns:List Str}{Q:Unit->Shared->Prop}(X:K.In s.heap)(I:As s.heap x dx C mA)
  (hs:PySem.W.findIn K (.ref C) "__setattr__"=some (some (.builtin "object.__setattr__")))(hp:PySem.W.plainOver K C=true)(ht:PySem.W.takerIn K C name=some none)(hh:PySem.W.hasDictIn K C=true)
  (hw:PySem.Within mA ns)(hsz:ns.length<=sizeLine)
  (h:∀h',As h' x dx C (λy=>if y=name then some v else mA y)->Heap.SameBut dx s.heap h'->Q () { s with heap:=h',toks:=s.toks+2 }) :
  wpAny (model prog w) A (setAttr (.ref x) name v) Q E s:=by
 obtain⟨od,J,hl⟩:=I.look;refine PySem.W.set_plain X J hs (PySem.W.osa_open (s:={ s with toks:=s.toks+1 }) (r:=none) X J hp ht λb=>?_);obtain⟨cd,hc,CA⟩:=PySem.W.any_some hh;have hx:s.heap.get? x=some ⟨.ref C,some dx,.plain,#[]⟩:=I.obj;refine aD (aR (aD (aD (wpAny_loadPart hx (aD (PySem.W.Looks.here (s:={ s with toks:=s.toks+1 }) (PySem.W.looks_clsIn X hc) ?_))))));rw [CA];refine aR (a:=some dx) (aD (aR (aD ?_)));refine wpAny_nsSet1 (s:={ s with toks:=s.toks+1 }) I.ns λh' FA XM=>?_;obtain⟨oD,esD,epD,hoD,hdD,hcD⟩:=FA.count (PySem.Within.cons name v hw);refine aD (wpAny_lookBehind hoD (by rw [hdD];exact pastItsLine_dict (ff hcD (by rw [dG];omega))) ?_);exact aR (h _ ⟨(XM.2 _ (gq I.ne)).trans I.obj,FA,I.ne⟩ XM)
def Fj {R:Result->Shared->Prop}{vs:List Value}{kw:List (Str×Value)}(X:K.In s.heap)(hm:PySem.W.makesIn K C=true)
  (hi:PySem.W.findIn K (.ref C) "__init__"=some (some (.ref f)))(hf:PySem.W.typeIn K (.ref f)=some (.type "function"))
  (h:codeAny (model prog w) (A.under (.builtin "type.__call__" ⟨.ref C::vs,kw⟩)) (.call (.ref f) ⟨.ref (s.heap.objs.size+1)::vs,kw⟩) (PySem.W.InitBack (s.heap.objs.size+1) R)
   { s with heap:=(s.heap.push PySem.W.emptyDict).push (PySem.W.instObj C s.heap.objs.size) }) :
  codeAny (model prog w) A (.call (.ref C) ⟨vs,kw⟩) R s:=by
 obtain⟨hh,g,d,t,os⟩:=s;exact PySem.W.make_core (PySem.W.makes_of X hm) (PySem.W.looks_findIn X hi) (λself=>PySem.W.bind_fn X self hf) (.inl rfl) h
end
def dQ (f:Str)(v:V):List (Str×V)->List (Str×V)
 | []=>[(f,v)]
 | (g,x)::r=>if g=f then (g,v)::r else (g,x)::dQ f v r
theorem o7 (f g:Str)(v:V):∀fs:List (Str×V),(dQ f v fs).lookup g=if g=f then some v else fs.lookup g
 | []=>by
  show List.lookup g [(f,v)]=_;by_cases h:g=f
  .have hb:(g == f)=true:=beq_iff_eq.mpr h;simp only [List.lookup,hb,ar h]
  have hb:(g == f)=false:=jR.mpr h;simp only [List.lookup,hb,au h]
 | (k,x)::r=>by
  have ih:=o7 f g v r;rw [show dQ f v ((k,x)::r)=(if k=f then (k,v)::r else (k,x)::dQ f v r) from rfl];by_cases hk:k=f
  .rw [ar hk];by_cases h:g=k
   .have hb:(g == k)=true:=beq_iff_eq.mpr h;simp only [List.lookup,hb,ar (h.trans hk)]
   have hb:(g == k)=false:=jR.mpr h;simp only [List.lookup,hb,au (λe:g=f=>h (e.trans hk.symm))]
  rw [au hk];by_cases h:g=k
  .have hb:(g == k)=true:=beq_iff_eq.mpr h;simp only [List.lookup,hb,au (λe:g=f=>hk (h.symm.trans e))]
  have hb:(g == k)=false:=jR.mpr h;simp only [List.lookup,hb];exact ih
theorem oI (f:Str)(v:V):∀fs:List (Str×V),f∈(dQ f v fs).map (·.1)/\∀g,g∈fs.map (·.1)->g∈(dQ f v fs).map (·.1)
 | []=>⟨by simp [dQ],λg h=>by simp at h⟩
 | (k,x)::r=>by
  obtain⟨i1,i2⟩:=oI f v r;rw [show dQ f v ((k,x)::r)=(if k=f then (k,v)::r else (k,x)::dQ f v r) from rfl];by_cases hk:k=f
  .rw [ar hk];subst hk;exact⟨by simp,λg h=>by simpa using h⟩
  rw [au hk];refine⟨?_,λg h=>?_⟩
  .rw [cA];exact bW _ i1
  rw [cA] at h ⊢;rcases bR.mp h with e | e
  .exact bR.mpr (.inl e)
  exact bW _ (i2 g e)
theorem o8 (f:Str)(v:V):∀fs:List (Str×V),(dQ f v fs).length<=fs.length+1
 | []=>by simp [dQ]
 | (k,x)::r=>by
  have ih:=o8 f v r;rw [show dQ f v ((k,x)::r)=(if k=f then (k,v)::r else (k,x)::dQ f v r) from rfl];by_cases hk:k=f
  .rw [ar hk,dG,dG];omega
  rw [au hk,dG,dG];omega
def jB.some_of {v:V}{o:Option Value}(r:jB (some v) o):∃u,o=some u/\RelV v u:=by
 cases o with
 | none=>exact(show False from r).elim
 | some u=>exact⟨u,rfl,r⟩
def jB.none_of {o:Option Value}(r:jB none o):o=none:=by
 cases o with
 | none=>rfl
 | some u=>exact(show False from r).elim
def CB {v:V}{u:Value}(r:RelV v u):PySem.W.handedIn u=true:=by
 cases v with
 | fc=>cases (show u=Value.none from r);rfl
 | bl b=>cases (show u=Value.bool b from r);rfl
 | int i=>obtain⟨t,e⟩:=(show ∃t,u=Value.int i t from r);cases e;rfl
 | str x=>obtain⟨t,e⟩:=(show ∃t,u=Value.str x t from r);cases e;rfl
 | Ak b=>obtain⟨t,e⟩:=(show ∃t,u=Value.bytes b t from r);cases e;rfl
 | Mf b=>obtain⟨t,e⟩:=(show ∃t,u=Value.float b t from r);cases e;rfl
 | ref a=>cases (show u=Value.ref a from r);rfl
 | ty n=>cases (show u=Value.type n from r);rfl
section
variable {P:Program}{w:World}{H H':Hp}{h h':Heap}{a C dx:Addr}{fs G6:List (Str×V)}
def vZ (b8:kT P w H h)(e:H a=some (.ins C dx fs)):∃mA,As h a dx C mA/\(∀f,jB (fs.lookup f) (mA f))/\PySem.Within mA (fs.map (·.1))/\fs.length<=1000/\H dx=some (.own a):=by
 obtain⟨d,z,ne,ob,mA,n,r,q⟩:=(show cJ P w H h a (.ins C dx fs) from b8 a _ e);exact⟨mA,⟨ob,n,ne⟩,r,q,z,d⟩
end
structure Dd (K:ba)(C:Addr):Prop where
 pg:PySem.W.plainGet K C Str.empty=true
 hd:PySem.W.hasDictIn K C=true
 po:PySem.W.plainOver K C=true
 sa:PySem.W.findIn K (.ref C) "__setattr__"=some (some (.builtin "object.__setattr__"))
def Dd.get {K:ba}{C:Addr}(c:Dd K C)(f:Str):PySem.W.plainGet K C f=true:=c.pg
def dW (K:ba)(C:Addr)(f:Str):Prop:=PySem.W.findIn K (.ref C) f=some none
def dW.NR {K:ba}{C:Addr}{f:Str}(n:dW K C f):PySem.W.takerIn K C f=some none:=by
 unfold PySem.W.takerIn;rw [show PySem.W.findIn K (.ref C) f=some none from n];rfl
structure Con (K:ba)(C:Addr)(f:Str)(v:V)(u:Value):Prop where
 at_:PySem.W.findIn K (.ref C) f=some (some u)
 rel:RelV v u
 get:PySem.W.specialIn K u "__get__"=some none
 cp:PySem.W.copiedNames.contains f=false
structure Meth (K:ba)(C:Addr)(m:Str)(f:Addr):Prop where
 at_:PySem.W.findIn K (.ref C) m=some (some (.ref f))
 fn:PySem.W.isFn K (.ref f)=true
 kp:PySem.W.keepIn K (.ref f)=true
section
variable {X:Cx}{ag:List (Addr×Obj)}{σ:St}{H:Hp}{s:Shared}{a C dx:Addr}{fs:List (Str×V)}{f:Str}{v:V}{A:Around}{E:Value->Shared->Prop}
def z8 {b:Bool}{Q:Value->Shared->Prop}(I:Inv X ag σ H s)(e:H a=some (.ins C dx fs))(c:Dd X.K C)(n:dW X.K C f)(l:fs.lookup f=some v)
  (h:∀u s',Inv X ag σ H s'->RelV v u->Q u s'):wpAny (model X.prog X.w) A (getAttr (.ref a) f b) Q E s:=by
 obtain⟨mA,O,r,_,_,_⟩:=vZ I.b8 e;obtain⟨u,hu,ru⟩:=jB.some_of (v:=v) (o:=mA f) (by rw [<-l];exact r f);exact get_map I.uf O (c.get f) c.hd n hu (CB ru) (h u _ (I.tok _) ru)
def rq {m:Str}{g:Addr}{pl:Sem Bool}{Q:Value×List Value->Shared->Prop}(I:Inv X ag σ H s)(e:H a=some (.ins C dx fs))(c:Dd X.K C)(k:Meth X.K C m g)(l:fs.lookup m=none)
  (h:Q (.ref g,[.ref a]) s):wpAny (model X.prog X.w) A (getMethod (.ref a) m pl) Q E s:=by
 obtain⟨mA,O,r,_,_,_⟩:=vZ I.b8 e;have hn:mA m=none:=jB.none_of (by rw [<-l];exact r m);exact FK I.uf O (c.get m) k.at_ k.fn hn h
def yS {y:V}{u:Value}{Q:Unit->Shared->Prop}(I:Inv X ag σ H s)(e:H a=some (.ins C dx fs))(c:Dd X.K C)(n:dW X.K C f)(hl:fs.length < 1000)(ry:RelV y u)
  (h:∀s',Inv X ag σ (upd H a (.ins C dx (dQ f y fs))) s'->Q () s'):wpAny (model X.prog X.w) A (setAttr (.ref a) f u) Q E s:=by
 obtain⟨mA,O,r,wi,_,ho⟩:=vZ I.b8 e;have hz:(fs.map (·.1)).length<=sizeLine:=by rw [ax,sizeLine_eq];omega
 refine Hk I.uf O c.sa c.po n.NR c.hd wi hz λh' O' sb=>h _ ?_;have hd:∃o,h'.get? dx=some o:=let ⟨o,_,_,e',_⟩:=O'.ns;⟨o,e'⟩;refine I.write (x:=a) (e:=dx) (by rw [e];exact True.intro) (.inr ho) (λb q hb z=>(sb.2 b hb).trans z) hd ?_;refine⟨by rw [ak O.ne];exact ho,?_,O.ne,O'.obj,_,O'.ns,λg=>?_,λg hg=>?_⟩
 .have:=o8 f y fs;omega
 .show jB ((dQ f y fs).lookup g) (if g=f then some u else mA g);rw [o7];by_cases q:g=f
  .rw [ar q,ar q];exact ry
  rw [au q,au q];exact r g
 by_cases q:g=f
 .rw [q];exact(oI f y fs).1
 refine(oI f y fs).2 g (wi g λz=>hg ?_);show (if g=f then some u else mA g)=none;rw [au q];exact z
def Inv.made (I:Inv X ag σ H s):Inv X ag σ (upd (upd H s.heap.objs.size (.own (s.heap.objs.size+1))) (s.heap.objs.size+1) (.ins C s.heap.objs.size []))
  { s with heap:=(s.heap.push PySem.W.emptyDict).push (PySem.W.instObj C s.heap.objs.size) }:=by
 have e1:(s.heap.push PySem.W.emptyDict).get? s.heap.objs.size=some PySem.W.emptyDict:=dH s.heap rfl;have e2:((s.heap.push PySem.W.emptyDict).push (PySem.W.instObj C s.heap.objs.size)).get? (s.heap.objs.size+1)=some (PySem.W.instObj C s.heap.objs.size):=by
  have:=dH (s.heap.push PySem.W.emptyDict) (o:=PySem.W.instObj C s.heap.objs.size) rfl;rwa [nQ] at this
 have e3:(s.heap.push PySem.W.emptyDict).Ns s.heap.objs.size (λ_=>none):=⟨PySem.W.emptyDict,#[],_,e1,rfl,(λe he=>absurd he (by simp)),λ_=>rfl⟩;have I1:=I.laid (a:=s.heap.objs.size) (o:=.own (s.heap.objs.size+1)) (h':=s.heap.push PySem.W.emptyDict) (t':=s.toks) (λb u q=>cx _ q) (aE _) ⟨_,e1⟩;refine I1.laid (a:=s.heap.objs.size+1) (o:=.ins C s.heap.objs.size []) (t':=s.toks) (λb u q=>cx _ q) (Nat.le_of_eq (nQ _ _)) ?_;have ne:s.heap.objs.size≠s.heap.objs.size+1:=bX (oX _);refine⟨by rw [ak ne,ae],g9 _,ne,e2,λ_=>none,(Heap.Ns1.of_empty e3).at λo q=>cx _ q,λ_=>True.intro,λy hy=>absurd rfl hy⟩
def IM {prog:Program}{w:World}{env:Env}{e:Expr}{f:Str}{pos:Pos}{s:Shared}{Q:Value->Shared->Prop}(hb:attributeBase e f env (eval e env)=eval e env)
  (h:wpAny (model prog w) A (eval e env) (λo s₁=>wpAny (model prog w) A (getAttr o f true) Q E s₁) E s):wpAny (model prog w) A (eval (.Attribute e f pos) env) Q E s :=
 Attribute_any_ h (by rw [arm_eval_Attribute,hb])
end
inductive Qz (K:ba)(H:Hp)(f:Str)(x:V)(R:V->Prop):Prop
|mk(a C dx:Addr)(fs:List (Str×V))(v:V)(e:x=.ref a)(h:H a=some (.ins C dx fs))(c:Dd K C)(n:dW K C f)(l:fs.lookup f=some v)(q:R v)
inductive Zh (K:ba)(H:Hp)(f:Str)(x:V)(R:Addr->Addr->Addr->List (Str×V)->Prop):Prop
|mk(a C dx:Addr)(fs:List (Str×V))(e:x=.ref a)(h:H a=some (.ins C dx fs))(c:Dd K C)(n:dW K C f)(l:fs.length < 1000)(q:R a C dx fs)
def Ss (K:ba)(ta:TE)(f:Str):TE:=λσ H Q=>ta σ H λx H1=>Qz K H1 f x λv=>Q v H1
def SH (K:ba)(ta tv:TE)(f:Str):TS:=λD σ H=>tv σ H λy H1=>ta σ H1 λx H2=>Zh K H2 f x λa C dx fs=>D.nx σ (upd H2 a (.ins C dx (dQ f y fs)))
section
variable {X:Cx}{o e value:Expr}{f:Str}{pos pos' ve:Pos}{ta tv:TE}
def d0 (he:PE X e ta)(hb:attributeBase e f X.env (eval e X.env)=eval e X.env):PE X (.Attribute e f pos) (Ss X.K ta f):=by
 intro ag s σ H Q I h;refine IM hb (cW (he ag s σ H _ I h) λu s1 bF=>?_);obtain⟨x,H1,I1,rx,a,C,dx,fs,v,ex,ea,c,n,l,q⟩:=bF;subst ex;obtain rfl:u=Value.ref a:=rx;exact z8 I1 ea c n l λu' s2 I2 ru=>⟨v,H1,I2,ru,q⟩
def gJ (ha:PE X o ta)(hv:PE X value tv)(hs:swapsWith value (some (.Attribute o f pos')) pos.line X.env=pure false):PS X (.Assign [.Attribute o f pos'] value pos) (SH X.K ta tv f):=by
 intro ag s σ H D I h;refine plainObj_wpAny_Assign_Attribute (cW (hv ag s σ H _ I h) λu s1 bF=>?_) hs;obtain⟨y,H1,I1,ry,q⟩:=bF;refine cW (ha ag s1 σ H1 _ I1 q) λov s2 bF=>?_;obtain⟨x,H2,I2,rx,a,C,dx,fs,ex,ea,c,n,l,q2⟩:=bF;subst ex;obtain rfl:ov=Value.ref a:=rx;exact yS I2 ea c n l ry λs3 I3=>⟨σ,_,I3,q2⟩
def Js {pl:Sem Bool}{m:Str}{apos:Pos}{args:List Expr}{ag:List (Addr×Obj)}{s:Shared}{σ:St}{H:Hp}{Q:Value->Shared->Prop}{te:TE}(he:PE X e te)(I:Inv X ag σ H s)
  (h:te σ H λx H1=>∃a C dx fs g,x=.ref a/\H1 a=some (.ins C dx fs)/\Dd X.K C/\Meth X.K C m g/\fs.lookup m=none /\
   ∀s1,Inv X ag σ H1 s1->wpAny (model X.prog X.w) X.A (callWith pos (.ref g) [.ref a] (backTo pos (starEach args X.env)) (backToKw pos (keywordEach [] X.env))) Q X.xe s1)
  (ht:eval (.Call (.Attribute e m apos) args [] pos) X.env=(do
   let ov <-eval e X.env
   standAt apos.atName
   let (f,first) <-holding [ov] (getMethod ov m pl)
   callWith pos f first (backTo pos (starEach args X.env)) (backToKw pos (keywordEach [] X.env)))) :
  wpAny (model X.prog X.w) X.A (eval (.Call (.Attribute e m apos) args [] pos) X.env) Q X.xe s:=by
 refine PySem.W.methodCall_KW (pl:=pl) (cW (he ag s σ H _ I h) λu s1 bF=>?_) ht;obtain⟨x,H1,I1,rx,a,C,dx,fs,g,ex,ea,c,k,l,q⟩:=bF;subst ex;obtain rfl:u=Value.ref a:=rx;exact rq I1 ea c k l (q s1 I1)
end
section
variable {X:Cx}{ag:List (Addr×Obj)}{σ:St}{H:Hp}{s:Shared}{A:Around}{E:Value->Shared->Prop}{Q:Value->Shared->Prop}{c:Value}{b:Bool}
inductive sj (K:ba)(H:Hp):V->Value->Prop where
 | fc:sj K H .fc (.type "NoneType")
 | bl (x:Bool):sj K H (.bl x) (.type "bool")
 | int (i:Int):sj K H (.int i) (.type "int")
 | str (x:Str):sj K H (.str x) (.type "str")
 | Mf (x:UInt64):sj K H (.Mf x) (.type "float")
 | lst {a:Addr}{xs:List V}(e:H a=some (.lst xs)):sj K H (.ref a) (.type "list")
 | jN {a:Addr}{o:Obj}{xs:List V}(e:H a=some (.jN o (.lst xs))):sj K H (.ref a) (.type "list")
 | tup {a:Addr}{xs:List V}(e:H a=some (.tup xs)):sj K H (.ref a) (.type "tuple")
 | dK {a:Addr}{kvs:List (aL×V)}(e:H a=some (.dK kvs)):sj K H (.ref a) (.type "dict")
 | dT {a:Addr}{kvs:List (List aL×V)}(e:H a=some (.dT kvs)):sj K H (.ref a) (.type "dict")
 | ins {a C dx:Addr}{fs:List (Str×V)}(e:H a=some (.ins C dx fs))(cl:Dd K C)(ha:PySem.W.findIn K (.ref C) "__class__"=some (some (.builtin "object.__class__")))
   (hn:PySem.W.specialIn K (.builtin "object.__class__") "__get__"=some (some (.builtin "getset_descriptor.__get__")))(htk:PySem.W.takesIn K (.builtin "object.__class__")=some true)
   (hm:PySem.W.mroIn K C (.type "object")=some true):sj K H (.ref a) (.ref C)
end
structure eZ (k:Nat)(A:Around):Prop where
 hd:A.handled=none
 dp:A.depth+3 * k+5 < recursionLimit
 un:A.units+16 * k+200 < cLine
def eZ.mono {j k:Nat}{A:Around}(r:eZ k A)(h:j<=k):eZ j A:=⟨r.hd,by have:=r.dp;omega,by have:=r.un;omega⟩
theorem eZ.deeper {k:Nat}{A:Around}(r:eZ (k+1) A)(env:Env):eZ k (A.deeper env) :=
 ⟨r.hd,by have:=r.dp;show A.depth+1+3 * k+5 < _;omega,by have:=r.un;show A.units+3+16 * k+200 < _;omega⟩
theorem eZ.in1 {k:Nat}{A:Around}(r:eZ (k+1) A):eZ k A.in1 :=
 ⟨r.hd,by have:=r.dp;show A.depth+3 * k+5 < _;omega,by have:=r.un;show A.units+1+16 * k+200 < _;omega⟩
def zL {A:Around}{C:Addr}{us:List Value}{kw:List (Str×Value)}:(A.under (.builtin "type.__call__" ⟨.ref C::us,kw⟩)).depth=A.depth+1:=by
 first | rfl | simp [Around.under,Code.weight,Code.isCreation,Code.isGuard,Code.isCaller,Code.frames,Code.isFrame,guardIds]
def zK {A:Around}{C:Addr}{us:List Value}{kw:List (Str×Value)}:(A.under (.builtin "type.__call__" ⟨.ref C::us,kw⟩)).units=A.units+1:=by
 first | rfl | simp [Around.under,Code.cUnits,Code.frames,Code.isFrame]
def eZ.make {k:Nat}{A:Around}(r:eZ (k+1) A)(C:Addr)(us:List Value)(kw:List (Str×Value)):eZ k (A.under (.builtin "type.__call__" ⟨.ref C::us,kw⟩)) :=
 ⟨r.hd,by have:=r.dp;rw [zL];omega,by have:=r.un;rw [zK];omega⟩
theorem eZ.depth {k:Nat}{A:Around}(r:eZ k A):A.depth < recursionLimit:=by have:=r.dp;omega
theorem eZ.units {k:Nat}{A:Around}(r:eZ k A):A.units+64 < cLine:=by have:=r.un;omega
def qJ:TA:=λ_ H Q=>Q [] H
def gH (ta:TE)(tr:TA):TA:=λσ H Q=>ta σ H λx H1=>tr σ H1 λxs H2=>Q (x::xs) H2
section
variable {X:Cx}{e:Expr}{es:List Expr}{te:TE}{t:TA}{pos:Pos}
def ai:PA X [] qJ:=λ_ _ _ _ H Q I h=>Calls.spliced_nil ⟨[],H,I,.nil,h⟩
def ab (ha:PE X e te)(hr:PA X es t)(hs:starEach (e::es) X.env=(false,eval e X.env)::starEach es X.env:=by rfl):PA X (e::es) (gH te t):=by
 intro pos ag s σ H Q I h;rw [hs];show wpAny _ _ (spliced ((false,eval e X.env)::backTo pos (starEach es X.env))) _ _ s;refine s_ (cW (ha ag s σ H _ I h) λu s1 bF=>?_);obtain⟨x,H1,I1,r1,q1⟩:=bF;refine cW (hr pos ag s1 σ H1 _ I1 q1) λus s2 bF=>?_;obtain⟨xs,H2,I2,r2,q2⟩:=bF;exact⟨x::xs,H2,I2,.cons r1 r2,q2⟩
def sQ (t:TA):TE:=λσ H Q=>t σ H λxs H1=>xs.length<=sizeLine/\∀p,H1 p=none->Q (.ref p) (upd H1 p (.tup xs))
def NZ (t:TA):TE:=λσ H Q=>t σ H λxs H1=>xs.length<=sizeLine/\∀p,H1 p=none->Q (.ref p) (upd H1 p (.lst xs))
def bC {x1}(h:PA X es t):PE X (.Tuple es x1 pos) (sQ t):=by
 intro ag s σ H Q I hq;refine wpAny_Tuple_spliced (cW (h pos ag s σ H _ I hq) λus s1 bF=>?_);obtain⟨xs,H1,I1,r,z,q⟩:=bF;refine⟨by rw [<-r.length];exact z,?_⟩;have hf:H1 s1.heap.objs.size=none:=I1.b8.fresh (aE _);refine⟨.ref s1.heap.objs.size,upd H1 s1.heap.objs.size (.tup xs),I1.laid (t':=s1.toks) (λb u e=>cx _ e) (aE _) ?_,rfl,q _ hf⟩;exact⟨z,us,r,⟨_,dH _ rfl,rfl,_,rfl⟩⟩
def bY (h:PA X es t):PE X (.List es pos) (NZ t):=by
 intro ag s σ H Q I hq;refine wpAny_List_spliced (cW (h pos ag s σ H _ I hq) λus s1 bF=>?_);obtain⟨xs,H1,I1,r,z,q⟩:=bF;refine⟨by rw [<-r.length];exact z,?_⟩;have hf:H1 s1.heap.objs.size=none:=I1.b8.fresh (aE _);refine⟨.ref s1.heap.objs.size,upd H1 s1.heap.objs.size (.lst xs),I1.laid (t':=s1.toks) (λb u e=>cx _ e) (aE _) ?_,rfl,q _ hf⟩;exact⟨z,us,0,r,dH _ rfl⟩
end
abbrev Sp:=List V->Hp->VK->XK->Prop
abbrev yB:=List Env->Hp->Shared->XK->Value->Shared->Prop
structure pQ (P:Program)(w:World)(K:ba)(mg:Str->Option Value)(base:Heap)(A:Around)(outer:List Env)(s:Shared)(H:Hp):Prop where
 frames:A.frames=some outer
 mod:Mod K mg base
 bs:∀b o,base.get? b=some o->s.heap.get? b=some o/\H b=none
 Ha:base.objs.size<=s.heap.objs.size
 oQ:s.heap.FunFrames base outer
 JL:∀b∈CF outer,H b=none
 b8:kT P w H s.heap
 bare:AllBare s.gens
def CE (outer:List Env)(P:Program)(w:World)(H:Hp)(s:Shared)(Q:VK)(u:Value)(s':Shared):Prop :=
 ∃v H',s'.os=s.os/\AllBare s'.gens/\Un (CF outer) [] H H' s.heap s'.heap/\kT P w H' s'.heap/\RelV v u/\Q v H'
def CR (CX:yB)(outer:List Env)(P:Program)(w:World)(H:Hp)(s:Shared)(Q:VK)(E:XK)(r:Result)(s':Shared):Prop :=
 match r with
 | .ok (.ret u)=>CE outer P w H s Q u s'
 | .ok _=>False
 | .error e=>CX outer H s E e s'
structure bZ (P:Program)(w:World)(K:ba)(mg:Str->Option Value)(base:Heap)(CX:yB) (k:Nat)(f:Addr)(fd:FuncData) (ps:List Str)(sp:Sp):Prop where
 len:∀vs H Q E,sp vs H Q E->vs.length=ps.length
 run:∀(A:Around)(outer:List Env)(s:Shared)(H:Hp)(args:Args)(us:List Value)(vs:List V)(Q:VK)(E:XK),eZ k A->pQ P w K mg base A outer s H->BindsTo s fd args (ps.zip us)->a_ vs us->sp vs H Q E ->
  codeAny (model P w) A (.call (.ref f) args) (CR CX outer P w H s Q E) s
theorem bZ.mono {P:Program}{w:World}{K:ba}{mg:Str->Option Value}{base:Heap}{CX:yB}{j k:Nat}{f:Addr}{fd:FuncData}{ps:List Str}{sp:Sp}(F:bZ P w K mg base CX j f fd ps sp)(h:j<=k) :
  bZ P w K mg base CX k f fd ps sp:=⟨F.len,λA outer s H args us vs Q E hr=>F.run A outer s H args us vs Q E (hr.mono h)⟩
def bZ.imp {P:Program}{w:World}{K:ba}{mg:Str->Option Value}{base:Heap}{CX:yB}{k:Nat}{f:Addr}{fd:FuncData}{ps:List Str}{sp WE:Sp}(F:bZ P w K mg base CX k f fd ps sp)
  (h:∀vs H Q E,WE vs H Q E->sp vs H Q E):bZ P w K mg base CX k f fd ps WE :=
 ⟨λvs H Q E q=>F.len vs H Q E (h _ _ _ _ q),λA outer s H args us vs Q E hr he hb hv hs=>F.run A outer s H args us vs Q E hr he hb hv (h _ _ _ _ hs)⟩
def pQ.make {P:Program}{w:World}{K:ba}{mg:Str->Option Value}{base:Heap}{A:Around}{outer:List Env}{s:Shared}{H:Hp}(e:pQ P w K mg base A outer s H)(C:Addr)(us:List Value)(kw:List (Str×Value)) :
  pQ P w K mg base (A.under (.builtin "type.__call__" ⟨.ref C::us,kw⟩)) outer s H:=⟨by first | exact e.frames | (simpa [Around.under,Code.envs,Code.isFrame,pushEnvs] using e.frames),e.mod,e.bs,e.Ha,e.oQ,e.JL,e.b8,e.bare⟩
theorem pQ.in1 {P:Program}{w:World}{K:ba}{mg:Str->Option Value}{base:Heap}{A:Around}{outer:List Env}{s:Shared}{H:Hp}(e:pQ P w K mg base A outer s H) :
  pQ P w K mg base A.in1 outer s H:=⟨e.frames,e.mod,e.bs,e.Ha,e.oQ,e.JL,e.b8,e.bare⟩
section
variable {X:Cx}{ag:List (Addr×Obj)}{σ:St}{H:Hp}{s s':Shared}
def Inv.Mm (I:Inv X ag σ H s):pQ X.prog X.w X.K X.mg X.base X.A X.stack s H :=
 ⟨I.ok.frames,I.ok.mod,I.bs,ff I.ok.Ha I.sz,I.stack,I.AR,I.b8,I.bare⟩
def Inv.after {Q:VK}{u:Value}(I:Inv X ag σ H s)(h:CE X.stack X.prog X.w H s Q u s'):EP X ag σ Q u s':=by
 obtain⟨v,H',os,bare,un,b8,r,q⟩:=h;obtain⟨hh,g,d,t,os'⟩:=s';obtain rfl:os'=s.os:=os;exact⟨v,H',I.call (h':=hh) (g':=g) (d':=d) (t':=t) (ch:=[]) un b8 bare (λb z=>absurd z (by simp)),r,q⟩
end
def Jb (sp:Sp)(dvs:List V)(E:XK)(t:TA):TE:=λσ H Q=>t σ H λvs H1=>sp (vs++dvs) H1 Q E
def NX (C:Addr)(m:Str)(sp:Sp)(dvs:List V)(E:XK)(ta:TE)(t:TA):TE:=λσ H Q=>ta σ H λx H1=>∃a dx fs,x=.ref a/\H1 a=some (.ins C dx fs)/\fs.lookup m=none /\
 t σ H1 λvs H2=>sp (x::(vs++dvs)) H2 Q E
def NY (C:Addr)(sp:Sp)(dvs:List V)(E:XK)(t:TA):TE:=λσ H Q=>t σ H λvs H1=>∀x dx,H1 x=none->H1 dx=none->dx≠x ->
 sp (.ref x::(vs++dvs)) (upd (upd H1 dx (.own x)) x (.ins C dx [])) (λv H2=>v=.fc/\Q (.ref x) H2) E
def Binds (K:ba)(fd:FuncData) (ps:List Str)(ds:List Value):Prop :=
 ∀(s:Shared)(us:List Value),K.In s.heap->(us++ds).length=ps.length->BindsTo s fd ⟨us,[]⟩ (ps.zip (us++ds))
def Binds.all {K:ba}{fd:FuncData}{ps:List Str}(h:∀us:List Value,us.length=ps.length->bindArgs fd ⟨us,[]⟩=pure (ps.zip us)):Binds K fd ps []:=λs us _ hl=>by
 rw [gG] at hl ⊢;exact .of_eq (h us hl)
def Passes (CX:yB)(X:Cx)(E:XK):Prop:=∀(ag:List (Addr×Obj))(σ:St)(H:Hp)(s:Shared)(e:Value)(s':Shared),Inv X ag σ H s->CX X.stack H s E e s'->X.xe e s'
section
variable {X:Cx}{CX:yB}{k:Nat}{f C:Addr}{fd:FuncData}{ps:List Str}{sp:Sp}{dvs:List V}{ds:List Value}{E:XK}{x m:Str}{p pos apos:Pos}{e o:Expr}{es:List Expr}{ta:TE}{t:TA}
def Ez {ag:List (Addr×Obj)}{σ:St}{H:Hp}{s:Shared}{Q:VK}{us:List Value}{vs:List V}(F:bZ X.prog X.w X.K X.mg X.base CX k f fd ps sp)(hr:eZ k X.A)(hb:Binds X.K fd ps ds)(hd:a_ dvs ds)(hx:Passes CX X E)
  (I:Inv X ag σ H s)(r:a_ vs us)(h:sp (vs++dvs) H Q E):wpAny (model X.prog X.w) X.A (call (.ref f) us) (EP X ag σ Q) X.xe s:=by
 have r2:a_ (vs++dvs) (us++ds):=r.append hd;have hl:(us++ds).length=ps.length:=by rw [<-r2.length];exact F.len _ _ _ _ h
 refine wpAny_call (nJ (F.run X.A X.stack s H ⟨us,[]⟩ (us++ds) (vs++dvs) Q E hr I.Mm (hb s us I.uf hl) r2 h) λr s' hq=>?_);cases r with
 | error e=>exact hx ag σ H s e s' I hq
 | ok fl =>
  cases fl with
  | ret u=>exact I.after hq
  | next=>exact False.elim hq
  | brk=>exact False.elim hq
  | cont=>exact False.elim hq
def HK (F:bZ X.prog X.w X.K X.mg X.base CX k f fd ps sp)(hr:eZ k X.A)(hg:Gl X x)(hm:X.mg x=some (.ref f))(hk:PySem.W.keepIn X.K (.ref f)=true)(hb:Binds X.K fd ps ds)(hd:a_ dvs ds)(hx:Passes CX X E)
  (ha:PA X (e::es) t)(Cz:(x == ("__debug__":Str))=false:=by decide)(he:starEach (e::es) X.env=(false,eval e X.env)::starEach es X.env:=by rfl)(Bj:(backTo pos (starEach es X.env)).any (·.1)=false:=by rfl) :
  PE X (.Call (.Name x p) (e::es) [] pos) (Jb sp dvs E t):=by
 intro ag s σ H Q I h;refine qh (vX I hg hm ?_ Cz);refine PySem.W.callWith_K (h₀:=X.base) I.ok.mod.OX hk (cW (ha pos ag s σ H _ I h) λus s1 bF=>?_) he Bj;obtain⟨vs,H1,I1,r,q⟩:=bF;refine⟨I1.uf,?_⟩;exact Ez F hr hb hd hx I1 r q
def Bb {pl:Sem Bool}(he:PE X o ta)(c:Dd X.K C)(hm:Meth X.K C m f)(F:bZ X.prog X.w X.K X.mg X.base CX k f fd ps sp)(hr:eZ k X.A)(hb:Binds X.K fd ps ds)(hd:a_ dvs ds)(hx:Passes CX X E)(ha:PA X (e::es) t)
  (yt:starEach (e::es) X.env=(false,eval e X.env)::starEach es X.env:=by rfl)(Bj:(backTo pos (starEach es X.env)).any (·.1)=false:=by rfl)
  (ht:eval (.Call (.Attribute o m apos) (e::es) [] pos) X.env=(do
   let ov <-eval o X.env
   standAt apos.atName
   let (f,first) <-holding [ov] (getMethod ov m pl)
   callWith pos f first (backTo pos (starEach (e::es) X.env)) (backToKw pos (keywordEach [] X.env))):=by rfl) :
  PE X (.Call (.Attribute o m apos) (e::es) [] pos) (NX C m sp dvs E ta t):=by
 intro ag s σ H Q I h;refine PySem.W.methodCall_KW (pl:=pl) (cW (he ag s σ H _ I h) λu s1 bF=>?_) ht;obtain⟨x,H1,I1,rx,a,dx,fs,ex,ea,l,q⟩:=bF;subst ex;obtain rfl:u=Value.ref a:=rx;refine rq I1 ea c hm l ?_;refine PySem.W.callWith_K (first:=[.ref a]) (h₀:=X.base) I.ok.mod.OX hm.kp (cW (ha pos ag s1 σ H1 _ I1 q) λus s2 bF=>?_) yt Bj;obtain⟨vs,H2,I2,r,q2⟩:=bF;refine⟨I2.uf,?_⟩;exact Ez (us:=.ref a::us) (vs:=.ref a::vs) F hr hb hd hx I2 (.cons rfl r) q2
structure Mk (K:ba)(C f:Addr):Prop where
 makes:PySem.W.makesIn K C=true
 init:PySem.W.findIn K (.ref C) "__init__"=some (some (.ref f))
 fn:PySem.W.isFn K (.ref f)=true
 kp:PySem.W.keepIn K (.ref C)=true
def Ey {ag:List (Addr×Obj)}{σ:St}{H:Hp}{s:Shared}{Q:VK}{us:List Value}{vs:List V}(M:Mk X.K C f)(F:bZ X.prog X.w X.K X.mg X.base CX k f fd ps sp)(hr:eZ (k+1) X.A)(hb:Binds X.K fd ps ds)(hd:a_ dvs ds)
  (hx:Passes CX X E)(I:Inv X ag σ H s)(r:a_ vs us)
  (h:∀x dx,H x=none->H dx=none->dx≠x->sp (.ref x::(vs++dvs)) (upd (upd H dx (.own x)) x (.ins C dx [])) (λv H2=>v=.fc/\Q (.ref x) H2) E) :
  wpAny (model X.prog X.w) X.A (call (.ref C) us) (EP X ag σ Q) X.xe s:=by
 have hq:=h (s.heap.objs.size+1) s.heap.objs.size (I.b8.fresh (jS _)) (I.b8.fresh (aE _)) (bX (oX _));have I2:=Inv.made (C:=C) I;have r2:a_ (V.ref (s.heap.objs.size+1)::(vs++dvs)) (Value.ref (s.heap.objs.size+1)::(us++ds)):=.cons rfl (r.append hd);have hl:(Value.ref (s.heap.objs.size+1)::us++ds).length=ps.length:=by
  have e:=r2.length;rw [F.len _ _ _ _ hq] at e;exact e.symm
 refine wpAny_call (Fj (f:=f) I.uf M.makes M.init (beq_iff_eq.mp M.fn) (nJ (F.run _ X.stack _ _ ⟨Value.ref (s.heap.objs.size+1)::us,[]⟩ (Value.ref (s.heap.objs.size+1)::(us++ds)) _ _ E (hr.make C us [])
  (I2.Mm.make C us []) (hb _ (Value.ref (s.heap.objs.size+1)::us) I2.uf hl) r2 hq) λr s' Nc=>?_))
 cases r with
 | error e=>exact hx ag σ _ _ e s' I2 Nc
 | ok fl =>
  cases fl with
  | ret u =>
   obtain⟨v,H',I3,rv,ev,q3⟩:=I2.after Nc;subst ev;exact⟨rv,⟨V.ref (s.heap.objs.size+1),H',I3,rfl,q3⟩⟩
  | next=>exact False.elim Nc
  | brk=>exact False.elim Nc
  | cont=>exact False.elim Nc
def vO (M:Mk X.K C f)(F:bZ X.prog X.w X.K X.mg X.base CX k f fd ps sp)(hr:eZ (k+1) X.A)(hg:Gl X x)(hm:X.mg x=some (.ref C))(hb:Binds X.K fd ps ds)(hd:a_ dvs ds)(hx:Passes CX X E)
  (ha:PA X (e::es) t)(Cz:(x == ("__debug__":Str))=false:=by decide)(he:starEach (e::es) X.env=(false,eval e X.env)::starEach es X.env:=by rfl)(Bj:(backTo pos (starEach es X.env)).any (·.1)=false:=by rfl) :
  PE X (.Call (.Name x p) (e::es) [] pos) (NY C sp dvs E t):=by
 intro ag s σ H Q I h;refine qh (vX I hg hm ?_ Cz);refine PySem.W.callWith_K (h₀:=X.base) I.ok.mod.OX M.kp (cW (ha pos ag s σ H _ I h) λus s1 bF=>?_) he Bj;obtain⟨vs,H1,I1,r,q⟩:=bF;refine⟨I1.uf,?_⟩;exact Ey M F hr hb hd hx I1 r q
end
section
variable {X:Cx}{CX:yB}{k:Nat}{f C:Addr}{fd:FuncData}{ps ks:List Str}{sp:Sp}{E:XK}{x m:Str}{p pos apos aaf:Pos}{e o:Expr}{es:List Expr}{kws:List Keyword}{te ta:TE}{t tk:TA}{nm:Option Str}
structure Wf (K:ba)(fd:FuncData) (ps ks:List Str)(g:List Value->List Value->List Value)(gV:List V->List V->List V):Prop where
 to:∀(s:Shared)(us ws:List Value),K.In s.heap->(g us ws).length=ps.length->BindsTo s fd ⟨us,ks.zip ws⟩ (ps.zip (g us ws))
 rel:∀{vs:List V}{us:List Value}{zs:List V}{ws:List Value},a_ vs us->a_ zs ws->a_ (gV vs zs) (g us ws)
variable {g:List Value->List Value->List Value}{gV:List V->List V->List V}
end
structure aM (N P:List Str)(sc:Scope):Prop where
 kind:sc.kind=.function
 co:sc.isCoroutine=false
 gen:sc.isGenerator=false
 nd:N.Nodup
 pre:N.take P.length=P
 par:∀x∈P,sc.names.lookup x=some .local\/sc.names.lookup x=some .cell
 Lb:∀y∈sc.names,y.2≠.free
def jl {N P:List Str}{sc:Scope}(a:sc.kind=.function)(b:sc.isCoroutine=false)(c:sc.isGenerator=false)(d:N.take P.length=P)(e:N.Nodup/\(∀x∈P,sc.names.lookup x=some .local\/sc.names.lookup x=some .cell)/\∀y∈sc.names,y.2≠.free):aM N P sc:=⟨a,b,c,e.1,d,e.2.1,e.2.2⟩
theorem uE {kindOf:Str->Option NameKind}{x:Str}:∀{binds:List (Str×Value)}{m:Str->Option Value},(∀v,(x,v)∉binds)->bindL kindOf binds m x=m x
 | [],_,_=>rfl
 | (n,v)::r,m,h=>by
  unfold bindL;rw [uE λw hw=>h w (bW _ hw)]
  split
  .have:x≠n:=by rintro rfl;exact h v bK
   simp [this]
  rfl
theorem uG {kindOf:Str->Option NameKind}{x:Str}:∀{binds:List (Str×Value)}{m:Str->Option Value},(∀v,(x,v)∉binds)->bindC kindOf binds m x=m x
 | [],_,_=>rfl
 | (n,v)::r,m,h=>by
  unfold bindC;rw [uG λw hw=>h w (bW _ hw)]
  split
  .rfl
  have:x≠n:=by rintro rfl;exact h v bK
  simp [this]
theorem uF {kindOf:Str->Option NameKind}{x:Str}{v:Value}:∀{P:List Str}{vs:List Value}{i:Nat}{m:Str->Option Value},P.Nodup->P[i]?=some x->vs[i]?=some v->kindOf x=some .local ->
  bindL kindOf (P.zip vs) m x=some v
 | [],_,_,_,_,h,_,_=>by simp at h
 | _::_,[],_,_,_,_,h,_=>by simp at h
 | p::P,w::vs,0,m,nd,h1,h2,hk=>by
  simp at h1 h2;subst h1;subst h2;show bindL kindOf ((p,w)::P.zip vs) m p=_;unfold bindL;rw [uE λv hv=>(iB.mp nd).1 (List.of_mem_zip hv).1,ar hk];simp
 | p::P,w::vs,i+1,m,nd,h1,h2,hk=>by
  show bindL kindOf ((p,w)::P.zip vs) m x=_;unfold bindL;exact uF (i:=i) (iB.mp nd).2 (by simpa using h1) (by simpa using h2) hk
theorem uH {kindOf:Str->Option NameKind}{x:Str}{v:Value}:∀{P:List Str}{vs:List Value}{i:Nat}{m:Str->Option Value},P.Nodup->P[i]?=some x->vs[i]?=some v->kindOf x≠some .local ->
  bindC kindOf (P.zip vs) m x=some v
 | [],_,_,_,_,h,_,_=>by simp at h
 | _::_,[],_,_,_,_,h,_=>by simp at h
 | p::P,w::vs,0,m,nd,h1,h2,hk=>by
  simp at h1 h2;subst h1;subst h2;show bindC kindOf ((p,w)::P.zip vs) m p=_;unfold bindC;rw [uG λv hv=>(iB.mp nd).1 (List.of_mem_zip hv).1,au hk];simp
 | p::P,w::vs,i+1,m,nd,h1,h2,hk=>by
  show bindC kindOf ((p,w)::P.zip vs) m x=_;unfold bindC;exact uH (i:=i) (iB.mp nd).2 (by simpa using h1) (by simpa using h2) hk
def start (N:List Str)(vs:List V):St:=vs.map some++List.replicate (N.length - vs.length) none
def oT (CX:yB)(P:Program)(w:World)(K:ba)(mg:Str->Option Value)(base:Heap) (N:List Str)(qual:Str)(scope:Scope)(f:Addr)(cd:Value)(A:Around)(outer:List Env)(s:Shared)(H:Hp)(E:XK):Cx where
 prog:=P
 w:=w
 K:=K
 mg:=mg
 base:=base
 A:=A.deeper (envOfC qual scope s.heap.objs.size f cd)
 N:=N
 s₀:=s
 H₀:=H
 env:=envOfC qual scope s.heap.objs.size f cd
 outer:=outer
 stack:=envOfC qual scope s.heap.objs.size f cd::outer
 ex:=[]
 calm:=true
 fn:=λ_=>true
 pn:=[]
 xe:=λe s'=>wpAny (model P w) (A.deeper (envOfC qual scope s.heap.objs.size f cd)) (leaving (envOfC qual scope s.heap.objs.size f cd) e) (λ_ Oh=>CX outer H s E e Oh) (λe' Oh=>CX outer H s E e' Oh) s'
def ye {sc:Scope}{n:Nat}{x:Str}(h:sc.names.lookup x=some .cell):∃c,(cellsFrom n sc.names []).lookup x=some c:=by
 have q:=PySem.W.cellsFrom_some sc.names n [] (.inl h);exact mq.mp q
def uh {CX:yB}{P:Program}{w:World}{K:ba}{mg:Str->Option Value}{base:Heap}{N ps:List Str}{qual:Str}{scope:Scope}{f:Addr}{cd:Value}{A:Around}{outer:List Env}{s s1:Shared}{H:Hp}{E:XK}{us:List Value}{vs:List V}
  (S:aM N ps scope)(hd:A.handled=none)(e0:pQ P w K mg base A outer s H)(hl:vs.length=ps.length)(r:a_ vs us)
  (x:InCallC s s.heap.objs.size (bindL (envOfC qual scope s.heap.objs.size f cd).kindOf (ps.zip us) λ_=>none) (cellsFrom (s.heap.objs.size+1) scope.names []) (bindC (envOfC qual scope s.heap.objs.size f cd).kindOf (ps.zip us) λ_=>none) s1) :
  Inv (oT CX P w K mg base N qual scope f cd A outer s H E) [] (start N vs) H s1:=by
 have Bj:ps.length<=N.length:=by have:=congrArg List.length S.pre;rw [dO] at this;omega
 obtain⟨h1,tk,rfl,hk⟩:=x.done;have OB:∀b:Addr,b∉(oT CX P w K mg base N qual scope f cd A outer s H E).ex:=λb z=>absurd (show b∈([]:List Addr) from z) (by simp);refine⟨⟨e0.mod,S.kind,rfl,rfl,aE _,λy z c h1 h2=>?_,λy hy=>?_,λy c _ h=>?_,λ_=>hd,Around.frames_deeper e0.frames,.inr ⟨rfl,rfl⟩,λb z=>absurd z (OB b),e0.bs,e0.Ha,λb _ _=>OB b,λb z=>absurd z (OB b),e0.oQ,e0.JL⟩,
  rfl,e0.bare,Un.kept hk,⟨_,x.toInCall.ns,λi y v h1 h2 h3=>?_⟩,λy c h=>⟨_,x.cell y c h⟩,e0.b8.fresh (aE _),λy c h=>?_,λp hp=>absurd (show p∈([]:List (Addr×Obj)) from hp) (by simp),e0.b8.kept hk,?_⟩
 .exact name_of_addr x.apart (qB h1) (qB h2)
 .have hy:scope.names.lookup y=some .cell\/scope.names.lookup y=some .free:=hy;rcases hy with hy | hy
  .exact ye hy
  exact absurd rfl (S.Lb _ (qB hy))
 .exact jU (x.above y c (qB h))
 .have hi:i < vs.length:=by
   unfold start at h2;by_cases hi:i < vs.length
   .exact hi
   rw [kM (by simpa using hi)] at h2;rw [List.getElem?_replicate] at h2
   split at h2 <;> cases h2
  have ha:vs[i]?=some v:=by
   unfold start at h2;rw [mr (by simpa using hi),bq] at h2;cases e:vs[i]? with
   | none=>rw [e] at h2;cases h2
   | some a=>rw [e] at h2;cases h2;rfl
  obtain⟨u,hu,rv⟩:=r.get ha;have hp:ps[i]?=some y:=by
   rw [<-S.pre,u_ ∅];exact h1
  have Xd:ps.Nodup:=by rw [<-S.pre];exact S.nd.sublist (List.take_sublist _ _)
  refine⟨u,rv,?_⟩;rcases S.par y (cE hp) with k | k
  .exact .inl ⟨k,uF Xd hp hu k⟩
  obtain⟨c,e⟩:=ye (n:=s.heap.objs.size+1) k;refine .inr ⟨.inl k,c,e,?_⟩;have q:=x.cell y c e;rw [uH Xd hp hu (by show scope.names.lookup y≠_;rw [k];decide)] at q;exact q
 .exact e0.b8.fresh (jU (x.above y c (qB h)))
 unfold start;show _=N.length;rw [bU,ax,List.length_replicate];omega
def FU {CX:yB}{P:Program}{w:World}{K:ba}{mg:Str->Option Value}{base:Heap}{k:Nat}{f:Addr}{name qual:Str}{params:Arguments}{body:List Stmt}{scope:Scope}{dV kV doc pm eY ct oc:Value}{an od:Option Addr}
  {xt:Array (Option Value)}{N ps:List Str}{sp:Sp}(lk:K.lookup f=some ⟨oc,od,.func (PySem.W.fnOf name qual params body scope dV kV doc pm an eY ct),xt⟩)(v8:PySem.W.codeIn K eY qual=true)(S:aM N ps scope)
  (len:∀vs H Q E,sp vs H Q E->vs.length=ps.length)
  (jh:∀(A:Around)(outer:List Env)(s:Shared)(H:Hp)(vs:List V)(Q:VK)(E:XK),eZ k (A.deeper (envOfC qual scope s.heap.objs.size f eY))->sp vs H Q E ->
   ∃t,Aq (oT CX P w K mg base N qual scope f eY A outer s H E) body t/\t { nx:=λ_ H'=>Q .fc H',rt:=Q } (start N vs) H) :
  bZ P w K mg base CX (k+1) f (PySem.W.fnOf name qual params body scope dV kV doc pm an eY ct) ps sp:=by
 refine⟨len,λA outer s H args us vs Q E hr e0 hb r yu=>?_⟩;have hl:=len _ _ _ _ yu;have KX:K.In s.heap:=e0.mod.OX.keeps λb o e=>(e0.bs b o e).1;have lim:s.heap.NoLimit:=e0.mod.nolimit.keeps λb o e=>(e0.bs b o e).1;have je:∀y∈ps.zip us,scope.names.lookup y.1=some .local\/(scope.names.lookup y.1=some .cell/\((cellsFrom (s.heap.objs.size+1) scope.names []).lookup y.1).isSome=true):=λ⟨n,v⟩ hy=>by
  rcases S.par n (List.of_mem_zip hy).1 with q | q
  .exact .inl q
  exact .inr ⟨q,PySem.W.cellsFrom_some _ _ _ (.inl q)⟩
 refine codeAny_call_function hr.depth (KX _ _ lk) rfl S.co S.gen rfl (PySem.W.codeRec_of KX v8) (hb _ _ _ _ ?_);refine wpAny_newFunctionEnv_cells S.kind je λenv he s1 x=>?_;subst he;refine⟨lim.keeps x.toInCall.keep,codeAny_func ?_⟩;obtain⟨t,ht,hq⟩:=jh A outer s H vs Q E (hr.deeper _) yu;have I:Inv (oT CX P w K mg base N qual scope f eY A outer s H E) [] (start N vs) H s1:=uh S hr.hd e0 hl r x;refine dw (ht [] s1 (start N vs) H _ I hq) (λfl s' hs=>?_) λe s' hs=>hs;have fin:∀{σ':St}{H':Hp}{v:V}{u:Value},Inv (oT CX P w K mg base N qual scope f eY A outer s H E) [] σ' H' s'->RelV v u->Q v H'->CE outer P w H s Q u s' :=
  λ{σ' H' v u} J rv q=>⟨v,H',J.os,J.bare,J.base,J.b8,rv,q⟩
 cases fl with
 | ret u =>
  obtain⟨v,σ',H',J,rv,q⟩:=hs;exact fin J rv q
 | next =>
  obtain⟨σ',H',J,q⟩:=hs;exact fin (v:=V.fc) (u:=Value.none) J rfl q
 | brk =>
  obtain⟨_,_,_,q⟩:=hs;exact False.elim q
 | cont =>
  obtain⟨_,_,_,q⟩:=hs;exact False.elim q
section
variable {X:Cx}{x:Str}{p pos:Pos}{e:Expr}{es:List Expr}{t:TA}{id T:String}{r:List V->Hp->VK->Prop}
def WA (r:List V->Hp->VK->Prop)(t:TA):TE:=λσ H Q=>t σ H λvs H1=>r vs H1 Q
def aI (hc:fC X (.builtin id) r)(hg:Gl X x)(hm:X.mg x=none)(hv:bootBuiltins x=some (.builtin id))(ha:PA X (e::es) t)(hn:x ≠ "__name__" := by decide)(Cz:(x == ("__debug__":Str))=false:=by decide)
  (he:starEach (e::es) X.env=(false,eval e X.env)::starEach es X.env:=by rfl)(Bj:(backTo pos (starEach es X.env)).any (·.1)=false:=by rfl):PE X (.Call (.Name x p) (e::es) [] pos) (WA r t):=by
 intro ag s σ H Q I h;refine qh (jy I hg hm hv ?_ hn Cz);refine PyProof.Rows.callWith_builtin1 (cW (ha pos ag s σ H _ I h) λus s1 bF=>?_) he Bj;obtain⟨vs,H1,I1,r1,q1⟩:=bF;exact hc ag s1 σ H1 vs us Q I1 r1 q1
def bc (hc:fC X (.type T) r)(hg:Gl X x)(hm:X.mg x=none)(hv:bootBuiltins x=some (.type T))(ha:PA X (e::es) t)(hn:x ≠ "__name__" := by decide)(Cz:(x == ("__debug__":Str))=false:=by decide)
  (he:starEach (e::es) X.env=(false,eval e X.env)::starEach es X.env:=by rfl)(Bj:(backTo pos (starEach es X.env)).any (·.1)=false:=by rfl):PE X (.Call (.Name x p) (e::es) [] pos) (WA r t):=by
 intro ag s σ H Q I h;refine qh (jy I hg hm hv ?_ hn Cz);refine Ay (cW (ha pos ag s σ H _ I h) λus s1 bF=>?_) he Bj;obtain⟨vs,H1,I1,r1,q1⟩:=bF;exact hc ag s1 σ H1 vs us Q I1 r1 q1
end
end L2
namespace HT
open PySem PyProof.Rows
section
open PySem.SeqAt
open PySem.AutoSeq1 (wpAny_loadPart')
open PySem.MeetsSeq PySem.MeetsSeq2 PySem.MeetsSeq3
end
section
variable {prog:Program}{w:World}{A:Around}{E:Value->Shared->Prop}{s:Shared}
def IK {t b:Addr}{vs ws:List Value}{Q:Value->Shared->Prop}(ht:IsTup s.heap t vs.toArray)(hb:IsTup s.heap b ws.toArray)(hv:vs≠[])
  (h1:ws=[]->Q (.ref t) s)(h2:ws≠[]->Q (.ref s.heap.objs.size) { s with heap:=s.heap.push { cls:=.type "tuple",data:=.seq (vs++ws).toArray } })
  (hsz:vs.length+ws.length<=sizeLine):wpAny (model prog w) A (binaryOp .Add (.ref t) (.ref b)) Q E s:=by
 obtain⟨⟨cls,dd,data,sl⟩,ho,hc,n,hd⟩:=id ht;obtain⟨⟨VG,Nz,data2,Q3⟩,Cw,PF,n2,hd2⟩:=id hb;simp only at hc hd PF hd2;subst hc hd PF hd2;have e:vs.toArray++ws.toArray=(vs++ws).toArray:=by simp
 by_cases hw:ws=[]
 .exact concat_meets ⟨_,ho,rfl⟩ ⟨_,Cw,rfl⟩ noFill_tuple_add seq_tuple_add yD yE (yI _ _)
   (tuple_addW1 t b vs.toArray ws.toArray n n2 dd Nz sl Q3 (by simpa using hv) (by simp [hw])) ⟨ho,Cw,h1 hw⟩
 refine concat_meets ⟨_,ho,rfl⟩ ⟨_,Cw,rfl⟩ noFill_tuple_add seq_tuple_add yD yE (yI _ _)
  (tuple_addW2 t b vs.toArray ws.toArray n n2 dd Nz sl Q3 (by simpa using hv) (by simpa using hw) (by rw [cP,cP];exact hsz)) ⟨ho,Cw,?_⟩
 rw [e];exact h2 hw
def fI (n d:Nat):Option Int->Nat
 | none=>d
 | some v=>if v < 0 then (v+(n:Int)).toNat else min v.toNat n
def mN (n d:Nat):fI n d none=d:=rfl
def pV (n d k:Nat):fI n d (some (k:Int))=min k n:=by
 show (if (k:Int) < 0 then ((k:Int)+(n:Int)).toNat else min (k:Int).toNat n)=min k n;rw [au ∅,jQ]
def KA (n d:Nat)(hd:d<=n)(o:Option Int):fI n d o<=n:=by
 cases o with
 | none=>exact hd
 | some v =>
  show (if v < 0 then (v+(n:Int)).toNat else min v.toNat n)<=n;by_cases hv:v < 0
  .rw [ar hv];omega
  rw [au hv];exact Nat.min_le_right _ _
def Bz (v:Int) (n d:Nat):(if v < 0 then max (v+(n:Int)) 0 else min v (n:Int))=((fI n d (some v):Nat):Int):=by
 show (if v < 0 then max (v+(n:Int)) 0 else min v (n:Int))=(((if v < 0 then (v+(n:Int)).toNat else min v.toNat n):Nat):Int);by_cases hv:v < 0
 .simp only [ar hv];omega
 simp only [au hv];omega
def Ao (lo hi:Option Int) (n:Nat):Builtin.Slice.sliceAdjust lo hi 1 (n:Int)=(((fI n 0 lo:Nat):Int),((fI n n hi:Nat):Int)):=by
 have h1:¬((1:Int) < 0):=by omega
 unfold Builtin.Slice.sliceAdjust;simp only [h1,if_false];refine iD ?_ ?_
 .cases lo with
  | none=>rfl
  | some v=>exact Bz v n 0
 cases hi with
 | none=>rfl
 | some v=>exact Bz v n n
def zu (i j:Nat):Builtin.Slice.slicePlaces (i:Int) (j:Int) 1=j - i:=by
 unfold Builtin.Slice.slicePlaces;have h1:(1:Int) > 0:=by omega
 simp only [h1,if_true,Int.ediv_one]
 split <;> omega
def qQ {v:Value}{o:Option Int}{Q:Option Int->Shared->Prop}(p:IsPart v o)(h:Q o s):wpAny (model prog w) A (Builtin.Slice.slicePartIndex v) Q E s:=by
 cases p with
 | none=>exact slicePart_none h
 | int i t=>exact slicePart_int h
def i4 {sl:Addr}{vl vu:Value}{lo hi:Option Int}{n:Nat}{Q:Int×Int×Nat->Shared->Prop}(hs:s.heap.IsSliceOf sl vl vu .none)(pl:IsPart vl lo)(pu:IsPart vu hi)
  (h:Q (((fI n 0 lo:Nat):Int),1,fI n n hi - fI n 0 lo) s):wpAny (model prog w) A (Builtin.Slice.sliceApplied (.ref sl) (pure (n:Int))) Q E s:=by
 obtain⟨os,LH,Rw,z6⟩:=id hs;unfold Builtin.Slice.sliceApplied Builtin.Slice.sliceFields;refine aD (aD (iW LH z6 (x:=vl) rfl (aD (iW LH z6 (x:=vu) rfl (aD (iW LH z6 (x:=.none) rfl (aR ?_)))))));refine aD (slicePart_none ?_);show wpAny _ _ (if ((1:Int) == 0)=true then _ else _) _ _ s;rw [au nofun];refine aD (qQ pl (aD (qQ pu (aD (aR ?_)))));show wpAny _ _ (match Builtin.Slice.sliceAdjust lo hi 1 (n:Int) with | (lo,hi)=>pure (lo,(1:Int),Builtin.Slice.slicePlaces lo hi 1)) _ _ s
 rw [Ao lo hi n];show wpAny _ _ (pure (((fI n 0 lo:Nat):Int),(1:Int),Builtin.Slice.slicePlaces ((fI n 0 lo:Nat):Int) ((fI n n hi:Nat):Int) 1)) _ _ s;rw [zu];exact aR h
def EI (xs:Array Value) (i k:Nat):((List.range k).filterMap λ(m:Nat)=>xs[((i:Int)+(m:Int) * 1).toNat]?).toArray=((xs.toList.drop i).take k).toArray:=by
 have e:(λ(m:Nat)=>xs[((i:Int)+(m:Int) * 1).toNat]?)=λm=>xs[i+m]?:=by
  funext m
  have:((i:Int)+(m:Int) * 1).toNat=i+m:=by omega
  rw [this]
 rw [e];have:=pick_run xs i k;rw [List.filterMap_map] at this;have e2:((λx=>xs[x]?) ∘ λx=>i+x)=λm=>xs[i+m]?:=rfl;rw [e2] at this;rw [this]
def ng {t sl:Addr}{items:Array Value}{vl vu:Value}{lo hi:Option Int}{Q:Value->Shared->Prop}(ht:IsTup s.heap t items)(hs:s.heap.IsSliceOf sl vl vu .none)(pl:IsPart vl lo)(pu:IsPart vu hi)
  (hw:¬(fI items.size 0 lo=0/\fI items.size items.size hi=items.size))
  (h:Q (.ref s.heap.objs.size) { s with heap:=s.heap.push { cls:=.type "tuple",data:=.seq ((items.toList.drop (fI items.size 0 lo)).take (fI items.size items.size hi - fI items.size 0 lo)).toArray } })
  (hsz:items.size<=sizeLine):wpAny (model prog w) A (getItem (.ref t) (.ref sl)) Q E s:=by
 have Bi:sizeOk (.seq ((items.toList.drop (fI items.size 0 lo)).take (fI items.size items.size hi - fI items.size 0 lo)).toArray):=by
  show ((items.toList.drop (fI items.size 0 lo)).take (fI items.size items.size hi - fI items.size 0 lo)).toArray.size<=sizeLine;rw [cP,dO,uO,oY];omega
 have hj:fI items.size items.size hi<=items.size:=KA _ _ (aE _) hi;obtain⟨os,LH,Rw,z6⟩:=id hs;have UP:s.TypeIs (.ref sl) "slice" := ⟨os,LH,Rw⟩;unfold getItem
 try with_reducible refine kJ ?_
 first | refine aD (aR ?_) | skip
 refine aD (wpAny_sequenceKey ht.typeIs nofun ?_);refine aD (tE (name:=Str.ofString "__getitem__") ht.typeIs tG
  (qf tG ht.typeIs entry_tuple_getitem ?_ (args_tuple_getitem _ _)))
 show wpAny _ _ (Builtin.Tuple.tupleItemsOf (.ref t) >>= _) _ _ s;refine aD (tupleItemsOf_ ht ?_);refine aD (jq UP ?_);rw [ar nofun];refine aD (i4 hs pl pu ?_);have hno:¬((((fI items.size 0 lo:Nat):Int) == 0 && (1:Int) == 1 && (fI items.size items.size hi - fI items.size 0 lo) == items.size)=true):=by
  intro q;rw [mh,mh] at q;have q1:((fI items.size 0 lo:Nat):Int)=0:=eq_of_beq q.1.1;have q2:fI items.size items.size hi - fI items.size 0 lo=items.size:=eq_of_beq q.2;exact hw ⟨∅,∅⟩
 show wpAny _ _ (if (((fI items.size 0 lo:Nat):Int) == 0 && (1:Int) == 1 && (fI items.size items.size hi - fI items.size 0 lo) == items.size)=true then _ else _) _ _ s;rw [au hno,EI]
 first
  | exact aD (m:=Builtin.Tuple.tupleExact _) (mj (aR ⟨_,rfl,aR h⟩) Bi)
  | exact aD (m:=Builtin.Tuple.tupleExact _) (mj (aD (aR (aR ⟨_,rfl,aR h⟩))) Bi)
  | exact aD (aD (m:=Builtin.Tuple.tupleExact _) (mj (aR (aR ⟨_,rfl,aR h⟩)) Bi))
  | exact aD (aD (m:=Builtin.Tuple.tupleExact _) (mj (aR ⟨_,rfl,aR h⟩) Bi))
end
end HT
namespace L2
open PySem PySem.Spec PyProof.Rows
abbrev TO:=St->Hp->(Option Int->Hp->Prop)->Prop
def PO (X:Cx)(e:Option Expr)(t:TO):Prop :=
 ∀(ag:List (Addr×Obj))(s:Shared)(σ:St)(H:Hp)(Q:Option Int->Hp->Prop),Inv X ag σ H s->t σ H Q ->
  wpAny (model X.prog X.w) X.A (evalPart e X.env) (λu s'=>∃o H',Inv X ag σ H' s'/\IsPart u o/\Q o H') X.xe s
def AI:TO:=λ_ H Q=>Q none H
def Ja (t:TE):TO:=λσ H Q=>t σ H λx H1=>V7 x λi=>Q (some i) H1
def intsAre_of {ns:List Int}:∀{us:List Value},a_ (ns.map V.int) us->IntsAre us ns:=by
 induction ns with
 | nil=>intro us r;rw [kU] at r;cases r;exact .nil
 | cons n ns ih =>
  intro us r;rw [cA] at r;cases r with
  | cons r1 r2 =>
   obtain⟨t,e⟩:=r1;subst e;exact .cons n t (ih r2)
section
variable {X:Cx}{e:Expr}{te:TE}{lo hi:Option Expr}{tl th:TO}{pos p2:Pos}
def gk:PO X none AI:=by
 intro ag s σ H Q I h;rw [evalPart_none];exact aR ⟨none,H,I,.none,h⟩
def gi (h:PE X e te):PO X (some e) (Ja te):=by
 intro ag s σ H Q I hw;rw [evalPart_some];refine cW (h ag s σ H _ I hw) λu s1 bF=>?_;obtain⟨x,H1,I1,r1,q1⟩:=bF;obtain⟨i,rfl,q⟩:=q1;obtain⟨t,rfl⟩:=r1;exact⟨some i,H1,I1,.int i t,q⟩
def IU (X:Cx)(r:V->Option Int->Option Int->Hp->VK->Prop):Prop :=
 ∀(ag:List (Addr×Obj))(s:Shared)(σ:St)(H:Hp)(x:V)(v vl vu:Value)(lo hi:Option Int)(sl:Addr)(Q:VK),Inv X ag σ H s->RelV x v->s.heap.IsSliceOf sl vl vu .none->IsPart vl lo->IsPart vu hi->r x lo hi H Q ->
  ∃T id,typeLookup (.type T) "__getitem__"=pure (some (.builtin id))/\s.TypeIs v T/\wpAny (model X.prog X.w) X.A (getItem v (.ref sl)) (EP X ag σ Q) X.xe s
def IU.or {r r':V->Option Int->Option Int->Hp->VK->Prop}(h:IU X r)(h':IU X r'):IU X (λx lo hi H Q=>r x lo hi H Q\/r' x lo hi H Q):=by
 intro ag s σ H x v vl vu lo hi sl Q I rx hs pl pu q;rcases q with q | q
 .exact h ag s σ H x v vl vu lo hi sl Q I rx hs pl pu q
 exact h' ag s σ H x v vl vu lo hi sl Q I rx hs pl pu q
def Wz (r:V->Option Int->Option Int->Hp->VK->Prop)(te:TE)(tl th:TO):TE:=λσ H Q=>te σ H λx H1=>tl σ H1 λl H2=>th σ H2 λu H3=>r x l u H3 Q
def eG {r:V->Option Int->Option Int->Hp->VK->Prop}(hr:IU X r)(he:PE X e te)(hl:PO X lo tl)(hu:PO X hi th):PE X (.Subscript e (.Slice lo hi none p2) pos) (Wz r te tl th):=by
 intro ag s σ H Q I h;refine Subscript_ (cW (he ag s σ H _ I h) λv s1 bF=>?_);obtain⟨x,H1,I1,r1,q1⟩:=bF;refine wpAny_Slice (cW (hl ag s1 σ H1 _ I1 q1) λvl s2 bF=>?_);obtain⟨l,H2,I2,pl,q2⟩:=bF;refine cW (hu ag s2 σ H2 _ I2 q2) λvu s3 bF=>?_;obtain⟨u,H3,I3,pu,q3⟩:=bF;rw [evalPart_none];refine aR ?_;have I4:Inv X ag σ H3 { s3 with heap:=s3.heap.push { cls:=.type "slice",data:=.fields #[vl,vu,.none] } }:=I3.kept (t':=s3.toks) λb ob q=>cx _ q;obtain⟨T,id,hT,ht,hg⟩:=hr ag { s3 with heap:=s3.heap.push { cls:=.type "slice",data:=.fields #[vl,vu,.none] } } σ H3 x v vl vu l u s3.heap.objs.size Q I4 r1 (Heap.IsSliceOf.new ..) pl pu q3;show wpAny (model X.prog X.w) X.A (subscriptTail e (.Slice lo hi none p2) v (.ref s3.heap.objs.size)) (EP X ag σ Q) X.xe { s3 with heap:=s3.heap.push { cls:=.type "slice",data:=.fields #[vl,vu,.none] } };exact tail_any (ops:=[.ref s3.heap.objs.size,v]) ht hT hg (by with_unfolding_all rfl)
def ip (xs:List V)(lo hi:Option Int):List V:=(xs.drop (HT.fI xs.length 0 lo)).take (HT.fI xs.length xs.length hi - HT.fI xs.length 0 lo)
def pd (xs:List V)(lo hi:Option Int):(ip xs lo hi).length<=xs.length:=by
 unfold ip;rw [dO,uO];omega
def SR (K:ba):V->Option Int->Option Int->Hp->VK->Prop:=λx lo hi H Q=>∃a xs,x=.ref a/\aS K H a xs /\
 ¬(HT.fI xs.length 0 lo=0/\HT.fI xs.length xs.length hi=xs.length)/\∀p,H p=none->Q (.ref p) (upd H p (.tup (ip xs lo hi)))
def Ks:IU X (SR X.K):=by
 intro ag s σ H x v vl vu lo hi sl Q I rx hs pl pu h;obtain⟨a,xs,rfl,hx,hw,q⟩:=h;cases rx;obtain⟨aT,r,ht,hz⟩:=I.tuple hx;have bM:aT.toArray.size=xs.length:=by rw [cP];exact r.length.symm
 refine⟨"tuple",_,tG.lookup,ht.typeIs,?_⟩;refine HT.ng ht hs pl pu (by rw [bM];exact hw) ?_ (by rw [bM];exact hz);rw [bM];refine⟨.ref s.heap.objs.size,_,I.laid (t':=s.toks) (o:=.tup (ip xs lo hi)) (λb ob q=>cx _ q) (aE _) ?_,rfl,q _ (I.b8.fresh (aE _))⟩;exact⟨ff (pd xs lo hi) hz,_,(r.drop (HT.fI xs.length 0 lo)).take (HT.fI xs.length xs.length hi - HT.fI xs.length 0 lo),IsTup.new _ _⟩
def Oo (K:ba):R2:=λx y H Q=>∃a b xs ys,x=.ref a/\y=.ref b/\aS K H a xs/\aS K H b ys/\xs≠[]/\xs.length+ys.length<=sizeLine /\
 (ys=[]->Q (.ref a) H)/\(ys≠[]->∀p,H p=none->Q (.ref p) (upd H p (.tup (xs++ys))))
def a_.pX {xs:List V}{us:List Value}(r:a_ xs us):us=[]↔xs=[]:=by
 cases r with
 | nil=>simp
 | cons _ _=>simp
def HM:jM X (binaryOp .Add) (Oo X.K):=by
 intro ag s σ H x y v u Q I rx ry h;obtain⟨a,b,xs,ys,rfl,rfl,ha,hb,hx,hz,q1,q2⟩:=h;cases rx;cases ry;obtain⟨aT,r1,p1,_⟩:=I.tuple ha;obtain⟨eU,r2,p2,_⟩:=I.tuple hb;refine HT.IK p1 p2 (λz=>hx (r1.pX.mp z)) (λz=>⟨.ref a,H,I,rfl,q1 (r2.pX.mp z)⟩) (λz=>?_) (by rw [<-r1.length,<-r2.length];exact hz);refine⟨.ref s.heap.objs.size,_,I.laid (t':=s.toks) (o:=.tup (xs++ys)) (λb ob q=>cx _ q) (aE _) ?_,rfl,q2 (λw=>z (r2.pX.mpr w)) _ (I.b8.fresh (aE _))⟩;exact⟨by rw [bU];exact hz,_,r1.append r2,IsTup.new _ _⟩
end
def M7 (n:Nat) (i:Int):Option Nat:=if 0<=i then (if i < n then some i.toNat else none) else if -(n:Int)<=i then some (i+n).toNat else none
def r_ {α:Type}(xs:List α) (i:Int):Option α:=(M7 xs.length i).bind λj=>xs[j]?
def Il {n:Nat}{i:Int}{j:Nat}(h:M7 n i=some j):seqIndex? i n=some j/\j < n/\-(n:Int)<=i/\i < n:=by
 unfold M7 at h;by_cases h0:0<=i
 .rw [ar h0] at h;by_cases h1:i < n
  .rw [ar h1] at h;have e:i.toNat=j:=fQ h;exact⟨by rw [seqIndex_of h0 h1,e],∅,∅,h1⟩
  rw [au h1] at h;cases h
 rw [au h0] at h;by_cases h1:-(n:Int)<=i
 .rw [ar h1] at h;have e:(i+n).toNat=j:=fQ h;exact⟨by rw [seqIndex_neg ∅ h1,e],∅,h1,∅⟩
 rw [au h1] at h;cases h
def BE {α:Type}{xs:List α}{i:Int}{v:α}(h:r_ xs i=some v):∃j,seqIndex? i xs.length=some j/\xs[j]?=some v/\j < xs.length/\-(xs.length:Int)<=i/\i < xs.length:=by
 unfold r_ at h;cases e:M7 xs.length i with
 | none=>rw [e] at h;cases h
 | some j =>
  rw [e] at h;obtain⟨h1,h2,h3,h4⟩:=Il e;exact⟨j,h1,h,h2,h3,h4⟩
def dD {α:Type}{xs:List α}{j:Nat}{v:α}(h:xs[j]?=some v):r_ xs (j:Int)=some v:=by
 have hj:j < xs.length:=(bj.mp h).1;have e:M7 xs.length (j:Int)=some j:=by
  unfold M7;rw [ar ∅,ar ∅];simp
 unfold r_;rw [e];exact h
def IV (b:Expr):Prop:=∀o i,subscripted b false o i=operate [o,i] (getItem o i)
def IW (X:Cx)(r:R2):Prop :=
 ∀(value slice:Expr)(ag:List (Addr×Obj))(s:Shared)(σ:St)(H:Hp)(x y:V)(v u:Value)(Q:VK),Inv X ag σ H s->RelV x v->RelV y u->r x y H Q ->
  subscripted slice false v u=operate [v,u] (getItem v u)->wpAny (model X.prog X.w) X.A (subscriptTail value slice v u) (EP X ag σ Q) X.xe s
def QH (X:Cx)(id:String)(r:V->List V->Hp->VK->Prop):Prop :=
 ∀(ag:List (Addr×Obj))(s:Shared)(σ:St)(H:Hp)(x:V)(xs:List V)(v:Value)(us:List Value)(Q:VK),Inv X ag σ H s->RelV x v->a_ xs us->r x xs H Q ->
  wpAny (model X.prog X.w) X.A (call (.builtin id) (v::us)) (EP X ag σ Q) X.xe s
section
variable {X:Cx}{a b:Expr}{ta tb:TE}{pos:Pos}
def IW.or {r r':R2}(h:IW X r)(h':IW X r'):IW X (λx y H Q=>r x y H Q\/r' x y H Q):=by
 intro value slice ag s σ H x y v u Q I rx ry q hs;rcases q with q | q
 .exact h value slice ag s σ H x y v u Q I rx ry q hs
 exact h' value slice ag s σ H x y v u Q I rx ry q hs
def QH.or {id:String}{r r':V->List V->Hp->VK->Prop}(h:QH X id r)(h':QH X id r'):QH X id (λx xs H Q=>r x xs H Q\/r' x xs H Q):=by
 intro ag s σ H x xs v us Q I rx rs q;rcases q with q | q
 .exact h ag s σ H x xs v us Q I rx rs q
 exact h' ag s σ H x xs v us Q I rx rs q
def bD {r:R2}(hr:IW X r)(ha:PE X a ta)(hb:PE X b tb)(hs:IV b):PE X (.Subscript a b pos) (QX r ta tb):=by
 intro ag s σ H Q I h;exact Subscript_ (MD ha hb I h λv u s2 x y H2 I2 rx ry q=>hr a b ag s2 σ H2 x y v u Q I2 rx ry q (hs _ _))
inductive V6 (S:Addr->List V->Prop)(x y:V)(R:V->Prop):Prop
|mk(p:Addr)(xs:List V) (i:Int)(v:V)(e:x=.ref p)(e2:y=.int i)(s:S p xs)(a:r_ xs i=some v)(q:R v)
def Om (K:ba):R2:=λx y H Q=>V6 (aK K H) x y λv=>Q v H
def Ol (K:ba):R2:=λx y H Q=>V6 (aS K H) x y λv=>Q v H
def cZ:IW X (Om X.K):=by
 intro value slice ag s σ H x y v u Q I rx ry h hs;obtain⟨p,xs,i,z,rfl,rfl,hq,he,q⟩:=h;cases rx;obtain⟨t,rfl⟩:=ry;obtain⟨aT,r,pl,hz⟩:=I.list hq;obtain⟨j,h1,h2,h3,h4,h5⟩:=BE he;obtain⟨w,ew,zj⟩:=r.get h2;have hl:=r.length;have hn:=vW;have fin:EP X ag σ Q w s:=⟨z,H,I,zj,q⟩;by_cases h0:0<=i
 .have hj:i.toNat=j:=by
   rw [seqIndex_of h0 h5] at h1;exact fQ h1
  exact item_listR pl.isList h0 ∅ (by rw [hj];simpa using ew) fin hs
 have hj:(i+(aT.toArray.size:Int)).toNat=j:=by
  rw [seqIndex_neg ∅ h4] at h1;rw [cP,<-hl];exact fQ h1
 exact subscriptTail_builtinR (x:=w) pl.isList.typeIs slot_list_getitem.lookup
  (wpAny_getItem_list_neg (Q:=λr s'=>r=w/\EP X ag σ Q r s') pl.isList ∅ (by rw [cP] <;> omega) ∅ (by rw [hj];simpa using ew) ⟨rfl,fin⟩) hs
def bT:IW X (Ol X.K):=by
 intro value slice ag s σ H x y v u Q I rx ry h hs;obtain⟨p,xs,i,z,rfl,rfl,hq,he,q⟩:=h;cases rx;obtain⟨t,rfl⟩:=ry;obtain⟨aT,r,pl,hz⟩:=I.tuple hq;obtain⟨j,h1,h2,h3,h4,h5⟩:=BE he;obtain⟨w,ew,zj⟩:=r.get h2;have hl:=r.length;have hn:=vW;have fin:EP X ag σ Q w s:=⟨z,H,I,zj,q⟩;exact subscriptTail_builtinR (x:=w) pl.typeIs slot_tuple_getitem.lookup
  (getItem_tuple (j:=j) (Q:=λr s'=>r=w/\EP X ag σ Q r s') pl ∅ ∅ (by rw [cP,<-hl];exact h1) (by simpa using ew) ⟨rfl,fin⟩) hs
theorem Inv.lst {ag:List (Addr×Obj)}{σ:St}{H:Hp}{s:Shared}{p:Addr}{xs:List V}(I:Inv X ag σ H s)(h:H p=some (.lst xs)) :
  ∃(aT:List Value) (n:Nat),a_ xs aT/\s.heap.get? p=some { cls:=.type "list",data:=.seq aT.toArray n }/\xs.length<=sizeLine:=by
 obtain⟨z,aT,n,r,e⟩:=I.b8 p _ h;exact⟨aT,n,r,e,z⟩
def vm (lo hi:Option Int) (n:Nat):(sliceBounds lo hi none n).1=((HT.fI n 0 lo:Nat):Int)/\(sliceBounds lo hi none n).2.1=((HT.fI n n hi:Nat):Int)/\(sliceBounds lo hi none n).2.2=1:=by
 refine⟨?_,?_,rfl⟩
 .cases lo with
  | none=>simp [sliceBounds,HT.fI]
  | some i =>
   simp only [sliceBounds,HT.fI,Option.getD_none,show (1:Int) > 0 by decide,if_true];by_cases h:i < 0
   .simp only [h,if_true] <;> omega
   simp only [h,if_false] <;> omega
 cases hi with
 | none=>simp [sliceBounds,HT.fI]
 | some i =>
  simp only [sliceBounds,HT.fI,Option.getD_none,show (1:Int) > 0 by decide,if_true];by_cases h:i < 0
  .simp only [h,if_true] <;> omega
  simp only [h,if_false] <;> omega
def sS (aT:List Value)(lo hi:Option Int):slicePick aT.toArray lo hi none=((aT.drop (HT.fI aT.length 0 lo)).take (HT.fI aT.length aT.length hi - HT.fI aT.length 0 lo)).toArray:=by
 obtain⟨h1,h2,h3⟩:=vm lo hi aT.toArray.size;unfold slicePick;rw [h1,h2,h3];simp only [sliceRange_one,pick_run,cP] <;> rfl
def SS (K:ba):V->Option Int->Option Int->Hp->VK->Prop:=λx lo hi H Q=>V5 x (aK K H) λxs=>∀p,H p=none->Q (.ref p) (upd H p (.lst (ip xs lo hi)))
def A3:IU X (SS X.K):=by
 intro ag s σ H x v vl vu lo hi sl Q I rx hs pl pu h;obtain⟨a,xs,rfl,hx,q⟩:=h;cases rx;obtain⟨aT,r,ht,hz⟩:=I.list hx;have bM:=r.length;refine⟨"list",_,slot_list_getitem.lookup,ht.isList.typeIs,?_⟩;refine wpAny_getItem_list_slice ht.isList hs pl pu .none (by simp) ?_ (by rw [cP] <;> omega)
 rw [sS,<-bM];refine⟨.ref s.heap.objs.size,_,I.laid (t':=s.toks) (o:=.lst (ip xs lo hi)) (λb ob q=>cx _ q) (aE _) ?_,rfl,q _ (I.b8.fresh (aE _))⟩;exact⟨ff (pd xs lo hi) hz,_,0,(r.drop (HT.fI xs.length 0 lo)).take (HT.fI xs.length xs.length hi - HT.fI xs.length 0 lo),dH _ rfl⟩
def jk:V->Bool
 | .fc=>true
 | .bl _=>true
 | .int _=>true
 | .str _=>true
 | _=>false
def uw:V->V->Bool
 | .fc,.fc=>true
 | .bl a,.bl b=>a == b
 | .bl a,.int b=>(if a then 1 else 0) == b
 | .int a,.bl b=>a == (if b then 1 else 0)
 | .int a,.int b=>a == b
 | .str a,.str b=>a == b
 | _,_=>false
def Ad {A:Around}{s:Shared}{y x:V}{u v:Value}(ry:RelV y u)(rx:RelV x v)(fy:jk y=true)(fx:jk x=true):SeqAt.EqAt A s u v (uw y x):=by
 cases y with
 | fc =>
  cases ry;cases x with
  | fc=>cases rx;exact SeqAt.EqAt.same _
  | bl b=>cases rx;exact SeqAt.EqAt.none_bool b
  | int b=>obtain⟨t,rfl⟩:=rx;exact SeqAt.EqAt.none_int b t
  | str b=>obtain⟨t,rfl⟩:=rx;exact SeqAt.EqAt.none_str b t
  | _=>exact absurd (show false=true from fx) cU
 | bl a =>
  cases ry;cases x with
  | fc=>cases rx;exact SeqAt.EqAt.bool_none a
  | bl b=>cases rx;exact SeqAt.EqAt.bool_bool a b
  | int b=>obtain⟨t,rfl⟩:=rx;exact SeqAt.EqAt.bool_int a b t
  | str b=>obtain⟨t,rfl⟩:=rx;exact SeqAt.EqAt.bool_str a b t
  | _=>exact absurd (show false=true from fx) cU
 | int a =>
  obtain⟨t',rfl⟩:=ry;cases x with
  | fc=>cases rx;exact SeqAt.EqAt.int_none a t'
  | bl b=>cases rx;exact SeqAt.EqAt.int_bool a t' b
  | int b=>obtain⟨t,rfl⟩:=rx;exact SeqAt.EqAt.int_int a t' b t
  | str b=>obtain⟨t,rfl⟩:=rx;exact SeqAt.EqAt.int_str a t' b t
  | _=>exact absurd (show false=true from fx) cU
 | str a =>
  obtain⟨t',rfl⟩:=ry;cases x with
  | fc=>cases rx;exact SeqAt.EqAt.str_none a t'
  | bl b=>cases rx;exact SeqAt.EqAt.str_bool a t' b
  | int b=>obtain⟨t,rfl⟩:=rx;exact SeqAt.EqAt.str_int a t' b t
  | str b=>obtain⟨t,rfl⟩:=rx;exact SeqAt.EqAt.str_str a t' b t
  | _=>exact absurd (show false=true from fx) cU
 | _=>exact absurd (show false=true from fy) cU
def Ac (x:V)(u:Value):Bool:=match u with
 | .none=>uw .fc x
 | .bool b=>uw (.bl b) x
 | .int i _=>uw (.int i) x
 | .str z _=>uw (.str z) x
 | _=>false
def FY {x y:V}{u:Value}(r:RelV y u)(f:jk y=true):Ac x u=uw y x:=by
 cases y with
 | fc=>cases r;rfl
 | bl b=>cases r;rfl
 | int i=>obtain⟨t,rfl⟩:=r;rfl
 | str z=>obtain⟨t,rfl⟩:=r;rfl
 | _=>exact absurd (show false=true from f) cU
theorem ny {x:V}:∀{xs:List V}{us:List Value},a_ xs us->xs.all jk=true->us.any (Ac x)=xs.any λy=>uw y x
 | _,_,.nil,_=>rfl
 | y::xs,u::us,.cons r t,f=>by
  rw [List.all_cons,mh] at f;rw [nR,nR,FY r f.1,ny t f.2]
theorem j6 {A:Around}{s:Shared}{x:V}{v:Value}(rx:RelV x v)(fx:jk x=true):∀{xs:List V}{us:List Value},a_ xs us->xs.all jk=true->∀u∈us,SeqAt.EqAt A s u v (Ac x u)
 | _,_,.nil,_=>λu hu=>by cases hu
 | y::xs,u::us,.cons r t,f=>λu' hu=>by
  rw [List.all_cons,mh] at f;rcases bR.mp hu with rfl | hu
  .rw [FY r f.1];exact Ad r rx f.1 fx
  exact j6 rx fx t f.2 u' hu
def Ly (x:V)(xs:List V):Bool:=xs.any λy=>uw y x
inductive Zk (S:Addr->List V->Prop)(x y:V)(R:List V->Prop):Prop
|mk(p:Addr)(xs:List V)(e:y=.ref p)(s:S p xs)(f:jk x=true)(g:xs.all jk=true)(q:R xs)
def Q9 (K:ba)(neg:Bool):R2:=λx y H Q=>Zk (λp xs=>aK K H p xs\/aS K H p xs) x y λxs=>Q (.bl (if neg then !Ly x xs else Ly x xs)) H
def i9:jM X (compareOp .In) (Q9 X.K false):=by
 intro ag s σ H x y v u Q I rx ry h;obtain⟨p,xs,rfl,hq,fx,fs,q⟩:=h;cases ry;rcases hq with hq | hq
 .obtain⟨aT,r,pl,hz⟩:=I.list hq;refine SeqAt.in_listAt (Ac x) pl.isList (λw hw=>j6 rx fx r fs w (by simpa using hw)) ⟨.bl _,H,I,rfl,?_⟩;rw [show aT.toArray.any (Ac x)=aT.any (Ac x) by simp,ny r fs];exact q
 obtain⟨aT,r,pl,hz⟩:=I.tuple hq;refine SeqAt.in_tupleAt (Ac x) pl (λw hw=>j6 rx fx r fs w (by simpa using hw)) ⟨.bl _,H,I,rfl,?_⟩;rw [show aT.toArray.any (Ac x)=aT.any (Ac x) by simp,ny r fs];exact q
def ik:jM X (compareOp .NotIn) (Q9 X.K true):=by
 intro ag s σ H x y v u Q I rx ry h;obtain⟨p,xs,rfl,hq,fx,fs,q⟩:=h;cases ry;rcases hq with hq | hq
 .obtain⟨aT,r,pl,hz⟩:=I.list hq;refine SeqAt.notIn_listAt (Ac x) pl.isList (λw hw=>j6 rx fx r fs w (by simpa using hw)) ⟨.bl _,H,I,rfl,?_⟩;rw [show aT.toArray.any (Ac x)=aT.any (Ac x) by simp,ny r fs];exact q
 obtain⟨aT,r,pl,hz⟩:=I.tuple hq;refine SeqAt.notIn_tupleAt (Ac x) pl (λw hw=>j6 rx fx r fs w (by simpa using hw)) ⟨.bl _,H,I,rfl,?_⟩;rw [show aT.toArray.any (Ac x)=aT.any (Ac x) by simp,ny r fs];exact q
def a9:fC X (.builtin "len") (λxs H Q=>MM xs (λp ys=>aK X.K H p ys\/aS X.K H p ys) λys=>Q (.int ys.length) H):=by
 intro ag s σ H xs us Q I r h;obtain⟨p,ys,rfl,hq,q⟩:=h;obtain⟨u,rfl,rx⟩:=vals1 r;cases rx;have hn:=vW;rcases hq with hq | hq
 .obtain⟨aT,r',pl,hz⟩:=I.list hq;have bM:=r'.length;exact Calls.call_len_list pl.isList (by simp only [cP] <;> omega) ⟨.int ys.length,H,I.tok _,⟨s.toks+1,by rw [cP,bM]⟩,q⟩
 obtain⟨aT,r',pl,hz⟩:=I.tuple hq;have bM:=r'.length;exact len_tuple pl (by simp only [cP] <;> omega) ⟨.int ys.length,H,I.tok _,⟨s.toks+1,by rw [cP,bM]⟩,q⟩
def fC.or {f:Value}{r r':List V->Hp->VK->Prop}(h:fC X f r)(h':fC X f r'):fC X f (λxs H Q=>r xs H Q\/r' xs H Q):=by
 intro ag s σ H xs us Q I rs q;rcases q with q | q
 .exact h ag s σ H xs us Q I rs q
 exact h' ag s σ H xs us Q I rs q
def iq:fC X (.type "list") (λxs H Q=>MM xs (λp ys=>aK X.K H p ys\/aS X.K H p ys) λys=>∀l,H l=none->Q (.ref l) (upd H l (.lst ys))):=by
 intro ag s σ H xs us Q I r h;obtain⟨p,ys,rfl,hq,q⟩:=h;obtain⟨u,rfl,rx⟩:=vals1 r;cases rx;have fin:∀(aT:List Value),a_ ys aT->ys.length<=sizeLine->∀(h':Heap) (c':Nat),(∀b o',s.heap.get? b=some o'->h'.get? b=some o') ->
   h'.get? s.heap.objs.size=some { cls:=.type "list",dict:=none,data:=.seq aT.toArray c',slots:=#[] }->EP X ag σ Q (.ref s.heap.objs.size) { s with heap:=h' }:=λaT r' hz h' c' kp e =>
  ⟨.ref s.heap.objs.size,_,I.laid (t':=s.toks) kp (aE _) (show cJ X.prog X.w _ h' _ (.lst ys) from ⟨hz,aT,c',r',e⟩),rfl,q _ (I.b8.fresh (aE _))⟩
 rcases hq with hq | hq
 .obtain⟨aT,r',pl,hz⟩:=I.list hq;have bM:=r'.length;obtain⟨o,ho,hc,n,hd⟩:=pl.isList;exact call_list_seq p (.inl rfl) ho hc hd (λh' c' kp e=>fin aT r' hz h' c' kp e) (by simp only [cP] <;> omega)
 obtain⟨aT,r',pl,hz⟩:=I.tuple hq;have bM:=r'.length;obtain⟨o,ho,hc,n,hd⟩:=pl;exact call_list_seq p (.inr rfl) ho hc hd (λh' c' kp e=>fin aT r' hz h' c' kp e) (by simp only [cP] <;> omega)
def iV:fC X (.type "tuple") (λxs H Q=>∃p ys,xs=[.ref p]/\((aK X.K H p ys/\∀l,H l=none->Q (.ref l) (upd H l (.tup ys)))\/(aS X.K H p ys/\Q (.ref p) H))):=by
 intro ag s σ H xs us Q I r h;obtain⟨p,ys,rfl,h⟩:=h;obtain⟨u,rfl,rx⟩:=vals1 r;cases rx;rcases h with ⟨hq,q⟩ | ⟨hq,q⟩
 .obtain⟨aT,r',pl,hz⟩:=I.list hq;have bM:=r'.length;refine call_tuple_list pl.isList (λh' kp=>?_) (by simp only [cP] <;> omega)
  have I1:Inv X ag σ H { s with heap:=h' }:=I.kept (t':=s.toks) kp;have I2:Inv X ag σ (upd H h'.objs.size (.tup ys)) { s with heap:=h'.push { cls:=.type "tuple",data:=.seq aT.toArray } } :=
   I1.laid (t':=s.toks) (λb o e=>cx _ e) (aE _) (show cJ X.prog X.w _ _ _ (.tup ys) from ⟨hz,aT,r',IsTup.new _ _⟩)
  exact⟨.ref h'.objs.size,_,I2,rfl,q _ (I1.b8.fresh (aE _))⟩
 obtain⟨aT,r',pl,hz⟩:=I.tuple hq;exact call_tuple_same pl ⟨.ref p,H,I,rfl,q⟩
def Wt (K:ba)(T:String)(x:V)(H:Hp):Prop:=match x with
 | .str _=>T = "str"
 | .int _=>T = "int"
 | .ref p=>(T = "list" /\ ∃xs,aK K H p xs)\/(T = "tuple" /\ ∃o,K.lookup p=some o/\o.cls=.type "tuple" /\ o.dict=none) \/
   (T = "dict" /\ ((∃kvs,H p=some (.dK kvs))\/∃kvs,H p=some (.dT kvs)))\/(T = "set" /\ ∃S n,H p=some (.set S n))
 | _=>False
def Kg {ag:List (Addr×Obj)}{σ:St}{H:Hp}{s:Shared}{T:String}{x:V}{v:Value}(I:Inv X ag σ H s)(r:RelV x v)(ty:Wt X.K T x H) :
  s.TypeIs v T/\∀a,v=.ref a->∃ob,s.heap.get? a=some ob/\ob.dict=none:=by
 cases x with
 | str z =>
  obtain⟨t,rfl⟩:=r;cases (show T = "str" from ty);exact⟨typeIs_str s z t,λ_ e=>nomatch e⟩
 | int i =>
  obtain⟨t,rfl⟩:=r;cases (show T = "int" from ty);exact⟨typeIs_int s i t,λ_ e=>nomatch e⟩
 | ref p =>
  cases r;rcases ty with ⟨rfl,xs,hq⟩ | ⟨rfl,o,hk,hc,hd⟩ | ⟨rfl,hk⟩ | ⟨rfl,S,n,hk⟩
  .obtain⟨aT,_,pl,_⟩:=I.list hq;refine⟨pl.isList.typeIs,λa e=>?_⟩;cases e;obtain⟨o,n,e,c,hd,_⟩:=pl;exact⟨o,e,hd⟩
  .refine⟨⟨o,I.uf p o hk,hc⟩,λa e=>?_⟩;cases e;exact⟨o,I.uf _ o hk,hd⟩
  .have z:∃o,s.heap.get? p=some o/\o.ExactDict:=by
    rcases hk with ⟨kvs,hk⟩ | ⟨kvs,hk⟩
    .obtain⟨_,_,_,_,o,_,_,e,ex,_⟩:=I.b8 p _ hk;exact⟨o,e,ex⟩
    obtain⟨_,_,_,_,o,_,_,e,ex,_⟩:=I.b8 p _ hk;exact⟨o,e,ex⟩
   obtain⟨o,e,ex⟩:=z;refine⟨⟨o,e,ex.1⟩,λa e2=>?_⟩;cases e2;exact⟨o,e,ex.2.1⟩
  obtain⟨o,_,_,_,e,ex,_⟩:=I.b8 p _ hk;refine⟨⟨o,e,ex.1⟩,λa e2=>?_⟩;cases e2;exact⟨o,e,ex.2.1⟩
 | _=>exact False.elim ty
def ZL (K:ba)(T:String)(r:V->List V->Hp->VK->Prop)(to:TE)(t:TA):TE:=λσ H Q=>to σ H λx H1=>Wt K T x H1/\t σ H1 λxs H2=>r x xs H2 Q
variable {o e:Expr}{es:List Expr}{to:TE}{t:TA}{name:Str}{apos hX:Pos}{T id:String}{r:V->List V->Hp->VK->Prop}
def f_ (pa:PlainAttrs T)(slot:Slot T name id)(hty:typeOf (.builtin id)=pure (.type "method_descriptor"))(hm:QH X id r)(ho:PE X o to)(ha:PA X (e::es) t)
  (PJ:attributeBase o name X.env (eval o X.env)=eval o X.env:=by rfl)
  (UG:((backTo hX (starEach (e::es) X.env)).all (λx=>!x.1) && (backToKw hX (keywordEach [] X.env)).all (λx=>x.1.isSome)
   && decide ((e::es).length+([]:List Keyword).length+(if ([]:List Keyword).isEmpty then 0 else 1) < 30))=true:=by rfl)
  (Pm:(apos.endLine == hX.line)=true:=by rfl)(hs:starEach (e::es) X.env=(false,eval e X.env)::starEach es X.env:=by rfl)(LG:(backTo hX (starEach es X.env)).any (·.1)=false:=by rfl) :
  PE X (.Call (.Attribute o name apos) (e::es) [] hX) (ZL X.K T r to t):=by
 intro ag s σ H Q I h;refine wpAny_Call_method_late PJ UG Pm rfl (cW (ho ag s σ H _ I h) λv s1 bF=>?_);obtain⟨x,H1,I1,r1,ty,q1⟩:=bF;obtain⟨h1,h2⟩:=Kg I1 r1 ty;refine⟨T,id,pa,slot,hty,h1,h2,?_⟩;have hA:=ha hX ag s1 σ H1 _ I1 q1;rw [hs] at hA ⊢;refine uZ (by show (false || (backTo hX (starEach es X.env)).any (·.1))=false;rw [LG] <;> rfl) (uS ?_)
 refine cW hA λus s2 bF=>?_;obtain⟨vs,H2,I2,r2,q2⟩:=bF;exact hm ag s2 σ H2 x vs v us Q I2 r1 r2 q2
end
def Zv (X:Cx)(id:String)(r:V->List V->Hp->VK->Prop):Prop :=
 ∀(ag:List (Addr×Obj))(s:Shared)(σ:St)(H:Hp)(x:V)(xs:List V)(v:Value)(us:List Value)(Q:VK),Inv X ag σ H s->RelV x v->a_ xs us->r x xs H Q ->
  wpAny (model X.prog X.w) X.A (call (.builtin id) (v::us)) (EP X ag σ Q) X.xe s
def a_.one:∀{x:V}{us:List Value},a_ [x] us->∃u,us=[u]/\RelV x u
 | _,_,.cons r .nil=>⟨_,rfl,r⟩
def a_.two:∀{x y:V}{us:List Value},a_ [x,y] us->∃u v,us=[u,v]/\RelV x u/\RelV y v
 | _,_,_,.cons r (.cons q .nil)=>⟨_,_,rfl,r,q⟩
def a_.zero:∀{us:List Value},a_ [] us->us=[]
 | _,.nil=>rfl
theorem a_.eraseIdx:∀{xs:List V}{us:List Value}(i:Nat),a_ xs us->a_ (xs.eraseIdx i) (us.eraseIdx i)
 | _,_,_,.nil=>.nil
 | _,_,0,.cons _ t=>t
 | _,_,i+1,.cons r t=>.cons r (a_.eraseIdx i t)
theorem a_.reverse {xs:List V}{us:List Value}(h:a_ xs us):a_ xs.reverse us.reverse:=by
 induction h with
 | nil=>exact .nil
 | cons r t ih=>rw [List.reverse_cons,List.reverse_cons];exact a_.append ih (.cons r .nil)
section
variable {X:Cx}{ag:List (Addr×Obj)}{σ:St}{H:Hp}{s:Shared}{l b:Addr}{xs ys zs:List V}
def Inv.OL {aT vY:List Value}{n:Nat}{f:Array Value->Array Value}{t':Nat}(I:Inv X ag σ H s)(hH:H l=some (.lst xs))
  (e:s.heap.get? l=some { cls:=.type "list",data:=.seq aT.toArray n })(hf:f aT.toArray=vY.toArray)(hv:a_ ys vY)(hz:ys.length<=sizeLine) :
  Inv X ag σ (upd H l (.lst ys)) { s with heap:=s.heap.update l (Obj.mapSeq f),toks:=t' }:=by
 have q:=PySem.IsL.update e f;rw [hf] at q;refine I.write (x:=l) (e:=l) (by rw [hH];exact trivial) (.inl rfl) (λb' u hb hu=>(Heap.get?_update_other s.heap (Obj.mapSeq f) (gq hb)).trans hu) ⟨_,q⟩ ?_;exact⟨hz,vY,_,hv,q⟩
def Inv.TH {aT:List Value}{t':Nat}(I:Inv X ag σ H s)(hv:a_ ys aT)(hz:ys.length<=sizeLine) :
  Inv X ag σ (upd H s.heap.objs.size (.lst ys)) { s with heap:=s.heap.push { cls:=.type "list",data:=.seq aT.toArray },toks:=t' } :=
 I.laid (λ_ _ q=>cx _ q) (aE _) ⟨hz,aT,0,hv,dH _ rfl⟩
theorem Inv.fresh (I:Inv X ag σ H s):H s.heap.objs.size=none:=I.b8.fresh (aE _)
def Inv.Fl (I:Inv X ag σ H s)(hH:H l=some (.lst xs)):xs.length<=sizeLine/\∃(aT:List Value) (n:Nat),a_ xs aT/\xs.length=aT.length/\s.heap.get? l=some { cls:=.type "list",data:=.seq aT.toArray n }:=by
 obtain⟨z,aT,n,r,e⟩:=I.b8 l _ hH;exact⟨z,aT,n,r,r.length,e⟩
def Fb {n:Nat}(h:n<=sizeLine):Builtin.List.listTooLong n=false:=by
 unfold Builtin.List.listTooLong;exact fA ∅
end
section
variable {X:Cx}
inductive QA (H:Hp)(x:V)(vs:List V)(R:Addr->List V->V->Prop):Prop
|mk(l:Addr)(xs:List V)(y:V)(e:x=.ref l)(e2:vs=[y])(h:H l=some (.lst xs))(z:xs.length < sizeLine)(q:R l xs y)
def Hv:V->List V->Hp->VK->Prop:=λx vs H Q=>QA H x vs λl xs y=>Q .fc (upd H l (.lst (xs++[y])))
def bE:Zv X "list.append" Hv:=by
 intro ag s σ H x vs v us Q I rx rv h;obtain⟨l,xs,y,rfl,rfl,hH,hz,q⟩:=h;cases rx;obtain⟨u,rfl,ru⟩:=rv.one;obtain⟨z,aT,n,r,hl,e⟩:=I.Fl hH;refine call_meets F.slot_list_append ⟨_,e,rfl⟩ F.entry_list_append (F.args_list_append_2 _ _) (PySem.list_append l aT.toArray n u (by rw [cP];omega)) ⟨e,?_⟩;refine⟨.fc,_,I.OL (vY:=aT++[u]) hH e (by simp) (r.append (.cons ru .nil)) ?_,rfl,q⟩;rw [bU,ic];omega
def Hu:V->List V->Hp->VK->Prop:=λx vs H Q=>∃l b xs zs,x=.ref l/\vs=[.ref b]/\H l=some (.lst xs)/\H b=some (.lst zs)/\xs.length+zs.length<=sizeLine/\Q .fc (upd H l (.lst (xs++zs)))
def M6:Zv X "list.extend" Hu:=by
 intro ag s σ H x vs v us Q I rx rv h;obtain⟨l,b,xs,zs,rfl,rfl,hH,hB,hz,q⟩:=h;cases rx;obtain⟨u,rfl,ru⟩:=rv.one;cases ru;obtain⟨z,aT,n,r,hl,e⟩:=I.Fl hH;obtain⟨z2,eU,n2,r2,sV,e2⟩:=I.Fl hB;have hsz:aT.toArray.size+eU.toArray.size<=sizeLine:=by rw [cP,cP];omega
 have Pk:¬(!aT.toArray.isEmpty && Builtin.List.listTooLong (aT.toArray.size+eU.toArray.size))=true:=by
  rw [Fb hsz,Bool.and_false];exact cU
 refine call_meets F.slot_list_extend ⟨_,e,rfl⟩ F.entry_list_extend (F.args_list_extend_2 _ _)
  (AutoSeq1.list_extend_list_list_0 l aT.toArray n b eU.toArray n2 Pk (by rw [cP];omega) ∅) ⟨e,e2,?_⟩
 refine⟨.fc,_,I.OL (vY:=aT++eU) hH e (by simp) (r.append r2) ?_,rfl,q⟩;rw [bU];omega
def SU:R2:=λx y H Q=>V_ (λl xs=>H l=some (.lst xs)) x y λxs zs=>∀p,H p=none->Q (.ref p) (upd H p (.lst (xs++zs)))
def oC:jM X (binaryOp .Add) SU:=by
 intro ag s σ H x y v u Q I rx ry h;obtain⟨l,b,xs,zs,rfl,rfl,hH,hB,hz,q⟩:=h;cases rx;cases ry;obtain⟨z,aT,n,r,hl,e⟩:=I.Fl hH;obtain⟨z2,eU,n2,r2,sV,e2⟩:=I.Fl hB;refine PySem.P.add_list e e2 ?_ (by rw [cP,cP];omega);have ea:aT.toArray++eU.toArray=(aT++eU).toArray:=by simp
 rw [ea];exact⟨.ref _,_,I.TH (t':=s.toks) (r.append r2) (by rw [bU];omega),rfl,q _ I.fresh⟩
end
section
variable {prog:Program}{w:World}{A:Around}{E:Value->Shared->Prop}{s:Shared}
set_option maxRecDepth 100000 in
end
section
variable {X:Cx}
end
end L2
namespace wH
open PySem PySem.W PySem.Calls PyProof.Rows
def pI {P:Params}{h:Heap}:∀(ns:List Int)(vs:List Value),WellAll P h vs (ns.map WData.int)->IntsAre vs ns:=by
 intro ns
 induction ns with
 | nil =>
  intro vs w;rw [kU] at w;cases w;exact .nil
 | cons n ns ih =>
  intro vs w;rw [cA] at w;cases w with
  | cons a b =>
   cases a;exact .cons _ _ (ih _ b)
def BX {l:OpenLaw}{n:Nat}(hn:l.most=some n){P:Params}{h:Heap}{args:List WData}{vals:List Value}
  (Io:l.row.toRowW.claim.pre args=true)(Ub:WellAll P h vals args) :
  ∃a vs ns,vals=[Value.ref a]/\args=[WData.list (ns.map WData.int)]/\h.get? a=some { cls:=.type "list",data:=.seq vs.toArray }/\IntsAre vs ns/\ns.length<=n:=by
 have Rm:WShape.hasAll [] args [.list .int]=true:=(pre_splitW Io).1;have hc:l.pre.holds [] { args:=args }=true:=(pre_splitW Io).2;obtain⟨d,r,rfl,h1,h2⟩:=hasAllW_cons Rm;obtain rfl:=hasAllW_nil h2;obtain⟨xs,rfl,h3⟩:=hasW_list h1;obtain⟨ns,rfl⟩:=items_int h3;have bM:ns.length<=n:=by
  unfold OpenLaw.pre at hc;have h4:(WTm.not (.lt (.lit (.int (n:Int))) (.len (.arg 0)))).holds [] { args:=[.list (ns.map .int)] }=true:=by
   have h4:=(holds_andW hc).1;rw [hn] at h4;exact h4
  have h5:=condW_of h4 (w_not (w_lt w_lit (w_len_list (w_arg rfl))));rw [ax] at h5;refine Nat.le_of_not_lt λq=>?_;have q':(n:Int) < ((ns.length:Nat):Int):=by omega
  first
   | (rw [cC q'] at h5;exact absurd h5 nofun)
   | (simp at h5;omega)
 cases Ub with
 | cons w1 w2 =>
  cases w2;cases w1 with
  | list ho pK=>exact⟨_,_,ns,rfl,rfl,ho,pI ns _ pK,bM⟩
def B4 (l:OpenLaw)(args:List WData):l.row.toRowW.claim.post args (.bool true) args=true :=
 postW_of (r:=l.row.toRowW) (X:=(true == true))
  (show WShape.has [] (.bool true) .bool=true by first | rfl | decide | simp [WShape.has,WShape.arms,WShape.armsAll])
  (show (WTm.eq .res (.lit (.bool true))).value [] { args:=args,res:=some (.bool true),after:=args }=some (.bool (true == true)) from w_eq_bool (w_res rfl) w_lit) rfl
def pq {l:OpenLaw}{n:Nat}{q:Program}{loose:List Str}{XP:(Str->Option Value)->Heap->Prop}{YP:World->Heap->Prop}{d:DefRec}
  (hn:l.most=some n)(LQ:d.params.defaults=[])
  (call:∀(w:World)(s₀ s₁:Shared)(mg mb:Str->Option Value)(fa:Addr)(o:Obj)(pm cd doc:Value)(a:Addr)(vs:List Value)(ns:List Int),
   Ground q loose [] XP w s₀ mg mb s₁.heap->YP w s₁.heap ->
   s₁.heap.get? fa=some o->o.data=.func (docDef d.name d.params d.body d.scope pm cd doc)->s₁.heap.CodeRec cd d.name->mg d.name=some (.ref fa) ->
   s₁.heap.get? a=some { cls:=.type "list",data:=.seq vs.toArray }->IntsAre vs ns->ns.length<=n->s₁.gens=#[] ->
   codeAny (model l.prog w) callerA (.call (.ref fa) ⟨[.ref a],[]⟩) (λr s'=>r=.ok (.ret (.bool true))/\OldK s₁.heap s'.heap/\s'.os=s₁.os/\AllBare s'.gens) s₁) :
  WalkO q loose XP YP l.row.toRowW d [] (λf vs=>PySem.call f vs):=by
 intro w s₀ s₁ mg mb G Y fa o pm cd doc dV kV ho hd v8 hD LI hg args vals as Io aaj hrd Ub hlo;obtain rfl:dV=.none:=Dflts.none hD LQ;obtain rfl:kV=.none:=Dflts.noKw hD;obtain⟨a,vs,ns,rfl,rfl,Fx,hints,bM⟩:=BX hn Io Ub;refine enter_call (nJ (call w s₀ s₁ mg mb fa o pm cd doc a vs ns G Y ho (fd_plain hd) v8 LI Fx hints bM hg) λr s' hq=>?_);obtain⟨rfl,h2,h3,h4⟩:=hq;exact⟨.inl ⟨.bool true,.bool true,[],rfl,λ_=>rfl,.bool true,B4 l _,λ_=>⟨List.Pairwise.nil,λ_ hm=>(nomatch hm)⟩⟩,h2,h3,h4⟩
section
variable {prog:Program}{w:World}{A:Around}{E:Value->Shared->Prop}{s:Shared}{K:Frag}
def oF (h:Heap):Heap:={ h with objs:=#[] }
def lH (h:Heap)(b:Addr):(oF h).get? b=none:=by
 cases e:(oF h).get? b with
 | none=>rfl
 | some o=>exact absurd (bJ e) (nX _)
def ledger (h:Heap)(L d:Addr):List (Addr×Obj):=(List.range h.objs.size).filterMap λa=>if a=L\/a=d then none else (h.get? a).map λo=>(a,o)
def gu {h:Heap}{L d a:Addr}{o:Obj}:(a,o)∈ledger h L d↔a≠L/\a≠d/\h.get? a=some o:=by
 unfold ledger;rw [List.mem_filterMap];constructor
 .rintro⟨b,_,e⟩
  split at e
  .cases e
  rename_i hb
  obtain⟨o',ho,e'⟩:=cq.mp e;cases e';exact⟨λq=>hb (.inl q),λq=>hb (.inr q),ho⟩
 rintro⟨n1,n2,ho⟩;refine⟨a,iX.mpr (bJ ho),?_⟩;rw [au (show ¬(a=L\/a=d) from λq=>q.elim n1 n2),ho] <;> rfl
def o6 {h:Heap}{L d:Addr}{od:Obj}(Dj:d≠L)(ho:h.get? d=some od):News (oF h) L h ([]++(d,od)::ledger h L d):=by
 rintro⟨a,o⟩ hp;rcases bR.mp hp with e | hp
 .cases e;exact⟨ho,Dj,lH _ _⟩
 obtain⟨n1,n2,e⟩:=gu.mp hp;exact⟨e,n1,lH _ _⟩
def FP {h:Heap}{L:Addr}{m:Str->Option Value}(n:h.Ns L m):Fr (oF h) L h m :=
 ⟨n,λb o e=>(by rw [lH] at e;cases e),g9 _⟩
end
end wH
namespace L2
open PySem PySem.Spec PyProof.Rows
theorem og:∀{vs:List Value}{ns:List Int},IntsAre vs ns->a_ (ns.map V.int) vs
 | _,_,.nil=>.nil
 | _,_,.cons n t h=>.cons ⟨t,rfl⟩ (og h)
def MQ (H:Hp):Prop:=∀b,H b=none\/∃o xs,H b=some (.jN o (.lst xs))
def Fo {P:Program}{w:World}{K:ba}{mg mb:Str->Option Value}{CX:yB}{k:Nat}{fa a:Addr}{fd:FuncData}{x:Str}{sp:Sp}{s₁:Shared}{vs:List Value}{ns:List Int}
  (KX:K.In s₁.heap)(o_:s₁.heap.Ns mainGlobals mg)(hb:s₁.heap.Ns builtinsNs mb)(LS:∀x:Str,x ≠ "__name__" -> mb x=bootBuiltins x)(LK:s₁.heap.NoLimit)(hg:s₁.gens=#[])
  (ha:s₁.heap.get? a=some { cls:=.type "list",data:=.seq vs.toArray })(hi:IntsAre vs ns)(hl:ns.length<=sizeLine)(hr:eZ k callerA)
  (F:∀base:Heap,K.In base->base.Ns mainGlobals mg->bZ P w K mg base CX k fa fd [x] sp)(mZ:∀(s:Shared)(u:Value),BindsTo s fd ⟨[u],[]⟩ [(x,u)])
  (yu:∀H:Hp,MQ H->aK K H a (ns.map V.int)->sp [.ref a] H (λv _=>v=.bl true) λ_ _ _=>False)
  (LY:∀H e s',CX [] H s₁ (λ_ _ _=>False) e s'->False) :
  codeAny (model P w) callerA (.call (.ref fa) ⟨[.ref a],[]⟩) (λr s'=>r=.ok (.ret (.bool true))/\OldK s₁.heap s'.heap/\s'.os=s₁.os/\AllBare s'.gens) s₁:=by
 have rv:=og hi;have Ln:=hi.length;have core:∀H:Hp,MQ H->aK K H a (ns.map V.int)->kT P w H s₁.heap->(∀b,H b≠none->b=a)->(H a≠none->K.lookup a=none) ->
   codeAny (model P w) callerA (.call (.ref fa) ⟨[.ref a],[]⟩) (λr s'=>r=.ok (.ret (.bool true))/\OldK s₁.heap s'.heap/\s'.os=s₁.os/\AllBare s'.gens) s₁:=by
  intro H hO hS b8 hA hK;have kx:∀{b:Addr}{o:Obj},s₁.heap.get? b=some o->H b=none->(lU s₁.heap H).get? b=some o:=λe n=>xO e n;have OB:∀{b:Addr}{o:Obj}{es:Array DictEntry}{ep:Nat},s₁.heap.get? b=some o->o.data=.dict es ep->H b=none:=λ{b o es ep} e d=>by
   cases q:H b with
   | none=>rfl
   | some u =>
    have e':b=a:=hA b (by rw [q];simp);subst e';rw [ha] at e;cases e;have d':Data.seq vs.toArray _=Data.dict es ep:=d;cases d'
  have HZ:∀{b:Addr}{m:Str->Option Value},s₁.heap.Ns b m->(lU s₁.heap H).Ns b m:=λ{b m} ⟨o,es,ep,e,d,r⟩=>⟨o,es,ep,kx e (OB e d),d,r⟩;have PM:K.In (lU s₁.heap H):=λb o e=>kx (KX b o e) (by
   cases q:H b with
   | none=>rfl
   | some u =>
    have e':b=a:=hA b (by rw [q];simp);subst e';rw [hK (by rw [q];simp)] at e;cases e)
  have hM:Mod K mg (lU s₁.heap H):=⟨PM,HZ o_,⟨mb,HZ hb,LS⟩,let ⟨mc,h1,h2⟩:=LK;⟨mc,HZ h1,h2⟩⟩;have e0:pQ P w K mg (lU s₁.heap H) callerA [] s₁ H:=⟨rfl,hM,λb o e=>Bd e,Nat.le_of_eq (uk _ _),trivial,λb hb=>absurd (show b∈([]:List Addr) from hb) (by simp),b8,.of_eq hg⟩;refine nJ ((F _ PM (HZ o_)).run callerA [] s₁ H ⟨[.ref a],[]⟩ [.ref a] [.ref a] _ _ hr e0 (mZ s₁ (.ref a)) (.cons rfl .nil) (yu H hO hS)) λr s' h=>?_;cases r with
  | error e=>exact(LY H e s' h).elim
  | ok fl =>
   cases fl with
   | next=>exact False.elim h
   | brk=>exact False.elim h
   | cont=>exact False.elim h
   | ret u =>
    obtain⟨v,H',os,bare,un,Ip,r',q⟩:=h;have q':v=.bl true:=q;subst q';obtain rfl:u=Value.bool true:=r';refine⟨rfl,OldK.of_keep λb o e=>?_,os,bare⟩;cases q:H b with
    | none=>exact un.keep b o e q (by intro z;exact absurd (show b∈([]:List Addr) from z) (by simp)) (by simp)
    | some u =>
     rcases hO b with z | ⟨ob,xs,z⟩
     .rw [q] at z;cases z
     have z2:=un.lW b ob _ z;obtain⟨e1,_⟩:=b8 b _ z;obtain⟨e2,_⟩:=Ip b _ z2;rw [e] at e1;cases e1;exact e2
 cases hk:K.lookup a with
 | some o =>
  have e:=KX a o hk;rw [ha] at e;cases e;refine core (λ_=>none) (λ_=>.inl rfl) (.inr ⟨_,vs.toArray,_,hk,rfl,rfl,rfl,by rw [cP,Ln];exact hl,by simpa using rv⟩) (λb u z=>by have z':(none:Option HO)=some u:=z;cases z') (λb z=>absurd rfl z) λz=>absurd rfl z
 | none =>
  refine core (λb=>if b=a then some (.jN { cls:=.type "list",data:=.seq vs.toArray } (.lst (ns.map V.int))) else none) (λb=>?_) (.inl (.inr ⟨{ cls:=.type "list",data:=.seq vs.toArray },ar rfl⟩)) (λb u z=>?_) (λb z=>?_) λ_=>hk
  .by_cases hb:b=a
   .exact .inr ⟨_,_,ar hb⟩
   exact .inl (au hb)
  .by_cases hb:b=a
   .have z':=(ar hb).symm.trans z;cases z';subst hb;exact⟨ha,by rw [ax];exact hl,vs,_,rv,ha⟩
   have z':=(au hb).symm.trans z;cases z'
  by_cases hb:b=a
  .exact hb
  exact absurd (au hb) z
abbrev KOf {K:ba}{h:Heap}(_:K.In h):ba:=K
def QW {l:PySem.W.OpenLaw}{n k:Nat}{q:Program}{loose:List Str}{XP:(Str->Option Value)->Heap->Prop}{YP:World->Heap->Prop}{d:DefRec}{K:Params->ba}{CX:World->yB}{sp:World->Sp}{x:Str}
  (hn:l.most=some n)(FA:n<=sizeLine)(LQ:d.params.defaults=[])(hr:eZ k callerA)
  (hY:∀(w:World)(h:Heap),YP w h->(K w.params).In h)
  (F:∀(w:World)(mg:Str->Option Value)(fa:Addr)(h:Heap),(K w.params).In h->h.Ns mainGlobals mg->mg d.name=some (.ref fa) ->
   ∃fd:FuncData,(∀(s:Shared)(u:Value),BindsTo s fd ⟨[u],[]⟩ [(x,u)]) /\
    ∀base:Heap,(K w.params).In base->base.Ns mainGlobals mg->bZ l.prog w (K w.params) mg base (CX w) k fa fd [x] (sp w))
  (yu:∀(w:World)(H:Hp)(a:Addr)(ns:List Int),ns.length<=n->MQ H->aK (K w.params) H a (ns.map V.int)->sp w [.ref a] H (λv _=>v=.bl true) λ_ _ _=>False)
  (LY:∀(w:World)(H:Hp)(s:Shared)(e:Value)(s':Shared),CX w [] H s (λ_ _ _=>False) e s'->False) :
  PySem.W.WalkO q loose XP YP l.row.toRowW d [] (λf vs=>PySem.call f vs):=by
 refine wH.pq hn LQ λw s₀ s₁ mg mb fa o pm cd doc a vs ns G Y ho hd v8 LI Fx hints bM hg=>?_;have KX:=hY w _ Y;obtain⟨fd,hb,hF⟩:=F w mg fa _ KX G.T.g LI;exact Fo KX G.T.g G.T.b G.T.builtins G.T.nolimit hg Fx hints (ff bM FA) hr hF hb (λH hO hS=>yu w H a ns bM hO hS) λH e s'=>LY w H s₁ e s'
def dr (s:Stmt):Arguments:=match s with
 | .FunctionDef _ a _ _ _ _ _ _ _ _=>a
 | _=>{ posonlyargs:=[],args:=[],vararg:=none,kwonlyargs:=[],kw_defaults:=[],kwarg:=none,defaults:=[] }
def cw (s:Stmt):List Stmt:=match s with
 | .FunctionDef _ _ b _ _ _ _ _ _ _=>b
 | _=>[]
def az (s:Stmt):Scope:=match s with
 | .FunctionDef _ _ _ _ _ _ sc _ _ _=>sc
 | _=>{ kind:=.function,names:=[],isGenerator:=false,isCoroutine:=false }
abbrev gw:yB:=λ_ _ _ _ _ _=>False
abbrev E0:XK:=λ_ _ _=>False
def tX {X:Cx}:Passes gw X E0:=λ_ _ _ _ _ _ _ h=>h.elim
structure iM (K:ba)(x qual:Str)(st:Stmt)(f:Addr)(fd:FuncData):Prop where
 ex:∃(oc:Value)(od:Option Addr)(kV doc pm:Value)(an:Option Addr)(eY ct:Value)(xt:Array (Option Value)),
  fd=PySem.W.fnOf x qual (dr st) (cw st) (az st) .none kV doc pm an eY ct/\K.lookup f=some ⟨oc,od,.func fd,xt⟩/\PySem.W.codeIn K eY qual=true
 kp:PySem.W.keepIn K (.ref f)=true
section
variable {P:Program}{w:World}{K:ba}{mg:Str->Option Value}{base:Heap}
def iM.ok {x qual:Str}{st:Stmt}{f:Addr}{fd:FuncData}{N ps:List Str}{k:Nat}{sp:Sp}(F:iM K x qual st f fd)(S:aM N ps (az st))(len:∀vs H Q E,sp vs H Q E->vs.length=ps.length)
  (jh:∀(eY:Value)(A:Around)(outer:List Env)(s:Shared)(H:Hp)(vs:List V)(Q:VK)(E:XK),eZ k (A.deeper (envOfC qual (az st) s.heap.objs.size f eY))->sp vs H Q E ->
   ∃t,Aq (oT gw P w K mg base N qual (az st) f eY A outer s H E).Ck (cw st) t/\t { nx:=λ_ H'=>Q .fc H',rt:=Q } (start N vs) H):bZ P w K mg base gw (k+1) f fd ps sp:=by
 obtain⟨oc,od,kV,doc,pm,an,eY,ct,xt,rfl,lk,v8⟩:=F.ex;refine FU lk v8 S len λA outer s H vs Q E hr yu=>?_;obtain⟨t,h,q⟩:=jh eY A outer s H vs Q E hr yu;exact⟨t,h.Ck,q⟩
def iM.binds {x qual:Str}{st:Stmt}{f:Addr}{fd:FuncData}{ps:List Str}(F:iM K x qual st f fd)
  (h:∀(kV doc pm:Value)(an:Option Addr)(eY ct:Value)(us:List Value),us.length=ps.length->bindArgs (PySem.W.fnOf x qual (dr st) (cw st) (az st) .none kV doc pm an eY ct) ⟨us,[]⟩=pure (ps.zip us)):Binds K fd ps []:=by
 obtain⟨oc,od,kV,doc,pm,an,eY,ct,xt,rfl,lk,v8⟩:=F.ex;exact .all (h kV doc pm an eY ct)
def FO {x qual:Str}{st:Stmt}{f:Addr}{oc:Value}{od an:Option Addr}{xt:Array (Option Value)}{kV doc pm eY ct:Value}(l:K.lookup f=some ⟨oc,od,.func (PySem.W.fnOf x qual (dr st) (cw st) (az st) .none kV doc pm an eY ct),xt⟩)
  (c:PySem.W.codeIn K eY qual=true)(k:PySem.W.keepIn K (.ref f)=true):iM K x qual st f (PySem.W.fnOf x qual (dr st) (cw st) (az st) .none kV doc pm an eY ct):=⟨⟨oc,od,kV,doc,pm,an,eY,ct,xt,rfl,l,c⟩,k⟩
end
def gM {A:Around}{k:Nat}(hr:eZ k A):A.units+1 < cLine:=qy (Nat.add_le_add_left (by decide:1<=64) _) hr.units
section
variable {X:Cx}
def pv (i:Nat){x:Str}{pos:Pos}(hN:X.N[i]?=some x:=by rfl)(hv:RQ X.env.scope x:=by first | exact Or.inl rfl | exact Or.inr (bo rfl) | exact Or.inr (Or.inr rfl))(hd:(x == ("__debug__":Str))=false:=by decide)
  (v8:(x == ("__classdict__":Str))=false:=by decide):PE X (.Name x pos) (gE i):=K0 hN hv hd v8
end
def gW {A B:Prop}(h:B):if false=true then A else B:=by
 rw [au cU];exact h
def zT {A B:Prop}(h:A):if true=true then A else B:=by
 rw [ar rfl];exact h
def cu {c A B:Prop} [Decidable c] (h1:c->A)(h2:¬c->B):if c then A else B:=by
 by_cases h:c
 .rw [ar h];exact h1 h
 rw [au h];exact h2 h
def aC (H H':Hp):Prop:=∀b o,H b=some o->H' b=some o
def aC.refl (H:Hp):aC H H:=λ_ _ h=>h
def aC.trans {H H1 H2:Hp}(a:aC H H1)(b:aC H1 H2):aC H H2:=λc o h=>b c o (a c o h)
def aC.free {H H':Hp}(e:aC H H'){l:Addr}(h:H' l=Option.none):H l=Option.none:=by
 cases q:H l with
 | none=>rfl
 | some o =>
  rw [e l o q] at h;cases h
def aC.seq {K:ba}{H H':Hp}{a:Addr}{xs:List V}(e:aC H H')(h:aK K H a xs):aK K H' a xs:=by
 rcases h with (h | ⟨o,h⟩) | h
 .exact .inl (.inl (e _ _ h))
 .exact .inl (.inr ⟨o,e _ _ h⟩)
 exact .inr h
end L2
namespace HD
open PySem PySem.W
def EA (st:SharedT->Thread->Option (SharedT×Thread))(ok:Thread->Bool):Nat->SharedT->Thread->Option SharedT
 | 0,_,_=>none
 | n+1,s,t=>match through t with
  | true=>some s
  | false=>match ok t with
   | false=>none
   | true=>match st s t with
    | some (s',t')=>EA st ok n s' t'
    | none=>none
theorem A6 {tb:String->Option Builtin}{p:Program}{w:World}{n₀:Nat}{ann:Option Value}:∀{n:Nat}{s s':SharedT}{t:Thread},EA (stepT (denote tb) p w) (stepOk n₀ ann) n s t=some s'->topRun tb p w n₀ ann n s.abs t=some s'.abs
 | 0,_,_,_,h=>by cases h
 | n+1,s,s',t,h=>by
  unfold EA at h;unfold topRun;cases he:through t with
  | true=>rw [he] at h;cases h;rfl
  | false =>
   rw [he] at h;cases hk:stepOk n₀ ann t with
   | false=>rw [hk] at h;cases h
   | true =>
    rw [hk] at h;cases hs:stepT (denote tb) p w s t with
    | none=>rw [hs] at h;cases h
    | some r=>obtain⟨s₂,t₂⟩:=r;rw [hs] at h;rw [stepT_spec hs];exact A6 h
def W6:List Obj->Nat->BT->BT
 | [],_,t=>t
 | o::r,i,t=>W6 r (i+1) (t.ins i o)
noncomputable def BA (P:Params):BT:=W6 (boot_heap P).objs.toList 0 .nil
def CV (P:Params):absHeap (BA P) 11 {}=boot_heap P:=by kernel_rfl
def Md {α β:Type}:List α->(List α->β)->β
 | [],k=>k []
 | x::r,k=>Md r λys=>k (x::ys)
def Mc {β:Type}:Obj->(Obj->β)->β
 | ⟨c,d,t,s⟩,k=>k ⟨c,d,t,s⟩
def qa {β:Type}:List Obj->(List Obj->β)->β
 | [],k=>k []
 | x::r,k=>Mc x λy=>qa r λys=>k (y::ys)
theorem rC {β:Type}:∀(l:List Obj)(k:List Obj->β),qa l k=k l
 | [],_=>rfl
 | ⟨c,d,t,s⟩::r,k=>by
  show qa r (λys=>k (⟨c,d,t,s⟩::ys))=_;rw [rC r]
def Fm (p q:Program) (loose:List Str)(Xt:Shared->Bool){α:Type}(Yf:Shared->α)(g0:Bool)(h₀:Heap)(s:Shared) :=
 ((staticsOk (importedModules p.main.body) h₀ s.heap && namesBound p s.heap && gensDone s && laidKept h₀ s.heap),openSeen q loose (importedModules p.main.body) Xt g0 s,Yf s)
def Ed {β:Type}(f:Shared->β)(s:SharedT):β:=qa (s.tree.list s.n) λl=>f ⟨⟨l.toArray,s.life⟩,s.gens,s.drawn,s.toks,s.os⟩
def Ec {β:Type}(f:Shared->β)(s:SharedT):Ed f s=f s.abs:=rC _ _
def OO {p q:Program}{loose:List Str}{Xt:Shared->Bool}{α:Type}{Yf:Shared->α}{Ya:World->α}{N:Nat}{g0:Bool}{ann:Option Value}{M:Nat}
  (ER:∀w:World,(fencedOpening treeTable p w N).map (λs=>(s.heap,s.gens,s.drawn,s.toks))=some (boot_heap w.params,Array.mk [],boot_drawn,boot_toks))
  (size:∀w:World,((boot_heap w.params).isNs mainGlobals && (Array.mk []:Array GenState).size == 0,(boot_heap w.params).objs.size,(boot_heap w.params).nsMap mainGlobals "__annotations__")=(true,11,ann))
  (run:∀(w:World)(os:OsState),(EA (stepT (denote treeTable) p w) (stepOk 11 ann) M ⟨BA w.params,11,{},Array.mk [],boot_drawn,boot_toks,os⟩ (topStub p)).map (Ed (Fm p q loose Xt Yf g0 (boot_heap w.params)))=some (true,openGood q loose,Ya w))
  (le:Nat.ble M N=true):LeftO p q loose Xt Yf Ya N g0:=λw=>by
 obtain⟨⟨h,gs,d,k,os⟩,e,e'⟩:=cq.mp (ER w);obtain⟨rfl,rfl,rfl,rfl⟩:h=boot_heap w.params/\gs=Array.mk []/\d=boot_drawn/\k=boot_toks:=by simpa using e'
 obtain⟨z1,z2,z3⟩:_/\_/\_:=by simpa only [qm] using size w
 obtain⟨s',r0,l0⟩:=cq.mp (run w os);rw [Ec] at l0;obtain⟨l1,l2,l3⟩:_/\_/\_:=by simpa only [Fm,qm] using l0
 have r:=A6 r0;have ea:SharedT.abs ⟨BA w.params,11,{},Array.mk [],boot_drawn,boot_toks,os⟩=⟨boot_heap w.params,Array.mk [],boot_drawn,boot_toks,os⟩:=by
  unfold SharedT.abs;rw [CV]
 rw [ea] at r;have r:=topRun_mono (N - M) _ _ _ _ r;rw [show M+(N - M)=N by have:=Nat.le_of_ble_eq_true le;omega] at r;have t:topFrom treeTable p w N ⟨boot_heap w.params,Array.mk [],boot_drawn,boot_toks,os⟩=some s'.abs:=by
  unfold topFrom;dsimp only;rw [z1,z2,z3,r];show (match staticsOk (importedModules p.main.body) (boot_heap w.params) s'.abs.heap && namesBound p s'.abs.heap && gensDone s'.abs && laidKept (boot_heap w.params) s'.abs.heap with | true=>_ | false=>_)=_
  rw [l1]
 unfold openEnds;rw [e];show (topFrom treeTable p w N _).map _=_;rw [t];exact congrArg some (iD l2 l3)
end HD
set_option maxHeartbeats 0
namespace HD
open PySem PySem.W L2 PySem.Challenge
def dE (P:Params)(x:Str)(t:Tok)(v:Value):DictEntry:=⟨PyData.keyHash P x,.str x t,v⟩
def top (p:Program) (i:Nat):Stmt:=p.main.body.getD i (.Pass ⟨0,0,0,0⟩)
def ja (p:Program) (i j:Nat):Stmt:=match top p i with
 | .ClassDef _ _ _ body _ _ _ _ _ _ _=>body.getD j (.Pass ⟨0,0,0,0⟩)
 | _=>.Pass ⟨0,0,0,0⟩
def posOf (s:Stmt):Pos:=match s with
 | .FunctionDef _ _ _ _ _ _ _ _ _ p=>p
 | _=>⟨0,0,0,0⟩
def cF (a:Addr)(n q:Str)(i:Nat)(l m:Int)(x y:Addr)(u v s t:Value)(z:Int)(w:Nat):Addr×Obj:=(a,⟨.type "code",none,.fields #[.str n i,.str q (i+1),.str "/claim/cut.py" (i+2),.int l 0,.int m 0,.int 0 0,.int 0 0,.int 3 0,.ref x,.bool true,.int 181 0,.ref y,u,v,s,t,.int z 0,.int l 0,.str "/claim/cut.py" w],#[]⟩)
def fF (a:Addr)(n q:Str)(s:Stmt)(m:Value):Addr×Obj:=(a,⟨.type "function",none,.func (fnOf n q (dr s) (cw s) (az s) .none .none .none m none (.ref (a-1)) .none),#[]⟩)
def dR (P:Params)(x:Str)(t:Tok)(a:Addr):DictEntry:=dE P x t (.ref a)
def m0:Value:=.str "__main__" 164
def m1:Value:=.str "wright.begins" 194
def m2:Value:=.str "wright.rules" 203
def m3:Value:=.str "wright.begin_tables" 235
def m4:Value:=.str "wright.errors" 329
def m5:Value:=.str "wright.loops" 490
def m6:Value:=.str "wright.tree_sizes" 520
def m7:Value:=.str "wright.grammar_faults" 541
def m8:Value:=.str "wright.least_trees" 568
def m9:Value:=.str "wright.grammars" 654
def l8:Value:=.str "law_wright_k21_what_can_begin" 697
noncomputable def K' (p:Program)(P:Params):Frag:=[
 (2,⟨.none,none,.dict #[] 0,#[]⟩),
 (3,⟨.type "dict",none,.dict #[dE P "__name__" 165 (.str "law_wright_k21_what_can_begin" 697),dE P "__doc__" 166 (.none),dE P "__package__" 167 (.none),dE P "__loader__" 168 (.builtin "__main__.__loader__#opaque"),dE P "__spec__" 169 (.none),dR P "__annotations__" 170 6,dR P "__builtins__" 171 4,dE P "__file__" 173 (.str "/claim/cut.py" 172),dE P "__cached__" 174 (.none),dR P "_wall" 193 21,dR P "begins_of" 202 28,dR P "heads_of" 210 33,dR P "words_in" 216 38,dR P "numbers_by_name" 222 43,dR P "standings_by_part" 234 50,dR P "found_empties" 242 55,dR P "first_places" 253 62,dR P "BeginTable" 328 112,dR P "WrightError" 348 126,dR P "NoRules" 364 139,dR P "Twice" 389 158,dR P "Endless" 414 177,dR P "Unmet" 439 196,dR P "Loop" 464 215,dR P "Vast" 489 234,dR P "find_loop" 497 241,dR P "steps_with_like_rows" 503 246,dR P "way_back" 519 253,dR P "least_sizes" 527 258,dR P "greatest_empty_sizes" 534 265,dR P "settled_sizes" 540 270,dE P "MOST_RULES" 544 (.int (60) 543),dR P "refuse_faults" 550 275,dR P "refuse_twice" 561 282,dR P "names_met" 567 287,dR P "least_by_part" 575 292,dR P "rule_size" 581 297,dR P "empty_by_name" 587 302,dR P "LeastTrees" 653 345,dR P "Grammar" 696 374,dR P "_law_cell_at" 706 385,dR P "_law_names" 712 390,dR P "_law_words" 719 397,dR P "_law_digits" 731 404,dR P "_law_skeleton" 745 411,dR P "_law_more" 761 418,dR P "_law_ended" 767 423,dR P "_law_not_vast" 773 428,dR P "_law_good" 779 433,dR P "_law_grammar" 793 440,dR P "_law_begins" 799 445,dR P "_law_deep" 810 452,dR P "_law_whole" 818 459,dR P "_law_stands" 824 464,dR P "law" 830 469] 55,#[]⟩),
 (cF 20 "_wall" "_wall" 187 1 1 15 16 .none (.ref 17) (.ref 18) (.ref 19) 191 192),
 (fF 21 "_wall" "_wall" (top p 0) m0),
 (cF 27 "begins_of" "begins_of" 196 5 1 22 23 .none (.ref 24) (.ref 25) (.ref 26) 200 201),
 (fF 28 "begins_of" "begins_of" (top p 2) m1),
 (cF 32 "heads_of" "heads_of" 205 8 1 29 30 .none .none .none (.ref 31) 208 209),
 (fF 33 "heads_of" "heads_of" (top p 4) m2),
 (cF 37 "words_in" "words_in" 211 10 1 34 35 .none .none .none (.ref 36) 214 215),
 (fF 38 "words_in" "words_in" (top p 5) m2),
 (cF 42 "numbers_by_name" "numbers_by_name" 217 18 1 39 40 .none .none .none (.ref 41) 220 221),
 (fF 43 "numbers_by_name" "numbers_by_name" (top p 6) m2),
 (cF 49 "standings_by_part" "standings_by_part" 223 23 1 44 45 .none (.ref 46) (.ref 47) (.ref 48) 232 233),
 (fF 50 "standings_by_part" "standings_by_part" (top p 7) m2),
 (cF 54 "found_empties" "found_empties" 237 30 1 51 52 .none .none .none (.ref 53) 240 241),
 (fF 55 "found_empties" "found_empties" (top p 9) m3),
 (cF 61 "first_places" "first_places" 243 41 2 56 57 .none (.ref 58) (.ref 59) (.ref 60) 251 252),
 (fF 62 "first_places" "first_places" (top p 10) m3),
 (cF 73 "__init__" "BeginTable.__init__" 266 50 2 70 71 .none .none .none (.ref 72) 269 270),
 (fF 74 "__init__" "BeginTable.__init__" (ja p 11 0) m3),
 (cF 80 "find_begins" "BeginTable.find_begins" 272 61 3 75 76 .none (.ref 77) (.ref 78) (.ref 79) 281 282),
 (fF 81 "find_begins" "BeginTable.find_begins" (ja p 11 1) m3),
 (cF 87 "words_of_part" "BeginTable.words_of_part" 284 69 2 82 83 .none (.ref 84) (.ref 85) (.ref 86) 289 290),
 (fF 88 "words_of_part" "BeginTable.words_of_part" (ja p 11 2) m3),
 (cF 94 "first_words" "BeginTable.first_words" 292 72 2 89 90 .none (.ref 91) (.ref 92) (.ref 93) 297 298),
 (fF 95 "first_words" "BeginTable.first_words" (ja p 11 3) m3),
 (cF 101 "all_empty" "BeginTable.all_empty" 300 75 2 96 97 .none (.ref 98) (.ref 99) (.ref 100) 305 306),
 (fF 102 "all_empty" "BeginTable.all_empty" (ja p 11 4) m3),
 (cF 108 "words_of_parts" "BeginTable.words_of_parts" 308 78 3 103 104 .none (.ref 105) (.ref 106) (.ref 107) 314 315),
 (fF 109 "words_of_parts" "BeginTable.words_of_parts" (ja p 11 5) m3),
 (111,⟨.type "dict",none,.dict #[dE P "__module__" 261 (.str "wright.begin_tables" 235),dE P "__firstlineno__" 265 (.int (48) 264),dR P "__init__" 271 74,dR P "find_begins" 283 81,dR P "words_of_part" 291 88,dR P "first_words" 299 95,dR P "all_empty" 307 102,dR P "words_of_parts" 316 109,dR P "__static_attributes__" 321 110,dR P "__dict__" 323 113,dR P "__weakref__" 325 114,dE P "__doc__" 326 (.none)] 4,#[]⟩),
 (112,⟨.type "type",none,.cls ⟨"BeginTable",[.type "object"],[.ref 112,.type "object"],111,"BeginTable",true,[],[],false,none,false⟩,#[none,none,some (.str "BeginTable" 254),some (.str "BeginTable" 262),some (.builtin "object.__new__"),some (.bool true)]⟩),
 (113,⟨.type "getset_descriptor",none,.fields #[.str "__dict__" 322,.ref 112,.builtin "function.__dict__",.builtin "function.__dict__#set"],#[]⟩),
 (114,⟨.type "getset_descriptor",none,.fields #[.str "__weakref__" 324,.ref 112,.builtin "ExceptionGroup.__weakref__",.none],#[]⟩),
 (125,⟨.type "dict",none,.dict #[dE P "__module__" 338 (.str "wright.errors" 329),dE P "__firstlineno__" 342 (.int (81) 341),dR P "__static_attributes__" 343 124,dR P "__weakref__" 345 127,dE P "__doc__" 346 (.none)] 3,#[]⟩),
 (126,⟨.type "type",none,.cls ⟨"WrightError",[.type "ValueError"],[.ref 126,.type "ValueError",.type "Exception",.type "BaseException",.type "object"],125,"WrightError",true,[],[.ref 139,.ref 158,.ref 177,.ref 196,.ref 215,.ref 234],false,none,false⟩,#[some (.ref 117),none,some (.str "WrightError" 331),some (.str "WrightError" 339),some (.builtin "ValueError.__new__"),some (.bool true)]⟩),
 (127,⟨.type "getset_descriptor",none,.fields #[.str "__weakref__" 344,.ref 126,.builtin "ExceptionGroup.__weakref__",.none],#[]⟩),
 (138,⟨.type "dict",none,.dict #[dE P "__module__" 356 (.str "wright.errors" 329),dE P "__firstlineno__" 360 (.int (83) 359),dR P "__static_attributes__" 361 137,dE P "__doc__" 362 (.none)] 2,#[]⟩),
 (139,⟨.type "type",none,.cls ⟨"NoRules",[.ref 126],[.ref 139,.ref 126,.type "ValueError",.type "Exception",.type "BaseException",.type "object"],138,"NoRules",true,[],[],false,none,false⟩,#[some (.ref 130),none,some (.str "NoRules" 349),some (.str "NoRules" 357),some (.builtin "ValueError.__new__"),some (.bool true)]⟩),
 (cF 154 "__init__" "Twice.__init__" 377 87 2 149 150 .none (.ref 151) (.ref 152) (.ref 153) 382 383),
 (fF 155 "__init__" "Twice.__init__" (ja p 15 0) m4),
 (157,⟨.type "dict",none,.dict #[dE P "__module__" 372 (.str "wright.errors" 329),dE P "__firstlineno__" 376 (.int (85) 375),dR P "__init__" 384 155,dR P "__static_attributes__" 386 156,dE P "__doc__" 387 (.none)] 2,#[]⟩),
 (158,⟨.type "type",none,.cls ⟨"Twice",[.ref 126],[.ref 158,.ref 126,.type "ValueError",.type "Exception",.type "BaseException",.type "object"],157,"Twice",true,[],[],false,none,false⟩,#[some (.ref 142),none,some (.str "Twice" 365),some (.str "Twice" 373),some (.builtin "ValueError.__new__"),some (.bool true)]⟩),
 (cF 173 "__init__" "Endless.__init__" 402 92 2 168 169 .none (.ref 170) (.ref 171) (.ref 172) 407 408),
 (fF 174 "__init__" "Endless.__init__" (ja p 16 0) m4),
 (176,⟨.type "dict",none,.dict #[dE P "__module__" 397 (.str "wright.errors" 329),dE P "__firstlineno__" 401 (.int (90) 400),dR P "__init__" 409 174,dR P "__static_attributes__" 411 175,dE P "__doc__" 412 (.none)] 2,#[]⟩),
 (177,⟨.type "type",none,.cls ⟨"Endless",[.ref 126],[.ref 177,.ref 126,.type "ValueError",.type "Exception",.type "BaseException",.type "object"],176,"Endless",true,[],[],false,none,false⟩,#[some (.ref 161),none,some (.str "Endless" 390),some (.str "Endless" 398),some (.builtin "ValueError.__new__"),some (.bool true)]⟩),
 (cF 192 "__init__" "Unmet.__init__" 427 97 2 187 188 .none (.ref 189) (.ref 190) (.ref 191) 432 433),
 (fF 193 "__init__" "Unmet.__init__" (ja p 17 0) m4),
 (195,⟨.type "dict",none,.dict #[dE P "__module__" 422 (.str "wright.errors" 329),dE P "__firstlineno__" 426 (.int (95) 425),dR P "__init__" 434 193,dR P "__static_attributes__" 436 194,dE P "__doc__" 437 (.none)] 2,#[]⟩),
 (196,⟨.type "type",none,.cls ⟨"Unmet",[.ref 126],[.ref 196,.ref 126,.type "ValueError",.type "Exception",.type "BaseException",.type "object"],195,"Unmet",true,[],[],false,none,false⟩,#[some (.ref 180),none,some (.str "Unmet" 415),some (.str "Unmet" 423),some (.builtin "ValueError.__new__"),some (.bool true)]⟩),
 (cF 211 "__init__" "Loop.__init__" 452 102 2 206 207 .none (.ref 208) (.ref 209) (.ref 210) 457 458),
 (fF 212 "__init__" "Loop.__init__" (ja p 18 0) m4),
 (214,⟨.type "dict",none,.dict #[dE P "__module__" 447 (.str "wright.errors" 329),dE P "__firstlineno__" 451 (.int (100) 450),dR P "__init__" 459 212,dR P "__static_attributes__" 461 213,dE P "__doc__" 462 (.none)] 2,#[]⟩),
 (215,⟨.type "type",none,.cls ⟨"Loop",[.ref 126],[.ref 215,.ref 126,.type "ValueError",.type "Exception",.type "BaseException",.type "object"],214,"Loop",true,[],[],false,none,false⟩,#[some (.ref 199),none,some (.str "Loop" 440),some (.str "Loop" 448),some (.builtin "ValueError.__new__"),some (.bool true)]⟩),
 (cF 230 "__init__" "Vast.__init__" 477 107 2 225 226 .none (.ref 227) (.ref 228) (.ref 229) 482 483),
 (fF 231 "__init__" "Vast.__init__" (ja p 19 0) m4),
 (233,⟨.type "dict",none,.dict #[dE P "__module__" 472 (.str "wright.errors" 329),dE P "__firstlineno__" 476 (.int (105) 475),dR P "__init__" 484 231,dR P "__static_attributes__" 486 232,dE P "__doc__" 487 (.none)] 2,#[]⟩),
 (234,⟨.type "type",none,.cls ⟨"Vast",[.ref 126],[.ref 234,.ref 126,.type "ValueError",.type "Exception",.type "BaseException",.type "object"],233,"Vast",true,[],[],false,none,false⟩,#[some (.ref 218),none,some (.str "Vast" 465),some (.str "Vast" 473),some (.builtin "ValueError.__new__"),some (.bool true)]⟩),
 (cF 240 "find_loop" "find_loop" 492 111 1 237 238 .none .none .none (.ref 239) 495 496),
 (fF 241 "find_loop" "find_loop" (top p 21) m5),
 (cF 245 "steps_with_like_rows" "steps_with_like_rows" 498 115 1 242 243 .none .none .none (.ref 244) 501 502),
 (fF 246 "steps_with_like_rows" "steps_with_like_rows" (top p 22) m5),
 (cF 252 "way_back" "way_back" 504 124 3 247 248 .none (.ref 249) (.ref 250) (.ref 251) 517 518),
 (fF 253 "way_back" "way_back" (top p 23) m5),
 (cF 257 "least_sizes" "least_sizes" 522 140 1 254 255 .none .none .none (.ref 256) 525 526),
 (fF 258 "least_sizes" "least_sizes" (top p 25) m6),
 (cF 264 "greatest_empty_sizes" "greatest_empty_sizes" 528 142 1 259 260 .none (.ref 261) (.ref 262) (.ref 263) 532 533),
 (fF 265 "greatest_empty_sizes" "greatest_empty_sizes" (top p 26) m6),
 (cF 269 "settled_sizes" "settled_sizes" 535 144 3 266 267 .none .none .none (.ref 268) 538 539),
 (fF 270 "settled_sizes" "settled_sizes" (top p 27) m6),
 (cF 274 "refuse_faults" "refuse_faults" 545 157 2 271 272 .none .none .none (.ref 273) 548 549),
 (fF 275 "refuse_faults" "refuse_faults" (top p 30) m7),
 (cF 281 "refuse_twice" "refuse_twice" 551 176 1 276 277 .none (.ref 278) (.ref 279) (.ref 280) 559 560),
 (fF 282 "refuse_twice" "refuse_twice" (top p 31) m7),
 (cF 286 "names_met" "names_met" 562 183 1 283 284 .none .none .none (.ref 285) 565 566),
 (fF 287 "names_met" "names_met" (top p 32) m7),
 (cF 291 "least_by_part" "least_by_part" 570 193 1 288 289 .none .none .none (.ref 290) 573 574),
 (fF 292 "least_by_part" "least_by_part" (top p 34) m8),
 (cF 296 "rule_size" "rule_size" 576 201 2 293 294 .none .none .none (.ref 295) 579 580),
 (fF 297 "rule_size" "rule_size" (top p 35) m8),
 (cF 301 "empty_by_name" "empty_by_name" 582 203 2 298 299 .none .none .none (.ref 300) 585 586),
 (fF 302 "empty_by_name" "empty_by_name" (top p 36) m8),
 (cF 313 "__init__" "LeastTrees.__init__" 600 210 3 310 311 .none .none .none (.ref 312) 603 604),
 (fF 314 "__init__" "LeastTrees.__init__" (ja p 37 0) m8),
 (cF 320 "least_of" "LeastTrees.least_of" 606 217 2 315 316 .none (.ref 317) (.ref 318) (.ref 319) 611 612),
 (fF 321 "least_of" "LeastTrees.least_of" (ja p 37 1) m8),
 (cF 327 "hollow_of" "LeastTrees.hollow_of" 614 220 2 322 323 .none (.ref 324) (.ref 325) (.ref 326) 619 620),
 (fF 328 "hollow_of" "LeastTrees.hollow_of" (ja p 37 2) m8),
 (cF 334 "begun_place" "LeastTrees.begun_place" 622 223 3 329 330 .none (.ref 331) (.ref 332) (.ref 333) 628 629),
 (fF 335 "begun_place" "LeastTrees.begun_place" (ja p 37 3) m8),
 (cF 341 "begun_of" "LeastTrees.begun_of" 631 226 4 336 337 .none (.ref 338) (.ref 339) (.ref 340) 638 639),
 (fF 342 "begun_of" "LeastTrees.begun_of" (ja p 37 4) m8),
 (344,⟨.type "dict",none,.dict #[dE P "__module__" 595 (.str "wright.least_trees" 568),dE P "__firstlineno__" 599 (.int (208) 598),dR P "__init__" 605 314,dR P "least_of" 613 321,dR P "hollow_of" 621 328,dR P "begun_place" 630 335,dR P "begun_of" 640 342,dR P "__static_attributes__" 646 343,dR P "__dict__" 648 346,dR P "__weakref__" 650 347,dE P "__doc__" 651 (.none)] 4,#[]⟩),
 (345,⟨.type "type",none,.cls ⟨"LeastTrees",[.type "object"],[.ref 345,.type "object"],344,"LeastTrees",true,[],[],false,none,false⟩,#[none,none,some (.str "LeastTrees" 588),some (.str "LeastTrees" 596),some (.builtin "object.__new__"),some (.bool true)]⟩),
 (346,⟨.type "getset_descriptor",none,.fields #[.str "__dict__" 647,.ref 345,.builtin "function.__dict__",.builtin "function.__dict__#set"],#[]⟩),
 (347,⟨.type "getset_descriptor",none,.fields #[.str "__weakref__" 649,.ref 345,.builtin "ExceptionGroup.__weakref__",.none],#[]⟩),
 (357,⟨.type "tuple",none,.seq #[.none] 0,#[]⟩),
 (cF 363 "__init__" "Grammar.__init__" 668 231 3 358 359 .none (.ref 360) (.ref 361) (.ref 362) 674 675),
 (364,⟨.type "function",none,.func (fnOf "__init__" "Grammar.__init__" (dr (ja p 39 0)) (cw (ja p 39 0)) (az (ja p 39 0)) (.ref 357) (.none) (.none) (.str "wright.grammars" 654) (none) (.ref 363) (.none)),#[]⟩),
 (cF 370 "start" "Grammar.start" 677 239 1 365 366 .none (.ref 367) (.ref 368) (.ref 369) 681 682),
 (fF 371 "start" "Grammar.start" (ja p 39 1) m9),
 (373,⟨.type "dict",none,.dict #[dE P "__module__" 663 (.str "wright.grammars" 654),dE P "__firstlineno__" 667 (.int (229) 666),dR P "__init__" 676 364,dR P "start" 683 371,dR P "__static_attributes__" 689 372,dR P "__dict__" 691 375,dR P "__weakref__" 693 376,dE P "__doc__" 694 (.none)] 4,#[]⟩),
 (374,⟨.type "type",none,.cls ⟨"Grammar",[.type "object"],[.ref 374,.type "object"],373,"Grammar",true,[],[],false,none,false⟩,#[none,none,some (.str "Grammar" 656),some (.str "Grammar" 664),some (.builtin "object.__new__"),some (.bool true)]⟩),
 (375,⟨.type "getset_descriptor",none,.fields #[.str "__dict__" 690,.ref 374,.builtin "function.__dict__",.builtin "function.__dict__#set"],#[]⟩),
 (376,⟨.type "getset_descriptor",none,.fields #[.str "__weakref__" 692,.ref 374,.builtin "ExceptionGroup.__weakref__",.none],#[]⟩),
 (cF 384 "_law_cell_at" "_law_cell_at" 699 242 2 379 380 .none (.ref 381) (.ref 382) (.ref 383) 704 705),
 (fF 385 "_law_cell_at" "_law_cell_at" (top p 41) l8),
 (cF 389 "_law_names" "_law_names" 707 246 1 386 387 .none .none .none (.ref 388) 710 711),
 (fF 390 "_law_names" "_law_names" (top p 42) l8),
 (cF 396 "_law_words" "_law_words" 713 252 1 391 392 .none (.ref 393) (.ref 394) (.ref 395) 717 718),
 (fF 397 "_law_words" "_law_words" (top p 43) l8),
 (cF 403 "_law_digits" "_law_digits" 720 254 3 398 399 .none (.ref 400) (.ref 401) (.ref 402) 729 730),
 (fF 404 "_law_digits" "_law_digits" (top p 44) l8),
 (cF 410 "_law_skeleton" "_law_skeleton" 732 265 4 405 406 .none (.ref 407) (.ref 408) (.ref 409) 743 744),
 (fF 411 "_law_skeleton" "_law_skeleton" (top p 45) l8),
 (cF 417 "_law_more" "_law_more" 746 276 5 412 413 .none (.ref 414) (.ref 415) (.ref 416) 759 760),
 (fF 418 "_law_more" "_law_more" (top p 46) l8),
 (cF 422 "_law_ended" "_law_ended" 762 286 2 419 420 .none .none .none (.ref 421) 765 766),
 (fF 423 "_law_ended" "_law_ended" (top p 47) l8),
 (cF 427 "_law_not_vast" "_law_not_vast" 768 295 2 424 425 .none .none .none (.ref 426) 771 772),
 (fF 428 "_law_not_vast" "_law_not_vast" (top p 48) l8),
 (cF 432 "_law_good" "_law_good" 774 308 1 429 430 .none .none .none (.ref 431) 777 778),
 (fF 433 "_law_good" "_law_good" (top p 49) l8),
 (cF 439 "_law_grammar" "_law_grammar" 780 330 2 434 435 .none (.ref 436) (.ref 437) (.ref 438) 791 792),
 (fF 440 "_law_grammar" "_law_grammar" (top p 50) l8),
 (cF 444 "_law_begins" "_law_begins" 794 343 1 441 442 .none .none .none (.ref 443) 797 798),
 (fF 445 "_law_begins" "_law_begins" (top p 51) l8),
 (cF 451 "_law_deep" "_law_deep" 800 358 1 446 447 .none (.ref 448) (.ref 449) (.ref 450) 808 809),
 (fF 452 "_law_deep" "_law_deep" (top p 52) l8),
 (cF 458 "_law_whole" "_law_whole" 811 373 2 453 454 .none (.ref 455) (.ref 456) (.ref 457) 816 817),
 (fF 459 "_law_whole" "_law_whole" (top p 53) l8),
 (cF 463 "_law_stands" "_law_stands" 819 375 2 460 461 .none .none .none (.ref 462) 822 823),
 (fF 464 "_law_stands" "_law_stands" (top p 54) l8),
 (cF 468 "law" "law" 825 392 1 465 466 .none .none .none (.ref 467) 828 829),
 (fF 469 "law" "law" (top p 55) l8)]
def as:List Addr:=[2,3,20,21,27,28,32,33,37,38,42,43,49,50,54,55,61,62,73,74,80,81,87,88,94,95,101,102,108,109,111,112,113,114,125,126,127,138,139,154,155,157,158,173,174,176,177,192,193,195,196,211,212,214,215,230,231,233,234,240,241,245,246,252,253,257,258,264,265,269,270,274,275,281,282,286,287,291,292,296,297,301,302,313,314,320,321,327,328,334,335,341,342,344,345,346,347,357,363,364,370,371,373,374,375,376,384,385,389,390,396,397,403,404,410,411,417,418,422,423,427,428,432,433,439,440,444,445,451,452,458,459,463,464,468,469]
def q' (p:Program):Program:=view p [0,2,4,5,6,7,9,10,11,13,14,15,16,17,18,19,21,22,23,25,26,27,29,30,31,32,34,35,36,37,39,41,42,43,44,45,46,47,48,49,50,51,52,53,54,55]
abbrev loose:List Str:=[]
abbrev steps:Nat:=3755
abbrev bound:Nat:=8490
abbrev Cr:OpenLaw:=rw_wright_k21_what_can_begin
noncomputable abbrev K (P:Params):Frag:=K' pw_wright_k21_what_can_begin P
theorem Qt (P:Params):as=(K P).map (·.1):=by kernel_rfl
noncomputable abbrev hook:Hook:=kmHook K as Qt [289,260,255]
def pre (h:Cr.row.wellSaid=true->Cr.row.Holds):Cr.Holds:=by
 o_law
 exact h (by assumption)
abbrev Xt:Shared->Bool:=λs=>xlAt (q' pw_wright_k21_what_can_begin) [] s && recOk (RowW.records (OpenRow.toRowW (OpenLaw.row rw_wright_k21_what_can_begin))) s
def run (w:World)(os:OsState):(EA (stepT (denote treeTable) pw_wright_k21_what_can_begin w) (stepOk 11 (some (.ref 6))) steps ⟨BA w.params,11,{},Array.mk [],boot_drawn,boot_toks,os⟩ (topStub pw_wright_k21_what_can_begin)).map
  (Ed (Fm pw_wright_k21_what_can_begin (q' pw_wright_k21_what_can_begin) loose Xt (Hook.obs hook) true (boot_heap w.params)))=some (true,openGood (q' pw_wright_k21_what_can_begin) loose,Hook.val hook w):=by
 rw [PySem.W.Fast.te10156331382660048174,PySem.W.Fast.te11892475500146522536,PySem.W.Fast.te14364793385576792824,PySem.W.Fast.te6613529449190102663,PySem.W.Fast.te1592867476897518003]
 kernel_rfl
theorem size (w:World):((boot_heap w.params).isNs mainGlobals && (Array.mk []:Array GenState).size == 0,(boot_heap w.params).objs.size,(boot_heap w.params).nsMap mainGlobals "__annotations__")=(true,11,some (.ref 6)):=by kernel_rfl
def ER:∀w:World,(fencedOpening treeTable pw_wright_k21_what_can_begin w bound).map (λs=>(s.heap,s.gens,s.drawn,s.toks))=some (boot_heap w.params,Array.mk [],boot_drawn,boot_toks) :=
 boot_open (nofun) nofun (λs=>by kernel_rfl)
def left:LeftO (OpenRow.toRowW Cr.row).prog (q' pw_wright_k21_what_can_begin) loose Xt (Hook.obs hook) (Hook.val hook) bound:=OO ER size run nofun
def j7:DefRec:={ name := "law",params:=dr (top pw_wright_k21_what_can_begin 55),body:=cw (top pw_wright_k21_what_can_begin 55),scope:=az (top pw_wright_k21_what_can_begin 55),pos:=posOf (top pw_wright_k21_what_can_begin 55) }
def ok1:defOf (q' pw_wright_k21_what_can_begin) Cr.row.name=some (j7,[]):=by kernel_rfl
def ok2:Cr.row.prog.theDef Cr.row.name=some (j7.params,j7.body,j7.scope):=by kernel_rfl
def ok3:kwWritten? j7.params.kwonlyargs j7.params.kw_defaults=some []:=by kernel_rfl
def ok4:(chainsOk (q' pw_wright_k21_what_can_begin) && opensWell Cr.row.prog && (frees Cr.row.toRowW && Cr.row.within.isEmpty))=true:=by kernel_rfl
def ok5:j7.params.defaults=[]:=by kernel_rfl
def hold (h:WalkO (q' pw_wright_k21_what_can_begin) loose (XL (q' pw_wright_k21_what_can_begin) []) (Hook.says hook) Cr.row.toRowW j7 [] λf vs=>PySem.call f vs)(hw:Cr.row.toRowW.promised):Cr.Holds :=
 pre λSG=>holds_open (q:=q' pw_wright_k21_what_can_begin) (loose:=loose) (Xt:=Xt) (XP:=XL (q' pw_wright_k21_what_can_begin) []) (Yf:=Hook.obs hook) (Ya:=Hook.val hook) (YP:=Hook.says hook) (N:=bound) left (Hook.of hook) (Hook.keeps hook) (λs e=>xl_of s (iZ.mp e).1) XL.keeps ok1 ok2 ok3 (λs e=>recFacts_of (iZ.mp e).2) rfl SG ok4 ⟨rfl,rfl,rfl,rfl,rfl,nofun⟩ hw h
end HD
set_option maxHeartbeats 4000000
namespace L2
open PySem PySem.Spec PyProof.Rows
abbrev sq:=Nat->St->Hp->Prop
def F6 {CX:yB}{P:Program}{w:World}{K:ba}{mg:Str->Option Value}{base:Heap}{N:List Str}{qual:Str}{scope:Scope}{f:Addr}{cd:Value}{A:Around}{outer:List Env}{s:Shared}{H:Hp}{E:XK}:(oT CX P w K mg base N qual scope f cd A outer s H E).Ck.K=K:=rfl
def TM {t:TS}{D:Ends}{σ:St}{H:Hp}(h:let E:=D;t E σ H):t D σ H:=h
def TK {t u:TS}{D:Ends}{σ:St}{H:Hp}(h:let E:={ D with nx:=u D };t E σ H):Kk t u D σ H:=h
def ON {t u:TS}{D:Ends}{σ:St}{H:Hp}(h:let E:=D;let F:={ E with nx:=u E };t F σ H):Kk t u D σ H:=h
def TL {g:TG}{x:V}{σ:St}{H:Hp}{t:TS}{D:Ends}(h:let E:=D;g x σ H λσ2 H2=>t E σ2 H2):g x σ H λσ2 H2=>t D σ2 H2:=h
end L2
local macro_rules | `(tactic| nofun) => `(tactic| (dsimp only [L2.F6];refine L2.TK ?_;intro _))
local macro_rules | `(tactic| ac_rfl) => `(tactic| (refine L2.ON ?_;intro _ _))
local macro_rules | `(tactic| ac_nf0) => `(tactic| (refine L2.TL ?_;intro _))
local macro_rules | `(tactic| ac_nf) => `(tactic| (refine L2.TM ?_;intro _))
set_option maxHeartbeats 0
namespace L2
open PySem PySem.Spec PyProof.Rows
section
variable {κ:Type} [DecidableEq κ]
def bu (kvs:List (κ×V))(k:κ):Option V:=(kvs.find? λkv=>decide (kv.1=k)).map (·.2)
def bN (kvs:List (κ×V))(k:κ)(v:V):List (κ×V) :=
 if (kvs.any λkv=>decide (kv.1=k))=true then kvs.map (λkv=>if kv.1=k then (kv.1,v) else kv) else kvs++[(k,v)]
def JS (kvs:List (κ×V))(k:κ):List (κ×V):=kvs.filter λkv=>decide (kv.1≠k)
def d8 {p:κ×V}{r:List (κ×V)}{k:κ}(e:p.1=k):bu (p::r) k=some p.2:=by simp [bu,nW,e]
def d_ {p:κ×V}{r:List (κ×V)}{k:κ}(e:¬p.1=k):bu (p::r) k=bu r k:=by simp [bu,nW,e]
theorem i0 (k:κ):∀kvs:List (κ×V),(kvs.any λkv=>decide (kv.1=k))=(bu kvs k).isSome
 | []=>rfl
 | p::r=>by
  rw [nR];by_cases e:p.1=k
  .simp only [d8 e,cC e,Bool.true_or,Option.isSome_some]
  rw [d_ e,fA e,Bool.false_or];exact i0 k r
theorem wW (k j:κ)(y:V):∀kvs:List (κ×V),bu (kvs.map λkv=>if kv.1=k then (kv.1,y) else kv) j=(bu kvs j).map λx=>if j=k then y else x
 | []=>rfl
 | p::r=>by
  have ih:=wW k j y r;rw [cA];by_cases h:p.1=k
  .rw [ar h];by_cases e:p.1=j
   .rw [d8 (p:=(p.1,y)) e,d8 e,qr,ar (e.symm.trans h)]
   rw [d_ (p:=(p.1,y)) e,d_ e,ih]
  rw [au h];by_cases e:p.1=j
  .rw [d8 (p:=p) e,d8 e,qr,au (λz=>h (e.trans z))]
  rw [d_ (p:=p) e,d_ e,ih]
theorem tL (k j:κ)(y:V):∀kvs:List (κ×V),bu kvs k=none->bu (kvs++[(k,y)]) j=if j=k then some y else bu kvs j
 | [],_=>by
  by_cases e:k=j
  .rw [ar e.symm];exact d8 (p:=(k,y)) e
  rw [au (λz=>e z.symm)];exact d_ (p:=(k,y)) e
 | p::r,hn=>by
  rw [List.cons_append];have hk:¬p.1=k:=λz=>by rw [d8 z] at hn;cases hn
  rw [d_ hk] at hn;have ih:=tL k j y r hn;by_cases e:p.1=j
  .rw [d8 e,d8 e,au (λz=>hk (e.trans z))]
  rw [d_ e,d_ e,ih]
def qH (kvs:List (κ×V))(k j:κ)(y:V):bu (bN kvs k y) j=if j=k then some y else bu kvs j:=by
 unfold bN;by_cases a:(kvs.any λkv=>decide (kv.1=k))=true
 .rw [ar a,wW];rw [i0] at a;by_cases e:j=k
  .obtain⟨x,hx⟩:=mq.mp a;rw [ar e,e,hx,qr,ar rfl]
  rw [au e];cases bu kvs j with
  | none=>rfl
  | some x=>rw [qr,au e]
 rw [au a];refine tL k j y kvs ?_;rw [i0] at a;cases q:bu kvs k with
 | none=>rfl
 | some x=>rw [q] at a;exact(a rfl).elim
def fj (kvs:List (κ×V))(k:κ)(v:V):(bN kvs k v).length<=kvs.length+1:=by
 unfold bN
 split
 .rw [ax];omega
 rw [bU,dG,jP];omega
def xn {kvs:List (κ×V)}{k:κ}(v:V)(h:bu kvs k=none):bN kvs k v=kvs++[(k,v)]:=by
 unfold bN;rw [i0,h];exact au nofun
def jB.jd {o:Option V}{u:Option Value}(r:jB o u):o.isSome=u.isSome:=by
 cases o with
 | none=>cases u with
  | none=>rfl
  | some _=>exact(show False from r).elim
 | some _=>cases u with
  | none=>exact(show False from r).elim
  | some _=>rfl
theorem jB.getD {o:Option V}{u:Option Value}{d:V}{d':Value}(r:jB o u)(rd:RelV d d'):RelV (o.getD d) (u.getD d'):=by
 cases o with
 | none=>cases u with
  | none=>exact rd
  | some _=>exact(show False from r).elim
 | some _=>cases u with
  | none=>exact(show False from r).elim
  | some _=>exact r
def KV.val {kvs:List (κ×V)}{vs:List (κ×Value)}(r:KV kvs vs)(k:κ):jB (bu kvs k) (valueAt vs k):=by
 unfold KV at r
 induction r with
 | nil=>exact True.intro
 | @cons p q ps qs h t ih =>
  obtain⟨h1,h2⟩:=h;by_cases e:p.1=k
  .have e':q.1=k:=h1.symm.trans e;have b:valueAt (q::qs) k=some q.2:=by simp [valueAt,nW,e']
   rw [d8 e,b];exact h2
  have e':¬q.1=k:=λz=>e (h1.trans z);have b:valueAt (q::qs) k=valueAt qs k:=by simp [valueAt,nW,e']
  rw [d_ e,b];exact ih
theorem KV.any {kvs:List (κ×V)}{vs:List (κ×Value)}(r:KV kvs vs)(k:κ):(kvs.any λkv=>decide (kv.1=k))=vs.any λkv=>decide (kv.1=k):=by
 unfold KV at r
 induction r with
 | nil=>rfl
 | cons h t ih=>rw [nR,nR,ih,h.1]
def KV.KS {kvs:List (κ×V)}{vs:List (κ×Value)}(r:KV kvs vs)(k:κ){y:V}{u:Value}(ry:RelV y u) :
  KV (kvs.map λkv=>if kv.1=k then (kv.1,y) else kv) (vs.map λkv=>if kv.1=k then (kv.1,u) else kv):=by
 unfold KV at r ⊢
 induction r with
 | nil=>exact .nil
 | @cons p q ps qs h t ih =>
  rw [cA,cA];refine .cons ?_ ih;obtain⟨h1,h2⟩:=h;by_cases e:p.1=k
  .rw [ar e,ar (h1.symm.trans e)];exact⟨h1,ry⟩
  rw [au e,au (λz=>e (h1.trans z))];exact⟨h1,h2⟩
def KV.put {kvs:List (κ×V)}{vs:List (κ×Value)}(r:KV kvs vs)(k:κ){y:V}{u:Value}(ry:RelV y u):KV (bN kvs k y) (stored vs k u):=by
 unfold bN stored;rw [r.any k];by_cases e:(vs.any λkv=>decide (kv.1=k))=true
 .rw [ar e,ar e];exact r.KS k ry
 rw [au e,au e];exact fO r ⟨rfl,ry⟩
def KV.drop {kvs:List (κ×V)}{vs:List (κ×Value)}(r:KV kvs vs)(k:κ):KV (JS kvs k) (without vs k):=by
 unfold KV at r ⊢;unfold JS without
 induction r with
 | nil=>exact .nil
 | @cons p q ps qs h t ih =>
  obtain⟨h1,h2⟩:=h;rw [nZ,nZ];by_cases e:p.1=k
  .have a:¬decide (p.1≠k)=true:=by simp [e]
   have b:¬decide (q.1≠k)=true:=by simp [h1.symm.trans e]
   rw [au a,au b];exact ih
  have e':¬q.1=k:=λz=>e (h1.trans z);have a:decide (p.1≠k)=true:=by simp [e]
  have b:decide (q.1≠k)=true:=by simp [e']
  rw [ar a,ar b];exact .cons ⟨h1,h2⟩ ih
def KV.keys {kvs:List (κ×V)}{vs:List (κ×Value)}(r:KV kvs vs):kvs.map (·.1)=vs.map (·.1):=by
 unfold KV at r
 induction r with
 | nil=>rfl
 | cons h t ih=>rw [cA,cA,ih,h.1]
theorem KV.length {kvs:List (κ×V)}{vs:List (κ×Value)}(r:KV kvs vs):kvs.length=vs.length:=a0 r
end
def kP {P:Program}{w:World}{k:aL}{u:Value}(r:RelV (kV k) u):(bf P w).is k u=true:=by
 cases k with
 | inl i=>obtain⟨t,e⟩:=(show ∃t,u=Value.int i t from r);subst e;exact xF P w i t
 | inr x=>obtain⟨t,e⟩:=(show ∃t,u=Value.str x t from r);subst e;exact xE P w x t
theorem ug {P:Program}{w:World}:∀{ks:List aL}{us:List Value},a_ (ks.map kV) us->ItemsAre (bf P w) ks us
 | [],_,r=>by rw [kU] at r;cases r;exact .nil
 | k::ks,_,r=>by
  rw [cA] at r;cases r with
  | cons h t=>exact .cons (kP h) (ug t)
abbrev KT (H:Hp):List (List aL×V)->List (List aL×Addr×Value)->Prop:=Paired λp q=>p.1=q.1/\H q.2.1=some (.tup (p.1.map kV))/\RelV p.2 q.2.2
def KT.val {H:Hp}{kvs:List (List aL×V)}{xs:List (List aL×Addr×Value)}(r:KT H kvs xs)(k:List aL):jB (bu kvs k) ((atKey xs k).map (·.2)):=by
 induction r with
 | nil=>exact True.intro
 | @cons p q ps qs h t ih =>
  obtain⟨h1,_,h2⟩:=h;by_cases e:p.1=k
  .have e':q.1=k:=h1.symm.trans e;have b:atKey (q::qs) k=some q.2:=by simp [atKey,nW,e']
   rw [d8 e,b];exact h2
  have e':¬q.1=k:=λz=>e (h1.trans z);have b:atKey (q::qs) k=atKey qs k:=by simp [atKey,nW,e']
  rw [d_ e,b];exact ih
def KT.KS {H:Hp}{kvs:List (List aL×V)}{xs:List (List aL×Addr×Value)}(r:KT H kvs xs)(k:List aL){y:V}{u:Value}(ry:RelV y u) :
  KT H (kvs.map λkv=>if kv.1=k then (kv.1,y) else kv) (xs.map (putAt k u)):=by
 induction r with
 | nil=>exact .nil
 | @cons p q ps qs h t ih =>
  rw [cA,cA];refine .cons ?_ ih;obtain⟨h1,h2,h3⟩:=h;unfold putAt;by_cases e:p.1=k
  .rw [ar e,ar (h1.symm.trans e)];exact⟨h1,h2,ry⟩
  rw [au e,au (λz=>e (h1.trans z))];exact⟨h1,h2,h3⟩
def KT.put {H:Hp}{kvs:List (List aL×V)}{xs:List (List aL×Addr×Value)}(r:KT H kvs xs)(k:List aL){b:Addr}{y:V}{u:Value}(hb:H b=some (.tup (k.map kV)))(ry:RelV y u) :
  KT H (bN kvs k y) (storedH xs k b u):=by
 have e:(kvs.any λkv=>decide (kv.1=k))=(atKey xs k).isSome:=by
  rw [i0,(r.val k).jd,qg]
 unfold bN storedH;rw [e];by_cases q:(atKey xs k).isSome=true
 .rw [ar q,ar q];exact r.KS k ry
 rw [au q,au q];exact fO r ⟨rfl,hb,ry⟩
def KT.keeps {H H':Hp}{kvs:List (List aL×V)}{xs:List (List aL×Addr×Value)}(r:KT H kvs xs)(ht:∀b ys,H b=some (.tup ys)->H' b=some (.tup ys)):KT H' kvs xs :=
 Paired.di r λ_ _ z=>⟨z.1,ht _ _ z.2.1,z.2.2⟩
section
variable {P:Program}{w:World}{H:Hp}{h:Heap}{a:Addr}
def Jl {u:HO}(ok:kT P w H h)(e:Rd H a u):cJ P w H h a u:=e.ok ok
def nv {kvs:List (aL×V)}(ok:kT P w H h)(e:Rd H a (.dK kvs)):kvs.length<=sizeLine/\(a == sysModules)=false/\∃vs,KV kvs vs/\h.DictOf (bf P w) a vs :=
 show cJ P w H h a (.dK kvs) from Jl ok e
def xV {kvs:List (aL×V)}(ok:kT P w H h)(e:H a=some (.dK kvs)):kvs.length<=sizeLine/\(a == sysModules)=false/\∃vs,KV kvs vs/\h.DictOf (bf P w) a vs:=nv ok (.inl e)
def lQ {ks:List aL}(ok:kT P w H h)(e:H a=some (.tup (ks.map kV))):(tupleKind (bf P w)).is h ks a:=by
 obtain⟨_,aT,r,o,h1,h2,n,h3⟩:=(show cJ P w H h a (.tup (ks.map kV)) from ok a _ e);exact⟨o,aT.toArray,n,h1,h2,h3,by simpa using ug r⟩
def rP {kvs:List (List aL×V)}(ok:kT P w H h)(e:Rd H a (.dT kvs)):kvs.length<=sizeLine/\(a == sysModules)=false /\
  ∃xs,KT H kvs xs/\h.DictOfH (tupleKind (bf P w)) a xs:=by
 obtain⟨z,y,xs,r,o,es,ep,h1,h2,h3,h4,h5⟩:=(show cJ P w H h a (.dT kvs) from Jl ok e);refine⟨z,y,xs,r,o,es,ep,h1,h2,h3,h4,λx hx=>?_,h5⟩;have all:∀{l:List (List aL×V)}{m:List (List aL×Addr×Value)},KT H l m->∀x∈m,(tupleKind (bf P w)).is h x.1 x.2.1:=by
  intro l m q
  induction q with
  | nil=>intro x hx;exact nomatch hx
  | @cons p q ps qs hq t ih =>
   intro x hx;rcases bR.mp hx with e | hx
   .subst e;exact lQ ok (by rw [<-hq.1];exact hq.2.1)
   exact ih x hx
 exact all r x hx
def Qg {kvs:List (List aL×V)}(ok:kT P w H h)(e:H a=some (.dT kvs)):kvs.length<=sizeLine/\(a == sysModules)=false /\
  ∃xs,KT H kvs xs/\h.DictOfH (tupleKind (bf P w)) a xs:=rP ok (.inl e)
end
def cK (H:Hp)(a:Addr)(y:V)(r:Option V):Prop :=
 (∃kvs k,Rd H a (.dK kvs)/\y=kV k/\r=bu kvs k)\/∃kvs k b,Rd H a (.dT kvs)/\y=.ref b/\H b=some (.tup (k.map kV))/\r=bu kvs k
def l7 (H:Hp)(a:Addr)(y v:V)(H':Hp):Prop :=
 (∃kvs k,H a=some (.dK kvs)/\y=kV k/\kvs.length < sizeLine/\H'=upd H a (.dK (bN kvs k v))) \/
 ∃kvs k b,H a=some (.dT kvs)/\y=.ref b/\H b=some (.tup (k.map kV))/\kvs.length < sizeLine/\H'=upd H a (.dT (bN kvs k v))
theorem cK.k {H:Hp}{a:Addr}{kvs:List (aL×V)}{k:aL}(e:H a=some (.dK kvs)):cK H a (kV k) (bu kvs k):=.inl ⟨kvs,k,.inl e,rfl,rfl⟩
def cK.t {H:Hp}{a b:Addr}{kvs:List (List aL×V)}{k:List aL}(e:H a=some (.dT kvs))(eb:H b=some (.tup (k.map kV))):cK H a (.ref b) (bu kvs k):=.inr ⟨kvs,k,b,.inl e,rfl,eb,rfl⟩
theorem l7.k {H:Hp}{a:Addr}{kvs:List (aL×V)}{k:aL}{v:V}(e:H a=some (.dK kvs))(hl:kvs.length < sizeLine):l7 H a (kV k) v (upd H a (.dK (bN kvs k v))):=.inl ⟨kvs,k,e,rfl,hl,rfl⟩
def l7.t {H:Hp}{a b:Addr}{kvs:List (List aL×V)}{k:List aL}{v:V}(e:H a=some (.dT kvs))(eb:H b=some (.tup (k.map kV)))(hl:kvs.length < sizeLine) :
  l7 H a (.ref b) v (upd H a (.dT (bN kvs k v))):=.inr ⟨kvs,k,b,e,rfl,eb,hl,rfl⟩
section
variable {X:Cx}{ag:List (Addr×Obj)}{σ:St}{H:Hp}{s:Shared}{a:Addr}{y v:V}{u r:Value}{o:Option V}{A:Around}{E:Value->Shared->Prop}
def Inv.big (I:Inv X ag σ H s):sysModules < s.heap.objs.size:=by
 have h:mainGlobals < s.heap.objs.size:=(I.mod.glob.keeps I.bk).lt;exact jV nofun h
def CO {Q:Value->Shared->Prop}(hu:A.units+1 < cLine)(I:Inv X ag σ H s)(g:cK H a y (some v))(ry:RelV y u)(h:∀w' s',Inv X ag σ H s'->RelV v w'->Q w' s') :
  wpAny (model X.prog X.w) A (getItem (.ref a) u) Q E s:=by
 rcases g with ⟨kvs,k,e,ey,l⟩ | ⟨kvs,k,b,e,ey,eb,l⟩
 .subst ey;obtain⟨z,hd,vs,rel,dd⟩:=nv I.b8 e;obtain⟨w',hw,zj⟩:=jB.some_of (v:=v) (o:=valueAt vs k) (by rw [l];exact rel.val k);exact wpAny_getItem_of (kP ry) dd.mapOf hw (h w' _ (I.tok _) zj)
 subst ey;cases (show u=Value.ref b from ry);obtain⟨z,hd,xs,rel,dd⟩:=rP I.b8 e;obtain⟨w',hw,zj⟩:=jB.some_of (v:=v) (o:=(atKey xs k).map (·.2)) (by rw [l];exact rel.val k);obtain⟨p,hp,sU⟩:=cq.mp hw;refine wpAny_getItem_heap (tq hu) (lQ I.b8 eb) dd hp ?_;rw [sU];exact h w' _ (I.tok _) zj
def VC {Q:Value->Shared->Prop}(hu:A.units+1 < cLine)(I:Inv X ag σ H s)(g:cK H a y o)(ry:RelV y u)(h:∀s',Inv X ag σ H s'->Q (.bool o.isSome) s') :
  wpAny (model X.prog X.w) A (compareOp .In u (.ref a)) Q E s:=by
 rcases g with ⟨kvs,k,e,ey,l⟩ | ⟨kvs,k,b,e,ey,eb,l⟩
 .subst ey;obtain⟨z,hd,vs,rel,dd⟩:=nv I.b8 e;refine wpAny_in_of (kP ry) hd dd.mapOf ?_;rw [<-(rel.val k).jd,<-l];exact h _ (I.tok _)
 subst ey;cases (show u=Value.ref b from ry);obtain⟨z,hd,xs,rel,dd⟩:=rP I.b8 e;refine wpAny_in_heap (tq hu) (lQ I.b8 eb) hd dd ?_;have q:=(rel.val k).jd;rw [qg] at q;rw [<-q,<-l];exact h _ (I.tok _)
def II {Q:Value->Shared->Prop}(hu:A.units+1 < cLine)(I:Inv X ag σ H s)(g:cK H a y o)(ry:RelV y u)(h:∀s',Inv X ag σ H s'->Q (.bool (!o.isSome)) s') :
  wpAny (model X.prog X.w) A (compareOp .NotIn u (.ref a)) Q E s:=by
 rcases g with ⟨kvs,k,e,ey,l⟩ | ⟨kvs,k,b,e,ey,eb,l⟩
 .subst ey;obtain⟨z,hd,vs,rel,dd⟩:=nv I.b8 e;refine wpAny_notIn_of (kP ry) hd dd.mapOf ?_;rw [<-(rel.val k).jd,<-l];exact h _ (I.tok _)
 subst ey;cases (show u=Value.ref b from ry);obtain⟨z,hd,xs,rel,dd⟩:=rP I.b8 e;refine wpAny_notIn_heap (tq hu) (lQ I.b8 eb) hd dd ?_;have q:=(rel.val k).jd;rw [qg] at q;rw [<-q,<-l];exact h _ (I.tok _)
def qc {h':Heap}{t':Nat}{ob:HO}(I:Inv X ag σ H s)(mu:QG (H a))(hs:Heap.SameBut a s.heap h')(he:∃q,h'.get? a=some q)(new:cJ X.prog X.w (upd H a ob) h' a ob) :
  Inv X ag σ (upd H a ob) { s with heap:=h',toks:=t' } :=
 I.write (x:=a) (e:=a) mu (.inl rfl) (λb q hb z=>(hs.2 b hb).trans z) he new
def rQ {P:Program}{w:World}{H':Hp}{h':Heap}{kvs:List (aL×V)}{vs:List (aL×Value)}(z:kvs.length<=sizeLine)(hd:(a == sysModules)=false)(rel:KV kvs vs)(dd:h'.DictOf (bf P w) a vs) :
  cJ P w H' h' a (.dK kvs):=⟨z,hd,vs,rel,dd⟩
def CN {H':Hp}{Q:Unit->Shared->Prop}(hu:A.units+1 < cLine)(I:Inv X ag σ H s)(g:l7 H a y v H')(ry:RelV y u)(rv:RelV v r)(h:∀s',Inv X ag σ H' s'->Q () s') :
  wpAny (model X.prog X.w) A (setItem (.ref a) u r) Q E s:=by
 rcases g with ⟨kvs,k,e,ey,l,eH⟩ | ⟨kvs,k,b,e,ey,eb,l,eH⟩
 .subst ey eH;obtain⟨z,hd,vs,rel,dd⟩:=xV I.b8 e;have hz:vs.length<=sizeLine:=by rw [<-rel.length];exact z
  have hl:(bN kvs k v).length<=sizeLine:=by have:=fj kvs k v;omega
  refine wpAny_setItem_pairs (hsz:=hz) (kP ry) dd λh' G_ hs=>h _ ?_;have he:∃q,h'.get? a=some q:=let ⟨q,_,_,hq,_⟩:=G_;⟨q,hq⟩;exact qc I (by rw [e];exact True.intro) hs he (rQ hl hd (rel.put k rv) G_)
 subst ey eH;cases (show u=Value.ref b from ry);obtain⟨z,hd,xs,rel,dd⟩:=Qg I.b8 e;have hz:xs.length<=sizeLine:=by rw [<-a0 rel];exact z
 have hl:(bN kvs k v).length<=sizeLine:=by have:=fj kvs k v;omega
 refine wpAny_setItem_heap (hsz:=hz) (tq hu) (lQ I.b8 eb) dd λh' G_ hs=>h _ ?_;obtain⟨q,es,ep,hq,h2,h3,h4,_,h5⟩:=G_;refine qc I (by rw [e];exact True.intro) hs ⟨q,hq⟩ ⟨hl,hd,_,(rel.put k eb rv).keeps λc ys ec=>?_,q,es,ep,hq,h2,h3,h4,h5⟩;rw [ak (OD ec e (λz=>nomatch z))];exact ec
end
section
variable {X:Cx}{ag:List (Addr×Obj)}{σ:St}{H:Hp}{s:Shared}{a:Addr}{kvs:List (aL×V)}{k:aL}{u:Value}{A:Around}{E:Value->Shared->Prop}
def Qj {Q:Value->Shared->Prop}(I:Inv X ag σ H s)(e:Rd H a (.dK kvs))(h:∀t s',Inv X ag σ H s'->Q (.int kvs.length t) s'):wpAny (model X.prog X.w) A (call (.builtin "len") [.ref a]) Q E s:=by
 obtain⟨z,hd,vs,rel,dd⟩:=nv I.b8 e;refine call_len_dict hd dd (by rw [<-rel.length];rw [sizeLine_eq] at z;omega) ?_;rw [<-rel.length];exact h _ _ (I.tok _)
end
def QE (i:Expr):Prop:=∀ov iv,subscripted i false ov iv=operate [ov,iv] (getItem ov iv)
def AO {prog:Program}{w:World}{A:Around}{E:Value->Shared->Prop}{s:Shared}{env:Env}{value slice:Expr}{pos:Pos}{T id:String}{Q:Value->Shared->Prop}
  (hl:typeLookup (.type T) "__getitem__"=pure (some (.builtin id)))(hs:QE slice)
  (h:wpAny (model prog w) A (eval value env) (λo s₁=>wpAny (model prog w) A (eval slice env) (λi s₂=>s₂.TypeIs o T/\wpAny (model prog w) A (getItem o i) Q E s₂) E s₁) E s) :
  wpAny (model prog w) A (eval (.Subscript value slice pos) env) Q E s:=by
 refine Subscript_ (dw h (λo s₁ h₁=>dw h₁ (λi s₂ h₂=>?_) λ_ _ x=>x) λ_ _ x=>x);obtain⟨hT,h₂⟩:=h₂;unfold subscriptTail;refine aD ?_;rw [getitemInPython_of_ne hT.not_modules];refine aD (wpAny_specialOf hT hl ?_);have fin:wpAny (model prog w) A (subscripted slice false o i) (λr s₃=>wpAny (model prog w) A (letTemporaryGo value o r >>= λ_=>pure r) Q E s₃) E s₂:=by
  rw [hs o i];exact wpAny_operating (dw h₂ (λr s₃ h₃=>aD (wpAny_letTemporaryGo (aR h₃))) λ_ _ x=>x)
 first
  | exact aR (aD fin)
  | exact aD (aR (aD fin))
  | exact aD fin
def xX {X:Cx}{ag:List (Addr×Obj)}{σ:St}{H:Hp}{s:Shared}{a:Addr}{y:V}{o:Option V}(I:Inv X ag σ H s)(g:cK H a y o):s.TypeIs (.ref a) "dict" := by
 rcases g with ⟨kvs,k,e,_,_⟩ | ⟨kvs,k,b,e,_,_,_⟩
 .obtain⟨_,_,vs,_,dd⟩:=nv I.b8 e;exact dd.typeIs
 obtain⟨_,_,xs,_,dd⟩:=rP I.b8 e;exact dd.typeIs
inductive Zn (x:V)(S:Addr->Hp->Prop)(R:Hp->Prop):Prop
|mk(a:Addr)(H4:Hp)(e:x=.ref a)(s:S a H4)(q:R H4)
inductive Zo (S:Option V->Prop)(R:Option V->Prop):Prop
|mk(o:Option V)(s:S o)(q:R o)
inductive Zp (x:V)(S:Addr->V->Prop)(R:V->Prop):Prop
|mk(a:Addr)(v:V)(e:x=.ref a)(s:S a v)(q:R v)
inductive V9 (x:V)(S:Addr->Option V->Prop)(R:Option V->Prop):Prop
|mk(a:Addr)(o:Option V)(e:x=.ref a)(s:S a o)(q:R o)
def AK (td ty:TE):TE:=λσ H Q=>td σ H λx H1=>ty σ H1 λy H2=>Zp x (λa v=>cK H2 a y (some v)) λv=>Q v H2
def N5 (ty td:TE):TE:=λσ H Q=>ty σ H λy H1=>td σ H1 λx H2=>V9 x (λa o=>cK H2 a y o) λo=>Q (.bl o.isSome) H2
def AJ (ty td:TE):TE:=λσ H Q=>ty σ H λy H1=>td σ H1 λx H2=>V9 x (λa o=>cK H2 a y o) λo=>Q (.bl (!o.isSome)) H2
def Of (td ty tv:TE):TS:=λD σ H=>tv σ H λv H1=>td σ H1 λx H2=>ty σ H2 λy H3=>Zn x (λa H4=>l7 H3 a y v H4) λH4=>D.nx σ H4
section
variable {X:Cx}{o i e value:Expr}{pos pos' ve:Pos}{td ty tv:TE}
def ft (hu:X.A.units+1 < cLine)(ho:PE X o td)(hi:PE X i ty)(hs:QE i):PE X (.Subscript o i pos) (AK td ty):=by
 intro ag s σ H Q I h;refine AO PySem.F.slot_dict_getitem.lookup hs (cW (ho ag s σ H _ I h) λu s1 bF=>?_);obtain⟨x,H1,I1,rx,q1⟩:=bF;refine cW (hi ag s1 σ H1 _ I1 q1) λiv s2 bF=>?_;obtain⟨y,H2,I2,ry,a,v,ex,g,q2⟩:=bF;subst ex;obtain rfl:u=Value.ref a:=rx;exact⟨xX I2 g,CO hu I2 g ry λw' s3 I3 zj=>⟨v,H2,I3,zj,q2⟩⟩
def lF (hu:X.A.units+1 < cLine)(hi:PE X i ty)(ho:PE X o td):PC X .In i o (N5 ty td):=by
 intro ag s σ H Q I h;refine cW (hi ag s σ H _ I h) λiv s1 bF=>?_;obtain⟨y,H1,I1,ry,q1⟩:=bF;refine cW (ho ag s1 σ H1 _ I1 q1) λu s2 bF=>?_;obtain⟨x,H2,I2,rx,a,ov,ex,g,q2⟩:=bF;subst ex;obtain rfl:u=Value.ref a:=rx;exact VC hu I2 g ry λs3 I3=>⟨.bl ov.isSome,H2,I3,rfl,q2⟩
def eI (hu:X.A.units+1 < cLine)(hi:PE X i ty)(ho:PE X o td):PC X .NotIn i o (AJ ty td):=by
 intro ag s σ H Q I h;refine cW (hi ag s σ H _ I h) λiv s1 bF=>?_;obtain⟨y,H1,I1,ry,q1⟩:=bF;refine cW (ho ag s1 σ H1 _ I1 q1) λu s2 bF=>?_;obtain⟨x,H2,I2,rx,a,ov,ex,g,q2⟩:=bF;subst ex;obtain rfl:u=Value.ref a:=rx;exact II hu I2 g ry λs3 I3=>⟨.bl (!ov.isSome),H2,I3,rfl,q2⟩
def gY (hu:X.A.units+1 < cLine)(ho:PE X o td)(hi:PE X i ty)(hv:PE X value tv)(hs:swapsWith value (some (.Subscript o i pos')) pos.line X.env=pure false) :
  PS X (.Assign [.Subscript o i pos'] value pos) (Of td ty tv):=by
 intro ag s σ H D I h;refine wpAny_Assign_Subscript (cW (hv ag s σ H _ I h) λr s1 bF=>?_) hs;obtain⟨v,H1,I1,rv,q1⟩:=bF;refine cW (ho ag s1 σ H1 _ I1 q1) λu s2 bF=>?_;obtain⟨x,H2,I2,rx,q2⟩:=bF;refine cW (hi ag s2 σ H2 _ I2 q2) λiv s3 bF=>?_;obtain⟨y,H3,I3,ry,a,H4,ex,g,q3⟩:=bF;subst ex;obtain rfl:u=Value.ref a:=rx;exact CN hu I3 g ry rv λs4 I4=>⟨σ,H4,I4,q3⟩
end
def xW {P:Program}{w:World}{H:Hp}(h:Heap)(hb:sysModules < h.objs.size):cJ P w H (h.push { cls:=.type "dict",data:=.dict #[] }) h.objs.size (.dK []) :=
 ⟨g9 _,jR.mpr (gq (bX hb)),[],.nil,Heap.DictOf.new h⟩
def DN:TE:=λ_ H Q=>∀p,H p=none->Q (.ref p) (upd H p (.dK []))
section
variable {X:Cx}{pos:Pos}
def fZ:PE X (.Dict [] [] pos) DN:=λag s σ H Q I h =>
 wpAny_Dict_empty ⟨.ref s.heap.objs.size,_,I.laid (a:=s.heap.objs.size) (o:=.dK []) (t':=s.toks) (λ_ _ q=>cx _ q) (aE _) (xW s.heap I.big),rfl,h _ (I.b8.fresh (aE _))⟩
end
def yO:List (TE×TE)->St->Hp->(List (V×V)->Hp->Prop)->Prop
 | [],_,H,Q=>Q [] H
 | (tk,tv)::r,σ,H,Q=>tk σ H λx H1=>tv σ H1 λy H2=>yO r σ H2 λps H3=>Q ((x,y)::ps) H3
abbrev VV:List (V×V)->List (Value×Value)->Prop:=Paired λp q=>RelV p.1 q.1/\RelV p.2 q.2
def RS (X:Cx)(pos:Pos)(keys:List (Option Expr))(values:List Expr)(Hi:List (TE×TE)):Prop :=
 ∀(ag:List (Addr×Obj))(s:Shared)(σ:St)(H:Hp)(Q:List (V×V)->Hp->Prop),Inv X ag σ H s->yO Hi σ H Q ->
  wpAny (model X.prog X.w) X.A (evalPairs (pairTrees keys values X.env pos)) (λvs s'=>∃ps H',Inv X ag σ H' s'/\VV ps vs/\Q ps H') X.xe s
def Hw {X:Cx}{pos:Pos}:RS X pos [] [] []:=λag s σ H Q I h=>pairTrees_nil_walk ⟨[],H,I,.nil,h⟩
def EH {X:Cx}{pos:Pos}{k v:Expr}{ks:List (Option Expr)}{vs:List Expr}{tk tv:TE}{Hi:List (TE×TE)}(hk:PE X k tk)(hv:PE X v tv)(hr:RS X pos ks vs Hi) :
  RS X pos (some k::ks) (v::vs) ((tk,tv)::Hi):=λag s σ H Q I h =>
 pairTrees_cons_walk (cW (hk ag s σ H _ I h) λu s1 ⟨x,H1,I1,rx,q1⟩=>cW (hv ag s1 σ H1 _ I1 q1) λw2 s2 ⟨y,H2,I2,ry,q2⟩ =>
  cW (hr ag s2 σ H2 _ I2 q2) λws s3 ⟨ps,H3,I3,rel,q3⟩=>⟨(x,y)::ps,H3,I3,.cons ⟨rx,ry⟩ rel,q3⟩)
def lJ (kvs more:List (aL×V)):List (aL×V):=more.foldl (λbQ kv=>bN bQ kv.1 kv.2) kvs
def KV.merge:∀{more:List (aL×V)}{rs:List (aL×Value)}{kvs:List (aL×V)}{vs:List (aL×Value)},KV more rs->KV kvs vs->KV (lJ kvs more) (merged vs rs):=by
 intro more rs kvs vs r;unfold KV at r
 induction r generalizing kvs vs with
 | nil=>intro q;exact q
 | @cons p q ps qs h t ih =>
  intro r0;have e:KV (bN kvs p.1 p.2) (stored vs q.1 q.2):=by
   have:=r0.put p.1 h.2;rw [<-h.1];exact this
  exact ih e
theorem kO:∀(more kvs:List (aL×V)),(lJ kvs more).length<=kvs.length+more.length
 | [],kvs=>by show kvs.length<=kvs.length+0;omega
 | p::r,kvs=>by
  have h1:=kO r (bN kvs p.1 p.2);have h2:=fj kvs p.1 p.2;show (lJ (bN kvs p.1 p.2) r).length<=_;rw [dG];omega
theorem rY {P:Program}{w:World}:∀{kvs:List (aL×V)}{ws:List (Value×Value)},VV (kvs.map λkv=>(kV kv.1,kv.2)) ws->∃rs,Carries (bf P w) ws rs/\KV kvs rs
 | [],_,r=>by rw [kU] at r;cases r;exact⟨[],True.intro,.nil⟩
 | p::kvs,_,r=>by
  rw [cA] at r;cases r with
  | @cons a b as bs h t =>
   obtain⟨rs,c,q⟩:=rY (P:=P) (w:=w) t;obtain⟨b1,b2⟩:=b;exact⟨(p.1,b2)::rs,⟨kP h.1,rfl,c⟩,.cons ⟨rfl,h.2⟩ q⟩
def N3 (Hi:List (TE×TE)):TE:=λσ H Q=>∀p,H p=none->yO Hi σ (upd H p (.dK [])) λps H2=>H2 p=some (.dK [])/\∃kvs:List (aL×V),ps=kvs.map (λkv=>(kV kv.1,kv.2))/\kvs.length<=15/\Q (.ref p) (upd H2 p (.dK (lJ [] kvs)))
def HJ {X:Cx}{pos:Pos}{keys:List (Option Expr)}{values:List Expr}{Hi:List (TE×TE)}(h:RS X pos keys values Hi)(pK:keys.all (·.isSome)=true)(hl:keys.length=values.length)(h0:keys≠[])
  (U2:keys.length<=15):PE X (.Dict keys values pos) (N3 Hi):=by
 intro ag s σ H Q I q;have hn:=I.b8.fresh (aE s.heap.objs.size);have I1:=I.laid (a:=s.heap.objs.size) (o:=.dK []) (h':=s.heap.push { cls:=.type "dict",data:=.dict #[] }) (t':=s.toks) (λ_ _ q=>cx _ q) (aE _) (xW s.heap I.big);refine wpAny_Dict_walk (knd:=bf X.prog X.w) pK hl h0 U2 (cW (h ag _ σ _ _ I1 (q _ hn)) λws s2 bF=>?_);obtain⟨ps,H2,I2,rel,e,kvs,ep,lk,q2⟩:=bF;subst ep;obtain⟨rs,c,rk⟩:=rY (P:=X.prog) (w:=X.w) rel;obtain⟨z,hd,vs0,r0,dd⟩:=xV I2.b8 e;cases r0;refine⟨rs,c,dd,λh' G_ hs=>⟨.ref s.heap.objs.size,_,?_,rfl,q2⟩⟩;have hz:(lJ [] kvs).length<=sizeLine:=by
  have h1:=kO kvs [];rw [jP] at h1;rw [sizeLine_eq];omega
 have he:∃q,h'.get? s.heap.objs.size=some q:=let ⟨q,_,_,hq,_⟩:=G_;⟨q,hq⟩;exact qc I2 (by rw [e];exact True.intro) hs he (rQ hz hd (rk.merge .nil) G_)
structure M1 (X:Cx)(o:Expr)(m:Str)(apos:Pos)(e:Expr)(hX:Pos):Prop where
 base:attributeBase o m X.env (eval o X.env)=eval o X.env
 nr:((backTo hX (starEach [e] X.env)).all (λx=>!x.1) && (backToKw hX (keywordEach [] X.env)).all (λx=>x.1.isSome)
  && decide (([e]:List Expr).length+([]:List Keyword).length+(if ([]:List Keyword).isEmpty then 0 else 1) < 30))=true
 line:(apos.endLine == hX.line)=true
 trees:backTo hX (starEach [e] X.env)=[(false,eval e X.env)]
structure M2 (X:Cx)(o:Expr)(m:Str)(apos:Pos)(e f:Expr)(hX:Pos):Prop where
 base:attributeBase o m X.env (eval o X.env)=eval o X.env
 nr:((backTo hX (starEach [e,f] X.env)).all (λx=>!x.1) && (backToKw hX (keywordEach [] X.env)).all (λx=>x.1.isSome)
  && decide (([e,f]:List Expr).length+([]:List Keyword).length+(if ([]:List Keyword).isEmpty then 0 else 1) < 30))=true
 line:(apos.endLine == hX.line)=true
 trees:backTo hX (starEach [e,f] X.env)=[(false,eval e X.env),(false,eval f X.env)]
def RT (H:Hp)(a:Addr):Prop:=(∃kvs,Rd H a (.dK kvs))\/∃kvs,Rd H a (.dT kvs)
def zV {X:Cx}{ag:List (Addr×Obj)}{σ:St}{H:Hp}{s:Shared}{a:Addr}(I:Inv X ag σ H s)(d:RT H a) :
  s.TypeIs (.ref a) "dict" /\ (∀b,Value.ref a=.ref b->∃ob,s.heap.get? b=some ob/\ob.dict=none)/\(a == sysModules)=false:=by
 rcases d with ⟨kvs,e⟩ | ⟨kvs,e⟩
 .obtain⟨_,hd,vs,_,dd⟩:=nv I.b8 e;refine⟨dd.typeIs,λb q=>?_,hd⟩;cases q;obtain⟨ob,_,_,h1,h2,_⟩:=dd;exact⟨ob,h1,h2.2.1⟩
 obtain⟨_,hd,xs,_,dd⟩:=rP I.b8 e;refine⟨dd.typeIs,λb q=>?_,hd⟩;cases q;obtain⟨ob,_,_,h1,h2,_⟩:=dd;exact⟨ob,h1,h2.2.1⟩
section
variable {X:Cx}{ag:List (Addr×Obj)}{σ:St}{H:Hp}{s:Shared}{a:Addr}{y d:V}{u r:Value}{o:Option V}{A:Around}{E:Value->Shared->Prop}
def Mv {Q:Value->Shared->Prop}(hu:A.units+1 < cLine)(I:Inv X ag σ H s)(g:cK H a y o)(ry:RelV y u)(rd:RelV d r)(h:∀w' s',Inv X ag σ H s'->RelV (o.getD d) w'->Q w' s') :
  wpAny (model X.prog X.w) A (call (.builtin "dict.get") [.ref a,u,r]) Q E s:=by
 rcases g with ⟨kvs,k,e,ey,l⟩ | ⟨kvs,k,b,e,ey,eb,l⟩
 .subst ey;obtain⟨z,hd,vs,rel,dd⟩:=nv I.b8 e;refine call_meetsIn PySem.F.slot_dict_get dd.typeIs PySem.F.entry_dict_get (PySem.F.args_dict_get_3 _ _ _) (meets_dict_get_default (bf X.prog X.w) a (kP ry) hd r) ⟨_,dd.mapOf,h _ _ (I.tok _) ?_⟩;rw [l];exact(rel.val k).getD rd
 subst ey;cases (show u=Value.ref b from ry);obtain⟨z,hd,xs,rel,dd⟩:=rP I.b8 e;refine call_meetsIn PySem.F.slot_dict_get dd.typeIs PySem.F.entry_dict_get (PySem.F.args_dict_get_3 _ _ _) (meetsH_dict_get_default (tupleKind (bf X.prog X.w)) a b hd r) ⟨tq hu,k,xs,lQ I.b8 eb,dd,h _ _ (I.tok _) ?_⟩;rw [l];exact(rel.val k).getD rd
end
def DO (td ty tx:TE):TE:=λσ H Q=>td σ H λx H1=>RP x (RT H1) λa=>ty σ H1 λy H2=>tx σ H2 λz H3=>Zo (cK H3 a y) λo=>Q (o.getD z) H3
section
variable {X:Cx}{o e f:Expr}{apos hX:Pos}{td ty tx:TE}
def iH (hu:X.A.units+1 < cLine)(ho:PE X o td)(he:PE X e ty)(hf:PE X f tx)(m:M2 X o "get" apos e f hX):PE X (.Call (.Attribute o "get" apos) [e,f] [] hX) (DO td ty tx):=by
 intro ag s σ H Q I h;refine wpAny_Call_method m.base m.nr m.line yF PySem.F.slot_dict_get PySem.F.type_dict_get (cW (ho ag s σ H _ I h) λu s1 bF=>?_);obtain⟨x,H1,I1,rx,a,ex,d,q1⟩:=bF;subst ex;obtain rfl:u=Value.ref a:=rx;obtain⟨t1,t2,_⟩:=zV I1 d;refine⟨t1,t2,?_⟩;rw [m.trees];refine uZ rfl (uS (s_ (cW (he ag s1 σ H1 _ I1 q1) λiv s2 ⟨y,H2,I2,ry,q2⟩ =>
  s_ (cW (hf ag s2 σ H2 _ I2 q2) λfv s3 ⟨z,H3,I3,rz,ov,g,q3⟩=>Calls.spliced_nil ?_))))
 exact Mv hu I3 g ry rz λw' s4 I4 zj=>⟨_,H3,I4,zj,q3⟩
end
section
variable {X:Cx}{ag:List (Addr×Obj)}{σ:St}{H:Hp}{s:Shared}{a:Addr}{kvs:List (aL×V)}{A:Around}{E:Value->Shared->Prop}
end
section
variable {X:Cx}{ag:List (Addr×Obj)}{σ:St}{H:Hp}{s:Shared}{a:Addr}{y:V}{u:Value}{A:Around}{E:Value->Shared->Prop}
end
end L2
set_option maxHeartbeats 4000000
namespace L2
open PySem
def vU:typeLookup (.type "list") "keys"=pure none:=by rw [typeLookup_type,builtinLookup_eq_fast];kernel_rfl
def vV:typeLookup (.type "list") "__getattr__"=pure none:=by rw [typeLookup_type,builtinLookup_eq_fast];kernel_rfl
section
variable {prog:Program}{w:World}{A:Around}{E:Value->Shared->Prop}{h:Heap}{g:Array GenState}{d:Drawn}{t:Nat}{os:OsState}{a:Addr}{o:Obj}
def DR:isSubtype (.type "AttributeError") (.type "AttributeError")=pure true:=by rw [isSubtype_type];kernel_rfl
def K3 {m:Str}{tk:Tok}:ownMembersOf (.type "AttributeError") [.str m tk]=#[unsetMember,unsetMember]:=by kernel_rfl
def FV {m:Str}{tk:Tok}:firstArgMember (.type "AttributeError") [.str m tk]=pure .none:=by kernel_rfl
def zo {α:Type}{self:Value}{name msg:Str}{Q:α->Shared->Prop}(hm:msg.length<=sizeLine)(hh:A.handled=none)
  (hq:∀h' t' e oe,(∀b o,h.get? b=some o->h'.get? b=some o)->h'.get? e=some oe->oe.cls=.type "AttributeError" -> E (.ref e) ⟨h',g,d,t',os⟩) :
  wpAny (model prog w) A (raiseAttrError self name msg) Q E ⟨h,g,d,t,os⟩:=by
 have f1:=DR;unfold raiseAttrError newExc;refine aD (wpAny_mkStr ?_ hm);have fe:=FV (m:=msg) (tk:=t);rw [K3]
 repeat (any_goals (first | assumption | wp_step))
 unfold raiseNew;refine aD (wpAny_handled ?_);rw [hh];refine aD (aR ?_);refine wpAny_throw ?_;refine hq _ _ _ _ (λb o q=>?_) (Heap.get?_update_self _ (dH _ rfl) rfl) rfl;have lt:=bJ q;rw [Heap.get?_update_other _ _ (by rw [nQ];exact kI (qx lt))];exact cx _ (cx _ q)
def zS {tk:Tok}{aT:Array Value}{n:Nat}{Q:Fin->Shared->Prop}(hx:h.get? a=some { cls:=.type "list",data:=.seq aT n })(hh:A.handled=none)
  (hq:∀h' t' e oe,(∀b o,h.get? b=some o->h'.get? b=some o)->h'.get? e=some oe->oe.cls=.type "AttributeError" -> E (.ref e) ⟨h',g,d,t',os⟩) :
  wpAny (model prog w) A (Builtin.«object.__getattribute__» ⟨[.ref a,.str "keys" tk],[]⟩) Q E ⟨h,g,d,t,os⟩:=by
 have hT:(⟨h,g,d,t,os⟩:Shared).TypeIs (.ref a) "list" := ⟨_,hx,rfl⟩;have f4:=vU
 repeat (any_goals (first | assumption | wp_step))
 exact zo nofun hh hq
def oJ {aT:Array Value}{n:Nat}{Q:Option Value->Shared->Prop}(hx:h.get? a=some { cls:=.type "list",data:=.seq aT n })(hh:A.handled=none)
  (hq:∀h' t',(∀b o,h.get? b=some o->h'.get? b=some o)->Q none ⟨h',g,d,t',os⟩):wpAny (model prog w) A (getAttr? (.ref a) "keys") Q E ⟨h,g,d,t,os⟩:=by
 have hT:∀t',(⟨h,g,d,t',os⟩:Shared).TypeIs (.ref a) "list" := λt'=>⟨_,hx,rfl⟩;have f1:=DR;have f2:=u6.lookup;have f3:=u6.bind (.ref a);have f4:=vV;unfold getAttr? getAttrBy? getAttrBy;refine aD (wpAny_mkText (aD (wpAny_attempt (kJ (aD (jq (hT _) ?_))))));rw [f2];refine aD (aR ?_);show wpAny _ _ (getAttrByItsOwn _ _ _ _ _ _) _ _ _;unfold getAttrByItsOwn;refine aD (aR (a:=none) (aD (wpAny_attempt (kJ ?_))));show wpAny _ _ (boundAndCalled _ _ _) _ _ _;unfold boundAndCalled;rw [f3];refine aD (aR (wpAny_call (codeAny_call_builtin u6.plain F.entry_list_ga (u6.check _ _ _ _ _ _ _ _ (hT _) (F.args_list_getattribute_2 _ _) (zS hx hh λh' t' e oe k ee ec=>?_)))));have te:(⟨h',g,d,t',os⟩:Shared).TypeIs (.ref e) "AttributeError" := ⟨oe,ee,ec⟩;show wpAny _ _ (getattributeRaised _ _ _ _ _ _ _) _ _ _;unfold getattributeRaised;refine aD (wpAny_isInstance te f1 ?_);rw [ar rfl];show wpAny _ _ (typeLookup _ _ >>= _) _ _ _;rw [f4];refine aD (aR ?_);show wpAny _ _ (throw _) _ _ _;refine wpAny_throw ?_;refine aD (wpAny_isInstance te f1 ?_);rw [ar rfl];exact aR (hq h' t' k)
end
def fq:plainId "dict.update.loop"=true:=by decide +kernel
def kq:entryFor table "dict.update.loop"=some Builtin.«dict.update.loop»:=entryFor_of_tree (nofun)
section
variable {prog:Program}{w:World}{K:Type} [DecidableEq K] {knd:KeyKind prog w K}{A:Around}{E:Value->Shared->Prop}
def lZ (knd:KeyKind prog w K)(h:Heap)(u:Value)(kv:K×Value):Prop :=
 ∃t key n o,u=.ref t/\knd.is kv.1 key=true/\h.get? t=some o/\o.cls=.type "tuple" /\ o.data=.seq #[key,kv.2] n
def lZ.keep {h h':Heap}{u:Value}{kv:K×Value}(p:lZ knd h u kv)(k:∀b o,o.cls=.type "tuple" -> h.get? b=some o->h'.get? b=some o):lZ knd h' u kv :=
 let ⟨t,key,n,o,a,b,c,d,e⟩:=p;⟨t,key,n,o,a,b,k t o d c,d,e⟩
def F1 {R:Result->Shared->Prop}{d it l:Addr}{items:Array Value}(hh:A.handled=none):∀(more:List (K×Value)) (i:Nat)(s:Shared)(kvs:List (K×Value)) (j:Int)(tk:Tok),items.size=i+more.length ->
  s.heap.DictOf knd d kvs->s.heap.IsListIter it l i->s.heap.IsList l items->(∀m kv,more[m]?=some kv->∃u,items[i+m]?=some u/\lZ knd s.heap u kv)->kvs.length+more.length<=sizeLine ->
  (∀h' t',h'.DictOf knd d (more.foldl (λa p=>stored a p.1 p.2) kvs)->(∀b o,b≠d->b≠it->s.heap.get? b=some o->h'.get? b=some o)->R (.ok (.ret .none)) { s with heap:=h',toks:=t' }) ->
  codeAny (model prog w) A (.builtin "dict.update.loop" ⟨[.ref d,.ref it,.int j tk,.none],[]⟩) R s:=by
 intro more
 induction more with
 | nil =>
  intro i s kvs j tk hi hd hit hl hp hz hR;refine qo kq ?_;rw [qz fq _];unfold Builtin.«dict.update.loop»;have hs:items[i]?=none:=Array.getElem?_eq_none (by rw [hi];exact aE _);refine aD (uY hh hit hl hs λh1 eb=>?_);have nd:d≠it:=λz=>by
   obtain⟨o,_,_,q,_,c,_⟩:=hd;obtain⟨o',q',_,c'⟩:=hit;rw [z,q'] at q;cases q;rw [c'] at c;cases c
  show wpAny _ _ (Builtin.Dict.addKeywords d [] >>= _) _ _ _;exact aD (aR (aR (hR h1 s.toks (hd.extBut eb nd) λb o n1 n2 q=>eb b o n2 q)))
 | cons kv more ih =>
  intro i s kvs j tk hi hd hit hl hp hz hR;refine qo kq ?_;rw [qz fq _];unfold Builtin.«dict.update.loop»;obtain⟨u,hu,t,key,n,o,rfl,hk,ho,hc,sM⟩:=hp 0 kv rfl;refine aD (wpAny_pyNext_list_item hit hl hu λh1 T5 sb=>?_);have nd:d≠it:=λz=>by
   obtain⟨o,_,_,q,_,c,_⟩:=hd;obtain⟨o',q',_,c'⟩:=hit;rw [z,q'] at q;cases q;rw [c'] at c;cases c
  have n2:∀b o,(o.cls=.type "tuple" \/ o.cls=.type "list")->s.heap.get? b=some o->b≠d/\b≠it:=by
   intro b o c q;constructor
   .intro z;obtain⟨o',q',c'⟩:=hd.typeIs;rw [z,q'] at q;cases q;rw [c'] at c;rcases c with c | c <;> exact absurd c nofun
   intro z;obtain⟨o',q',c',_⟩:=hit;rw [z,q'] at q;cases q;rw [c'] at c;rcases c with c | c <;> exact absurd c nofun
  have nt:∀b o,o.cls=.type "tuple" -> s.heap.get? b=some o->b≠d/\b≠it:=λb o c q=>n2 b o (.inl c) q;have nl:l≠d/\l≠it:=by
   obtain⟨o,q,c,_⟩:=hl;exact n2 l o (.inr c) q
  have JE:h1.get? t=some o:=(sb.2 t (nt t o hc ho).2).trans ho;have Dm:h1.DictOf knd d kvs:=hd.sameBut sb nd;refine aD (kJ (aD (wpAny_tryCatch ?_)));unfold Builtin.Dict.pairItems;refine aD (jq (T := "tuple") ⟨o,JE,hc⟩ ?_);rw [ar nofun];refine aD (qk JE sM (aR ?_));show wpAny _ _ (holding [key,kv.2] (dictSet d key kv.2)) _ _ _;rw [dG] at hz hi;refine kJ (wpAny_dictSet_pairs (s:={ s with heap:=h1 }) hk Dm (λh2 hd2 Oe=>?_) ∅);have kk:∀b o,b≠d->b≠it->s.heap.get? b=some o->h2.get? b=some o:=λb o n1 n2 q=>(Oe.2 b n1).trans ((sb.2 b n2).trans q);have ln:(stored kvs kv.1 kv.2).length<=kvs.length+1:=by
   unfold stored
   split
   .simp
   simp
  refine aR ⟨nK fq _,ih (i+1) _ _ _ _ ∅ hd2 (T5.at λo q=>(Oe.2 it (gq nd)).trans q) (hl.at λo q=>kk l o nl.1 nl.2 q) (λm TR e=>?_) ∅ λh3 t3 iU k3=>?_⟩
  .obtain⟨u',e1,e2⟩:=hp (m+1) TR e;exact⟨u',by rw [<-e1];congr 1;omega,e2.keep λb o c q=>kk b o (nt b o c q).1 (nt b o c q).2 q⟩
  exact hR h3 t3 iU λb o n1 n2 q=>k3 b o n1 n2 (kk b o n1 n2 q)
def yP:(Value.type "list" != Value.type "dict")=true:=by decide
def rZ {s:Shared}{l:Addr}{items:Array Value}{n:Nat}{more:List (K×Value)}{Q:Value->Shared->Prop}(knd:KeyKind prog w K)(hh:A.handled=none)(hx:s.heap.get? l=some { cls:=.type "list",data:=.seq items n })
  (hi:items.size=more.length)(hp:∀(m:Nat) kv,more[m]?=some kv->∃u,items[m]?=some u/\lZ knd s.heap u kv)(hz:more.length<=sizeLine)
  (h:∀h' t',h'.DictOf knd s.heap.objs.size (more.foldl (λa p=>stored a p.1 p.2) [])->(∀b o,s.heap.get? b=some o->h'.get? b=some o)->Q (.ref s.heap.objs.size) { s with heap:=h',toks:=t' }) :
  wpAny (model prog w) A (call (.type "dict") [.ref l]) Q E s:=by
 refine callType_codes (Q₁:=λobj s₁=>obj=.ref s.heap.objs.size/\s₁={ s with heap:=s.heap.push { cls:=.type "dict",data:=.dict #[] } }) F.kt_called_dict (F.kt_typeCall_dict_1 _) F.entry_dict_init (kt_code_dict_new _ ⟨rfl,rfl⟩) ?_;rintro obj s₁ ⟨rfl,rfl⟩;have zJ:(s.heap.push { cls:=.type "dict",data:=.dict #[] }).DictOf knd s.heap.objs.size []:=Heap.DictOf.new s.heap;have l0:=cx { cls:=.type "dict",data:=.dict #[] } hx;refine⟨zJ.typeIs,F.args_dict_init_2 _ _,?_⟩;unfold Builtin.«dict.__init__» Builtin.Dict.selfAndRest;refine aD (aD (wpAny_notOrdered_dict zJ.typeIs (aR ?_)));show wpAny _ _ (Builtin.Dict.updateFrom "dict.__init__" s.heap.objs.size (.ref l) [] .none) _ _ _;unfold Builtin.Dict.updateFrom;refine aD (jq (T := "list") ⟨_,l0,rfl⟩ ?_);rw [ar yP];refine aD (oJ l0 hh λh1 t1 k1=>?_);refine aD (wpAny_rule ?_);have l1:=k1 _ _ l0;refine aD (nY ⟨_,l1,rfl,_,rfl⟩ ?_);have k2:∀b o,s.heap.get? b=some o->(h1.push { cls:=.type "list_iterator",data:=.fields #[.ref l,.int 0 0] }).get? b=some o:=λb o q=>cx _ (k1 _ _ (cx _ q));refine aR ⟨nK fq _,F1 (knd:=knd) (A:=A.in1) (l:=l) (items:=items) (show A.in1.handled=none from hh) more 0 _ [] _ _ (by rw [hi,nP]) ?_ ⟨_,dH _ rfl,rfl,rfl⟩ ⟨_,k2 _ _ hx,rfl,n,rfl⟩ (λm kv e=>?_) (by simpa using hz) λh' t' hd k3=>?_⟩
 .obtain⟨o,es,ep,q,r⟩:=zJ;exact⟨o,es,ep,cx _ (k1 _ _ q),r⟩
 .obtain⟨u,e1,e2⟩:=hp m kv e;exact⟨u,by rw [nP];exact e1,e2.keep λb o _ q=>k2 b o q⟩
 refine⟨rfl,h h' t' hd λb o q=>k3 b o (bX (bJ q)) ?_ (k2 b o q)⟩;have:=bJ (k1 _ _ (cx { cls:=.type "dict",data:=.dict #[] } q));exact bX this
end
open PySem PySem.Spec PyProof.Rows
def C7 (X:Cx)(ifs:List Expr)(t:TT):Prop :=
 ∀(ag:List (Addr×Obj))(s:Shared)(σ:St)(H:Hp)(Q:Bool->Hp->Prop),Inv X ag σ H s->t σ H Q ->
  wpAny (model X.prog X.w) X.A (forIn ifs true λc r=>if r=true then do let ok <-isTrue c X.env (eval c X.env);pure (ForInStep.yield ok) else pure (ForInStep.yield r)) (TP X ag σ Q) X.xe s
def gP:TT:=λ_ H Q=>Q true H
def bw {X:Cx}:C7 X [] gP:=λ_ _ _ H _ I h=>wpAny_tests_nil ⟨H,I,h⟩
def gK {X:Cx}{c:Expr}{t:TT}(h:PT X c t):C7 X [c] t:=λag s σ H Q I hw=>wpAny_tests_one (h ag s σ H Q I hw)
def pj {prog:Program}{w:World}{A:Around}{R:Result->Shared->Prop}{s:Shared}{elt target iter:Expr}{ifs:List Expr}{scope:Scope}{pos:Pos}{it bQ:Value}{env:Env}(I:Nat->Shared->Prop)
  (turn:∀n s,I n s->wpAny (model prog w) A (pyNext it) (λr s₁=>match r with
   | none=>R (.ok .next) s₁
   | some v=>wpAny (model prog w) A (letOwnedTupleGo target it v) (λ_ s₁=>wpAny (model prog w) A (assign target env v) (λ_ s₂ =>
     wpAny (model prog w) A (forIn ifs true λc r=>if r=true then do let ok <-isTrue c env (eval c env);pure (ForInStep.yield ok) else pure (ForInStep.yield r)) (λok s₃ =>
      if ok=true then wpAny (model prog w) A (eval elt env) (λx s₄ =>
       wpAny (model prog w) A (call (.builtin "list.append") [bQ,x]) (λ_ s₅=>∃m,m < n/\I m s₅) (λ_ _=>False) s₄) (λ_ _=>False) s₃
      else ∃m,m < n/\I m s₃) (λ_ _=>False) s₂) (λ_ _=>False) s₁) (λ_ _=>False) s₁) (λ_ _=>False) s)
  (n:Nat)(h:I n s) :
  codeAny (model prog w) A (.compLoop (.ListComp elt [⟨target,iter,ifs,0⟩] scope pos) 0 it bQ env) R s:=by
 refine codeAny_loop rfl I (λn s hI=>?_) n h;show wpAny _ A ((compTurn (.ListComp elt [⟨target,iter,ifs,0⟩] scope pos) 0 it bQ env).onRaise (λx=>do noteFrame x env;theTreesLotGoes x)) _ _ s;refine wpAny_noted ?_;rw [compTurn_list];refine aD (wpAny_standAt (aD (dw (turn n s hI) (λr s₁ h₁=>?_) λ_ _ h'=>h'.elim)));cases r with
 | none=>exact aR h₁
 | some v =>
  refine aD (dw h₁ (λ_ s₂ h₂=>?_) λ_ _ h'=>h'.elim);refine aD (dw h₂ (λ_ s₂ h₂=>aD (dw h₂ (λok s₃ h₃=>?_) λ_ _ h'=>h'.elim)) λ_ _ h'=>h'.elim);cases ok with
  | false=>exact aR ⟨rfl,h₃⟩
  | true =>
   exact aD (aD (dw h₃ (λx s₄ h₄=>aD (dw h₄ (λ_ s₅ h₅=>aR (aR ⟨rfl,h₅⟩)) λ_ _ h'=>h'.elim)) λ_ _ h'=>h'.elim))
inductive yn (K:ba)(H:Hp):V->String->Prop where
 | bl (x:Bool):yn K H (.bl x) "bool"
 | int (i:Int):yn K H (.int i) "int"
 | str (x:Str):yn K H (.str x) "str"
 | tup {a:Addr}{xs:List V}(e:aS K H a xs):yn K H (.ref a) "tuple"
inductive Zj (K:ba)(H:Hp)(xs:List V)(R:Bool->Prop):Prop
|mk(x:V)(T n:String)(b:Bool)(e:xs=[x,.ty n])(c:yn K H x T)(k:PySem.W.kitOne K (.type T) (.type n)=some b)(q:R b)
def kb {X:Cx}:fC X (.builtin "isinstance") (λxs H Q=>Zj X.K H xs λb=>Q (.bl b) H):=by
 intro ag s σ H xs us Q I r h;obtain⟨x,T,n,b,rfl,ty,e,q⟩:=h;obtain⟨u,w',rfl,rx,rn⟩:=vals2 r;cases (show w'=Value.type n from rn);have fin:∀tk,EP X ag σ Q (.bool b) { s with toks:=tk }:=λtk=>⟨.bl b,H,I.tok _,rfl,q⟩;cases ty with
 | bl y=>cases (show u=Value.bool y from rx);exact qt PySem.W.kitx_bool I.uf True.intro e (λz=>nomatch z) fin
 | int i=>obtain⟨t,z⟩:=(show ∃t,u=Value.int i t from rx);cases z;exact qt PySem.W.kitx_int I.uf True.intro e (λz=>nomatch z) fin
 | str y=>obtain⟨t,z⟩:=(show ∃t,u=Value.str y t from rx);cases z;exact qt PySem.W.kitx_str I.uf True.intro e (λz=>nomatch z) fin
 | @tup a ys hq =>
  cases (show u=Value.ref a from rx);obtain⟨aT,_,⟨o,h1,h2,_⟩,_⟩:=I.tuple hq;exact qt PySem.W.kitx_tuple I.uf ⟨o,h1,h2⟩ e (λz=>nomatch z) fin
def B0 {X:Cx}{a:Expr}{ta:TE}(K:ba)(ha:PE X a ta)(he:∀whole,isTrue a X.env whole=(do let v <-whole;standAt a.pos;holding [v] (truthy v)))(hK:X.K=K:=by rfl) :
  PT X a (λσ H Q=>ta σ H λx H'=>∃k,Gm K x H' k/\Q k H'):=by
 subst hK;exact i7 ha he
structure IZ (env:Env)(scope:Scope)(cl:List (Str×Addr)):Prop where
 eq:closureFor scope env=pure cl
 sub:∀y c,cl.lookup y=some c->env.cells.lookup y=some c
 all:∀y,(y,NameKind.free)∈scope.names->∃c,cl.lookup y=some c
def jx {y n:Str}{c:Addr}{l:List (Str×Addr)}:((n,c)::l).lookup y=if y=n then some c else l.lookup y:=by
 by_cases h:y=n
 .rw [ar h];simp [List.lookup,h]
 rw [au h];simp [List.lookup,jR.mpr h]
def wm {env:Env}{scope:Scope}(h:∀y,(y,NameKind.free)∈scope.names->∃c,env.cells.lookup y=some c):∃cl,IZ env scope cl:=by
 have go:∀(names:List (Str×NameKind))(bQ:List (Str×Addr)),(∀y,(y,NameKind.free)∈names->∃c,env.cells.lookup y=some c)->(∀y c,bQ.lookup y=some c->env.cells.lookup y=some c) ->
   ∃cl,(forIn names bQ λ(x:Str×NameKind)(cs:List (Str×Addr))=>(if x.2 == .free then do let c <-cellOf env x.1;pure (ForInStep.yield ((x.1,c)::cs)) else pure (ForInStep.yield cs):Sem (ForInStep (List (Str×Addr)))))=pure cl /\
    (∀y c,cl.lookup y=some c->env.cells.lookup y=some c)/\(∀y,(y,NameKind.free)∈names->∃c,cl.lookup y=some c)/\∀y c,bQ.lookup y=some c->∃c',cl.lookup y=some c':=by
  intro names
  induction names with
  | nil=>intro bQ _ hs;exact⟨bQ,rfl,hs,λy hy=>absurd hy (by simp),λy c e=>⟨c,e⟩⟩
  | cons x r ih =>
   intro bQ hf hs;obtain⟨n,k⟩:=x;rw [List.forIn_cons];by_cases hk:k=.free
   .subst hk;obtain⟨c0,e0⟩:=hf n bK;obtain⟨cl,e1,e2,e3,e4⟩:=ih ((n,c0)::bQ) (λy hy=>hf y (bW _ hy)) (λy c e=>by
     rw [jx] at e;by_cases z:y=n
     .rw [ar z] at e;cases e;rw [z];exact e0
     rw [au z] at e;exact hs y c e)
    refine⟨cl,?_,e2,λy hy=>?_,λy c e=>?_⟩
    .rw [<-e1];have:cellOf env n=pure c0:=by unfold cellOf;rw [e0]
     simp only [this];rfl
    .rcases bR.mp hy with z | z
     .cases z;exact e4 n c0 (by rw [jx,ar rfl])
     exact e3 y z
    by_cases z:y=n
    .exact e4 y c0 (by rw [jx,ar z])
    exact e4 y c (by rw [jx,au z];exact e)
   obtain⟨cl,e1,e2,e3,e4⟩:=ih bQ (λy hy=>hf y (bW _ hy)) hs;refine⟨cl,?_,e2,λy hy=>?_,e4⟩
   .rw [<-e1];have:(k == NameKind.free)=false:=by simpa using hk
    simp only [this];rfl
   rcases bR.mp hy with z | z
   .cases z;exact absurd rfl hk
   exact e3 y z
 obtain⟨cl,e1,e2,e3,_⟩:=go scope.names [] h (λy c e=>by simp at e);refine⟨cl,?_,e2,e3⟩;unfold closureFor;exact Eq.trans (congrArg (λt:Sem (List (Str×Addr))=>t >>= λcs=>pure cs) e1) rfl
def vL {scope:Scope}{env:Env}{y:Str}(hk:env.scope.kind=.function)(hy:scope.names.lookup y=some .free)(he:env.kindOf y=some .cell):(relabel scope env).names.lookup y=some .cell:=by
 have go:∀l:List (Str×NameKind),l.lookup y=some .free->(l.map λ(x:Str×NameKind)=>if (x.2 == NameKind.free && env.scope.kind == .function && env.kindOf x.1 == some .cell) then (x.1,NameKind.cell) else (x.1,x.2)).lookup y=some .cell:=by
  intro l
  induction l with
  | nil=>intro z;cases z
  | cons x r ih =>
   obtain⟨n,k⟩:=x;intro hy;rw [cA];by_cases z:y=n
   .subst z;simp [List.lookup] at hy;subst hy;simp [List.lookup,hk,he]
   have zb:(y == n)=false:=jR.mpr z;simp only [List.lookup,zb] at hy;have:=ih hy;dsimp only
   split <;> simp only [List.lookup,zb] <;> exact this
 exact go _ hy
theorem vT {α:Type}{y:Str}{v:α}:∀{l:List (Str×α)},l.lookup y=some v->(y,v)∈l
 | [],h=>by cases h
 | (n,u)::r,h=>by
  by_cases z:y=n
  .subst z;simp [List.lookup] at h;subst h;exact bK
  have zb:(y == n)=false:=jR.mpr z;simp only [List.lookup,zb] at h;exact bW _ (vT h)
def mP {scope:Scope}{env:Env}{y:Str}{k:NameKind}(h:(relabel scope env).names.lookup y=some k)(hk:k=.cell\/k=.free)(hc:∀z∈scope.names,z.2≠.cell):(y,NameKind.free)∈scope.names:=by
 have m:=vT h;unfold relabel at m;obtain⟨⟨n,k'⟩,m1,m2⟩:=bV.mp m;dsimp only at m2
 split at m2
 .rename_i q
  cases m2;simp at q;obtain⟨⟨q,_⟩,_⟩:=q;subst q;exact m1
 cases m2;rcases hk with hk | hk
 .exact absurd hk (hc _ m1)
 rw [<-hk];exact m1
def rR (X:Cx)(scope:Scope)(cl:List (Str×Addr))(C:Addr)(s1:Shared)(H1:Hp) (N:List Str)(fp:List Addr):Cx :=
 { X with N:=N,s₀:=s1,H₀:=H1,env:=compEnvC scope cl C X.env,outer:=X.stack,stack:=X.stack,ex:=fp,fn:=λ_=>false,pn:=[],xe:=λ_ _=>False }
structure I0 (X:Cx)(scope:Scope)(js:List (Nat×Str)):Prop where
 at_:∀p∈js,X.N[p.1]?=some p.2/\X.env.scope.names.lookup p.2=some .cell/\scope.names.lookup p.2=some .free
 all:∀y,(y,NameKind.free)∈scope.names->X.env.scope.names.lookup y=some .cell
def dJ (ts:List Str)(js:List (Nat×Str))(σ:St):St:=ts.map (λ_=>none)++js.map λp=>(σ[p.1]?).join
def ui {X:Cx}{ag:List (Addr×Obj)}{σ:St}{H:Hp}{s1 s4:Shared}{scope:Scope}{ts:List Str}{js:List (Nat×Str)}{cl:List (Str×Addr)}{fp:List Addr}{C:Addr}{m:Str->Option Value}
  (I:Inv X ag σ H s1)(hf:∀b∈fp,wF X ag H b)(FD:∀b∈fp,b < s1.heap.objs.size)(je:scope.kind=.function)(jf:∀y∈scope.names,y.2≠.cell)(cp:I0 X scope js)(mY:IZ X.env scope cl)
  (hC:s1.heap.objs.size < C)(ho:s4.os=s1.os)(hg:s4.gens=s1.gens)(old:∀b o,s1.heap.get? b=some o->s4.heap.get? b=some o)(hn:s4.heap.Ns C m)
  (hD:s4.heap.get? s1.heap.objs.size=some { cls:=.type "list",data:=.seq ([]:List Value).toArray 0 }) :
  Inv (rR X scope cl C s1 H (ts++js.map (·.2)) fp) [] (dJ ts js σ) (upd H s1.heap.objs.size (.lst [])) s4:=by
 have xk:X.env.scope.kind=.function:=I.ok.kind;have has:∀y,((relabel scope X.env).names.lookup y=some .cell\/(relabel scope X.env).names.lookup y=some .free)->∃c,cl.lookup y=some c:=λy hy=>mY.all y (by
  rcases hy with hy | hy
  .exact mP hy (.inl rfl) jf
  exact mP hy (.inr rfl) jf)
 have lt:∀y c,cl.lookup y=some c->c < s1.heap.objs.size:=λy c e=>by
  obtain⟨v,o,ho,_⟩:=I.cell y c (mY.sub y c e);exact bJ ho
 refine⟨⟨I.ok.mod,je,I.ok.glob,I.ok.blt,jU hC,λy z c h1 h2=>I.ok.inj y z c (mY.sub _ _ h1) (mY.sub _ _ h2),has,λy c h _=>absurd (show false=true from h) cU,I.ok.hd,I.ok.frames,.inl rfl,
   λb hb=>⟨bX (jV (FD b hb) hC),λy c h=>(hf b hb).2.2.2.2.1 y c (mY.sub _ _ h)⟩,I.bs,ff I.ok.Ha I.sz,λb o e hb=>?_,λb hb=>?_,I.stack,I.AR⟩,
  ho,?_,Un.laid old (aE _) I.fresh,⟨m,hn,λi y v e1 e2 _=>?_⟩,λy c h=>?_,?_,λy c h=>?_,λp hp=>absurd (show p∈([]:List (Addr×Obj)) from hp) (by simp),I.b8.laid old (aE _) ?_,?_⟩
 .obtain⟨_,_,_,h4,_⟩:=hf b hb;rcases h4 with h4 | h4
  .exact I.ok.Fd b o e h4
  exact absurd (fS (bJ (I.ok.bs b o e).1) h4) (kK _)
 .intro G3;obtain⟨_,h2,h3,_⟩:=hf b hb;rcases bR.mp (I.yQ b G3) with z | z
  .exact h2 z
  exact h3 z
 .rw [hg];exact I.bare
 .have IF:(ts++js.map (·.2))[i]?=some y:=e1;have CM:(ts.map (λ_=>(none:Option V))++js.map λp=>(σ[p.1]?).join)[i]?=some (some v):=e2;by_cases hi:i < ts.length
  .rw [mr (by simpa using hi)] at CM;simp [hi] at CM
  rw [kM ∅] at IF;rw [kM (by simpa using Nat.le_of_not_lt hi)] at CM;rw [ax] at CM;rw [bq] at IF CM;cases hj:js[i - ts.length]? with
  | none=>rw [hj] at IF;cases IF
  | some p =>
   rw [hj] at IF CM;simp only [qr,Option.some.injEq] at IF CM;obtain⟨a1,a2,a3⟩:=cp.at_ p (cE hj);subst IF;have es:σ[p.1]?=some (some v):=by
    cases q:σ[p.1]? with
    | none=>rw [q] at CM;cases CM
    | some z=>rw [q] at CM;exact congrArg some CM
   obtain⟨m0,Rp,lk⟩:=I.loc;obtain⟨u,ru,l⟩:=lk p.1 p.2 v a1 es (.inr (.inl a2));rcases l with l | ⟨_,c,ec,o,hc,hd⟩
   .have l1:X.env.scope.names.lookup p.2=some .local:=l.1;rw [a2] at l1;cases l1
   obtain⟨c',YI⟩:=mY.all p.2 (vT a3);have e3:=mY.sub _ _ YI;rw [ec] at e3;cases e3;exact⟨u,ru,.inr ⟨.inl (vL xk a3 a2),c,YI,o,old _ _ hc,hd⟩⟩
 .obtain⟨v,o,h1,h2⟩:=I.cell y c (mY.sub y c h);exact⟨v,o,old _ _ h1,h2⟩
 .show upd H s1.heap.objs.size (.lst []) C=none;rw [ak (kI hC)];exact I.b8.fresh (jU hC)
 .show upd H s1.heap.objs.size (.lst []) c=none;rw [ak (bX (lt y c h))];exact I.j_ y c (mY.sub y c h)
 .exact⟨by show 0<=sizeLine;decide,[],0,.nil,hD⟩
 show (dJ ts js σ).length=(ts++js.map (·.2)).length;simp [dJ]
def DP (wi:TI) (ts:List Str)(js:List (Nat×Str))(g:TG)(tif:TT)(te:TE):TE:=λσ H Q=>wi σ H λJ H1=>∀D,H1 D=none->∃W:Nat->Nat->List V->St->Hp->Prop,(∃m,W 0 m [] (dJ ts js σ) (upd H1 D (.lst []))) /\
 ∀i m ys σ' H,W i m ys σ' H->(J.stop i H/\Q (.ref D) H)\/(J.go i H/\∃m',m' < m/\∀x H',J.kX i H x H'->g x σ' H' λσ2 H2=>tif σ2 H2 λb H3 =>
  if b=true then te σ2 H3 λy H4=>H4 D=some (.lst ys)/\ys.length < sizeLine/\W (i+1) m' (ys++[y]) σ2 (upd H4 D (.lst (ys++[y]))) else W (i+1) m' ys σ2 H3)
def aV {X:Cx}{elt iter tg:Expr}{ifs:List Expr}{scope:Scope}{pos:Pos}{wi:TI}{g:TG}{tif:TT}{te:TE}(ts:List Str)(js:List (Nat×Str))(hc:X.calm=true)(hi:PI X tg iter wi)
  (cp:I0 X scope js)(jf:∀y∈scope.names,y.2≠.cell)(je:scope.kind=.function)
  (zZ:∀y∈scope.names,y.2=.local->scope.names.lookup y.1=some .local)
  (hg:∀cl C s1 H1 fp,PG (rR X scope cl C s1 H1 (ts++js.map (·.2)) fp) tg g)
  (UA:∀cl C s1 H1 fp,C7 (rR X scope cl C s1 H1 (ts++js.map (·.2)) fp) ifs tif)(he:∀cl C s1 H1 fp,PE (rR X scope cl C s1 H1 (ts++js.map (·.2)) fp) elt te)
  (hs:∀x,foldedSetIterable iter X.env x=pure x:=by intro _;rfl) :
  PE X (.ListComp elt [⟨tg,iter,ifs,0⟩] scope pos) (DP wi ts js g tif te):=by
 intro ag s σ H Q I h;rw [eval_ListComp];obtain⟨cl,mY⟩:=wm (env:=X.env) (scope:=scope) λy hy=>I.ok.has y (.inl (cp.all y hy));refine wpAny_comprehension_free (use:=none) rfl hs mY.eq je zZ (cW (hi ag s σ H _ I h) λv s1 h1=>cW h1 λRi s2 h2=>?_);obtain⟨it,fp,tn,J,H2,e,I2,T,GI,f2,h2⟩:=h2;subst e;obtain⟨W,⟨m0,w0⟩,turn⟩:=h2 s2.heap.objs.size I2.fresh;have FD:∀b∈fp,b < s2.heap.objs.size:=λb hb=>by obtain⟨o,e,_⟩:=T.obj _ _ GI b hb;exact bJ e
 refine mj (wpAny_newFunctionEnv jf (by intro y hy;simp at hy) (λh₁ zY v3=>?_) je);dsimp only at zY v3 ⊢;generalize LV:s2.heap.push { cls:=.type "list",dict:=none,data:=.seq ([]:List Value).toArray }=G2 at zY v3 ⊢;have Iw:G2.objs.size=s2.heap.objs.size+1:=by rw [<-LV,nQ]
 have Nj:s2.heap.objs.size≠G2.objs.size:=by rw [Iw];exact bX (oX _)
 have old:∀b o,s2.heap.get? b=some o->h₁.get? b=some o:=λb o e =>
  v3.extBut b o (by rw [Iw];exact bX (qx (bJ e))) (cx _ (LV ▸ cx _ e))
 have CC:h₁.get? s2.heap.objs.size=some { cls:=.type "list",data:=.seq ([]:List Value).toArray 0 }:=v3.extBut _ _ Nj (cx _ (LV ▸ dH _ rfl));generalize m_:rR X scope cl G2.objs.size s2 H2 (ts++js.map (·.2)) fp=X2;have I4:Inv X2 [] (dJ ts js σ) (upd H2 s2.heap.objs.size (.lst [])) { s2 with heap:=h₁,toks:=s2.toks+([]:List (Str×Value)).length }:=by
  rw [<-m_];exact ui I2 f2 FD je jf cp mY (by rw [Iw];exact oX _) rfl rfl old zY CC
 have x1:X2.prog=X.prog:=by rw [<-m_];rfl
 have x2:X2.w=X.w:=by rw [<-m_];rfl
 have x3:X2.K=X.K:=by rw [<-m_];rfl
 have x4:X2.calm=true:=by rw [<-m_];exact hc
 have x5:X2.A=X.A:=by rw [<-m_];rfl
 have x6:X2.env=compEnvC scope cl G2.objs.size X.env:=by rw [<-m_];rfl
 have x7:X2.xe=λ_ _=>False:=by rw [<-m_];rfl
 have UD:PG X2 tg g:=by rw [<-m_];exact hg _ _ _ _ _
 have LN:C7 X2 ifs tif:=by rw [<-m_];exact UA _ _ _ _ _
 have Dl:PE X2 elt te:=by rw [<-m_];exact he _ _ _ _ _
 have N9:tn 0 h₁:=T.keep _ _ _ GI λb _ o e=>old b o e;have qL:∀{H':Hp}{jG:List (Addr×Obj)},(∀b∈fp,H' b=none)->(∀p∈jG,p.1∉fp)->∀b∈fp,wF X2 jG H' b:=λ{H' jG} hn hp b hb=>by
  have o4:=I4.ok;subst m_;exact⟨hn b hb,(o4.Nn b hb).1,o4.CH b hb,.inl hb,(o4.Nn b hb).2,λp oN=>by
   have sU:p∈([]:List (Addr×Obj))++jG:=oN;rw [qe] at sU;intro z;exact hp p sU (by rw [z];exact hb)⟩
 have fin:∀{s':Shared}{σ':St}{H':Hp},Inv X2 [] σ' H' s'->Q (.ref s2.heap.objs.size) H' ->
   compPost (model X.prog X.w) X.A X.xe none (EP X ag σ Q) (.ref s2.heap.objs.size) G2.objs.size (.ok .next) s':=λ{s' σ' H'} J' q=>by
  subst m_;obtain⟨m',Bk,_⟩:=J'.loc;refine⟨m',Bk,λh' Na=>?_⟩;have u:Un (CF X.stack) fp H2 H' s2.heap s'.heap:=J'.base;have nC:∀b o,s2.heap.get? b=some o->b≠G2.objs.size:=λb o e=>by rw [Iw];exact bX (qx (bJ e))
  have u':Un (CF X.stack) fp H2 H' s2.heap h':=⟨λb o e n hb hx=>(Na.2 b (nC b o e)).trans (u.keep b o e n hb hx),λb o e n hb hx=>by
    obtain⟨sl,z⟩:=u.slot b o e n hb hx;exact⟨sl,(Na.2 b (nC b o e)).trans z⟩,u.free,λb o e hx=>by
    obtain⟨o',z⟩:=u.there b o e hx;exact⟨o',(Na.2 b (nC b o e)).trans z⟩,u.oh,u.lW,u.mz⟩
  have b8:kT X.prog X.w H' h':=λb ob e=>by
   refine(J'.b8 b ob e).jY (λc w' lV q'=>(Na.2 c ?_).trans q') (λ_ q=>q) λ_ _ q=>q;intro z;have fr:H' G2.objs.size=none:=J'.free;rcases lV with z' | z'
   .rw [<-z'] at e;rw [z,fr] at e;cases e
   rw [z,fr] at z';cases z'
  have I5:Inv X ag σ H' { s' with heap:=h' }:=I2.JU (s':={ s' with heap:=h' }) J'.os u' b8 J'.bare λb hb=>by
   obtain⟨_,f1,_,f3,f4,f5⟩:=f2 b hb;exact⟨f3,f1,f4,f5⟩
  exact⟨.ref s2.heap.objs.size,H',I5,rfl,q⟩
 have loop:∀s₃:Shared,s₃={ s2 with heap:=h₁,toks:=s2.toks+([]:List (Str×Value)).length } ->
   codeAny (model X.prog X.w) X.A (.compLoop (.ListComp elt [⟨tg,iter,ifs,0⟩] scope pos) 0 (.ref it) (.ref s2.heap.objs.size) (compEnvC scope cl G2.objs.size X.env))
    (compPost (model X.prog X.w) X.A X.xe none (EP X ag σ Q) (.ref s2.heap.objs.size) G2.objs.size) s₃:=by
  rintro s₃ rfl;subst m_;refine pj (λn s'=>∃i ys σ' H',Inv (rR X scope cl G2.objs.size s2 H2 (ts++js.map (·.2)) fp) [] σ' H' s'/\tn i s'.heap/\(∀b∈fp,H' b=none)/\W i n ys σ' H') ?_ m0
   ⟨0,[],_,_,I4,N9,λb hb=>by rw [ak (bX (FD b hb))];exact(f2 b hb).1,w0⟩
  rintro n s' ⟨i,ys,σ0,H',J',wL,PX,w'⟩;rcases turn i n ys σ0 H' w' with ⟨stop,q⟩ | ⟨go,m',hm,step⟩
  .refine dw (T.done (rR X scope cl G2.objs.size s2 H2 (ts++js.map (·.2)) fp) rfl rfl rfl hc i [] s' _ H' (λ_ _=>False) J' (qL PX (by simp)) wL stop) (λr s4 ⟨hr,J4⟩=>?_) λ_ _ z=>z;subst hr;exact fin J4 q
  refine dw (T.item (rR X scope cl G2.objs.size s2 H2 (ts++js.map (·.2)) fp) rfl rfl rfl hc i [] s' _ H' (λ_ _=>False) J' (qL PX (by simp)) wL go) (λr s4 ⟨u,hr,h4⟩=>?_) λ_ _ z=>z;subst hr;refine dw h4 (λ_ s5 bF=>?_) λ_ _ z=>z;obtain⟨xv,H5,J5,r5,y5,BV,PV⟩:=bF;have Wg:=J5.pinned (qL PV (by simp)) (T.obj _ _ BV);have back:∀{s7:Shared}{σ7:St}{H7:Hp},Inv (rR X scope cl G2.objs.size s2 H2 (ts++js.map (·.2)) fp) ([]++oB fp s5.heap) σ7 H7 s7->Inv (rR X scope cl G2.objs.size s2 H2 (ts++js.map (·.2)) fp) [] σ7 H7 s7/\tn (i+1) s7.heap/\∀b∈fp,H7 b=none:=λ{s7 σ7 H7} J7=>by
   refine⟨J7.jW,T.keep _ _ _ BV λb hb o e=>(J7.pin (b,o) (dA _ (dA _ (gU hb e)))).1,λb hb=>?_⟩;obtain⟨o,e,d⟩:=T.obj _ _ BV b hb;exact(J7.pin (b,o) (dA _ (dA _ (gU hb e)))).2.1
  show wpAny _ _ (assign tg (rR X scope cl G2.objs.size s2 H2 (ts++js.map (·.2)) fp).env u) _ _ s5;refine dw (UD _ s5 _ H5 xv u _ Wg r5 (step xv H5 y5)) (λ_ s6 bF=>?_) λ_ _ z=>z;obtain⟨σ6,H6,J6,q6⟩:=bF;refine dw (LN _ s6 _ H6 _ J6 q6) (λb s7 bF=>?_) λ_ _ z=>z;obtain⟨H7,J7,q7⟩:=bF;cases b with
  | false =>
   rw [au cU] at q7 ⊢;obtain⟨J8,Sy,U4⟩:=back J7;exact⟨m',hm,i+1,ys,σ6,H7,J8,Sy,U4,q7⟩
  | true =>
   rw [ar rfl] at q7 ⊢;refine dw (Dl _ s7 _ H7 _ J7 q7) (λyv s8 bF=>?_) λ_ _ z=>z;obtain⟨y,H8,J8,r8,UU,T9,w8⟩:=bF;refine dw (bE (X:=rR X scope cl G2.objs.size s2 H2 (ts++js.map (·.2)) fp) _ s8 _ H8 (.ref s2.heap.objs.size) [y] (.ref s2.heap.objs.size) [yv] (λv H'=>W (i+1) m' (ys++[y]) σ6 H') J8 rfl (.cons r8 .nil) ⟨s2.heap.objs.size,ys,y,rfl,rfl,UU,T9,w8⟩)
    (λ_ s9 ⟨_,H9,J9,_,w9⟩=>?_) λ_ _ z=>z
   obtain⟨Wh,Kr,Mb⟩:=back J9;exact⟨m',hm,i+1,ys++[y],σ6,H9,Wh,Kr,Mb,w9⟩
 exact codeAny_compStart_list (loop _ rfl) (T.self _ _ _ _ _ N9 (loop _ rfl))
def QJ (K:ba)(a:Addr):It :=
 ⟨λi H=>∃xs x,aK K H a xs/\xs[i]?=some x,λi H x H'=>∃t y,x=.ref t/\H t=none/\H'=upd H t (.tup [.int (i:Int),y])/\∀xs,aK K H a xs->xs[i]?=some y,λi H=>∃xs,aK K H a xs/\xs.length<=i⟩
def BR {P:Program}{w:World}{K:ba}{elts:List Expr}{k:Nat}{ve:Pos}(a e it:Addr)(Pw:e≠it) :
  Turn P w K (.Tuple elts k ve) (QJ K a) [e,it] e (λi h=>(∃old,IsEnum h e it i old)/\h.IsListIter it a i) where
 mem:=by simp
 obj:=λi h st b hb=>by
  obtain⟨⟨old,he⟩,o,e1,c,d⟩:=st;rcases bR.mp hb with rfl | hb
  .exact⟨_,he,λv z=>by cases z⟩
  obtain rfl:b=it:=by simpa using hb
  exact⟨o,e1,λv z=>by rw [d] at z;cases z⟩
 keep:=λi h h' st k=>⟨⟨st.1.choose,k e (by simp) _ st.1.choose_spec⟩,st.2.at λo q=>k it (by simp) o q⟩
 item:=by
  intro X hP hw hK hc i ag s σ H E I hf st hg;subst hP hw hK;obtain⟨xs,x,hq,hx⟩:=hg;obtain⟨aT,rv,p,hz⟩:=I.list hq;obtain⟨u,hu,ru⟩:=rv.get hx;obtain⟨⟨old,he⟩,hit⟩:=st;refine wpAny_pyNext_enum_item he hit p.isList (x:=u) (by simpa using hu) Pw λh1 ho LM hT hsz hk=>?_;refine⟨_,rfl,wpAny_letOwnedTupleGo_enum ho λh2 UJ sb=>?_⟩;have ne:s.heap.objs.size≠e:=kI (bJ he);have kk:∀b o,b≠e->b≠it->s.heap.get? b=some o->h2.get? b=some o:=λb o n1 n2 q=>(sb.2 b n1).trans (hk b o n1 n2 q);have T2:h2.get? s.heap.objs.size=some { cls:=.type "tuple",data:=.seq #[.int i s.toks,u] }:=(sb.2 _ ne).trans hT;have fe:=hf e (by simp);have fi:=hf it (by simp);have fT:H s.heap.objs.size=none:=I.b8.fresh (aE _);have tr:∀b v,H b=some v->b≠e/\b≠it:=λb v q=>⟨λz=>(by rw [z,fe.1] at q;cases q),λz=>(by rw [z,fi.1] at q;cases q)⟩;have nc:∀b,b∉[e,it]->b≠e/\b≠it:=λb z=>⟨λq=>z (by simp [q]),λq=>z (by simp [q])⟩;have lt:∀b o,s.heap.get? b=some o->b≠s.heap.objs.size:=λb o q=>bX (bJ q);have I2:Inv X ag σ (upd H s.heap.objs.size (.tup [.int (i:Int),x])) { s with heap:=h2,toks:=s.toks+1 }:=by
   refine I.call (g':=s.gens) (t':=s.toks+1) (d':=s.drawn) (ch:=[e,it]) ⟨λb o q _ _ c=>kk b o (nc b c).1 (nc b c).2 q,λb o q _ _ c=>⟨o.slots,kk b o (nc b c).1 (nc b c).2 q⟩,
    λb o q n _=>by rw [ak (lt b o q)];exact n,λb o q c=>⟨o,kk b o (nc b c).1 (nc b c).2 q⟩,λb ys q=>by rw [ak (ay q fT)];exact q,λb o v q=>by rw [ak (ay q fT)];exact q,
    λb ps q=>⟨#[],by rw [ak (ay q fT),q];simp⟩⟩ (λb v q=>?_) I.bare (λb hb=>?_)
   .by_cases hb:b=s.heap.objs.size
    .subst hb;rw [ae] at q;cases q;exact⟨by show 2<=sizeLine;decide,[.int i s.toks,u],.cons ⟨_,rfl⟩ (.cons ru .nil),_,T2,rfl,_,rfl⟩
    rw [ak hb] at q;refine(I.b8 b v q).jY (λc o lV z=>?_) (λc q'=>by rw [ak (ay q' fT)];exact q') λc ys q'=>by rw [ak (ay q' fT)];exact q'
    rcases lV with rfl | lV
    .exact kk c o (tr c _ q).1 (tr c _ q).2 z
    exact kk c o (tr c _ lV).1 (tr c _ lV).2 z
   rcases bR.mp hb with rfl | hb
   .exact⟨fe.2.2.2.1,fe.2.1,fe.2.2.2.2.1,fe.2.2.2.2.2⟩
   obtain rfl:b=it:=by simpa using hb
   exact⟨fi.2.2.2.1,fi.2.1,fi.2.2.2.2.1,fi.2.2.2.2.2⟩
  refine⟨.ref s.heap.objs.size,_,I2,rfl,⟨_,x,rfl,fT,rfl,λys hy=>by rw [I.q_ hy hq];exact hx⟩,⟨⟨_,UJ⟩,LM.at λo q=>(sb.2 it Pw.symm).trans q⟩,λb hb=>?_⟩;have G3:H b=none/\∃o,s.heap.get? b=some o:=by
   rcases bR.mp hb with rfl | hb
   .exact⟨fe.1,_,he⟩
   obtain rfl:b=it:=by simpa using hb
   obtain⟨o,q,_⟩:=hit;exact⟨fi.1,o,q⟩
  obtain⟨n,o,q⟩:=G3;rw [ak (lt b o q)];exact n
 done:=by
  intro X hP hw hK hc i ag s σ H E I hf st hg;subst hP hw hK;obtain⟨xs,hq,hx⟩:=hg;obtain⟨aT,rv,p,hz⟩:=I.list hq;obtain⟨⟨old,he⟩,hit⟩:=st;obtain⟨f0,f1,f2,f3,f4,f5⟩:=hf it (by simp);have hl:=rv.length;exact wpAny_pyNext_enum_end (I.ok.hd hc) he hit p.isList (by simp;omega) λh' eb=>⟨rfl,I.turned (t':=s.toks) (λb o hb e=>eb b o hb e) f0 f1 f3 f4 f5⟩
 self:=λ_ _ _ _ _ st h=>wpAny_pyIter_enum st.1.choose_spec h
def uD:bootBuiltins "enumerate"=some (.type "enumerate"):=by decide +kernel
def O3 (K:ba)(ta:TA):TI:=λσ H R=>ta σ H λvs H1=>V8 vs (aK K H1) λa=>R (QJ K a) H1
def mS {X:Cx}{elts:List Expr}{k:Nat}{ve:Pos}{l:Expr}{ta:TA}{p pos:Pos}(hg:Gl X "enumerate")(hm:X.mg "enumerate"=none)(ha:PA X [l] ta)(hs:starEach [l] X.env=[(false,eval l X.env)]:=by rfl) :
  PI X (.Tuple elts k ve) (.Call (.Name "enumerate" p) [l] [] pos) (O3 X.K ta):=by
 intro ag s σ H R I h;refine Call_ (jy I hg hm uD (Ay (cW (ha pos ag s σ H _ I h) λus s1 bF=>?_) hs rfl));obtain⟨vs,H1,I1,r1,q1⟩:=bF;obtain⟨a,xs,e,hq,q⟩:=q1;subst e;obtain⟨u,rfl,rx⟩:=r1.one;cases rx;obtain⟨aT,rv,pl,hz⟩:=I1.list hq;refine call_enumerate_list pl.isList λh1 he hit hsz hk=>wpAny_pyIter_enum he ?_;refine⟨s1.heap.objs.size+1,[s1.heap.objs.size+1,s1.heap.objs.size],_,_,H1,rfl,I1.kept (t':=s1.toks) λb o e=>hk b o e,BR a _ _ (kI (oX _)),⟨⟨_,he⟩,hit⟩,λb hb=>?_,q⟩;rcases bR.mp hb with rfl | hb
 .exact I1.v_ (jS _) (I1.b8.fresh (jS _))
 obtain rfl:b=s1.heap.objs.size:=by simpa using hb
 exact I1.v_ (aE _) (I1.b8.fresh (aE _))
def cY (kvs bQ:List (aL×V)):List (aL×V):=kvs.foldl (λa p=>bN a p.1 p.2) bQ
theorem rJ:∀{kvs:List (aL×V)}{vs:List (aL×Value)}{bQ:List (aL×V)}{Gf:List (aL×Value)},KV kvs vs->KV bQ Gf->KV (cY kvs bQ) (vs.foldl (λa p=>stored a p.1 p.2) Gf)
 | _,_,_,_,.nil,h=>h
 | _,_,_,_,.cons (a:=p) (b:=q) r t,h=>by
  obtain⟨e,rv⟩:=r;show KV (cY _ (bN _ p.1 p.2)) (List.foldl _ (stored _ q.1 q.2) _);rw [<-e];exact rJ t (h.put p.1 rv)
theorem rK:∀(kvs bQ:List (aL×V)),(cY kvs bQ).length<=bQ.length+kvs.length
 | [],bQ=>by simp [cY]
 | p::r,bQ=>by
  have:=rK r (bN bQ p.1 p.2);have:=fj bQ p.1 p.2;show (cY r (bN bQ p.1 p.2)).length<=_;rw [dG];omega
section
variable {X:Cx}{ag:List (Addr×Obj)}{σ:St}{H:Hp}{s:Shared}
theorem pairs_at (I:Inv X ag σ H s):∀{ts:List Addr}{kvs:List (aL×V)}{aT:List Value},Paired (λt kv=>aS X.K H t [kV kv.1,kv.2]) ts kvs->a_ (ts.map V.ref) aT ->
  ∃vs:List (aL×Value),KV kvs vs/\Paired (λu kv=>lZ (bf X.prog X.w) s.heap u kv) aT vs
 | [],_,_,.nil,r=>by
  rw [kU] at r;cases r;exact⟨[],.nil,.nil⟩
 | t::ts,kv::kvs,_,.cons h p,r=>by
  rw [cA] at r;cases r with
  | cons r1 r2 =>
   obtain⟨vs,e1,e2⟩:=pairs_at I p r2;obtain⟨aT,rv,⟨o,h1,h2,n,h3⟩,_⟩:=I.tuple h;obtain⟨u1,u2,rfl,q1,q2⟩:=vals2 rv;exact⟨(kv.1,u2)::vs,.cons ⟨rfl,q2⟩ e1,.cons ⟨t,u1,n,o,r1,kP q1,h1,h2,h3⟩ e2⟩
theorem Paired.at_ {α β:Type}{F:α->β->Prop}:∀{xs:List α}{ys:List β},Paired F xs ys->∀(m:Nat)(y:β),ys[m]?=some y->∃x,xs[m]?=some x/\F x y
 | _,_,.nil,m,y,e=>by cases m <;> cases e
 | _,_,.cons h t,0,y,e=>by cases e;exact⟨_,rfl,h⟩
 | _,_,.cons h t,m+1,y,e=>Paired.at_ t m y e
def d7 (hc:X.calm=true):fC X (.type "dict") (λxs H Q=>∃a ts kvs,xs=[.ref a]/\H a=some (.lst (ts.map V.ref))/\Paired (λt kv=>aS X.K H t [kV kv.1,kv.2]) ts kvs/\∀d,H d=none->Q (.ref d) (upd H d (.dK (cY kvs [])))):=by
 intro ag s σ H xs us Q I r h;obtain⟨a,ts,kvs,rfl,e,p,q⟩:=h;obtain⟨u,rfl,rx⟩:=vals1 r;cases (show u=Value.ref a from rx);obtain⟨z,aT,n,rv,ho⟩:=(show cJ X.prog X.w H s.heap a (.lst _) from I.b8 a _ e);obtain⟨vs,r1,r2⟩:=pairs_at I p rv;have l1:=a0 r2;have l2:=r1.length;have l3:=a0 p;rw [ax] at z;refine rZ (bf X.prog X.w) (I.ok.hd hc) ho (by simpa using l1) (λm kv em=>?_) ∅ λh' t' hd kk=>?_
 .obtain⟨u,e1,e2⟩:=Paired.at_ r2 m kv em;exact⟨u,by simpa using e1,e2⟩
 have new:cJ X.prog X.w (upd H s.heap.objs.size (.dK (cY kvs []))) h' s.heap.objs.size (.dK (cY kvs [])):=by
  refine rQ ?_ ?_ (rJ r1 .nil) hd
  .have:=rK kvs [];simp at this;omega
  have:=I.big;exact jR.mpr (kI this)
 exact⟨.ref s.heap.objs.size,_,I.laid (t':=t') kk (aE _) new,rfl,q _ (I.b8.fresh (aE _))⟩
theorem tZ {α β:Type}{F:α->β->Prop}:∀{xs:List α}{ys:List β},xs.length=ys.length->(∀(j:Nat) x y,xs[j]?=some x->ys[j]?=some y->F x y)->Paired F xs ys
 | [],[],_,_=>.nil
 | [],_::_,e,_=>by cases e
 | _::_,[],e,_=>by cases e
 | x::xs,y::ys,e,h=>.cons (h 0 x y rfl rfl) (tZ (Nat.succ.inj e) λj a b e1 e2=>h (j+1) a b e1 e2)
def JB {P:Program}{w:World}{k:aL}{u:Value}(h:(bf P w).is k u=true):RelV (kV k) u:=by
 rcases df (show rg k u=true from h) with ⟨i,t,rfl,rfl⟩ | ⟨x,t,rfl,rfl⟩
 .exact⟨t,rfl⟩
 exact⟨t,rfl⟩
def lY (hc:X.calm=true):fC X (.type "list") (λxs H Q=>∃a kvs,xs=[.ref a]/\H a=some (.dK kvs)/\∀D,H D=none->Q (.ref D) (upd H D (.lst (kvs.map λp=>kV p.1)))):=by
 intro ag s σ H xs us Q I r h;obtain⟨a,kvs,rfl,e,q⟩:=h;obtain⟨u,rfl,rx⟩:=vals1 r;cases (show u=Value.ref a from rx);obtain⟨z,hs,vs,rel,dd⟩:=xV I.b8 e;obtain⟨o,es,ep,d1,d2,d3,d4⟩:=dd;have l1:=rel.length;refine PySem.W.kdl_call (PySem.W.kdl_dict (knd:=bf X.prog X.w) (kvs:=vs) (ep:=ep) hs) (I.ok.hd hc) ⟨o,es,d1,d2,d3,d4⟩ ∅ λh' tk bQ c kk hD CC=>?_;have keys:=rel.keys;have vals:a_ (kvs.map λp=>kV p.1) bQ.toList:=by
  refine tZ (by have h1:=CC.1;simp only [ax,oY];omega) λj x y e1 e2=>?_;rw [Array.getElem?_toList] at e2;obtain⟨k,v,e3,e4⟩:=CC.2 j y e2;rw [bq] at e1;obtain⟨p,e5,rfl⟩:=cq.mp e1;have e6:(kvs.map (·.1))[j]?=some p.1:=by rw [bq,e5];rfl
  rw [keys,bq,e3] at e6;cases e6;exact JB e4
 have new:cJ X.prog X.w (upd H s.heap.objs.size (.lst (kvs.map λp=>kV p.1))) h' s.heap.objs.size (.lst (kvs.map λp=>kV p.1)):=⟨by rw [ax];exact z,bQ.toList,c,vals,by simpa using hD⟩;exact⟨.ref s.heap.objs.size,_,I.laid (t':=tk) kk (aE _) new,rfl,q _ (I.b8.fresh (aE _))⟩
end
def wB (v:V):Prop:=jk v=true\/∃r,v=.ref r
def FX {x:V}(h:jk x=true):uw x x=true:=by
 cases x with
 | fc=>rfl
 | bl b=>exact n8 b
 | int i=>exact n8 i
 | str z=>exact n8 z
 | _=>cases h
def rN {A:Around}{s:Shared}{x:V}{u v:Value}(h:wB x)(ru:RelV x u)(rv:RelV x v):SeqAt.EqAt A s u v true:=by
 rcases h with h | ⟨r,rfl⟩
 .have q:=Ad (A:=A) (s:=s) ru rv h h;rw [FX h] at q;exact q
 cases (show u=Value.ref r from ru);cases (show v=Value.ref r from rv);exact .same _
section
variable {K:ba}{a D:Addr}{xs:List V}{ts:List Str}{js:List (Nat×Str)}{g:TG}{tif:TT}{te:TE}{R:Hp->Prop}{σ:St}{H:Hp}
def b0 (Pv:Nat->List V->St->Hp->Prop)(h0:Pv 0 [] (dJ ts js σ) (upd H D (.lst [])))(hl:∀i ys σ H,i<=xs.length->Pv i ys σ H->aK K H a xs)
  (hs:∀i x ys σ H,xs[i]?=some x->Pv i ys σ H->g x σ H λσ2 H2=>tif σ2 H2 λb H3=>if b=true then te σ2 H3 λy H4=>H4 D=some (.lst ys)/\ys.length < sizeLine/\Pv (i+1) (ys++[y]) σ2 (upd H4 D (.lst (ys++[y]))) else Pv (i+1) ys σ2 H3)
  (hd:∀ys σ H,Pv xs.length ys σ H->R H) :
  ∃W:Nat->Nat->List V->St->Hp->Prop,(∃m,W 0 m [] (dJ ts js σ) (upd H D (.lst []))) /\
 ∀i m ys σ' H,W i m ys σ' H->((jn K a).stop i H/\R H)\/((jn K a).go i H/\∃m',m' < m/\∀x H',(jn K a).kX i H x H'->g x σ' H' λσ2 H2=>tif σ2 H2 λb H3 =>
  if b=true then te σ2 H3 λy H4=>H4 D=some (.lst ys)/\ys.length < sizeLine/\W (i+1) m' (ys++[y]) σ2 (upd H4 D (.lst (ys++[y]))) else W (i+1) m' ys σ2 H3):=by
 refine⟨λi m ys σ H=>m=xs.length - i/\i<=xs.length/\Pv i ys σ H,⟨xs.length,by simp,g9 _,h0⟩,?_⟩;rintro i m ys σ' H ⟨rfl,hi,p⟩;have q:=hl i ys σ' H hi p;by_cases jI:i < xs.length
 .refine .inr ⟨⟨xs,xs[i],q,by simp [jI]⟩,xs.length - (i+1),∅,λx H' y=>?_⟩;obtain⟨e,y⟩:=y;subst e;have z:=hs i x ys σ' _ (y xs q) p;have h1:(i+1<=xs.length)=True:=eq_true jI;simp only [h1,true_and];exact z
 have e:i=xs.length:=by omega
 subst e;exact .inl ⟨⟨xs,q,aE _⟩,hd ys σ' H p⟩
end
def wo {X:Cx}:fC X (.builtin "isinstance") (λxs H Q=>∃a ys n b,xs=[.ref a,.ty n]/\aK X.K H a ys/\PySem.W.kitOne X.K (.type "list") (.type n)=some b/\Q (.bl b) H):=by
 intro ag s σ H xs us Q I r h;obtain⟨a,ys,n,b,rfl,hq,e,q⟩:=h;obtain⟨u,w',rfl,rx,rn⟩:=vals2 r;cases (show u=Value.ref a from rx);cases (show w'=Value.type n from rn);obtain⟨aT,_,pl,_⟩:=I.list hq;obtain⟨o,h1,h2,_⟩:=pl.isList;exact qt PySem.W.kitx_list I.uf ⟨o,h1,h2⟩ e (λz=>nomatch z) λtk=>⟨.bl b,H,I.tok _,rfl,q⟩
def rf {K:ba}{t:Value}:PySem.W.kitOne K t t=some true:=by unfold PySem.W.kitOne;rw [ar (n8 t)]
def N6 (t:TS):TS:=λD σ H=>∃R:St->Hp->Prop,t { D with nx:=R } σ H/\∀σ' H',R σ' H'->D.nx σ' H'
def fk {X:Cx}{st:Stmt}{t:TS}(h:PS X st t):PS X st (N6 t):=by
 intro ag s σ H D I ⟨R,q,m⟩;refine cW (h ag s σ H _ I q) λf s1 z=>?_;cases f with
 | next=>obtain⟨σ',H',I',r⟩:=z;exact⟨σ',H',I',m _ _ r⟩
 | ret v=>exact z
 | brk=>exact z
 | cont=>exact z
def aG (P:Program)(w:World)(K:ba)(mg:Str->Option Value)(base:Heap) (k:Nat)(x:Str) (ps:List Str)(sp:Sp):Prop :=
 ∃f fd,bZ P w K mg base gw k f fd ps sp/\Binds K fd ps []/\PySem.W.keepIn K (.ref f)=true/\mg x=some (.ref f)
theorem aG.mono {P:Program}{w:World}{K:ba}{mg:Str->Option Value}{base:Heap}{j k:Nat}{x:Str}{ps:List Str}{sp:Sp}(c:aG P w K mg base j x ps sp)(h:j<=k):aG P w K mg base k x ps sp :=
 let ⟨f,fd,a,b⟩:=c;⟨f,fd,a.mono h,b⟩
def bA {X:Cx}{k:Nat}{x:Str}{ps:List Str}{sp:Sp}{e:Expr}{es:List Expr}{t:TA}{p pos:Pos}(c:aG X.prog X.w X.K X.mg X.base k x ps sp)(hr:eZ k X.A)(hg:Gl X x)(ha:PA X (e::es) t)
  (Cz:(x == ("__debug__":Str))=false:=by decide)(he:starEach (e::es) X.env=(false,eval e X.env)::starEach es X.env:=by rfl)(Bj:(backTo pos (starEach es X.env)).any (·.1)=false:=by rfl) :
  PE X (.Call (.Name x p) (e::es) [] pos) (Jb sp [] E0 t):=by
 obtain⟨f,fd,G,b,kp,m⟩:=c;exact HK G hr hg m kp b .nil tX ha Cz he Bj
def fits {n:Nat}(h:n<=1000000):n<=sizeLine:=ff h nofun
def br {n:Nat}(h:n<=1000000):n < sizeLine:=qy h nofun
def af {H:Hp}{p:Addr}(h:H p=none)(o:HO):aC H (upd H p o):=λb u q=>by rw [ak (ay q h)];exact q
def aC.tup {K:ba}{H H':Hp}{a:Addr}{xs:List V}(e:aC H H')(h:aS K H a xs):aS K H' a xs:=by
 rcases h with (h | ⟨o,h⟩) | h
 .exact .inl (.inl (e _ _ h))
 .exact .inl (.inr ⟨o,e _ _ h⟩)
 exact .inr h
def dU {X:Cx}(hc:X.calm=true):fC X (.builtin "all") (λxs H Q=>∃(a:Addr)(bs:List Bool),xs=[.ref a]/\aK X.K H a (bs.map V.bl)/\Q (.bl (bs.all id)) H):=by
 intro ag s σ H xs us Q I r h;obtain⟨a,bs,rfl,hq,q⟩:=h;obtain⟨u,rfl,rx⟩:=vals1 r;cases (show u=Value.ref a from rx);obtain⟨aT,rv,pl,hz⟩:=I.list hq;obtain⟨o,h1,h2,m,h3⟩:=id pl.isList;have la:a < s.heap.objs.size:=bJ h1;have ln:=rv.length;rw [ax] at ln;have isB:∀(i:Nat) v,aT.toArray[i]?=some v->v=.bool (bs.getD i true):=λi v e=>by
  have e':aT[i]?=some v:=by simpa using e
  obtain⟨x,e2,e3⟩:=Paired.at_ rv i v e';rw [bq] at e2;obtain⟨b,e4,rfl⟩:=cq.mp e2;rw [tF,e4];exact e3
 refine call_all_walk (nY pl.isList ?_);refine⟨s.heap.objs.size,_,_,_,_,_,λi=>bs.getD i true,rfl,Walks.list (A:=X.A.in1) (show X.A.in1.handled=none from I.ok.hd hc) s.heap.objs.size a (bX la) aT.toArray,⟨⟨_,dH _ rfl,rfl,rfl⟩,⟨o,cx _ h1,h2,m,h3⟩⟩,?_,λh' tk kk=>?_⟩
 .intro i v s1 Q1 E1 hP hQ1;rw [isB i v hP];exact ml hQ1
 have e:((List.range aT.toArray.size).all λi=>bs.getD i true)=bs.all id:=by
  rw [cP,<-ln,iY,dN,dN];constructor
  .intro h b hb;obtain⟨i,hi,e⟩:=qj.mp hb;have:=h i (iX.mpr hi);rw [tF,cR hi,e] at this;exact this
  intro h i hi;have X3:=iX.mp hi;rw [tF,cR X3];exact h _ (uN X3)
 rw [e];exact⟨.bl _,H,I.kept (t':=tk) λb o' e'=>kk b o' (by simp;exact bX (bJ e')) (cx _ e'),rfl,q⟩
section
variable {prog:Program}{w:World}{A:Around}{E:Value->Shared->Prop}{s:Shared}
def zI {it l:Addr}{i:Nat}{items:Array Value}{x:Value}{Q:Value->Shared->Prop}(hit:s.heap.IsTupleIter it l i)(hl:s.heap.IsTuple l items)(hx:items[i]?=some x)
  (hQ:∀h',h'.IsTupleIter it l (i+1)->Heap.SameBut it s.heap h'->Q x { s with heap:=h' }):wpAny (model prog w) A (Builtin.SmallTypes.nextOf (.ref it)) Q E s:=by
 obtain⟨o,ho,hc,hd⟩:=id hit;obtain⟨ol,Ur,_,nl,Bl⟩:=hl;unfold Builtin.SmallTypes.nextOf;refine aD (tE (name:=Str.ofString "__next__") hit.typeIs u9 (qf u9 hit.typeIs F.entry_tuple_iterator_next ?_ (F.args_tuple_iterator_next_1 _)));show wpAny _ _ (field (.ref it) 0 >>= λv=>_) _ _ s;refine aD (iW ho hd (x:=.ref l) (by rfl) ?_);show wpAny _ _ (if (Value.ref l == .none)=true then _ else _) _ _ s;rw [au (by exact cU)];show wpAny _ _ (field (.ref it) 1 >>= λv=>_) _ _ s;refine aD (iW ho hd (x:=.int i 0) (by rfl) ?_);show wpAny _ _ (seqItems? (.ref l) >>= λv=>_) _ _ s;refine aD (qk Ur Bl (by
  simp only [jQ,hx];refine aD (wpAny_setField ho hd (by simp) (aR ⟨x,rfl,aR (hQ _ ⟨_,Heap.get?_update_self _ ho (Obj.isFreed_of_fields (Obj.data_mapFields hd _)),(Obj.cls_mapFields ..).trans hc,?_⟩ (Heap.SameBut.update ..))⟩));rw [Obj.data_mapFields hd];simp [rawInt]))
def Ae {e it l:Addr}{i:Nat}{items:Array Value}{x old:Value}{Q:Option Value->Shared->Prop}(he:IsEnum s.heap e it i old)(hit:s.heap.IsTupleIter it l i)(hl:s.heap.IsTuple l items)(hx:items[i]?=some x)(Dj:e≠it)
  (hQ:∀h',IsEnumOut h' e it ((i:Int)+1) x s.heap.objs.size->h'.IsTupleIter it l (i+1)->h'.get? s.heap.objs.size=some { cls:=.type "tuple",data:=.seq #[.int i s.toks,x] } ->
   (∀b o,b≠e->b≠it->s.heap.get? b=some o->h'.get? b=some o)->Q (some (.ref s.heap.objs.size)) { s with heap:=h',toks:=s.toks+1 }) :
  wpAny (model prog w) A (pyNext (.ref e)) Q E s:=by
 have hT:s.TypeIs (.ref e) "enumerate" := ⟨_,he,rfl⟩;unfold pyNext;refine aD (wpAny_attempt (tE (name:=Str.ofString "__next__") hT uW (qf uW hT F.entry_enumerate_next ?_ (F.args_enumerate_next_1 _))));obtain⟨hp,g,d,tk,os⟩:=s;show wpAny _ _ (field (.ref e) 2 >>= λv=>_) _ _ _;refine aD (iW he rfl (x:=.ref it) (by rfl) (aD (zI hit hl hx λh₁ Uz Pb=>?_)));replace Pb:Heap.SameBut it hp h₁:=Pb;have UI:IsEnum h₁ e it i old:=(Pb.2 e Dj).trans he;show wpAny _ _ (field (.ref e) 3 >>= λv=>_) _ _ ⟨h₁,g,d,tk,os⟩;refine aD (iW UI rfl (x:=rawInt i) (by rfl) ?_);show wpAny _ _ (field (.ref e) 4 >>= λv=>_) _ _ ⟨h₁,g,d,tk,os⟩;refine aD (iW UI rfl (x:=.none) (by rfl) ?_);show wpAny _ _ (mkInt i >>= λv=>_) _ _ ⟨h₁,g,d,tk,os⟩;refine aD (wpAny_mkInt ?_);show wpAny _ _ (setField (.ref e) 3 (rawInt ((i:Int)+1)) >>= λv=>_) _ _ ⟨h₁,g,d,tk+1,os⟩;refine aD (qv UI (by simp) λh₂ f₂ hs₂=>?_);have he₂:IsEnum h₂ e it ((i:Int)+1) old:=f₂;have k₂:Heap.SameBut e h₁ h₂:=hs₂;show wpAny _ _ (setField (.ref e) 4 .none >>= λv=>_) _ _ ⟨h₂,g,d,tk+1,os⟩;refine aD (qv he₂ (by simp) λh₃ f₃ hs₃=>?_);have he₃:IsEnum h₃ e it ((i:Int)+1) old:=f₃;have k₃:Heap.SameBut e h₂ h₃:=hs₃;show wpAny _ _ (newTuple [.int i tk,x] >>= λv=>_) _ _ ⟨h₃,g,d,tk+1,os⟩;refine aD (wpAny_newTuple ?_);have Rv:IsEnum (h₃.push { cls:=.type "tuple",data:=.seq #[.int i tk,x] }) e it ((i:Int)+1) old:=cx _ he₃;have hsz:h₃.objs.size=hp.objs.size:=by rw [k₃.1,k₂.1,Pb.1]
 have Pu:e < hp.objs.size:=bJ he;have XH:(h₃.push { cls:=.type "tuple",data:=.seq #[.int i tk,x] }).get? hp.objs.size=some { cls:=.type "tuple",data:=.seq #[.int i tk,x] }:=by rw [<-hsz];exact dH _ rfl
 have XY:∀b o,b≠e->b≠it->hp.get? b=some o->(h₃.push { cls:=.type "tuple",data:=.seq #[.int i tk,x] }).get? b=some o:=λb o n1 n2 hb=>cx _ (k₃.extBut b o n1 (k₂.extBut b o n1 (Pb.extBut b o n2 hb)));have Po:(h₃.push { cls:=.type "tuple",data:=.seq #[.int i tk,x] }).IsTupleIter it l (i+1):=Uz.at λo q=>cx _ (k₃.extBut it o (gq Dj) (k₂.extBut it o (gq Dj) q));generalize h₃.push { cls:=.type "tuple",data:=.seq #[.int i tk,x] }=h₄ at Rv XH XY Po ⊢;rw [hsz];show wpAny _ _ (Builtin.SmallTypes.ownedTupleIsFree (.ref e) >>= λv=>_) _ _ ⟨h₄,g,d,tk+1,os⟩;refine aD (by
  unfold Builtin.SmallTypes.ownedTupleIsFree;refine aD (iW Rv rfl (x:=.none) (by rfl) (aR (by
   simp only [if_true];refine aD (wpAny_rule (aD (iW Rv rfl (x:=old) (by rfl) (aD (qv Rv (by simp) λh₅ f₅ hs₅=>?_)))));have he₅:IsEnum h₅ e it ((i:Int)+1) x:=f₅;have k₅:Heap.SameBut e h₄ h₅:=hs₅;show wpAny _ _ (Builtin.SmallTypes.ownedTupleHandOut (.ref e) (.ref hp.objs.size) >>= λv=>_) _ _ ⟨h₅,g,d,tk+1,os⟩;refine aD (by
    unfold Builtin.SmallTypes.ownedTupleHandOut;refine aD (qv he₅ (by simp) λh₆ f₆ hs₆=>?_);have he₆:IsEnumOut h₆ e it ((i:Int)+1) x hp.objs.size:=f₆;have k₆:Heap.SameBut e h₅ h₆:=hs₆;refine qv he₆ (by simp) λh₇ f₇ hs₇=>?_;have he₇:IsEnumOut h₇ e it ((i:Int)+1) x hp.objs.size:=f₇;have k₇:Heap.SameBut e h₆ h₇:=hs₇;have up:∀b o,b≠e->h₄.get? b=some o->h₇.get? b=some o:=λb o n q=>k₇.extBut b o n (k₆.extBut b o n (k₅.extBut b o n q));exact aD (wpAny_letGo (aR ⟨_,rfl,aR (hQ h₇ he₇ (Po.at λo q=>up it o (gq Dj) q) (up _ _ (kI Pu) XH) λb o n1 n2 q=>up b o n1 (XY b o n1 n2 q))⟩)))))))
def qY {it l:Addr}{i:Nat}{items:Array Value}{Q:Value->Shared->Prop}(hh:A.handled=none)(hit:s.heap.IsTupleIter it l i)(hl:s.heap.IsTuple l items)(hx:items[i]?=none)
  (hE:∀h' e,Heap.ExtBut it s.heap h'->(∃o,h'.get? e=some o/\o.cls=.type "StopIteration")->E (.ref e) { s with heap:=h' }):wpAny (model prog w) A (Builtin.SmallTypes.nextOf (.ref it)) Q E s:=by
 obtain⟨o,ho,hc,hd⟩:=id hit;obtain⟨ol,Ur,_,nl,Bl⟩:=hl;unfold Builtin.SmallTypes.nextOf;refine aD (tE (name:=Str.ofString "__next__") hit.typeIs u9 (qf u9 hit.typeIs F.entry_tuple_iterator_next ?_ (F.args_tuple_iterator_next_1 _)));show wpAny _ _ (field (.ref it) 0 >>= λv=>_) _ _ s;refine aD (iW ho hd (x:=.ref l) (by rfl) ?_);show wpAny _ _ (if (Value.ref l == .none)=true then _ else _) _ _ s;rw [au (by exact cU)];show wpAny _ _ (field (.ref it) 1 >>= λv=>_) _ _ s;refine aD (iW ho hd (x:=.int i 0) (by rfl) ?_);show wpAny _ _ (seqItems? (.ref l) >>= λv=>_) _ _ s;refine aD (qk Ur Bl ?_);simp only [jQ,hx];refine aD (wpAny_rule (aD (wpAny_setField ho hd (by simp) (aD ?_))));simp only [newExc,newTuple];refine aD (mj ?_ (by size_fits));refine aD (m:=firstArgMember _ _) (wpAny_of_eq (a:=Value.none) (by first | rfl | (simp only [firstArgMember];rfl)) ?_)
 refine mj ?_ (by size_fits);simp only [raiseNew];refine aD (wpAny_handled ?_)
 first | rw [show A.in1.handled=none from hh] | rw [hh]
 refine aD (aR (wpAny_throw (hE _ _ (((Heap.SameBut.update ..).extBut.push _).push _) ⟨_,dH _ rfl,rfl⟩)))
def CI {e it l:Addr}{i:Nat}{items:Array Value}{old:Value}{Q:Option Value->Shared->Prop}(hh:A.handled=none)(he:IsEnum s.heap e it i old)(hit:s.heap.IsTupleIter it l i)(hl:s.heap.IsTuple l items)(hx:items[i]?=none)
  (hQ:∀h',Heap.ExtBut it s.heap h'->Q none { s with heap:=h' }):wpAny (model prog w) A (pyNext (.ref e)) Q E s:=by
 have hT:s.TypeIs (.ref e) "enumerate" := ⟨_,he,rfl⟩;unfold pyNext;refine aD (wpAny_attempt (tE (name:=Str.ofString "__next__") hT uW (qf uW hT F.entry_enumerate_next ?_ (F.args_enumerate_next_1 _))));show wpAny _ _ (field (.ref e) 2 >>= λv=>_) _ _ _;refine aD (iW he rfl (x:=.ref it) (by rfl) (aD (qY hh hit hl hx λh' x Dl Ua=>?_)));obtain⟨o,ho,hc⟩:=Ua;exact aD (wpAny_isInstance (T := "StopIteration") (b:=true) ⟨o,ho,hc⟩ isSubtype_stop (aR (hQ _ Dl)))
end
def xG (l:Addr)(items:Array Value) (n:Nat)(Bx:Option Addr)(sl:Array (Option Value)) :
  Meets (Builtin.«enumerate.__new__» ⟨[.type "enumerate",.ref l],[]⟩) (λ_ R s=>s.heap.get? l=some { cls:=.type "tuple",dict:=Bx,data:=.seq items n,slots:=sl } /\
   R (.ok (.ret (.ref (s.heap.push { cls:=.type "tuple_iterator",data:=.fields #[.ref l,.int 0 0] }).objs.size)))
    { s with heap:=(s.heap.push { cls:=.type "tuple_iterator",data:=.fields #[.ref l,.int 0 0] }).push { cls:=.type "enumerate",data:=.fields #[.none,.bool false,.ref s.heap.objs.size,rawInt 0,.none,.none] } }) :=
 .of_wp λprog w A R s h=>by
  obtain⟨hp,g,d,tk,os⟩:=s;obtain⟨hl,h⟩:=h;have aah:=sub_enumerate;have hT:Heap.IsTuple (Shared.heap ⟨hp,g,d,tk,os⟩) l items:=⟨_,hl,rfl,n,rfl⟩
  wp_walk using u5 hl
  refine wpAny_stack_any λst=>aR ?_;split
  .rename_i c _ _ _ _ _
   cases (c == Value.type "enumerate")
   .wp_walk using u5 hl,uP hT;exact⟨_,rfl,h⟩
   wp_walk using u5 hl,uP hT;exact⟨_,rfl,h⟩
  wp_walk using u5 hl,uP hT;exact⟨_,rfl,h⟩
section
variable {prog:Program}{w:World}{A:Around}{E:Value->Shared->Prop}{s:Shared}
def Aj {l:Addr}{items:Array Value}{Q:Value->Shared->Prop}(hL:s.heap.IsTuple l items)
  (h:∀h',IsEnum h' (s.heap.objs.size+1) s.heap.objs.size 0 .none->h'.IsTupleIter s.heap.objs.size l 0->(∀b o,s.heap.get? b=some o->h'.get? b=some o)->Q (.ref (s.heap.objs.size+1)) { s with heap:=h' }) :
  wpAny (model prog w) A (call (.type "enumerate") [.ref l]) Q E s:=by
 obtain⟨⟨c,Bx,dt,sl⟩,hl,hc,n,hd⟩:=hL;replace hc:c=.type "tuple" := hc;replace hd:dt=.seq items n:=hd;subst hc hd;refine callType_new F.called_enumerate nofun (F.typeCall_enumerate_1 _) (F.newCall_enumerate_1 _) (λobj=>F.args_object_init_2 obj _) F.entry_enumerate_new (xG l items n Bx sl) ⟨hl,?_⟩;have hz:(s.heap.push { cls:=.type "tuple_iterator",data:=.fields #[.ref l,.int 0 0] }).objs.size=s.heap.objs.size+1:=nQ ..;show _/\_;rw [hz];have he:IsEnum ((s.heap.push { cls:=.type "tuple_iterator",data:=.fields #[.ref l,.int 0 0] }).push { cls:=.type "enumerate",data:=.fields #[.none,.bool false,.ref s.heap.objs.size,rawInt 0,.none,.none] }) (s.heap.objs.size+1) s.heap.objs.size 0 .none:=by
  have:=dH (s.heap.push { cls:=.type "tuple_iterator",data:=.fields #[.ref l,.int 0 0] }) (o:={ cls:=.type "enumerate",data:=.fields #[.none,.bool false,.ref s.heap.objs.size,rawInt 0,.none,.none] }) rfl;rw [hz] at this;exact this
 exact⟨⟨_,he,rfl⟩,h _ he ⟨_,cx _ (dH _ rfl),rfl,rfl⟩ λb o x=>cx _ (cx _ x)⟩
end
def sr (K:ba)(a:Addr):It :=
 ⟨λi H=>∃xs x,aS K H a xs/\xs[i]?=some x,λi H x H'=>∃t y,x=.ref t/\H t=none/\H'=upd H t (.tup [.int (i:Int),y])/\∀xs,aS K H a xs->xs[i]?=some y,λi H=>∃xs,aS K H a xs/\xs.length<=i⟩
def yN {P:Program}{w:World}{K:ba}{elts:List Expr}{k:Nat}{ve:Pos}(a e it:Addr)(Pw:e≠it) :
  Turn P w K (.Tuple elts k ve) (sr K a) [e,it] e (λi h=>(∃old,IsEnum h e it i old)/\h.IsTupleIter it a i) where
 mem:=by simp
 obj:=λi h st b hb=>by
  obtain⟨⟨old,he⟩,o,e1,c,d⟩:=st;rcases bR.mp hb with rfl | hb
  .exact⟨_,he,λv z=>by cases z⟩
  obtain rfl:b=it:=by simpa using hb
  exact⟨o,e1,λv z=>by rw [d] at z;cases z⟩
 keep:=λi h h' st k=>⟨⟨st.1.choose,k e (by simp) _ st.1.choose_spec⟩,st.2.at λo q=>k it (by simp) o q⟩
 item:=by
  intro X hP hw hK hc i ag s σ H E I hf st hg;subst hP hw hK;obtain⟨xs,x,hq,hx⟩:=hg;obtain⟨aT,rv,p,hz⟩:=I.tuple hq;obtain⟨u,hu,ru⟩:=rv.get hx;obtain⟨⟨old,he⟩,hit⟩:=st;refine Ae he hit (show s.heap.IsTuple a aT.toArray from p) (x:=u) (by simpa using hu) Pw λh1 ho LM hT hk=>?_;refine⟨_,rfl,wpAny_letOwnedTupleGo_enum ho λh2 UJ sb=>?_⟩;have ne:s.heap.objs.size≠e:=kI (bJ he);have kk:∀b o,b≠e->b≠it->s.heap.get? b=some o->h2.get? b=some o:=λb o n1 n2 q=>(sb.2 b n1).trans (hk b o n1 n2 q);have T2:h2.get? s.heap.objs.size=some { cls:=.type "tuple",data:=.seq #[.int i s.toks,u] }:=(sb.2 _ ne).trans hT;have fe:=hf e (by simp);have fi:=hf it (by simp);have fT:H s.heap.objs.size=none:=I.b8.fresh (aE _);have tr:∀b v,H b=some v->b≠e/\b≠it:=λb v q=>⟨λz=>(by rw [z,fe.1] at q;cases q),λz=>(by rw [z,fi.1] at q;cases q)⟩;have nc:∀b,b∉[e,it]->b≠e/\b≠it:=λb z=>⟨λq=>z (by simp [q]),λq=>z (by simp [q])⟩;have lt:∀b o,s.heap.get? b=some o->b≠s.heap.objs.size:=λb o q=>bX (bJ q);have I2:Inv X ag σ (upd H s.heap.objs.size (.tup [.int (i:Int),x])) { s with heap:=h2,toks:=s.toks+1 }:=by
   refine I.call (g':=s.gens) (t':=s.toks+1) (d':=s.drawn) (ch:=[e,it]) ⟨λb o q _ _ c=>kk b o (nc b c).1 (nc b c).2 q,λb o q _ _ c=>⟨o.slots,kk b o (nc b c).1 (nc b c).2 q⟩,
    λb o q n _=>by rw [ak (lt b o q)];exact n,λb o q c=>⟨o,kk b o (nc b c).1 (nc b c).2 q⟩,λb ys q=>by rw [ak (ay q fT)];exact q,λb o v q=>by rw [ak (ay q fT)];exact q,
    λb ps q=>⟨#[],by rw [ak (ay q fT),q];simp⟩⟩ (λb v q=>?_) I.bare (λb hb=>?_)
   .by_cases hb:b=s.heap.objs.size
    .subst hb;rw [ae] at q;cases q;exact⟨by show 2<=sizeLine;decide,[.int i s.toks,u],.cons ⟨_,rfl⟩ (.cons ru .nil),_,T2,rfl,_,rfl⟩
    rw [ak hb] at q;refine(I.b8 b v q).jY (λc o lV z=>?_) (λc q'=>by rw [ak (ay q' fT)];exact q') λc ys q'=>by rw [ak (ay q' fT)];exact q'
    rcases lV with rfl | lV
    .exact kk c o (tr c _ q).1 (tr c _ q).2 z
    exact kk c o (tr c _ lV).1 (tr c _ lV).2 z
   rcases bR.mp hb with rfl | hb
   .exact⟨fe.2.2.2.1,fe.2.1,fe.2.2.2.2.1,fe.2.2.2.2.2⟩
   obtain rfl:b=it:=by simpa using hb
   exact⟨fi.2.2.2.1,fi.2.1,fi.2.2.2.2.1,fi.2.2.2.2.2⟩
  refine⟨.ref s.heap.objs.size,_,I2,rfl,⟨_,x,rfl,fT,rfl,λys hy=>by rw [I.iu hy hq];exact hx⟩,⟨⟨_,UJ⟩,LM.at λo q=>(sb.2 it Pw.symm).trans q⟩,λb hb=>?_⟩;have G3:H b=none/\∃o,s.heap.get? b=some o:=by
   rcases bR.mp hb with rfl | hb
   .exact⟨fe.1,_,he⟩
   obtain rfl:b=it:=by simpa using hb
   obtain⟨o,q,_⟩:=hit;exact⟨fi.1,o,q⟩
  obtain⟨n,o,q⟩:=G3;rw [ak (lt b o q)];exact n
 done:=by
  intro X hP hw hK hc i ag s σ H E I hf st hg;subst hP hw hK;obtain⟨xs,hq,hx⟩:=hg;obtain⟨aT,rv,p,hz⟩:=I.tuple hq;obtain⟨⟨old,he⟩,hit⟩:=st;obtain⟨f0,f1,f2,f3,f4,f5⟩:=hf it (by simp);have hl:=rv.length;exact CI (I.ok.hd hc) he hit (show s.heap.IsTuple a aT.toArray from p) (by simp;omega) λh' eb=>⟨rfl,I.turned (t':=s.toks) (λb o hb e=>eb b o hb e) f0 f1 f3 f4 f5⟩
 self:=λ_ _ _ _ _ st h=>wpAny_pyIter_enum st.1.choose_spec h
def Lz (K:ba)(ta:TA):TI:=λσ H R=>ta σ H λvs H1=>V8 vs (aS K H1) λa=>R (sr K a) H1
def mR {X:Cx}{elts:List Expr}{k:Nat}{ve:Pos}{l:Expr}{ta:TA}{p pos:Pos}(hg:Gl X "enumerate")(hm:X.mg "enumerate"=none)(ha:PA X [l] ta)(hs:starEach [l] X.env=[(false,eval l X.env)]:=by rfl) :
  PI X (.Tuple elts k ve) (.Call (.Name "enumerate" p) [l] [] pos) (Lz X.K ta):=by
 intro ag s σ H R I h;refine Call_ (jy I hg hm uD (Ay (cW (ha pos ag s σ H _ I h) λus s1 bF=>?_) hs rfl));obtain⟨vs,H1,I1,r1,q1⟩:=bF;obtain⟨a,xs,e,hq,q⟩:=q1;subst e;obtain⟨u,rfl,rx⟩:=r1.one;cases rx;obtain⟨aT,rv,pl,hz⟩:=I1.tuple hq;refine Aj (show s1.heap.IsTuple a aT.toArray from pl) λh1 he hit hk=>wpAny_pyIter_enum he ?_;refine⟨s1.heap.objs.size+1,[s1.heap.objs.size+1,s1.heap.objs.size],_,_,H1,rfl,I1.kept (t':=s1.toks) λb o e=>hk b o e,yN a _ _ (kI (oX _)),⟨⟨_,he⟩,hit⟩,λb hb=>?_,q⟩;rcases bR.mp hb with rfl | hb
 .exact I1.v_ (jS _) (I1.b8.fresh (jS _))
 obtain rfl:b=s1.heap.objs.size:=by simpa using hb
 exact I1.v_ (aE _) (I1.b8.fresh (aE _))
open PySem PySem.Spec PyProof.Rows PySem.W
def jJ (c':Addr)(qual:Str):HO:=.ext λh=>h.CodeRec (.ref c') qual
def oH (f:Addr)(o:Obj):HO:=.ext λh=>h.get? f=some o
def yc {P:Program}{w:World}{H:Hp}{h:Heap}{c':Addr}{qual:Str}(hr:h.CodeRec (.ref c') qual):cJ P w H h c' (jJ c' qual):=by
 obtain⟨c2,oc,vs,t,e,yw,hd,hv⟩:=id hr;cases e;exact⟨hr,⟨oc,yw⟩,λh1 h2 ⟨c3,oc3,Zz,t3,e3,Ut,iU,M9⟩ k=>by cases e3;exact⟨_,oc3,Zz,t3,rfl,k _ Ut,iU,M9⟩⟩
def pZ {P:Program}{w:World}{H:Hp}{h:Heap}{f:Addr}{o:Obj}(e:h.get? f=some o):cJ P w H h f (oH f o):=⟨e,⟨o,e⟩,λ_ _ q k=>k _ q⟩
def Tab (T:Addr)(pos:Pos)(qual:Str)(H:Hp):Prop :=
 ∃ps,H T=some (.sL ps)/\TriplesOk ps.toList/\(codeAmong pos ps.toList=none\/∃c',codeAmong pos ps.toList=some (.ref c')/\H c'=some (jJ c' qual))
def gh (T:Addr)(H H':Hp):Prop:=∀b o,b≠T->H b=some o->H' b=some o
def sH (mg:Str->Option Value)(base:Heap):Prop :=
 ∃bm o,mg "__builtins__"=some (.ref bm)/\bm≠builtinsNs/\bm≠mainGlobals/\base.get? bm=some o/\o.cls=.type "module" /\ o.dict=some builtinsNs/\o.data=.plain
theorem jr {a b:Int}{ta tb:Tok}{c:Value}:∀l:List Value,TriplesOk l->TriplesOk (l++[.int a ta,.int b tb,c])
 | [],_=>trivial
 | [x],h=>by cases x <;> exact h.elim
 | [x,y],h=>by cases x <;> cases y <;> exact h.elim
 | x::y::z::r,h=>by
  cases x with
  | int i ti =>
   cases y with
   | int j tj=>exact jr r h
   | _=>exact h.elim
  | _=>exact h.elim
section
variable {X:Cx}{params:Arguments}{body:Expr}{scope:Scope}{pos:Pos}{c T:Addr}
abbrev lK (X:Cx)(params:Arguments)(body:Expr)(scope:Scope)(c':Addr)(gF:Value):Obj:=kla_obj "<lambda>" (X.env.qual ++ "<lambda>") params body scope [] ((X.mg "__name__").getD .none) c' gF
def Sn (X:Cx)(params:Arguments)(body:Expr)(scope:Scope)(pos:Pos)(T:Addr):TE:=λσ H Q=>Tab T pos (X.env.qual ++ "<lambda>") H /\
 ∀f c' gF H',gh T H H'->Tab T pos (X.env.qual ++ "<lambda>") H'->H f=none->H' f=some (oH f (lK X params body scope c' gF))->H' c'=some (jJ c' (X.env.qual ++ "<lambda>"))->Q (.ref f) H'
def EK (ro:X.env.code=.ref c)(hC:codeHdIn X.K c T=true)(hB:sH X.mg X.base)(mX:∀y∈scope.names,y.2≠.free)(FH:defaultsOf params X.env=([],[]):=by rfl):PE X (.Lambda params body scope pos) (Sn X params body scope pos T):=by
 intro ag s σ H Q I h;obtain⟨⟨ps,hT,ht,FI⟩,q⟩:=h;refine kla_eval FH ?_;have LU:s.heap.get? T=some (tabObj ps):=(show cJ X.prog X.w H s.heap T (.sL ps) from I.b8 T _ hT);have hg:=I.mod.glob.keeps I.bk;have C:=codeHd_of_K I.uf hC;obtain⟨bm,ob,b1,b2,b3,b4,b5,b6,b7⟩:=hB;have VY:=I.bk _ _ b4;have Tt:bm≠T:=λz=>by
  have:=(I.bs _ _ b4).2;rw [z,hT] at this;cases this
 have To:mainGlobals≠T:=λz=>by
  obtain⟨o,es,ep,e,d,_⟩:=hg;rw [z,LU] at e;cases e;cases d
 have PQ:s.heap.BuiltinsAt X.mg T:=⟨bm,ob,b1,b2,b3,Tt,VY,b5,b6,b7⟩;have GA:∀b v,H b=some v->b < s.heap.objs.size:=λb v e=>I.b8.lt e;rcases FI with Pj | ⟨c',hf,lV⟩
 .refine kla_makeFunction (closureFor_none mX) I.ok.glob hg ro C LU ht Pj To PQ λc' gF h' tk hx G0 jI Fv O9=>?_;have hcr:∃oc,h'.get? c'=some oc:=by
   obtain⟨c2,oc,vs,t,e,yw,_⟩:=Fv;cases e;exact⟨oc,yw⟩
  have rm:h'.objs.size > s.heap.objs.size:=qy G0 jI;have keep:∀b o,b≠T->s.heap.get? b=some o->(h'.push (lK X params body scope c' gF)).get? b=some o:=λb o n e=>cx _ (hx b o n e)
  let H':Hp:=upd (upd (upd H T (.sL (ps++#[rawInt pos.line,rawInt pos.col,.ref c']))) c' (jJ c' (X.env.qual ++ "<lambda>"))) h'.objs.size (oH h'.objs.size (lK X params body scope c' gF))
  have zM:∀b v,H b=some v->b≠c'/\b≠h'.objs.size:=λb v e=>⟨bX (fS (GA b v e) G0),bX (jV (GA b v e) rm)⟩;have Tr:c'≠h'.objs.size:=bX jI;have OG:=zM T _ hT;have eT:H' T=some (.sL (ps++#[rawInt pos.line,rawInt pos.col,.ref c'])):=by
   show upd (upd (upd H T _) c' _) h'.objs.size _ T=_;rw [ak OG.2,ak OG.1,ae]
  have ec:H' c'=some (jJ c' (X.env.qual ++ "<lambda>")):=by
   show upd (upd (upd H T _) c' _) h'.objs.size _ c'=_;rw [ak Tr,ae]
  have ef:H' h'.objs.size=some (oH h'.objs.size (lK X params body scope c' gF)):=ae;have eo:∀b,b≠T->b≠c'->b≠h'.objs.size->H' b=H b:=λb n1 n2 n3=>by
   show upd (upd (upd H T _) c' _) h'.objs.size _ b=_;rw [ak n3,ak n2,ak n1]
  have sT:gh T H H':=λb o n e=>by rw [eo b n (zM b o e).1 (zM b o e).2];exact e
  have I2:Inv X ag σ H' { s with heap:=h'.push (lK X params body scope c' gF),toks:=tk }:=by
   refine I.call (g':=s.gens) (t':=tk) (d':=s.drawn) (ch:=[]) ⟨λb o e n _ _=>keep b o (λz=>by rw [z,hT] at n;cases n) e,λb o e n _ _=>⟨o.slots,keep b o (λz=>by rw [z,hT] at n;cases n) e⟩,λb o e n _=>?_,λb o e _=>?_,λb xs e=>?_,λb o u e=>?_,λb SV e=>?_⟩ (λb v e=>?_) I.bare (λb hb=>nomatch hb)
   .have lb:=bJ e;rw [eo b (λz=>by rw [z,hT] at n;cases n) (bX (fS lb G0)) (bX (jV lb rm))];exact n
   .by_cases z:b=T
    .exact⟨_,by rw [z];exact cx _ O9⟩
    exact⟨o,keep b o z e⟩
   .exact sT b _ (λz=>by rw [z,hT] at e;cases e) e
   .exact sT b _ (λz=>by rw [z,hT] at e;cases e) e
   .by_cases z:b=T
    .subst z;rw [hT] at e;cases e;exact⟨_,eT⟩
    exact⟨#[],by rw [Array.append_empty];exact sT b _ z e⟩
   by_cases z1:b=h'.objs.size
   .subst z1;rw [ef] at e;cases e;exact pZ (dH _ rfl)
   by_cases z2:b=c'
   .subst z2;rw [ec] at e;cases e;refine yc ?_;obtain⟨c2,oc,vs,t,e',yw,hd,hv⟩:=Fv;cases e';exact⟨_,oc,vs,t,rfl,cx _ yw,hd,hv⟩
   by_cases z3:b=T
   .subst z3;rw [eT] at e;cases e;exact cx _ O9
   rw [eo b z3 z2 z1] at e;refine(I.b8 b v e).jY (λd o CA e'=>?_) (λd e'=>sT d _ (λz=>by rw [z,hT] at e';cases e') e') λd ys e'=>sT d _ (λz=>by rw [z,hT] at e';cases e') e';rcases CA with rfl | CA
   .exact keep d o z3 e'
   exact keep d o (λz=>by rw [z,hT] at CA;cases CA) e'
  have fresh:H h'.objs.size=none:=I.b8.fresh (jU rm);exact⟨.ref h'.objs.size,H',I2,rfl,q _ c' gF H' sT ⟨_,eT,by rw [uV];exact jr _ ht,.inr ⟨c',by rw [uV];exact codeAmong_snoc _ ht Pj,ec⟩⟩ fresh ef ec⟩
 refine kla_makeFunctionHit (closureFor_none mX) I.ok.glob hg ro C LU ht hf PQ λgF h' tk hk hsz=>?_;have keep:∀b o,s.heap.get? b=some o->(h'.push (lK X params body scope c' gF)).get? b=some o:=λb o e=>cx _ (hk b o e);have fresh:H h'.objs.size=none:=I.b8.fresh hsz;refine⟨.ref h'.objs.size,_,I.laid (a:=h'.objs.size) (o:=oH h'.objs.size (lK X params body scope c' gF)) (t':=tk) keep hsz (pZ (dH _ rfl)),rfl,?_⟩;refine q _ c' gF _ (λb o _ e=>by rw [ak (ay e fresh)];exact e) ⟨ps,by rw [ak (ay hT fresh)];exact hT,ht,.inr ⟨c',hf,by rw [ak (ay lV fresh)];exact lV⟩⟩ fresh ae (by rw [ak (ay lV fresh)];exact lV)
end
section
variable {P:Program}{w:World}{K:Frag}{mg:Str->Option Value}{base:Heap}{f c':Addr}{q:Str}{params:Arguments}{body:Expr}{scope:Scope}{pm gF:Value}{N ps:List Str}{k:Nat}{te:TE}
def Ih (S:aM N ps scope)(mZ:∀us:List Value,us.length=ps.length->bindArgs (kla_fn "<lambda>" q params body scope [] pm (.ref c') gF) ⟨us,[]⟩=pure (ps.zip us))
  (jh:∀(A:Around)(outer:List Env)(s:Shared)(H:Hp),PE (oT gw P w K mg base N q scope f (.ref c') A outer s H λ_ _ _=>False) body te)
  (A:Around)(outer:List Env)(s:Shared)(H:Hp)(us:List Value)(vs:List V)(Q:VK)(hr:eZ (k+1) A)(e0:pQ P w K mg base A outer s H)(hf:H f=some (oH f (kla_obj "<lambda>" q params body scope [] pm c' gF)))
  (hc:H c'=some (jJ c' q))(rv:a_ vs us)(hl:vs.length=ps.length)(h:te (start N vs) H Q):codeAny (model P w) A (.call (.ref f) ⟨us,[]⟩) (CR gw outer P w H s Q λ_ _ _=>False) s:=by
 obtain⟨ef,_⟩:=e0.b8 f _ hf;obtain⟨ec,_⟩:=e0.b8 c' _ hc;have lu:us.length=ps.length:=by rw [<-rv.length];exact hl
 have lim:s.heap.NoLimit:=e0.mod.nolimit.keeps λb o e=>(e0.bs b o e).1;have je:∀y∈ps.zip us,scope.names.lookup y.1=some .local\/(scope.names.lookup y.1=some .cell/\((cellsFrom (s.heap.objs.size+1) scope.names []).lookup y.1).isSome=true):=λ⟨n,v⟩ hy=>by
  rcases S.par n (List.of_mem_zip hy).1 with z | z
  .exact .inl z
  exact .inr ⟨z,cellsFrom_some _ _ _ (.inl z)⟩
 refine kla_callFunE hr.depth ef rfl S.co S.gen rfl ec ?_;rw [mZ us lu];refine aR (wpAny_newFunctionEnv_cells S.kind je λenv he s1 x=>?_);subst he;refine⟨lim.keeps x.toInCall.keep,kla_codeExpr ?_⟩;have I:Inv (oT gw P w K mg base N q scope f (.ref c') A outer s H λ_ _ _=>False) [] (start N vs) H s1:=uh S hr.hd e0 hl rv x;refine dw (jh A outer s H [] s1 (start N vs) H _ I h) (λv s' bF=>?_) λe s' z=>z;obtain⟨y,H',J,r,z⟩:=bF;exact⟨y,H',J.os,J.bare,J.base,J.b8,r,z⟩
end
section
variable {X:Cx}{i:Nat}{x:Str}{e:Expr}{es:List Expr}{t:TA}{p pos:Pos}{q:Str}{params:Arguments}{body:Expr}{scope:Scope}{N ps:List Str}{k:Nat}{te:TE}
def DM (i:Nat)(q:Str)(params:Arguments)(body:Expr)(scope:Scope) (N ps:List Str)(t:TA)(te:TE):TE:=λσ H Q=>∃f pm c' gF,σ[i]?=some (some (.ref f)) /\
 t σ H λvs H1=>H1 f=some (oH f (kla_obj "<lambda>" q params body scope [] pm c' gF))/\H1 c'=some (jJ c' q)/\vs.length=ps.length/\te (start N vs) H1 Q
def zz (hN:X.N[i]?=some x)(hx:X.env.scope.names.lookup x=some .local)(S:aM N ps scope)(hr:eZ (k+1) X.A)
  (mZ:∀(pm gF:Value)(c':Addr)(us:List Value),us.length=ps.length->bindArgs (kla_fn "<lambda>" q params body scope [] pm (.ref c') gF) ⟨us,[]⟩=pure (ps.zip us))
  (jh:∀(f c':Addr)(A:Around)(outer:List Env)(s:Shared)(H:Hp),PE (oT gw X.prog X.w X.K X.mg X.base N q scope f (.ref c') A outer s H λ_ _ _=>False) body te)(ha:PA X (e::es) t)
  (Cz:(x == ("__debug__":Str))=false:=by decide)(he:starEach (e::es) X.env=(false,eval e X.env)::starEach es X.env:=by rfl)(Bj:(backTo pos (starEach es X.env)).any (·.1)=false:=by rfl) :
  PE X (.Call (.Name x p) (e::es) [] pos) (DM i q params body scope N ps t te):=by
 intro ag s σ H Q I h;obtain⟨f,pm,c',gF,hσ,h⟩:=h;obtain⟨m,hn,hl⟩:=I.loc;obtain⟨u,ru,lk⟩:=hl i x (.ref f) hN hσ (.inl hx);cases (show u=Value.ref f from ru);have hm:m x=some (.ref f):=by
  rcases lk with l | ⟨l,_⟩
  .exact l.2
  have l':X.env.scope.names.lookup x=some .cell\/X.env.scope.names.lookup x=some .free:=l;rw [hx] at l';rcases l' with l' | l' <;> cases l'
 refine qh (wpAny_Name (uU I.ok.kind hx hn hm ?_) Cz);refine callWith_def (o:=kla_obj "<lambda>" q params body scope [] pm c' gF) rfl (cW (ha pos ag s σ H _ I h) λus s1 bF=>?_) he;obtain⟨vs,H1,I1,r,z1,z2,z3,z4⟩:=bF;obtain⟨ef,_⟩:=I1.b8 f _ z1;refine⟨ef,wpAny_call (nJ (Ih (k:=k) S (λus hl=>mZ pm gF c' us hl) (jh f c') X.A X.stack s1 H1 us vs Q hr I1.Mm z1 z2 r z3 z4) λr' s' z=>?_)⟩;cases r' with
 | error e=>exact z.elim
 | ok fl =>
  cases fl with
  | ret u=>exact I1.after z
  | next=>exact z.elim
  | brk=>exact z.elim
  | cont=>exact z.elim
end
def Gs (ts:List Addr)(H:Hp):Prop:=∀b,H b=none\/(∃o xs,H b=some (.jN o (.lst xs)))\/(b∈ts/\H b=some (.sL #[]))
def Cq {P:Program}{w:World}{K:Frag}{mg mb:Str->Option Value}{CX:yB}{k:Nat}{fa a:Addr}{fd:FuncData}{x:Str}{sp:Sp}{s₁:Shared}{vs:List Value}{ns:List Int}{ts:List Addr}
  (KX:K.In s₁.heap)(o_:s₁.heap.Ns mainGlobals mg)(hb:s₁.heap.Ns builtinsNs mb)(LS:∀x:Str,x ≠ "__name__" -> mb x=bootBuiltins x)(LK:s₁.heap.NoLimit)
  (hbm:∃bm ob,mg "__builtins__"=some (.ref bm)/\bm≠builtinsNs/\s₁.heap.get? bm=some ob/\ob.cls=.type "module" /\ ob.dict=some builtinsNs/\ob.data=.plain)(hg:s₁.gens=#[])
  (Cu:∀T∈ts,s₁.heap.get? T=some (tabObj #[])/\K.lookup T=none/\∃c,codeHdIn K c T=true)
  (ha:s₁.heap.get? a=some { cls:=.type "list",data:=.seq vs.toArray })(hi:IntsAre vs ns)(hl:ns.length<=sizeLine)(hr:eZ k callerA)
  (F:∀base:Heap,K.In base->base.Ns mainGlobals mg->sH mg base->bZ P w K mg base CX k fa fd [x] sp)(mZ:∀(s:Shared)(u:Value),BindsTo s fd ⟨[u],[]⟩ [(x,u)])
  (yu:∀H:Hp,Gs ts H->(∀T∈ts,H T=some (.sL #[]))->aK K H a (ns.map V.int)->sp [.ref a] H (λv _=>v=.bl true) λ_ _ _=>False)
  (LY:∀H e s',CX [] H s₁ (λ_ _ _=>False) e s'->False) :
  codeAny (model P w) callerA (.call (.ref fa) ⟨[.ref a],[]⟩) (λr s'=>r=.ok (.ret (.bool true))/\OldK s₁.heap s'.heap/\s'.os=s₁.os/\AllBare s'.gens) s₁:=by
 have rv:=og hi;have Ln:=hi.length;have core:∀H:Hp,Gs ts H->(∀T∈ts,H T=some (.sL #[]))->aK K H a (ns.map V.int)->kT P w H s₁.heap->(∀b,H b≠none->b=a\/b∈ts)->(H a≠none->K.lookup a=none) ->
   codeAny (model P w) callerA (.call (.ref fa) ⟨[.ref a],[]⟩) (λr s'=>r=.ok (.ret (.bool true))/\OldK s₁.heap s'.heap/\s'.os=s₁.os/\AllBare s'.gens) s₁:=by
  intro H hO hT hS b8 hA hK;have kx:∀{b:Addr}{o:Obj},s₁.heap.get? b=some o->H b=none->(lU s₁.heap H).get? b=some o:=λe n=>xO e n;have off:∀{b:Addr}{o:Obj},s₁.heap.get? b=some o->(∀aT n,o.data≠.seq aT n)->(∀fs,o.data≠.fields fs)->H b=none:=λ{b o} e d1 d2=>by
   cases q:H b with
   | none=>rfl
   | some u =>
    rcases hA b (by rw [q];simp) with e' | e'
    .subst e';rw [ha] at e;cases e;exact(d1 _ _ rfl).elim
    rw [(Cu b e').1] at e;cases e;exact(d2 _ rfl).elim
  have HZ:∀{b:Addr}{m:Str->Option Value},s₁.heap.Ns b m->(lU s₁.heap H).Ns b m:=λ{b m} ⟨o,es,ep,e,d,r⟩=>⟨o,es,ep,kx e (off e (λ_ _ z=>by rw [d] at z;cases z) λ_ z=>by rw [d] at z;cases z),d,r⟩;have PM:K.In (lU s₁.heap H):=λb o e=>kx (KX b o e) (by
   cases q:H b with
   | none=>rfl
   | some u =>
    rcases hA b (by rw [q];simp) with e' | e'
    .subst e';rw [hK (by rw [q];simp)] at e;cases e
    rw [(Cu b e').2.1] at e;cases e)
  have hM:Mod K mg (lU s₁.heap H):=⟨PM,HZ o_,⟨mb,HZ hb,LS⟩,let ⟨mc,h1,h2⟩:=LK;⟨mc,HZ h1,h2⟩⟩;have PN:sH mg (lU s₁.heap H):=by
   obtain⟨bm,ob,b1,b2,b3,b4,b5,b6⟩:=hbm;refine⟨bm,ob,b1,b2,λz=>?_,kx b3 (off b3 (λ_ _ z=>by rw [b6] at z;cases z) λ_ z=>by rw [b6] at z;cases z),b4,b5,b6⟩;obtain⟨o,es,ep,e,d,_⟩:=o_;rw [<-z,b3] at e;cases e;rw [b6] at d;cases d
  have e0:pQ P w K mg (lU s₁.heap H) callerA [] s₁ H:=⟨rfl,hM,λb o e=>Bd e,Nat.le_of_eq (uk _ _),trivial,λb hb=>absurd (show b∈([]:List Addr) from hb) (by simp),b8,.of_eq hg⟩;refine nJ ((F _ PM (HZ o_) PN).run callerA [] s₁ H ⟨[.ref a],[]⟩ [.ref a] [.ref a] _ _ hr e0 (mZ s₁ (.ref a)) (.cons rfl .nil) (yu H hO hT hS)) λr s' h=>?_;cases r with
  | error e=>exact(LY H e s' h).elim
  | ok fl =>
   cases fl with
   | next=>exact False.elim h
   | brk=>exact False.elim h
   | cont=>exact False.elim h
   | ret u =>
    obtain⟨v,H',os,bare,un,Ip,r',q⟩:=h;have q':v=.bl true:=q;subst q';obtain rfl:u=Value.bool true:=r';have each:∀b o,s₁.heap.get? b=some o->asItWas s₁.heap s'.heap b o/\∃o',s'.heap.get? b=some o':=λb o e=>by
     cases q:H b with
     | none =>
      have z:=un.keep b o e q (by intro z;exact absurd (show b∈([]:List Addr) from z) (by simp)) (by simp);exact⟨.inl z,o,z⟩
     | some u =>
      rcases hO b with z | ⟨ob,xs,z⟩ | ⟨G3,z⟩
      .rw [q] at z;cases z
      .have z2:=un.lW b ob _ z;obtain⟨e1,_⟩:=b8 b _ z;obtain⟨e2,_⟩:=Ip b _ z2;rw [e] at e1;cases e1;exact⟨.inl e2,_,e2⟩
      obtain⟨more,z2⟩:=un.mz b _ z;have e2:s'.heap.get? b=some (tabObj (#[]++more)):=Ip b _ z2;rw [(Cu b G3).1] at e;cases e;obtain⟨c,hc⟩:=(Cu b G3).2.2;obtain⟨oc,ZA,file,tf,flags,tg,inF,text,tt,d1,d2,d3,d4,_⟩:=codeHd_of_K KX hc;exact⟨.inr (.inl ⟨⟨c,oc,ZA,d1,d2,d3,d4⟩,rfl,#[],more,rfl,e2⟩),_,e2⟩
    exact⟨rfl,⟨λb o e=>(each b o e).1,λb o e=>(each b o e).2⟩,os,bare⟩
 have na:a∉ts:=λz=>by
  have:=(Cu a z).1;rw [ha] at this;cases this
 cases hk:K.lookup a with
 | some o =>
  have e:=KX a o hk;rw [ha] at e;cases e;refine core (λb=>if b∈ts then some (.sL #[]) else none) (λb=>?_) (λT h=>ar h) (.inr ⟨_,vs.toArray,_,hk,rfl,rfl,rfl,by rw [cP,Ln];exact hl,by simpa using rv⟩) (λb u z=>?_) (λb z=>?_) λz=>absurd (au na) z
  .by_cases h:b∈ts
   .exact .inr (.inr ⟨h,ar h⟩)
   exact .inl (au h)
  .by_cases h:b∈ts
   .have z':=(ar h).symm.trans z;cases z';exact(Cu b h).1
   have z':=(au h).symm.trans z;cases z'
  by_cases h:b∈ts
  .exact .inr h
  exact absurd (au h) z
 | none =>
  refine core (λb=>if b=a then some (.jN { cls:=.type "list",data:=.seq vs.toArray } (.lst (ns.map V.int))) else if b∈ts then some (.sL #[]) else none) (λb=>?_) (λT h=>?_) (.inl (.inr ⟨{ cls:=.type "list",data:=.seq vs.toArray },ar rfl⟩)) (λb u z=>?_) (λb z=>?_) λ_=>hk
  .by_cases hb:b=a
   .exact .inr (.inl ⟨_,_,ar hb⟩)
   by_cases h:b∈ts
   .exact .inr (.inr ⟨h,(au hb).trans (ar h)⟩)
   exact .inl ((au hb).trans (au h))
  .exact(au (λz:T=a=>na (z ▸ h))).trans (ar h)
  .by_cases hb:b=a
   .have z':=(ar hb).symm.trans z;cases z';subst hb;exact⟨ha,by rw [ax];exact hl,vs,_,rv,ha⟩
   by_cases h:b∈ts
   .have z':=((au hb).trans (ar h)).symm.trans z;cases z';exact(Cu b h).1
   have z':=((au hb).trans (au h)).symm.trans z;cases z'
  by_cases hb:b=a
  .exact .inl hb
  by_cases h:b∈ts
  .exact .inr h
  exact absurd ((au hb).trans (au h)) z
def DG {l:OpenLaw}{n k:Nat}{q:Program}{loose:List Str}{XP:(Str->Option Value)->Heap->Prop}{YP:World->Heap->Prop}{d:DefRec}{K:Params->Frag}{CX:World->yB}{sp:World->Sp}{x:Str}{ts:List Addr}
  (hn:l.most=some n)(FA:n<=sizeLine)(LQ:d.params.defaults=[])(hr:eZ k callerA)
  (hY:∀(w:World)(h:Heap),YP w h->(K w.params).In h/\∀T∈ts,h.get? T=some (tabObj #[]))
  (hK:∀w:World,∀T∈ts,(K w.params).lookup T=none/\∃c,codeHdIn (K w.params) c T=true)
  (F:∀(w:World)(mg:Str->Option Value)(fa:Addr)(h:Heap),(K w.params).In h->h.Ns mainGlobals mg->mg d.name=some (.ref fa) ->
   ∃fd:FuncData,(∀(s:Shared)(u:Value),BindsTo s fd ⟨[u],[]⟩ [(x,u)]) /\
    ∀base:Heap,(K w.params).In base->base.Ns mainGlobals mg->sH mg base->bZ l.prog w (K w.params) mg base (CX w) k fa fd [x] (sp w))
  (yu:∀(w:World)(H:Hp)(a:Addr)(ns:List Int),ns.length<=n->Gs ts H->(∀T∈ts,H T=some (.sL #[]))->aK (K w.params) H a (ns.map V.int)->sp w [.ref a] H (λv _=>v=.bl true) λ_ _ _=>False)
  (LY:∀(w:World)(H:Hp)(s:Shared)(e:Value)(s':Shared),CX w [] H s (λ_ _ _=>False) e s'->False) :
  WalkO q loose XP YP l.row.toRowW d [] (λf vs=>PySem.call f vs):=by
 refine wH.pq hn LQ λw s₀ s₁ mg mb fa o pm cd doc a vs ns G Y ho hd v8 LI Fx hints bM hg=>?_;obtain⟨KX,TX⟩:=hY w _ Y;obtain⟨fd,hb,hF⟩:=F w mg fa _ KX G.T.g LI;exact Cq KX G.T.g G.T.b G.T.builtins G.T.nolimit G.T.bmain hg (λT hT=>⟨TX T hT,hK w T hT⟩) Fx hints (ff bM FA) hr hF hb (λH hO hT hS=>yu w H a ns bM hO hT hS) λH e s'=>LY w H s₁ e s'
def aU {X:Cx}{scope:Scope}{js:List (Nat×Str)}(h:(js.all λp=>X.N[p.1]? == some p.2 && X.env.scope.names.lookup p.2 == some .cell && scope.names.lookup p.2 == some .free)=true)
  (h2:(scope.names.all λy=>y.2 != .free || X.env.scope.names.lookup y.1 == some .cell)=true):I0 X scope js:=by
 refine⟨λp hp=>?_,λy hy=>?_⟩
 .have:=dN.mp h p hp;simp only [mh,beq_iff_eq] at this;exact⟨this.1.1,this.1.2,this.2⟩
 have:=dN.mp h2 _ hy;simpa using this
def wQ {σ:St}{H:Hp}{A B:Hp->Prop}(h:A H):gP σ H λb H3=>if b=true then A H3 else B H3:=by
 show if true=true then A H else B H;exact zT h
def goN {i:Nat}{v:V}{σ:St}{H:Hp}{Q:St->Hp->Prop}(h:Q (σ.set i (some v)) H):dB i v σ H Q:=h
def Fs {X:Cx}(K:ba)(hK:X.K=K:=by rfl):IW X (Om K):=by
 subst hK;exact cZ
def Ik {X:Cx}(K:ba)(hK:X.K=K:=by rfl):IW X (Ol K):=by
 subst hK;exact bT
def dC {X:Cx}{es:List Expr}{k:Nat}{t:J0}{n:Nat}{pos:Pos}(K:ba)(hc:X.calm=true)(h:QC X es t)(hK:X.K=K:=by rfl)
  (hn:(assignEach es X.env).length=n:=by rfl)(yt:(assignEach es X.env).findIdx? (·.1)=none:=by rfl):PG X (.Tuple es k pos) (z9 K n t):=by
 subst hK;exact fJ hc h hn yt
end L2
section
variable {P:PySem.Program}{w:PySem.World}{K:ba}{mg:PySem.Str->Option PySem.Value}{base:PySem.Heap}{f:PySem.Addr}{fd:PySem.FuncData}
namespace h_
open PySem L2
def top (i:Nat):Stmt:=PySem.Challenge.pw_wright_k21_what_can_begin.main.body.getD i (.Pass ⟨0,0,0,0⟩)
abbrev zd:Stmt:=top 4
abbrev yW:Stmt:=top 5
abbrev qT:Stmt:=top 9
abbrev vB:Stmt:=top 10
abbrev zf:Stmt:=top 11
abbrev Ek:Stmt:=top 21
abbrev yY:Stmt:=top 22
abbrev Kw:Stmt:=top 23
abbrev qR:Stmt:=top 25
abbrev vC:Stmt:=top 26
abbrev mK:Stmt:=top 27
abbrev vy:Stmt:=top 30
abbrev yX:Stmt:=top 31
abbrev Ky:Stmt:=top 32
abbrev El:Stmt:=top 39
abbrev Ei:Stmt:=top 6
abbrev Kx:Stmt:=top 7
abbrev mM:Stmt:=top 34
abbrev ou:Stmt:=top 35
abbrev qS:Stmt:=top 36
abbrev Z1:Stmt:=top 37
structure Txt (mg:Str->Option Value):Prop where
 len:mg "len"=none
 EC:mg "range"=none
 Rj:mg "isinstance"=none
 tup:mg "tuple"=none
 lst:mg "list"=none
 Bx:mg "dict"=none
 all:mg "all"=none
 any:mg "any"=none
 str:mg "str"=none
 int:mg "int"=none
 boo:mg "bool"=none
 IB:mg "enumerate"=none
 sum:mg "sum"=none
 max:mg "max"=none
 min:mg "min"=none
section
def boot_all:bootBuiltins "all"=some (.builtin "all"):=by decide +kernel
def hZ:bootBuiltins "list"=some (.type "list"):=by decide +kernel
def iL:bootBuiltins "str"=some (.type "str"):=by decide +kernel
def gb:bootBuiltins "dict"=some (.type "dict"):=by decide +kernel
def Lr:PySem.W.kitOne K (.type "int") (.type "bool")=some false:=by kernel_rfl
end
end h_
namespace L2
open PySem
def aP {K:ba}{H:Hp}{D a:Addr}{xs ys:List V}{o:HO}(hD:H D=some (.lst ys))(h:aS K H a xs):aS K (upd H D o) a xs:=by
 rcases h with (h | ⟨u,h⟩) | h
 .exact .inl (.inl (by rw [ak (λz=>by rw [z,hD] at h;cases h)];exact h))
 .exact .inl (.inr ⟨u,by rw [ak (λz=>by rw [z,hD] at h;cases h)];exact h⟩)
 exact .inr h
def wt (kvs:List (aL×V))(k:aL):(kvs.any λkv=>decide (kv.1=k))=true↔k∈kvs.map (·.1):=by
 rw [List.any_eq_true,bV];constructor
 .rintro⟨x,h1,h2⟩;exact⟨x,h1,cS h2⟩
 rintro⟨x,h1,h2⟩;exact⟨x,h1,cC h2⟩
def zp {kvs:List (aL×V)}{k:aL}{v:V}(h:k∈kvs.map (·.1)):(bN kvs k v).map (·.1)=kvs.map (·.1):=by
 unfold bN;rw [ar ((wt kvs k).mpr h),iA];refine uX λx hx=>?_;show (if x.1=k then (x.1,v) else x).1=x.1
 split <;> rfl
def iP {kvs:List (aL×V)}{k:aL}{v:V}(h:¬k∈kvs.map (·.1)):(bN kvs k v).map (·.1)=kvs.map (·.1)++[k]:=by
 unfold bN;rw [au (λz=>h ((wt kvs k).mp z)),bB];rfl
def eV (kvs:List (aL×V))(k:aL):(bu kvs k).isSome=true↔k∈kvs.map (·.1):=by
 rw [<-i0];exact wt kvs k
theorem cT {α β γ:Type}{F:α->β->Prop}{G:α->γ->Prop}{φ:β->γ}:∀{xs:List α}{ys:List β},Paired F xs ys->(∀a b,F a b->G a (φ b))->Paired G xs (ys.map φ)
 | _,_,.nil,_=>.nil
 | _,_,.cons h t,k=>.cons (k _ _ h) (cT t k)
def c_ {z:Str}{l:List Str}:(Sum.inr z:aL)∈l.map Sum.inr↔z∈l:=by
 rw [bV];constructor
 .rintro⟨x,h1,h2⟩;rw [<-jT h2];exact h1
 intro h;exact⟨z,h,rfl⟩
end L2
namespace M11
abbrev aw:=PySem.Str×List PySem.Str
def gX (a:List PySem.Str)(h:PySem.Str):List PySem.Str:=if h∈a then a else a++[h]
def wk (bQ hs:List PySem.Str):List PySem.Str:=hs.foldl gX bQ
def addW (a7 a:List PySem.Str)(p:PySem.Str):List PySem.Str:=if p∈a7 then a else gX a p
def sJ (a7 bQ ps:List PySem.Str):List PySem.Str:=ps.foldl (addW a7) bQ
def M8 (aa:List aw)(name:PySem.Str) (k:Nat):Bool:=decide ((aa[k]?.map (·.1))=some name)
def nums (aa:List aw)(name:PySem.Str) (i:Nat):List Int:=((List.range i).filter (M8 aa name)).map λk:Nat=>(k:Int)
def Cj (aa:List aw)(name:PySem.Str) (i:Nat):nums aa name (i+1)=nums aa name i++(if M8 aa name i=true then [(i:Int)] else []):=by
 unfold nums;rw [List.range_succ,qi,bB]
 congr 1
 by_cases h:M8 aa name i=true
 .rw [ar h];simp [h]
 rw [au h];simp [h]
def xA (aa:List aw)(name:PySem.Str) (i:Nat):(nums aa name i).length<=i:=by
 unfold nums;rw [ax];have:=mn (M8 aa name) (List.range i);rw [uR] at this;exact this
def yi (a:List PySem.Str)(h:PySem.Str):(gX a h).length<=a.length+1:=by
 unfold gX;split <;> simp
theorem iR:∀(hs bQ:List PySem.Str),(wk bQ hs).length<=bQ.length+hs.length
 | [],bQ=>by simp [wk]
 | h::r,bQ=>by
  have:=iR r (gX bQ h);have:=yi bQ h;show (wk (gX bQ h) r).length<=_;rw [dG];omega
def Ge (a7 a:List PySem.Str)(p:PySem.Str):(addW a7 a p).length<=a.length+1:=by
 unfold addW;split
 .omega
 exact yi a p
theorem vb (a7:List PySem.Str):∀(ps bQ:List PySem.Str),(sJ a7 bQ ps).length<=bQ.length+ps.length
 | [],bQ=>by simp [sJ]
 | p::r,bQ=>by
  have:=vb a7 r (addW a7 bQ p);have:=Ge a7 bQ p;show (sJ a7 (addW a7 bQ p) r).length<=_;rw [dG];omega
end M11
namespace h_
open PySem L2 M11
def jb {bQ:List (aL×V)}{as:List Str}(e:bQ.map (·.1)=as.map Sum.inr)(h:Str){v:V}:(bN bQ (Sum.inr h) v).map (·.1)=(gX as h).map Sum.inr:=by
 unfold gX;by_cases q:h∈as
 .rw [ar q,zp (by rw [e];exact c_.mpr q),e]
 rw [au q,iP (by rw [e];exact λz=>q (c_.mp z)),e,bB];rfl
theorem mV:∀(hs:List Str)(bQ:List (aL×V)) (as:List Str),bQ.map (·.1)=as.map Sum.inr->(cY (hs.map λh=>((Sum.inr h:aL),V.bl true)) bQ).map (·.1)=(wk as hs).map Sum.inr
 | [],bQ,as,e=>e
 | h::r,bQ,as,e=>by
  refine mV r (bN bQ (Sum.inr h) (.bl true)) (gX as h) ?_;exact jb e h
def keys_str {kvs:List (aL×V)}{zs:List Str}(e:kvs.map (·.1)=zs.map Sum.inr):(kvs.map λp=>kV p.1)=zs.map V.str:=by
 have e2:(kvs.map λp=>kV p.1)=(kvs.map (·.1)).map kV:=by rw [iA];rfl
 rw [e2,e,iA];rfl
section
def BM (K:ba)(H:Hp)(r:Addr)(ru:aw):Prop:=∃p,aS K H r [.str ru.1,.ref p]/\aS K H p (ru.2.map V.str)
def bL (K:ba)(H:Hp)(rs:List Addr)(aa:List aw):Prop:=Paired (λr ru=>BM K H r ru) rs aa
def bL.keep {H H':Hp}{rs:List Addr}{aa:List aw}(h:bL K H rs aa)(k:∀a xs,aS K H a xs->aS K H' a xs):bL K H' rs aa:=Paired.di h λr ru ⟨p,a,b⟩=>⟨p,k _ _ a,k _ _ b⟩
def bL.same {H H':Hp}{rs:List Addr}{aa:List aw}(h:bL K H rs aa)(s:aC H H'):bL K H' rs aa:=h.keep λ_ _ z=>s.tup z
def bL.get {H:Hp}{rs:List Addr}{aa:List aw}(h:bL K H rs aa){i:Nat}{r:Addr}(e:rs[i]?=some r):∃ru,aa[i]?=some ru/\BM K H r ru:=by
 have l:=a0 h;have li:=(bj.mp e).1;have e2:aa[i]?=some (aa[i]'∅):=cR ∅;obtain⟨x,e3,e4⟩:=Paired.at_ h i _ e2;rw [e] at e3;cases e3;exact⟨_,e2,e4⟩
def rV {H:Hp}{R D:Addr}{rs:List Addr}{aa:List aw}{σ:St}{Qp:Hp->Prop}(hR:aK K H R (rs.map V.ref))(cV:bL K H rs aa)(bM:aa.length<=1000)(hD:H D=none)
  (q:∀ts H2,aC H H2->H2 D=some (.lst (ts.map V.ref))->Paired (λt h=>aS K H2 t [.str h,.bl true]) ts (aa.map (·.1))->Qp H2) :
  ∃W:Nat->Nat->List V->St->Hp->Prop,(∃m,W 0 m [] (dJ ["head","parts"] [] σ) (upd H D (.lst []))) /\
 ∀i m ys σ' H,W i m ys σ' H->((jn K R).stop i H/\Qp H)\/((jn K R).go i H/\∃m',m' < m/\∀x H',(jn K R).kX i H x H'->z9 K 2 (ji (dB 0) (ji (dB 1) CD)) x σ' H' λσ2 H2=>gP σ2 H2 λb H3 =>
  if b=true then sQ (gH (gE 0) (gH (tC (.bl true)) qJ)) σ2 H3 λy H4=>H4 D=some (.lst ys)/\ys.length < sizeLine/\W (i+1) m' (ys++[y]) σ2 (upd H4 D (.lst (ys++[y]))) else W (i+1) m' ys σ2 H3):=by
 have ll:=a0 cV;refine b0 (xs:=rs.map V.ref) (λi ys σ2 H2=>∃ts:List Addr,ys=ts.map V.ref/\ts.length=i/\Paired (λt h=>aS K H2 t [.str h,.bl true]) ts ((aa.take i).map (·.1))/\(∃y0 y1,σ2=[y0,y1])/\aC H H2/\H2 D=some (.lst ys))
  ⟨[],rfl,rfl,.nil,⟨none,none,rfl⟩,af hD _,ae⟩ (λi ys σ2 H2 _ h=>?_) (λi x ys σ2 H2 ex h=>?_) (λys σ2 H2 h=>?_)
 .obtain⟨_,_,_,_,_,sm,_⟩:=h;exact sm.seq hR
 .obtain⟨ts,rfl,ht,hp,⟨y0,y1,rfl⟩,sm,hd⟩:=h;rw [bq] at ex;obtain⟨r,er,rfl⟩:=cq.mp ex;obtain⟨ru,e1,p,v1,v2⟩:=cV.get er;have li:=(bj.mp e1).1;refine⟨r,_,rfl,sm.tup v1,rfl,_,_,rfl,_,_,rfl,rfl,?_⟩;refine wQ ?_;refine⟨_,rfl,kN,λt jH=>⟨?_,br (by rw [ax];omega),ts++[t],?_,?_,?_,⟨_,_,rfl⟩,?_,ae⟩⟩
  .rw [ak (ay hd jH)];exact hd
  .rw [bB];rfl
  .rw [bU,ht];rfl
  .rw [cQ,e1,bB];have iU:upd H2 t (.tup [.str ru.1,.bl true]) D=some (.lst (ts.map V.ref)):=by rw [ak (ay hd jH)];exact hd
   exact fO (Paired.di hp λt' h' z=>aP iU ((af jH _).tup z)) (aP iU (aS.of ae))
  intro b o hb;rw [ak (λz=>by rw [z,hD] at hb;cases hb)];exact af jH _ _ _ (sm b o hb)
 obtain⟨ts,rfl,ht,hp,_,sm,hd⟩:=h;rw [ax,ll,cH] at hp;exact q ts H2 sm hd hp
def ki (K:ba):Sp:=λvs H Q _=>∃(R:Addr)(rs:List Addr)(aa:List aw),vs=[.ref R]/\aK K H R (rs.map V.ref)/\bL K H rs aa/\aa.length<=1000 /\
 ∀D H',H D=none->aC H H'->H' D=some (.lst ((wk [] (aa.map (·.1))).map V.str))->Q (.ref D) H'
def Ho:aM ["rules"] ["rules"] (az zd):=jl rfl rfl rfl rfl nofun
def E6 (F:iM K "heads_of" "heads_of" zd f fd)(T:Txt mg):bZ P w K mg base gw 1 f fd ["rules"] (ki K):=by
 refine F.ok Ho (λvs H Q E h=>?_) (λeY A outer s H vs Q E hr h=>?_)
 .obtain⟨R,rs,aa,rfl,_⟩:=h;rfl
 obtain⟨R,rs,aa,rfl,hR,cV,bM,q⟩:=h;refine⟨_,ao (bz (bc (lY rfl) rfl T.lst hZ (ab (bc (d7 rfl) rfl T.Bx gb (ab
  (aV ["head","parts"] [] rfl (aQ (pv 0)) (aU rfl rfl) nofun rfl nofun
   (λ_ _ _ _ _=>dC (n:=2) K rfl (aA (aq (i:=0) (show (["head","parts"]:List Str).Nodup by decide +kernel) rfl (bo rfl)) (aA (aq (i:=1) (show (["head","parts"]:List Str).Nodup by decide +kernel) rfl (bo rfl)) bH))) (λ_ _ _ _ _=>bw)
   (λ_ _ _ _ _=>bC (ab (pv 0) (ab eX ai)))) ai)) ai))),?_⟩
 dsimp only [F6];refine⟨_,rfl,R,rfl,⟨_,hR⟩,λD hD=>rV hR cV bM hD λts H2 sm hd hp=>?_⟩;have kp:Paired (λt (kv:aL×V)=>aS K H2 t [kV kv.1,kv.2]) ts ((aa.map (·.1)).map λh=>((Sum.inr h:aL),V.bl true)):=cT hp λ_ _ z=>z;refine⟨D,ts,_,rfl,hd,kp,λd hd2=>?_⟩;refine⟨d,_,rfl,ae,λD2 jL=>?_⟩;rw [keys_str (mV (aa.map (·.1)) [] [] rfl)];have nd:D2≠d:=λz=>by rw [z,ae] at jL;cases jL
 exact q D2 _ (sm.free (by rw [ak nd] at jL;exact jL)) (sm.trans ((af hd2 _).trans (af jL _))) ae
theorem jj:∀(aa:List aw) (n:Nat),aa.length<=n->(∀ru∈aa,ru.2.length<=8)->(aa.flatMap (·.2)).length<=8 * n
 | [],n,_,_=>by simp
 | ru::r,n,hl,h=>by
  rw [dG] at hl;have:=jj r (n - 1) ∅ λx hx=>h x (bW _ hx);have:=h ru bK;rw [List.flatMap_cons,bU];omega
def hd (aa:List aw):List Str:=wk [] (aa.map (·.1))
def AS (K:ba):Sp:=λvs H Q _=>∃(R:Addr)(rs:List Addr)(aa:List aw),vs=[.ref R]/\aK K H R (rs.map V.ref)/\bL K H rs aa/\aa.length<=1000/\(∀ru∈aa,ru.2.length<=8) /\
 ∀D H',H D=none->aC H H'->H' D=some (.lst ((sJ (hd aa) [] (aa.flatMap (·.2))).map V.str))->Q (.ref D) H'
def kj:aM ["rules","heads","words","head","parts","part"] ["rules"] (az yW):=jl rfl rfl rfl rfl nofun
def EX (F:iM K "words_in" "words_in" yW f fd)(T:Txt mg):bZ P w K mg base gw 1 f fd ["rules"] (AS K):=by
 refine F.ok kj (λvs H Q E h=>?_) (λeY A outer s H vs Q E hr h=>?_)
 .obtain⟨R,rs,aa,rfl,_⟩:=h;rfl
 obtain⟨R,rs,aa,rfl,hR,cV,bM,h8,q⟩:=h;have hu:=gM hr;refine⟨_,aj (aB (i:=1) kj.nd rfl (bo rfl) (bc (d7 rfl) rfl T.Bx gb (ab
  (aV ["head","parts"] [] rfl (aQ (pv 0)) (aU rfl rfl) nofun rfl nofun
   (λ_ _ _ _ _=>dC (n:=2) K rfl (aA (aq (i:=0) (show (["head","parts"]:List Str).Nodup by decide +kernel) rfl (bo rfl)) (aA (aq (i:=1) (show (["head","parts"]:List Str).Nodup by decide +kernel) rfl (bo rfl)) bH))) (λ_ _ _ _ _=>bw)
   (λ_ _ _ _ _=>bC (ab (pv 0) (ab eX ai)))) ai)))
  (aj (aB (i:=2) kj.nd rfl (bo rfl) fZ)
  (aj (bS cf rfl (aQ (pv 0)) (fJ rfl (aA (aq (i:=3) kj.nd rfl (bo rfl)) (aA (aq (i:=4) kj.nd rfl (bo rfl)) bH)))
   (ao (bS cf rfl (eQ (pv 4)) (aq (i:=5) kj.nd rfl (bo rfl))
    (ao (b9 (gr (eI hu (pv 5) (pv 1))) (ao (gY hu (pv 2) (pv 5) eX rfl)) aY)))))
  (ao (bz (bc (lY rfl) rfl T.lst hZ (ab (pv 2) ai)))))),?_⟩
 nofun
 refine⟨_,rfl,R,rfl,⟨_,hR⟩,λD hD=>rV hR cV bM hD λts H2 sm hd2 hp=>?_⟩;have kp:Paired (λt (kv:aL×V)=>aS K H2 t [kV kv.1,kv.2]) ts ((aa.map (·.1)).map λh=>((Sum.inr h:aL),V.bl true)):=cT hp λ_ _ z=>z;refine⟨D,ts,_,rfl,hd2,kp,λd hdd=>?_⟩;have Jy:(cY ((aa.map (·.1)).map λh=>((Sum.inr h:aL),V.bl true)) []).map (·.1)=(hd aa).map Sum.inr:=mV (aa.map (·.1)) [] [] rfl;generalize cY ((aa.map (·.1)).map λh=>((Sum.inr h:aL),V.bl true)) []=kH at Jy ⊢;have MX:=sm.trans (af hdd (.dK kH));have iU:upd H2 d (.dK kH) d=some (.dK kH):=ae;generalize upd H2 d (.dK kH)=H3 at MX iU;intro e he;have hde:∀o,upd H3 e o d=some (.dK kH):=λo=>by rw [ak (ay iU he)];exact iU
 have A2:∀o,aC H (upd H3 e o):=λo=>MX.trans (af he o);have ll:=a0 cV
 let wD:sq:=λi σ H5=>∃(kvs:List (aL×V))(y3 y4 y5:Option V),σ=[aF R,aF d,aF e,y3,y4,y5]/\H5=upd H3 e (.dK kvs) /\
  kvs.map (·.1)=(sJ (hd aa) [] ((aa.take i).flatMap (·.2))).map Sum.inr
 refine⟨_,rfl,R,rfl,⟨_,(A2 _).seq hR⟩,cv (xs:=rs.map V.ref) wD ⟨[],none,none,none,rfl,rfl,rfl⟩ ?_ ?_ ?_⟩
 .rintro i σ H5 _ ⟨kvs,y3,y4,y5,rfl,rfl,_⟩;exact(A2 _).seq hR
 .rintro i x σ H5 ex ⟨kvs,y3,y4,y5,rfl,rfl,hk⟩
  ac_nf0
  rw [bq] at ex;obtain⟨r,er,rfl⟩:=cq.mp ex;obtain⟨ru,e1,p,v1,v2⟩:=cV.get er;have li:=(bj.mp e1).1;have LZ:=h8 ru (cE e1);have eT:(aa.take (i+1)).flatMap (·.2)=(aa.take i).flatMap (·.2)++ru.2:=by
   rw [cQ,e1,List.flatMap_append];simp
  have lA:((aa.take i).flatMap (·.2)).length<=8 * i:=jj (aa.take i) i (by rw [dO];omega) λru gp=>h8 ru (qC gp);refine⟨r,_,rfl,(A2 _).tup v1,rfl,_,_,rfl,_,_,rfl,rfl,?_⟩
  let C9:sq:=λj σ H6=>∃(kvs:List (aL×V))(y5:Option V),σ=[aF R,aF d,aF e,some (.str ru.1),aF p,y5]/\H6=upd H3 e (.dK kvs) /\
   kvs.map (·.1)=(sJ (hd aa) [] ((aa.take i).flatMap (·.2)++ru.2.take j)).map Sum.inr
  refine⟨_,rfl,p,rfl,⟨_,(A2 _).tup v2⟩,Bq (xs:=ru.2.map V.str) C9 ⟨kvs,_,rfl,rfl,by rw [List.take_zero,gG];exact hk⟩ ?_ ?_ ?_⟩
  .rintro j σ H6 _ ⟨kvs,y5,rfl,rfl,_⟩;exact(A2 _).tup v2
  .rintro j x σ H6 jm ⟨kvs,y5,rfl,rfl,Cy⟩
   ac_nf0
   rw [bq] at jm;obtain⟨z,ez,rfl⟩:=cq.mp jm;have lj:=(bj.mp ez).1;have eS:sJ (hd aa) [] ((aa.take i).flatMap (·.2)++ru.2.take (j+1))=addW (hd aa) (sJ (hd aa) [] ((aa.take i).flatMap (·.2)++ru.2.take j)) z:=by
    rw [cQ,ez,<-jD];exact uQ
   have lk:kvs.length<=8 * i+8:=by
    have h1:kvs.length=(sJ (hd aa) [] ((aa.take i).flatMap (·.2)++ru.2.take j)).length:=by
     have:=congrArg List.length Cy;rw [ax,ax] at this;exact this
    have h2:=vb (hd aa) ((aa.take i).flatMap (·.2)++ru.2.take j) [];rw [bU,dO] at h2;simp only [jP] at h2;omega
   have mem:(bu kH (Sum.inr z)).isSome=true↔z∈hd aa:=by rw [eV,Jy];exact c_
   refine⟨_,rfl,_,rfl,d,_,rfl,cK.k (k:=Sum.inr z) (hde _),_,rfl,?_⟩;refine cu (λc=>?_) (λc=>?_)
   .have nm:z∉hd aa:=λh=>by rw [mem.mpr h] at c;exact absurd c nofun
    refine⟨_,rfl,_,rfl,e,_,rfl,l7.k (k:=Sum.inr z) ae (br ∅),?_⟩;refine⟨bN kvs (Sum.inr z) (.bl true),_,rfl,by rw [mx],?_⟩;rw [eS];unfold addW;rw [au nm];exact jb Cy z
   have im:z∈hd aa:=mem.mp (by
    cases h:(bu kH (Sum.inr z)).isSome with
    | true=>rfl
    | false=>exact absurd (by rw [h];rfl) c)
   refine⟨kvs,_,rfl,rfl,?_⟩;rw [eS];unfold addW;rw [ar im];exact Cy
  rintro σ H6 ⟨kvs,y5,rfl,rfl,Cy⟩;rw [ax,cH,<-eT] at Cy;exact⟨kvs,_,_,_,rfl,rfl,Cy⟩
 rintro σ H5 ⟨kvs,y3,y4,y5,rfl,rfl,hk⟩;rw [ax,ll,cH] at hk;refine⟨_,rfl,e,_,rfl,ae,λD2 jL=>?_⟩;rw [keys_str hk];exact q D2 _ ((A2 _).free jL) ((A2 _).trans (af jL _)) ae
end
end h_
namespace L2
open PySem
section
variable {K:ba}{a D:Addr}{xs:List V}{ts:List Str}{js:List (Nat×Str)}{g:TG}{tif:TT}{te:TE}{R:Hp->Prop}{σ:St}{H:Hp}
def gB (Pv:Nat->List V->St->Hp->Prop)(h0:Pv 0 [] (dJ ts js σ) (upd H D (.lst [])))(hl:∀i ys σ H,i<=xs.length->Pv i ys σ H->aS K H a xs)
  (hs:∀i x ys σ H,xs[i]?=some x->Pv i ys σ H->g x σ H λσ2 H2=>tif σ2 H2 λb H3=>if b=true then te σ2 H3 λy H4=>H4 D=some (.lst ys)/\ys.length < sizeLine/\Pv (i+1) (ys++[y]) σ2 (upd H4 D (.lst (ys++[y]))) else Pv (i+1) ys σ2 H3)
  (hd:∀ys σ H,Pv xs.length ys σ H->R H) :
  ∃W:Nat->Nat->List V->St->Hp->Prop,(∃m,W 0 m [] (dJ ts js σ) (upd H D (.lst []))) /\
 ∀i m ys σ' H,W i m ys σ' H->((nF K a).stop i H/\R H)\/((nF K a).go i H/\∃m',m' < m/\∀x H',(nF K a).kX i H x H'->g x σ' H' λσ2 H2=>tif σ2 H2 λb H3 =>
  if b=true then te σ2 H3 λy H4=>H4 D=some (.lst ys)/\ys.length < sizeLine/\W (i+1) m' (ys++[y]) σ2 (upd H4 D (.lst (ys++[y]))) else W (i+1) m' ys σ2 H3):=by
 refine⟨λi m ys σ H=>m=xs.length - i/\i<=xs.length/\Pv i ys σ H,⟨xs.length,by simp,g9 _,h0⟩,?_⟩;rintro i m ys σ' H ⟨rfl,hi,p⟩;have q:=hl i ys σ' H hi p;by_cases jI:i < xs.length
 .refine .inr ⟨⟨xs,xs[i],q,by simp [jI]⟩,xs.length - (i+1),∅,λx H' y=>?_⟩;obtain⟨e,y⟩:=y;subst e;have z:=hs i x ys σ' _ (y xs q) p;have h1:(i+1<=xs.length)=True:=eq_true jI;simp only [h1,true_and];exact z
 have e:i=xs.length:=by omega
 subst e;exact .inl ⟨⟨xs,q,aE _⟩,hd ys σ' H p⟩
def yb (Pv:Nat->List V->St->Hp->Prop)(h0:Pv 0 [] (dJ ts js σ) (upd H D (.lst [])))(hl:∀i ys σ H,i<=xs.length->Pv i ys σ H->aS K H a xs)
  (hs:∀i x ys σ H t,xs[i]?=some x->Pv i ys σ H->H t=none->g (.ref t) σ (upd H t (.tup [.int (i:Int),x])) λσ2 H2=>tif σ2 H2 λb H3=>if b=true then te σ2 H3 λy H4=>H4 D=some (.lst ys)/\ys.length < sizeLine/\Pv (i+1) (ys++[y]) σ2 (upd H4 D (.lst (ys++[y]))) else Pv (i+1) ys σ2 H3)
  (hd:∀ys σ H,Pv xs.length ys σ H->R H) :
  ∃W:Nat->Nat->List V->St->Hp->Prop,(∃m,W 0 m [] (dJ ts js σ) (upd H D (.lst []))) /\
 ∀i m ys σ' H,W i m ys σ' H->((sr K a).stop i H/\R H)\/((sr K a).go i H/\∃m',m' < m/\∀x H',(sr K a).kX i H x H'->g x σ' H' λσ2 H2=>tif σ2 H2 λb H3 =>
  if b=true then te σ2 H3 λy H4=>H4 D=some (.lst ys)/\ys.length < sizeLine/\W (i+1) m' (ys++[y]) σ2 (upd H4 D (.lst (ys++[y]))) else W (i+1) m' ys σ2 H3):=by
 refine⟨λi m ys σ H=>m=xs.length - i/\i<=xs.length/\Pv i ys σ H,⟨xs.length,by simp,g9 _,h0⟩,?_⟩;rintro i m ys σ' H ⟨rfl,hi,p⟩;have q:=hl i ys σ' H hi p;by_cases jI:i < xs.length
 .refine .inr ⟨⟨xs,xs[i],q,by simp [jI]⟩,xs.length - (i+1),∅,λx H' y=>?_⟩;obtain⟨t,y0,rfl,ht,rfl,y⟩:=y;have z:=hs i y0 ys σ' _ t (y xs q) p ht;have h1:(i+1<=xs.length)=True:=eq_true jI;simp only [h1,true_and];exact z
 have e:i=xs.length:=by omega
 subst e;exact .inl ⟨⟨xs,q,aE _⟩,hd ys σ' H p⟩
end
def ka {K:ba}{a:Addr}{xs:List V}{g:TG}{tb:TS}{D:Ends}{σ:St}{H:Hp}(Pv:Nat->St->Hp->Prop)(h0:Pv 0 σ H)(hl:∀i σ H,i<=xs.length->Pv i σ H->aK K H a xs)
  (hs:∀i x σ H t,xs[i]?=some x->Pv i σ H->H t=none->g (.ref t) σ (upd H t (.tup [.int (i:Int),x])) λσ2 H2=>tb { D with nx:=Pv (i+1),ct:=Pv (i+1),bk:=D.nx } σ2 H2)(hd:∀σ H,Pv xs.length σ H->D.nx σ H) :
  ∃W:Nat->Nat->St->Hp->Prop,(∃m,W 0 m σ H)/\∀i m σ H,W i m σ H ->
   ((QJ K a).stop i H/\D.nx σ H)\/((QJ K a).go i H/\∃N:St->Hp->Prop,(∀σ' H',N σ' H'->∃m',m' < m/\W (i+1) m' σ' H')/\∀x H',(QJ K a).kX i H x H'->g x σ H' λσ2 H2=>tb { D with nx:=N,ct:=N,bk:=D.nx } σ2 H2):=by
 refine⟨λi m σ H=>m=xs.length - i/\i<=xs.length/\Pv i σ H,⟨xs.length,by simp,g9 _,h0⟩,?_⟩;rintro i m σ H ⟨rfl,hi,p⟩;have q:=hl i σ H hi p;by_cases jI:i < xs.length
 .refine .inr ⟨⟨xs,xs[i],q,by simp [jI]⟩,Pv (i+1),λσ' H' p'=>⟨xs.length - (i+1),∅,rfl,jI,p'⟩,λx H' y=>?_⟩;obtain⟨t,y0,rfl,ht,rfl,y⟩:=y;exact hs i y0 σ _ t (y xs q) p ht
 have e:i=xs.length:=by omega
 subst e;exact .inl ⟨⟨xs,q,aE _⟩,hd σ H p⟩
def oR {K:ba}{a:Addr}{xs:List V}{g:TG}{tb:TS}{D:Ends}{σ:St}{H:Hp}(Pv:Nat->St->Hp->Prop)(h0:Pv 0 σ H)(hl:∀i σ H,i<=xs.length->Pv i σ H->aS K H a xs)
  (hs:∀i x σ H t,xs[i]?=some x->Pv i σ H->H t=none->g (.ref t) σ (upd H t (.tup [.int (i:Int),x])) λσ2 H2=>tb { D with nx:=Pv (i+1),ct:=Pv (i+1),bk:=D.nx } σ2 H2)(hd:∀σ H,Pv xs.length σ H->D.nx σ H) :
  ∃W:Nat->Nat->St->Hp->Prop,(∃m,W 0 m σ H)/\∀i m σ H,W i m σ H ->
   ((sr K a).stop i H/\D.nx σ H)\/((sr K a).go i H/\∃N:St->Hp->Prop,(∀σ' H',N σ' H'->∃m',m' < m/\W (i+1) m' σ' H')/\∀x H',(sr K a).kX i H x H'->g x σ H' λσ2 H2=>tb { D with nx:=N,ct:=N,bk:=D.nx } σ2 H2):=by
 refine⟨λi m σ H=>m=xs.length - i/\i<=xs.length/\Pv i σ H,⟨xs.length,by simp,g9 _,h0⟩,?_⟩;rintro i m σ H ⟨rfl,hi,p⟩;have q:=hl i σ H hi p;by_cases jI:i < xs.length
 .refine .inr ⟨⟨xs,xs[i],q,by simp [jI]⟩,Pv (i+1),λσ' H' p'=>⟨xs.length - (i+1),∅,rfl,jI,p'⟩,λx H' y=>?_⟩;obtain⟨t,y0,rfl,ht,rfl,y⟩:=y;exact hs i y0 σ _ t (y xs q) p ht
 have e:i=xs.length:=by omega
 subst e;exact .inl ⟨⟨xs,q,aE _⟩,hd σ H p⟩
def uz {K:ba}{H:Hp}{p D d:Addr}{zs:List Str}{kvs:List (aL×V)}{σ:St}{js:List (Nat×Str)}{Qp:Hp->Prop}(hσ:dJ ["part"] js σ=[none,aF d])(hp:aS K H p (zs.map V.str))(hz:zs.length<=1000)
  (hd:H d=some (.dK kvs))(hD:H D=none)(q:∀H2,aC H H2->H2 D=some (.lst ((zs.map λz=>(bu kvs (Sum.inr z)).isSome).map V.bl))->Qp H2) :
  ∃W:Nat->Nat->List V->St->Hp->Prop,(∃m,W 0 m [] (dJ ["part"] js σ) (upd H D (.lst []))) /\
 ∀i m ys σ' H,W i m ys σ' H->((nF K p).stop i H/\Qp H)\/((nF K p).go i H/\∃m',m' < m/\∀x H',(nF K p).kX i H x H'->dB 0 x σ' H' λσ2 H2=>gP σ2 H2 λb H3 =>
  if b=true then N5 (gE 0) (gE 1) σ2 H3 λy H4=>H4 D=some (.lst ys)/\ys.length < sizeLine/\W (i+1) m' (ys++[y]) σ2 (upd H4 D (.lst (ys++[y]))) else W (i+1) m' ys σ2 H3):=by
 refine gB (xs:=zs.map V.str) (λi ys σ2 H2=>ys=(((zs.take i).map λz=>(bu kvs (Sum.inr z)).isSome).map V.bl)/\(∃y0,σ2=[y0,aF d])/\aC H H2/\H2 D=some (.lst ys))
  ⟨rfl,⟨none,hσ⟩,af hD _,ae⟩ (λi ys σ2 H2 _ h=>h.2.2.1.tup hp) (λi x ys σ2 H2 ex h=>?_) (λys σ2 H2 h=>?_)
 .obtain⟨rfl,⟨y0,rfl⟩,sm,hd2⟩:=h;rw [bq] at ex;obtain⟨z,ez,rfl⟩:=cq.mp ex;have li:=(bj.mp ez).1;refine goN (wQ ?_);refine⟨_,rfl,_,rfl,d,_,rfl,cK.k (k:=Sum.inr z) (sm _ _ hd),hd2,br (by rw [ax,ax,dO];omega),?_,⟨_,rfl⟩,?_,ae⟩
  .rw [cQ,ez,bB,bB];rfl
  intro b o hb;rw [ak (λz=>by rw [z,hD] at hb;cases hb)];exact sm b o hb
 obtain⟨rfl,_,sm,hd2⟩:=h;rw [ax,cH] at hd2;exact q H2 sm hd2
def hJ {K:ba}{H:Hp}{D a:Addr}{xs:List V}{ys:List (aL×V)}{o:HO}(hD:H D=some (.dK ys))(h:aS K H a xs):aS K (upd H D o) a xs:=by
 rcases h with (h | ⟨u,h⟩) | h
 .exact .inl (.inl (by rw [ak (λz=>by rw [z,hD] at h;cases h)];exact h))
 .exact .inl (.inr ⟨u,by rw [ak (λz=>by rw [z,hD] at h;cases h)];exact h⟩)
 exact .inr h
theorem gy {α:Type} [DecidableEq α]:∀(l m:List α),l.Nodup->(∀x∈l,x∈m)->l.length<=m.length
 | [],m,_,_=>g9 _
 | a::l,m,hn,h=>by
  have hm:=h a bK;have:=gy l (m.erase a) (iB.mp hn).2 λx hx=>(List.mem_erase_of_ne (λz:x=a=>(iB.mp hn).1 (by rw [<-z];exact hx))).mpr (h x (bW _ hx));rw [yG hm] at this;have:=yC hm;rw [dG];omega
end L2
namespace M11
open PySem L2
inductive sO (aa:List aw):List (Str×Nat)->Prop
 | nil:sO aa []
 | snoc {aX:List (Str×Nat)}{k:Nat}{ru:aw}:sO aa aX->aa[k]?=some ru->ru.1∉aX.map (·.1)->(∀p∈ru.2,p∈aX.map (·.1))->sO aa (aX++[(ru.1,k)])
def su (aa:List aw) (n:Nat)(aX:List (Str×Nat)):Prop:=∀ru∈aa.take n,(∀p∈ru.2,p∈aX.map (·.1))->ru.1∈aX.map (·.1)
def sO.nd {aa:List aw}{aX:List (Str×Nat)}(h:sO aa aX):(aX.map (·.1)).Nodup:=by
 induction h with
 | nil=>exact iN
 | snoc h e n p ih =>
  rw [bB];refine jE.mpr ⟨ih,by simp,λa ha b hb=>?_⟩;rw [tu,cO] at hb;exact λz=>n (by rw [<-hb,<-z];exact ha)
def sO.head {aa:List aw}{aX:List (Str×Nat)}(h:sO aa aX):∀x∈aX.map (·.1),x∈aa.map (·.1):=by
 induction h with
 | nil=>simp
 | snoc h e n p ih =>
  intro x hx;rw [bB] at hx;rcases cD.mp hx with hx | hx
  .exact ih x hx
  rw [tu,cO] at hx;rw [hx];exact iC (cE e)
def sO.len {aa:List aw}{aX:List (Str×Nat)}(h:sO aa aX):aX.length<=aa.length:=by
 have:=gy _ _ h.nd h.head;rw [ax,ax] at this;exact this
end M11
namespace h_
open PySem L2 M11
section
def nH (K:ba)(H:Hp)(ts:List Addr)(aX:List (Str×Nat)):Prop:=Paired (λt (e:Str×Nat)=>aS K H t [.str e.1,.int (e.2:Int)]) ts aX
def nH.keep {H H':Hp}{ts:List Addr}{aX:List (Str×Nat)}(h:nH K H ts aX)(k:∀a xs,aS K H a xs->aS K H' a xs):nH K H' ts aX:=Paired.di h λt e z=>k _ _ z
structure BP (K:ba)(aa:List aw)(H H5:Hp)(D d:Addr)(ts:List Addr)(aX:List (Str×Nat))(kvs:List (aL×V)):Prop where
 sm:aC H H5
 hD:H5 D=some (.lst (ts.map V.ref))
 hd:H5 d=some (.dK kvs)
 keys:kvs.map (·.1)=(aX.map (·.1)).map Sum.inr
 ev:nH K H5 ts aX
 emp:sO aa aX
def BP.same {aa:List aw}{H H5 H6:Hp}{D d:Addr}{ts:List Addr}{aX:List (Str×Nat)}{kvs:List (aL×V)}(h:BP K aa H H5 D d ts aX kvs)(s:aC H5 H6):BP K aa H H6 D d ts aX kvs :=
 ⟨h.sm.trans s,s _ _ h.hD,s _ _ h.hd,h.keys,h.ev.keep λ_ _ z=>s.tup z,h.emp⟩
def BP.mem {aa:List aw}{H H5:Hp}{D d:Addr}{ts:List Addr}{aX:List (Str×Nat)}{kvs:List (aL×V)}(h:BP K aa H H5 D d ts aX kvs)(z:Str):(bu kvs (Sum.inr z)).isSome=true↔z∈aX.map (·.1):=by
 rw [eV,h.keys];exact c_
def BP.len {aa:List aw}{H H5:Hp}{D d:Addr}{ts:List Addr}{aX:List (Str×Nat)}{kvs:List (aL×V)}(h:BP K aa H H5 D d ts aX kvs):ts.length=aX.length/\kvs.length=aX.length:=by
 refine⟨a0 h.ev,?_⟩;have:=congrArg List.length h.keys;simpa using this
def BP.more {aa:List aw}{H H5:Hp}{D d t:Addr}{ts:List Addr}{aX:List (Str×Nat)}{kvs:List (aL×V)}(h:BP K aa H H5 D d ts aX kvs)(fD:H D=none)(fd:H d=none){k:Nat}{ru:aw}(e:aa[k]?=some ru)
  (n:ru.1∉aX.map (·.1))(p:∀x∈ru.2,x∈aX.map (·.1))(ht:upd H5 d (.dK (bN kvs (Sum.inr ru.1) (.bl true))) t=none) :
  BP K aa H (upd (upd (upd H5 d (.dK (bN kvs (Sum.inr ru.1) (.bl true)))) t (.tup [.str ru.1,.int (k:Int)])) D (.lst (ts.map V.ref++[.ref t]))) D d (ts++[t]) (aX++[(ru.1,k)]) (bN kvs (Sum.inr ru.1) (.bl true)):=by
 have Xf:D≠d:=λz=>by have:=h.hD;rw [z,h.hd] at this;cases this
 have nt:t≠d:=λz=>by rw [z,ae] at ht;cases ht
 have O_:H5 t=none:=by rw [ak nt] at ht;exact ht
 have nDt:D≠t:=λz=>by rw [<-z,h.hD] at O_;cases O_
 have jL:upd (upd H5 d (.dK (bN kvs (Sum.inr ru.1) (.bl true)))) t (.tup [.str ru.1,.int (k:Int)]) D=some (.lst (ts.map V.ref)):=by rw [ak nDt,ak Xf];exact h.hD
 have kp:∀a xs,aS K H5 a xs->aS K (upd (upd (upd H5 d (.dK (bN kvs (Sum.inr ru.1) (.bl true)))) t (.tup [.str ru.1,.int (k:Int)])) D (.lst (ts.map V.ref++[.ref t]))) a xs:=λa xs z =>
  aP jL ((af ht _).tup (hJ h.hd z))
 refine⟨λb o hb=>?_,by rw [ae,bB];rfl,by rw [ak Xf.symm,ak nt.symm,ae],?_,fO (h.ev.keep kp) (aP jL (aS.of ae)),.snoc h.emp e n p⟩
 .have:=h.sm b o hb;rw [ak (λz=>by rw [z,fD] at hb;cases hb),ak (λz=>by rw [z,O_] at this;cases this),ak (λz=>by rw [z,fd] at hb;cases hb)];exact this
 rw [iP (by rw [h.keys];exact λz=>n (c_.mp z)),h.keys,bB,bB];rfl
def oo (K:ba):Sp:=λvs H Q _=>∃(R:Addr)(rs:List Addr)(aa:List aw),vs=[.ref R]/\aK K H R (rs.map V.ref)/\bL K H rs aa/\aa.length<=1000/\(∀ru∈aa,ru.2.length<=8) /\
 ∀D ts aX H',H D=none->aC H H'->H' D=some (.lst (ts.map V.ref))->nH K H' ts aX->sO aa aX->su aa aa.length aX->Q (.ref D) H'
def gT:aM ["rules","told","empty","many","number","rule"] ["rules"] (az qT):=jl rfl rfl rfl rfl nofun
def zH (F:iM K "found_empties" "found_empties" qT f fd)(T:Txt mg):bZ P w K mg base gw 1 f fd ["rules"] (oo K):=by
 refine F.ok gT (λvs H Q E h=>?_) (λeY A outer s H vs Q E hr h=>?_)
 .obtain⟨R,rs,aa,rfl,_⟩:=h;rfl
 obtain⟨R,rs,aa,rfl,hR,cV,bM,h8,q⟩:=h;have hu:=gM hr;refine⟨_,aj (aB (i:=1) gT.nd rfl (bo rfl) (bY ai))
  (aj (aB (i:=2) gT.nd rfl (Or.inr rfl) fZ)
  (aj (aB (i:=3) gT.nd rfl (bo rfl) (xq qI av))
  (aj (i8 cf (a8 mT (pv 3) (aI a9 rfl T.len fw (ab (pv 1) ai)) (cg _))
   (aj (aB (i:=3) gT.nd rfl (bo rfl) (aI a9 rfl T.len fw (ab (pv 1) ai)))
   (ao (bS cf rfl (mS rfl T.IB (ab (pv 0) ai)) (fJ rfl (aA (aq (i:=4) gT.nd rfl (bo rfl)) (aA (aq (i:=5) gT.nd rfl (bo rfl)) bH)))
    (ao (b9 (PW.pt (jw (gr (eI hu (bD bT (pv 5) av (λ_ _=>rfl)) (pv 2)))
      (ig (eK (aI (dU rfl) rfl T.all boot_all (ab (aV ["part"] [(2,"empty")] rfl (eQ (bD bT (pv 5) av (λ_ _=>rfl))) (aU rfl rfl) nofun rfl nofun
       (λ_ _ _ _ _=>aq (i:=0) (show (["part","empty"]:List Str).Nodup by decide +kernel) rfl (bo rfl)) (λ_ _ _ _ _=>bw) (λ_ _ _ _ _=>zy (lF hu (pv 0) (pv 1)))) ai))))))
     (aj (gY hu (pv 2) (bD bT (pv 5) av (λ_ _=>rfl)) eX rfl)
     (ao (b_ (f_ fV fX fY bE (pv 1) (ab (bC (ab (bD bT (pv 5) av (λ_ _=>rfl)) (ab (pv 4) ai))) ai))))) aY))))))
  (ao (bz (pv 1)))))),?_⟩
 nofun
 refine⟨tI,λD hD d hd=>?_⟩;have OE:d≠D:=λz=>by rw [z,ae] at hd;cases hd
 have uo:H d=none:=by rw [ak OE] at hd;exact hd
 have e0:BP K aa H (upd (upd H D (.lst [])) d (.dK [])) D d [] [] []:=⟨(af hD _).trans (af hd _),by rw [ak OE.symm,ae];rfl,ae,rfl,.nil,.nil⟩;generalize upd (upd H D (.lst [])) d (.dK [])=H0 at e0;refine⟨1,rfl,?_⟩;refine⟨λm σ H5=>∃(ts:List Addr)(aX:List (Str×Nat))(kvs:List (aL×V)) (many:Int)(y4 y5:Option V),σ=[aF R,aF D,aF d,some (.int many),y4,y5]/\BP K aa H H5 D d ts aX kvs/\-1<=many/\many<=aX.length/\(many=aX.length->su aa aa.length aX)/\(m:Int)=aa.length+1 - many,
  ⟨aa.length+2,[],[],[],-1,none,none,rfl,e0,∅,by simp,by simp,by simp;omega⟩,?_⟩
 rintro m σ H5 ⟨ts,aX,kvs,many,y4,y5,rfl,S,b1,b2,cl,em⟩;obtain⟨lt,lk⟩:=S.len;refine⟨_,rfl,_,rfl,D,_,rfl,.inl (aK.of S.hD),_,_,rfl,rfl,_,rfl,?_⟩;refine cu (λc=>?_) (λc=>?_)
 .have c':=cS c;rw [ax,lt] at c';refine⟨λσ H5=>∃(wK:List Addr)(il:List (Str×Nat))(fu:List (aL×V))(y4 y5:Option V),σ=[aF R,aF D,aF d,some (.int (aX.length:Int)),y4,y5]/\BP K aa H H5 D d wK il fu/\aX.length<=il.length/\(il.length=aX.length->su aa aa.length il),?_,?_⟩
  .rintro σ H6 ⟨wK,il,fu,y4,y5,rfl,S2,l2,c2⟩;have:=S2.emp.len;exact⟨(aa.length+1 - aX.length:Int).toNat,∅,wK,il,fu,_,_,_,rfl,S2,∅,∅,λz=>c2 ∅,∅⟩
  refine⟨_,rfl,D,_,rfl,.inl (aK.of S.hD),?_⟩;rw [ax,lt];refine⟨_,rfl,R,_,rfl,S.sm.seq hR,?_⟩;refine ka (xs:=rs.map V.ref) (λi σ H6=>∃(wK:List Addr)(il:List (Str×Nat))(fu:List (aL×V))(y4 y5:Option V),σ=[aF R,aF D,aF d,some (.int (aX.length:Int)),y4,y5]/\BP K aa H H6 D d wK il fu/\aX.length<=il.length/\(il.length=aX.length->su aa i il))
   ⟨ts,aX,kvs,_,_,rfl,S,aE _,λ_ ru gp=>by simp at gp⟩ ?_ ?_ ?_
  .rintro i σ H6 _ ⟨wK,il,fu,y4,y5,rfl,S2,_⟩;exact S2.sm.seq hR
  .rintro i x σ H6 t ex ⟨wK,il,fu,y4,y5,rfl,S2,l2,c2⟩ ht
   ac_nf0
   rw [bq] at ex;obtain⟨r,er,rfl⟩:=cq.mp ex;obtain⟨ru,e1,p,v1,v2⟩:=cV.get er;have LZ:=h8 ru (cE e1);have S3:=S2.same (af ht (.tup [.int (i:Int),.ref r]));have M9:aS K (upd H6 t (.tup [.int (i:Int),.ref r])) t [.int (i:Int),.ref r]:=aS.of ae;generalize upd H6 t (.tup [.int (i:Int),.ref r])=H7 at S3 M9;obtain⟨lt2,Rg⟩:=S3.len;have el2:=S3.emp.len;have tk:aa.take (i+1)=aa.take i++[ru]:=by rw [cQ,e1];rfl
   have jY:(¬((∀p∈ru.2,p∈il.map (·.1))/\ru.1∉il.map (·.1)))->(il.length=aX.length->su aa (i+1) il):=λhn z zk rj hp=>by
    rw [tk] at rj;rcases cD.mp rj with h | h
    .exact c2 z zk h hp
    rw [cO.mp h] at hp ⊢;exact Classical.byContradiction λhc=>hn ⟨hp,hc⟩
   refine⟨t,_,rfl,M9,rfl,_,_,rfl,_,_,rfl,rfl,?_⟩;refine⟨_,rfl,r,_,_,_,rfl,rfl,S3.sm.tup v1,rfl,?_⟩;refine⟨_,rfl,d,_,rfl,cK.k (k:=Sum.inr ru.1) S3.hd,_,rfl,?_⟩;refine cu (λc3=>?_) (λc3=>?_)
   .have nm:ru.1∉il.map (·.1):=λh=>by rw [(S3.mem _).mpr h] at c3;exact absurd c3 nofun
    refine⟨_,rfl,r,_,_,_,rfl,rfl,S3.sm.tup v1,rfl,p,rfl,⟨_,S3.sm.tup v2⟩,λD2 jL=>uz rfl (S3.sm.tup v2) ∅ S3.hd jL λH8 MV Py=>?_⟩;have S4:=S3.same MV;refine⟨D2,_,rfl,aK.of Py,_,rfl,?_⟩;refine cu (λc4=>?_) (λc4=>?_)
    .have al:∀x∈ru.2,x∈il.map (·.1):=λx hx=>(S4.mem x).mp (dN.mp c4 _ (iC hx));refine⟨_,rfl,_,rfl,r,_,_,_,rfl,rfl,S4.sm.tup v1,rfl,d,_,rfl,l7.k (k:=Sum.inr ru.1) S4.hd (br ∅),?_⟩;have ZD:aS K (upd H8 d (.dK (bN fu (Sum.inr ru.1) (.bl true)))) r [.str ru.1,.ref p]:=hJ S4.hd (S4.sm.tup v1);have LW:upd H8 d (.dK (bN fu (Sum.inr ru.1) (.bl true))) D=some (.lst (wK.map V.ref)):=by rw [ak (λz=>by have:=S4.hD;rw [z,S4.hd] at this;cases this)];exact S4.hD
     refine⟨_,rfl,.inl ⟨rfl,_,aK.of LW⟩,_,rfl,r,_,_,_,rfl,rfl,ZD,rfl,_,rfl,kN,λt2 jH=>?_⟩;refine⟨D,_,_,rfl,rfl,(by rw [ak (ay LW jH)];exact LW),br (by rw [ax];omega),?_⟩;have S5:=S4.more hD uo e1 nm al jH;exact⟨wK++[t2],il++[(ru.1,i)],_,_,_,rfl,S5,by rw [bU];omega,λz=>by rw [bU] at z;simp at z;omega⟩
    refine⟨wK,il,fu,_,_,rfl,S4,l2,jY λ⟨ha,_⟩=>c4 (dN.mpr λb hb=>?_)⟩;obtain⟨x,hx,rfl⟩:=bV.mp hb;exact(S4.mem x).mpr (ha x hx)
   refine⟨wK,il,fu,_,_,rfl,S3,l2,jY λ⟨_,hn⟩=>c3 ?_⟩;cases hq:(bu fu (Sum.inr ru.1)).isSome with
   | true=>exact absurd ((S3.mem _).mp hq) hn
   | false=>rfl
  rintro σ H6 ⟨wK,il,fu,y4,y5,rfl,S2,l2,c2⟩;rw [ax,a0 cV] at c2;exact⟨wK,il,fu,_,_,rfl,S2,l2,c2⟩
 have c':=of_decide_eq_false (qw.mpr c);rw [ax,lt] at c';exact⟨_,rfl,q D ts aX H5 hD S.sm S.hD S.ev S.emp (cl ∅)⟩
end
end h_
namespace M11
open PySem L2
def xQ (b:Str->Bool):List Str->Nat
 | []=>0
 | z::r=>if b z=true then xQ b r+1 else 1
theorem Bp (b:Str->Bool):∀zs:List Str,(∀z∈zs,b z=true)->xQ b zs=zs.length
 | [],_=>rfl
 | z::r,h=>by
  unfold xQ;rw [ar (h z bK),Bp b r λx hx=>h x (bW _ hx)];rfl
theorem FT (b:Str->Bool):∀(zs:List Str) (i:Nat)(z:Str),(∀x∈zs.take i,b x=true)->zs[i]?=some z->¬b z=true->xQ b zs=i+1
 | y::r,0,z,_,e,n=>by
  cases e;unfold xQ;rw [au n]
 | y::r,i+1,z,h,e,n=>by
  unfold xQ;rw [ar (h y (by rw [qA];exact bK)),FT b r i z (λx hx=>h x (by rw [qA];exact bW _ hx)) e n]
theorem FR (b:Str->Bool):∀zs:List Str,xQ b zs<=zs.length
 | []=>aE _
 | z::r=>by
  have:=FR b r;unfold xQ;rw [dG]
  split <;> omega
def cnt (n:Nat):List V:=(List.range n).map λk:Nat=>V.int (k:Int)
end M11
namespace h_
open PySem L2 M11
section
def AU (K:ba):Sp:=λvs H Q _=>∃(R:Addr)(rs:List Addr)(aa:List aw),vs=[.ref R]/\aK K H R (rs.map V.ref)/\bL K H rs aa/\aa.length<=1000/\(∀ru∈aa,ru.2.length<=8)/\(aa.flatMap (·.2)).Nodup /\
 ∀H',aC H H'->Q .fc H'
def mH:aM ["strengths","met","way","words","word"] ["strengths"] (az yX):=jl rfl rfl rfl rfl nofun
def EY (F:iM K "refuse_twice" "refuse_twice" yX f fd)(T:Txt mg):bZ P w K mg base gw 1 f fd ["strengths"] (AU K):=by
 refine F.ok mH (λvs H Q E h=>?_) (λeY A outer s H vs Q E hr h=>?_)
 .obtain⟨R,rs,aa,rfl,_⟩:=h;rfl
 obtain⟨R,rs,aa,rfl,hR,cV,bM,h8,Ro,q⟩:=h;have hu:=gM hr;refine⟨_,aj (aB (i:=1) mH.nd rfl (bo rfl) fZ)
  (ao (bS cf rfl (aQ (pv 0)) (fJ rfl (aA (aq (i:=2) mH.nd rfl (bo rfl)) (aA (aq (i:=3) mH.nd rfl (bo rfl)) bH)))
   (ao (bS cf rfl (eQ (pv 3)) (aq (i:=4) mH.nd rfl (bo rfl))
    (aj (b9 (gr (lF hu (pv 4) (pv 1))) (ao iG) aY) (ao (gY hu (pv 1) (pv 4) eX rfl))))))),?_⟩
 nofun
 intro e he;have A2:∀o,aC H (upd H e o):=λo=>af he o;have ll:=a0 cV
 let wD:sq:=λi σ H5=>∃(kvs:List (aL×V))(y3 y4 y5:Option V),σ=[aF R,aF e,y3,y4,y5]/\H5=upd H e (.dK kvs) /\
  kvs.map (·.1)=((aa.take i).flatMap (·.2)).map Sum.inr
 refine⟨_,rfl,R,rfl,⟨_,(A2 _).seq hR⟩,cv (xs:=rs.map V.ref) wD ⟨[],none,none,none,rfl,rfl,rfl⟩ ?_ ?_ ?_⟩
 .rintro i σ H5 _ ⟨kvs,y3,y4,y5,rfl,rfl,_⟩;exact(A2 _).seq hR
 .rintro i x σ H5 ex ⟨kvs,y3,y4,y5,rfl,rfl,hk⟩
  ac_nf0
  rw [bq] at ex;obtain⟨r,er,rfl⟩:=cq.mp ex;obtain⟨ru,e1,p,v1,v2⟩:=cV.get er;have li:=(bj.mp e1).1;have LZ:=h8 ru (cE e1);have eT:(aa.take (i+1)).flatMap (·.2)=(aa.take i).flatMap (·.2)++ru.2:=by
   rw [cQ,e1,List.flatMap_append];simp
  have lA:((aa.take i).flatMap (·.2)).length<=8 * i:=jj (aa.take i) i (by rw [dO];omega) λru gp=>h8 ru (qC gp);have Fh:((aa.take i).flatMap (·.2)++ru.2).Nodup:=by
   have e2:aa.flatMap (·.2)=((aa.take i).flatMap (·.2)++ru.2)++(aa.drop (i+1)).flatMap (·.2):=by
    rw [<-eT,<-List.flatMap_append,List.take_append_drop]
   rw [e2] at Ro;exact(jE.mp Ro).1
  refine⟨r,_,rfl,(A2 _).tup v1,rfl,_,_,rfl,_,_,rfl,rfl,?_⟩
  let C9:sq:=λj σ H6=>∃(kvs:List (aL×V))(y5:Option V),σ=[aF R,aF e,some (.str ru.1),aF p,y5]/\H6=upd H e (.dK kvs) /\
   kvs.map (·.1)=((aa.take i).flatMap (·.2)++ru.2.take j).map Sum.inr
  refine⟨_,rfl,p,rfl,⟨_,(A2 _).tup v2⟩,Bq (xs:=ru.2.map V.str) C9 ⟨kvs,_,rfl,rfl,by rw [List.take_zero,gG];exact hk⟩ ?_ ?_ ?_⟩
  .rintro j σ H6 _ ⟨kvs,y5,rfl,rfl,_⟩;exact(A2 _).tup v2
  .rintro j x σ H6 jm ⟨kvs,y5,rfl,rfl,Cy⟩
   ac_nf0
   rw [bq] at jm;obtain⟨z,ez,rfl⟩:=cq.mp jm;have lj:=(bj.mp ez).1;have eS:ru.2.take (j+1)=ru.2.take j++[z]:=by rw [cQ,ez];rfl
   have lk:kvs.length<=8 * i+8:=by
    have h1:=congrArg List.length Cy;rw [ax,ax,bU,dO] at h1;omega
   have nz:z∉(aa.take i).flatMap (·.2)++ru.2.take j:=λhz=>by
    have e3:(aa.take i).flatMap (·.2)++ru.2=((aa.take i).flatMap (·.2)++ru.2.take j)++([z]++ru.2.drop (j+1)):=by
     rw [jD,<-jD (ru.2.take j),<-eS,List.take_append_drop]
    rw [e3] at Fh;exact(jE.mp Fh).2.2 z hz z (by simp) rfl
   have nk:¬(Sum.inr z:aL)∈kvs.map (·.1):=by rw [Cy];exact λh=>nz (c_.mp h)
   refine⟨_,rfl,_,rfl,e,_,rfl,cK.k (k:=Sum.inr z) ae,_,rfl,?_⟩;refine cu (λc=>absurd ((eV kvs _).mp c) nk) (λ_=>?_);refine⟨_,rfl,_,rfl,e,_,rfl,l7.k (k:=Sum.inr z) ae (br ∅),?_⟩;refine⟨bN kvs (Sum.inr z) (.bl true),_,rfl,by rw [mx],?_⟩;rw [iP nk,Cy,eS,<-jD];simp only [bB,cA,kU]
  rintro σ H6 ⟨kvs,y5,rfl,rfl,Cy⟩;rw [ax,cH,<-eT] at Cy;exact⟨kvs,_,_,_,rfl,rfl,Cy⟩
 rintro σ H5 ⟨kvs,y3,y4,y5,rfl,rfl,hk⟩;exact q _ (A2 _)
def xc (K:ba):Sp:=λvs H Q _=>∃(p d:Addr) (zs:List Str)(kvs:List (aL×V)),vs=[.ref p,.ref d]/\aS K H p (zs.map V.str)/\zs.length<=1000/\H d=some (.dK kvs) /\
 ∀D H',H D=none->aC H H'->H' D=some (.lst (cnt (xQ (λz=>(bu kvs (Sum.inr z)).isSome) zs)))->Q (.ref D) H'
def mI:aM ["parts","empty","places","place","part"] ["parts","empty"] (az vB):=jl rfl rfl rfl rfl nofun
def Cd (F:iM K "first_places" "first_places" vB f fd)(T:Txt mg):bZ P w K mg base gw 1 f fd ["parts","empty"] (xc K):=by
 refine F.ok mI (λvs H Q E h=>?_) (λeY A outer s H vs Q E hr h=>?_)
 .obtain⟨p,d,zs,kvs,rfl,_⟩:=h;rfl
 obtain⟨p,d,zs,kvs,rfl,hp,hz,hd,q⟩:=h;have hu:=gM hr;refine⟨_,aj (aB (i:=2) mI.nd rfl (bo rfl) (bY ai))
  (aj (bS cf rfl (mR rfl T.IB (ab (pv 0) ai)) (fJ rfl (aA (aq (i:=3) mI.nd rfl (bo rfl)) (aA (aq (i:=4) mI.nd rfl (bo rfl)) bH)))
   (aj (b_ (f_ fV fX fY bE (pv 2) (ab (pv 3) ai)))
   (ao (b9 (gr (eI hu (pv 4) (pv 1))) (ao EF) aY))))
  (ao (bz (pv 2)))),?_⟩
 nofun
 refine⟨tI,λD hD=>?_⟩;have up1:∀n,cnt n++[V.int (n:Int)]=cnt (n+1):=λn=>by
  unfold cnt;rw [List.range_succ,bB];rfl
 refine⟨_,rfl,p,_,rfl,(af hD _).tup hp,?_⟩
 let QI:sq:=λi σ H5=>∃(y3 y4:Option V),σ=[aF p,aF d,aF D,y3,y4]/\aC H H5/\H5 D=some (.lst (cnt i))/\∀z∈zs.take i,(bu kvs (Sum.inr z)).isSome=true
 refine oR (xs:=zs.map V.str) QI
  ⟨none,none,rfl,af hD _,ae,by simp⟩ ?_ ?_ ?_
 .rintro i σ H5 _ ⟨y3,y4,rfl,sm,_⟩;exact sm.tup hp
 .rintro i x σ H5 t ex ⟨y3,y4,rfl,sm,Pz,pK⟩ ht
  ac_nf0
  rw [bq] at ex;obtain⟨z,ez,rfl⟩:=cq.mp ex;have li:=(bj.mp ez).1;have vk:=sm.trans (af ht (.tup [.int (i:Int),.str z]));have jL:upd H5 t (.tup [.int (i:Int),.str z]) D=some (.lst (cnt i)):=by rw [ak (ay Pz ht)];exact Pz
  have hv:aS K (upd H5 t (.tup [.int (i:Int),.str z])) t [.int (i:Int),.str z]:=aS.of ae;generalize upd H5 t (.tup [.int (i:Int),.str z])=H6 at vk jL hv;have MX:aC H (upd H6 D (.lst (cnt i++[V.int (i:Int)]))):=λb o hb=>by
   rw [ak (λz=>by rw [z,hD] at hb;cases hb)];exact vk b o hb
  refine⟨t,_,rfl,hv,rfl,_,_,rfl,_,_,rfl,rfl,?_⟩;refine⟨_,rfl,.inl ⟨rfl,_,aK.of jL⟩,_,rfl,D,_,_,rfl,rfl,jL,br (by unfold cnt;rw [ax,uR];omega),?_⟩;refine⟨_,rfl,_,rfl,d,_,rfl,cK.k (k:=Sum.inr z) (MX _ _ hd),_,rfl,?_⟩;refine cu (λc=>?_) (λc=>?_)
  .refine⟨_,rfl,q D _ hD MX ?_⟩;rw [ae,up1,FT _ zs i z pK ez (λh=>by rw [h] at c;exact absurd c nofun)]
  refine⟨_,_,rfl,MX,by rw [ae,up1],λx hx=>?_⟩;rw [cQ,ez] at hx;rcases cD.mp hx with h | h
  .exact pK x h
  rw [Option.toList_some,cO] at h;subst h;cases hq:(bu kvs (Sum.inr x)).isSome with
  | true=>rfl
  | false=>exact absurd (by rw [hq];rfl) c
 rintro σ H5 ⟨y3,y4,rfl,sm,Pz,pK⟩;rw [ax] at Pz pK;rw [cH] at pK;exact⟨_,rfl,q D _ hD sm (by rw [Bp _ zs pK];exact Pz)⟩
end
end h_
namespace L2
open PySem
section
variable {prog:Program}{w:World}{K:Type} [DecidableEq K] {knd:KeyKind prog w K}{A:Around}{E:Value->Shared->Prop}
def sX {s:Shared}{d l:Addr}{items:Array Value}{n:Nat}{kvs more:List (K×Value)}{Q:Value->Shared->Prop}(hh:A.handled=none)(uo:s.heap.DictOf knd d kvs)(hx:s.heap.get? l=some { cls:=.type "list",data:=.seq items n })
  (hi:items.size=more.length)(hp:∀(m:Nat) kv,more[m]?=some kv->∃u,items[m]?=some u/\lZ knd s.heap u kv)(hz:kvs.length+more.length<=sizeLine)
  (h:∀h' t',h'.DictOf knd d (more.foldl (λa p=>stored a p.1 p.2) kvs)->(∀b o,b≠d->s.heap.get? b=some o->h'.get? b=some o)->Q .none { s with heap:=h',toks:=t' }) :
  wpAny (model prog w) A (call (.builtin "dict.update") [.ref d,.ref l]) Q E s:=by
 refine wpAny_call (codeAny_call_builtin yJ.plain PySem.F.entry_dict_update (yJ.check _ _ _ _ _ _ _ _ uo.typeIs (PySem.F.args_dict_update_2 _ _) ?_));unfold Builtin.«dict.update»;refine aD ?_;unfold Builtin.Dict.selfAndRest;refine aD (wpAny_notOrdered_dict uo.typeIs ?_);show wpAny _ _ (pure (d,[Value.ref l])) _ _ s;refine aR ?_;show wpAny _ _ (Builtin.Dict.updateFrom "dict.update" d (.ref l) [] .none) _ _ s;unfold Builtin.Dict.updateFrom;refine aD (jq (T := "list") ⟨_,hx,rfl⟩ ?_);rw [ar yP];refine aD (oJ hx hh λh1 t1 k1=>?_);refine aD (wpAny_rule ?_);have l1:=k1 _ _ hx;refine aD (nY ⟨_,l1,rfl,_,rfl⟩ ?_);have k2:∀b o,s.heap.get? b=some o->(h1.push { cls:=.type "list_iterator",data:=.fields #[.ref l,.int 0 0] }).get? b=some o:=λb o q=>cx _ (k1 _ _ q);refine aR ⟨nK fq _,F1 (knd:=knd) (A:=A) (l:=l) (items:=items) hh more 0 _ kvs _ _ (by rw [hi,nP]) ?_ ⟨_,dH _ rfl,rfl,rfl⟩ ⟨_,k2 _ _ hx,rfl,n,rfl⟩ (λm kv e=>?_) hz λh' t' hd k3=>?_⟩
 .obtain⟨o,es,ep,q,r⟩:=uo;exact⟨o,es,ep,k2 _ _ q,r⟩
 .obtain⟨u,e1,e2⟩:=hp m kv e;exact⟨u,by rw [nP];exact e1,e2.keep λb o _ q=>k2 b o q⟩
 exact h h' t' hd λb o n q=>k3 b o n (bX (bJ (k1 _ _ q))) (k2 b o q)
end
section
variable {X:Cx}{o e:Expr}{apos hX:Pos}{td ty:TE}
def N4 (K:ba)(td ty:TE):TE:=λσ H Q=>td σ H λx H1=>∃a,x=.ref a/\RT H1 a/\ty σ H1 λy H2=>∃l ts kvs more,y=.ref l/\H2 a=some (.dK kvs)/\H2 l=some (.lst (ts.map V.ref)) /\
 Paired (λt kv=>aS K H2 t [kV kv.1,kv.2]) ts more/\kvs.length+more.length<=sizeLine/\Q .fc (upd H2 a (.dK (cY more kvs)))
def HI (hc:X.calm=true)(ho:PE X o td)(he:PE X e ty)(m:M1 X o "update" apos e hX):PE X (.Call (.Attribute o "update" apos) [e] [] hX) (N4 X.K td ty):=by
 intro ag s σ H Q I h;refine wpAny_Call_method m.base m.nr m.line yF yJ PySem.F.type_dict_update (cW (ho ag s σ H _ I h) λu s1 bF=>?_);obtain⟨x,H1,I1,rx,a,ex,d,q1⟩:=bF;subst ex;obtain rfl:u=Value.ref a:=rx;obtain⟨t1,t2,_⟩:=zV I1 d;refine⟨t1,t2,?_⟩;rw [m.trees];refine uZ rfl (uS (s_ (cW (he ag s1 σ H1 _ I1 q1) λiv s2 bF=>?_)));obtain⟨y,H2,I2,ry,l,ts,kvs,more,ey,ea,el,p,hz,q2⟩:=bF;refine Calls.spliced_nil ?_;subst ey;cases (show iv=Value.ref l from ry);obtain⟨z,o9,vs,rel,dd⟩:=xV I2.b8 ea;obtain⟨z2,aT,n,rv,hl⟩:=(show cJ X.prog X.w H2 s2.heap l (.lst _) from I2.b8 l _ el);obtain⟨ms,r1,r2⟩:=pairs_at I2 p rv;have l1:=a0 r2;have l2:=r1.length;have l3:=a0 p;refine sX (I2.ok.hd hc) dd hl (by simpa using l1) (λm kv em=>?_) (by rw [<-rel.length,<-l2];exact hz) λh' t' hd kk=>?_
 .obtain⟨u,e1,e2⟩:=Paired.at_ r2 m kv em;exact⟨u,by simpa using e1,e2⟩
 have hn:(cY more kvs).length<=sizeLine:=ff (rK more kvs) hz;have he:∃q,h'.get? a=some q:=let ⟨q,_,_,hq,_⟩:=hd;⟨q,hq⟩;exact⟨.fc,_,I2.write (x:=a) (e:=a) (by rw [ea];exact True.intro) (.inl rfl) (λb q hb z=>kk b q hb z) he (rQ hn o9 (rJ r1 rel) hd),rfl,q2⟩
def uC {X:Cx}:fC X (.builtin "len") (λxs H Q=>∃a kvs,xs=[.ref a]/\H a=some (.dK kvs)/\Q (.int kvs.length) H):=by
 intro ag s σ H xs us Q I r h;obtain⟨a,kvs,rfl,e,q⟩:=h;obtain⟨u,rfl,rx⟩:=vals1 r;cases (show u=Value.ref a from rx);exact Qj I (.inl e) λt s' I'=>⟨.int _,H,I',⟨_,rfl⟩,q⟩
end
theorem xJ:∀{us:List Value}{ns:List Int},PyProof.Rows.IntsAre us ns->∀ys:List (Int×Tok),us=ys.map (λp=>Value.int p.1 p.2)->ys.map (·.1)=ns
 | _,_,.nil,ys,e=>by
  cases ys with
  | nil=>rfl
  | cons _ _=>cases e
 | _,_,.cons n t h,ys,e=>by
  cases ys with
  | nil=>cases e
  | cons y r =>
   rw [cA] at e;injection e with e1 e2;injection e1 with e3 e4;rw [cA,xJ h r e2,e3]
def ku {X:Cx}(hc:X.calm=true):fC X (.builtin "sum") (λxs H Q=>∃a ns,xs=[.ref a]/\aK X.K H a (List.map V.int ns)/\Q (.int ns.sum) H):=by
 intro ag s σ H xs us Q I r h;obtain⟨a,ns,rfl,hq,q⟩:=h;obtain⟨u,rfl,rx⟩:=vals1 r;cases rx;obtain⟨aT,rv,pl,hz⟩:=I.list hq;have hi:=intsAre_of rv;have pK:AllInts aT.toArray:=hi.allInts;obtain⟨xs,e⟩:=pK.items;have hl:=pl.isList;rw [e] at hl;refine sum_intListG (I.ok.hd hc) hl λh' tk t' hk=>⟨.int _,H,I.kept hk,⟨_,rfl⟩,?_⟩;have e5:xs.toList.map (·.1)=ns:=xJ hi xs.toList (by
  have:=congrArg Array.toList e;simpa [intItems] using this)
 have e6:preSum (numAt xs) xs.size=ns.sum:=by
  rw [preSum_eq,e5,wR (by rw [<-e5];simp)]
 rw [e6];exact q
def xZ {K:ba}{H:Hp}{p D:Addr}{zs:List Str}{σ:St}{v:V}{x:Str}{Qp:Hp->Prop}(hp:aS K H p (zs.map V.str))(hz:zs.length<=1000)(hD:H D=none)
  (q:∀ts H2,aC H H2->H2 D=some (.lst (ts.map V.ref))->Paired (λt h=>aS K H2 t [.str h,v]) ts zs->Qp H2) :
  ∃W:Nat->Nat->List V->St->Hp->Prop,(∃m,W 0 m [] (dJ [x] [] σ) (upd H D (.lst []))) /\
 ∀i m ys σ' H,W i m ys σ' H->((nF K p).stop i H/\Qp H)\/((nF K p).go i H/\∃m',m' < m/\∀x H',(nF K p).kX i H x H'->dB 0 x σ' H' λσ2 H2=>gP σ2 H2 λb H3 =>
  if b=true then sQ (gH (gE 0) (gH (tC v) qJ)) σ2 H3 λy H4=>H4 D=some (.lst ys)/\ys.length < sizeLine/\W (i+1) m' (ys++[y]) σ2 (upd H4 D (.lst (ys++[y]))) else W (i+1) m' ys σ2 H3):=by
 refine gB (xs:=zs.map V.str) (λi ys σ2 H2=>∃ts:List Addr,ys=ts.map V.ref/\ts.length=i/\Paired (λt h=>aS K H2 t [.str h,v]) ts (zs.take i)/\(∃y0,σ2=[y0])/\aC H H2/\H2 D=some (.lst ys))
  ⟨[],rfl,rfl,.nil,⟨none,rfl⟩,af hD _,ae⟩ (λi ys σ2 H2 _ h=>?_) (λi x ys σ2 H2 ex h=>?_) (λys σ2 H2 h=>?_)
 .obtain⟨_,_,_,_,_,sm,_⟩:=h;exact sm.tup hp
 .obtain⟨ts,rfl,ht,jA,⟨y0,rfl⟩,sm,hd⟩:=h;rw [bq] at ex;obtain⟨z,ez,rfl⟩:=cq.mp ex;have li:=(bj.mp ez).1;refine goN (wQ ?_);refine⟨_,rfl,kN,λt jH=>⟨?_,br (by rw [ax];omega),ts++[t],?_,?_,?_,⟨_,rfl⟩,?_,ae⟩⟩
  .rw [ak (ay hd jH)];exact hd
  .rw [bB];rfl
  .rw [bU,ht];rfl
  .rw [cQ,ez];have iU:upd H2 t (.tup [.str z,v]) D=some (.lst (ts.map V.ref)):=by rw [ak (ay hd jH)];exact hd
   exact fO (Paired.di jA λt' h' z=>aP iU ((af jH _).tup z)) (aP iU (aS.of ae))
  intro b o hb;rw [ak (λz=>by rw [z,hD] at hb;cases hb)];exact af jH _ _ _ (sm b o hb)
 obtain⟨ts,rfl,ht,jA,_,sm,hd⟩:=h;rw [ax,cH] at jA;exact q ts H2 sm hd jA
end L2
namespace M11
open PySem L2
def kc (a:List Str)(h x:Str):x∈gX a h↔x∈a\/x=h:=by
 unfold gX;split
 .constructor
  .exact .inl
  rintro(z | rfl) <;> assumption
 simp
def wu {a:List Str}(h:Str)(n:a.Nodup):(gX a h).Nodup:=by
 unfold gX;split
 .exact n
 rename_i q
 refine jE.mpr ⟨n,by simp,λx hx y hy=>?_⟩;rw [cO.mp hy];exact λz=>q (z ▸ hx)
def BI (a:List Str)(h:Str):a.length<=(gX a h).length:=by
 unfold gX;split <;> simp
def IT {a:List Str}{h:Str}(e:(gX a h).length=a.length):gX a h=a:=by
 unfold gX at e ⊢;split
 .rfl
 rename_i q
 rw [au q,bU] at e;simp at e
theorem gZ:∀(hs bQ:List Str)(x:Str),x∈wk bQ hs↔x∈bQ\/x∈hs
 | [],bQ,x=>by simp [wk]
 | h::r,bQ,x=>by
  show x∈wk (gX bQ h) r↔_;rw [gZ r,kc,bR,or_assoc]
theorem oS:∀(hs:List Str){bQ:List Str},bQ.Nodup->(wk bQ hs).Nodup
 | [],_,n=>n
 | h::r,_,n=>oS r (wu h n)
theorem Ah:∀(hs bQ:List Str),bQ.length<=(wk bQ hs).length
 | [],_=>aE _
 | h::r,bQ=>ff (BI bQ h) (Ah r _)
theorem F3:∀(hs bQ:List Str),(wk bQ hs).length=bQ.length->wk bQ hs=bQ
 | [],_,_=>rfl
 | h::r,bQ,e=>by
  have h1:=BI bQ h;have h2:=Ah r (gX bQ h);have e':(wk (gX bQ h) r).length=bQ.length:=e;show wk (gX bQ h) r=bQ;rw [F3 r _ ∅];exact IT ∅
inductive MO (aa:List aw)(s:Str):Str->Prop
 | start:MO aa s s
 | step {ru:aw}{x:Str}:MO aa s ru.1->ru∈aa->x∈ru.2->MO aa s x
def C8 (aa:List aw) (n:Nat) (ms:List Str):Prop:=∀ru∈aa.take n,ru.1∈ms->∀x∈ru.2,x∈ms
def MO.among {aa:List aw}{s x:Str}(h:MO aa s x):x∈s::aa.flatMap (·.2):=by
 cases h with
 | start=>exact bK
 | step _ h1 h2=>exact bW _ (mi.mpr ⟨_,h1,h2⟩)
end M11
namespace h_
open PySem L2 M11
section
def Je (K:ba):Sp:=λvs H Q _=>∃(R:Addr)(rs:List Addr)(aa:List aw)(gQ:aw),vs=[.ref R]/\aK K H R (rs.map V.ref)/\bL K H rs aa/\aa[0]?=some gQ/\aa.length<=1000/\(∀ru∈aa,ru.2.length<=8) /\
 ∀d kvs ms H',H d=none->aC H H'->H' d=some (.dK kvs)->kvs.map (·.1)=ms.map Sum.inr->gQ.1∈ms->(∀x∈ms,MO aa gQ.1 x)->C8 aa aa.length ms->Q (.ref d) H'
def tS:aM ["rules","met","many","head","parts"] ["rules"] (az Ky):=jl rfl rfl rfl rfl nofun
structure ND (K:ba)(aa:List aw)(s0:Str)(H H5:Hp)(d:Addr) (ms:List Str)(kvs:List (aL×V)):Prop where
 sm:aC H H5
 hd:H5 d=some (.dK kvs)
 keys:kvs.map (·.1)=ms.map Sum.inr
 nd:ms.Nodup
 st:s0∈ms
 Q8:∀x∈ms,MO aa s0 x
def ND.len {aa:List aw}{s0:Str}{H H5:Hp}{d:Addr}{ms:List Str}{kvs:List (aL×V)}(h:ND K aa s0 H H5 d ms kvs)(hl:aa.length<=1000)(h8:∀ru∈aa,ru.2.length<=8):kvs.length=ms.length/\ms.length<=8001:=by
 refine⟨?_,?_⟩
 .have:=congrArg List.length h.keys;simpa using this
 have h1:=gy ms _ h.nd λx hx=>(h.Q8 x hx).among;have h2:=jj aa 1000 hl h8;rw [dG] at h1;omega
def K_ (F:iM K "names_met" "names_met" Ky f fd)(T:Txt mg):bZ P w K mg base gw 1 f fd ["rules"] (Je K):=by
 refine F.ok tS (λvs H Q E h=>?_) (λeY A outer s H vs Q E hr h=>?_)
 .obtain⟨R,rs,aa,gQ,rfl,_⟩:=h;rfl
 obtain⟨R,rs,aa,gQ,rfl,hR,cV,Nb,bM,h8,q⟩:=h;have hu:=gM hr;refine⟨_,aj (aB (i:=1) tS.nd rfl (bo rfl) (HJ (EH (bD bT (bD cZ (pv 0) av (λ_ _=>rfl)) av (λ_ _=>rfl)) eX Hw) rfl rfl (by simp) (show 1<=15 by decide)))
  (aj (aB (i:=2) tS.nd rfl (bo rfl) av)
  (aj (i8 cf (a8 mT (pv 2) (aI uC rfl T.len fw (ab (pv 1) ai)) (cg _))
   (aj (aB (i:=2) tS.nd rfl (bo rfl) (aI uC rfl T.len fw (ab (pv 1) ai)))
   (ao (bS cf rfl (aQ (pv 0)) (fJ rfl (aA (aq (i:=3) tS.nd rfl (bo rfl)) (aA (aq (i:=4) tS.nd rfl (bo rfl)) bH)))
    (ao (b9 (gr (lF hu (pv 3) (pv 1)))
     (ao (b_ (HI rfl (pv 1) (aV ["part"] [] rfl (eQ (pv 4)) (aU rfl rfl) nofun rfl nofun
       (λ_ _ _ _ _=>aq (i:=0) (show (["part"]:List Str).Nodup by decide +kernel) rfl (bo rfl)) (λ_ _ _ _ _=>bw) (λ_ _ _ _ _=>bC (ab (pv 0) (ab eX ai)))) ⟨rfl,rfl,rfl,rfl⟩))) aY))))))
  (ao (bz (pv 1))))),?_⟩
 nofun
 intro d hd;have ll:=a0 cV;have l0:=(bj.mp Nb).1;obtain⟨r0,Yz⟩:∃r,rs[0]?=some r:=⟨rs[0]'∅,cR ∅⟩;obtain⟨Z5,e0,p0,w1,w2⟩:=cV.get Yz;rw [Nb] at e0;cases e0;have WI:=af hd (.dK []);refine⟨_,rfl,R,_,_,.ref r0,rfl,rfl,WI.seq hR,?_,r0,_,_,_,rfl,rfl,WI.tup w1,rfl,?_⟩
 .have e7:(rs.map V.ref)[0]?=some (.ref r0):=by rw [bq,Yz];rfl
  exact dD (j:=0) e7
 refine⟨ae,[((Sum.inr gQ.1:aL),.bl true)],rfl,(by show 1<=15;decide),?_⟩;have S0:ND K aa gQ.1 H (upd (upd H d (.dK [])) d (.dK (lJ [] [((Sum.inr gQ.1:aL),.bl true)]))) d [gQ.1] [((Sum.inr gQ.1:aL),.bl true)]:=by
  rw [mx];exact⟨af hd _,ae,rfl,by simp,by simp,λx hx=>by rw [cO.mp hx];exact .start⟩
 generalize upd (upd H d (.dK [])) d (.dK (lJ [] [((Sum.inr gQ.1:aL),.bl true)]))=H0 at S0;refine⟨λm σ H5=>∃(ms:List Str)(kvs:List (aL×V)) (many:Int)(y3 y4:Option V),σ=[aF R,aF d,some (.int many),y3,y4]/\ND K aa gQ.1 H H5 d ms kvs/\0<=many/\many<=ms.length/\(many=ms.length->C8 aa aa.length ms)/\(m:Int)=8002 - many,
  ⟨8002,[gQ.1],_,0,none,none,rfl,S0,∅,by simp,by simp,∅⟩,?_⟩
 rintro m σ H5 ⟨ms,kvs,many,y3,y4,rfl,S,b1,b2,cl,em⟩;obtain⟨lk,lm⟩:=S.len bM h8;refine⟨_,rfl,_,rfl,d,_,rfl,S.hd,_,_,rfl,rfl,_,rfl,?_⟩;refine cu (λc=>?_) (λc=>?_)
 .have c':=cS c;rw [lk] at c';refine⟨λσ H5=>∃(pY:List Str)(fu:List (aL×V))(y3 y4:Option V),σ=[aF R,aF d,some (.int (ms.length:Int)),y3,y4]/\ND K aa gQ.1 H H5 d pY fu/\ms.length<=pY.length/\(pY.length=ms.length->C8 aa aa.length pY),?_,?_⟩
  .rintro σ H6 ⟨pY,fu,y3,y4,rfl,S2,l2,c2⟩;exact⟨(8002 - ms.length:Int).toNat,∅,pY,fu,_,_,_,rfl,S2,∅,∅,λz=>c2 ∅,∅⟩
  refine⟨_,rfl,d,_,rfl,S.hd,?_⟩;rw [lk];refine⟨_,rfl,R,rfl,⟨_,S.sm.seq hR⟩,?_⟩;refine cv (xs:=rs.map V.ref) (λi σ H6=>∃(pY:List Str)(fu:List (aL×V))(y3 y4:Option V),σ=[aF R,aF d,some (.int (ms.length:Int)),y3,y4]/\ND K aa gQ.1 H H6 d pY fu/\ms.length<=pY.length/\(pY.length=ms.length->C8 aa i pY))
   ⟨ms,kvs,_,_,rfl,S,aE _,λ_ ru gp=>by simp at gp⟩ ?_ ?_ ?_
  .rintro i σ H6 _ ⟨pY,fu,y3,y4,rfl,S2,_⟩;exact S2.sm.seq hR
  .rintro i x σ H6 ex ⟨pY,fu,y3,y4,rfl,S2,l2,c2⟩
   ac_nf0
   rw [bq] at ex;obtain⟨r,er,rfl⟩:=cq.mp ex;obtain⟨ru,e1,p,v1,v2⟩:=cV.get er;have LZ:=h8 ru (cE e1);have tk:aa.take (i+1)=aa.take i++[ru]:=by rw [cQ,e1];rfl
   obtain⟨Rg,lm2⟩:=S2.len bM h8;have mem:(bu fu (Sum.inr ru.1)).isSome=true↔ru.1∈pY:=by rw [eV,S2.keys];exact c_
   refine⟨r,_,rfl,S2.sm.tup v1,rfl,_,_,rfl,_,_,rfl,rfl,?_⟩;refine⟨_,rfl,_,rfl,d,_,rfl,cK.k (k:=Sum.inr ru.1) S2.hd,_,rfl,?_⟩;refine cu (λc3=>?_) (λc3=>?_)
   .have im:=mem.mp c3;refine⟨_,rfl,d,rfl,.inl ⟨_,.inl S2.hd⟩,_,rfl,p,rfl,⟨_,S2.sm.tup v2⟩,λD2 jL=>xZ (S2.sm.tup v2) ∅ jL λts H8 MV Py XO=>?_⟩;have kp:Paired (λt (kv:aL×V)=>aS K H8 t [kV kv.1,kv.2]) ts (ru.2.map λh=>((Sum.inr h:aL),V.bl true)):=cT XO λ_ _ z=>z;refine⟨D2,ts,fu,_,rfl,MV _ _ S2.hd,Py,kp,fits (by rw [ax];omega),?_⟩;have aak:=Ah ru.2 pY;refine⟨wk pY ru.2,cY (ru.2.map λh=>((Sum.inr h:aL),V.bl true)) fu,_,_,rfl,⟨λb o hb=>?_,ae,mV ru.2 fu pY S2.keys,oS ru.2 S2.nd,(gZ ru.2 pY _).mpr (.inl S2.st),λx hx=>?_⟩,∅,λz zk rj hh=>?_⟩
    .rw [ak (λz=>by rw [z,hd] at hb;cases hb)];exact MV _ _ (S2.sm b o hb)
    .rcases (gZ ru.2 pY x).mp hx with h | h
     .exact S2.Q8 x h
     exact .step (S2.Q8 _ im) (cE e1) h
    have e9:=F3 ru.2 pY ∅;rw [e9] at hh ⊢;rw [tk] at rj;rcases cD.mp rj with h | h
    .exact c2 ∅ zk h hh
    rw [cO.mp h];intro x hx;rw [<-e9];exact(gZ ru.2 pY x).mpr (.inr hx)
   refine⟨pY,fu,_,_,rfl,S2,l2,λz zk rj hh=>?_⟩;rw [tk] at rj;rcases cD.mp rj with h | h
   .exact c2 z zk h hh
   rw [cO.mp h] at hh;exact absurd (mem.mpr hh) c3
  rintro σ H6 ⟨pY,fu,y3,y4,rfl,S2,l2,c2⟩;rw [ax,ll] at c2;exact⟨pY,fu,_,_,rfl,S2,l2,c2⟩
 have c':=of_decide_eq_false (qw.mpr c);rw [lk] at c';exact⟨_,rfl,q d kvs ms H5 hd S.sm S.hd S.keys S.st S.Q8 (cl ∅)⟩
end
end h_
namespace M11
open PySem L2
abbrev G:=Str->Option Int
def du (g:G)(h:Str) (n:Int):G:=λz=>if z=h then some n else g z
def aH (g:G)(ru:aw):Int:=1+(ru.2.map λp=>(g p).getD 0).sum
def jK (g:G)(ru:aw):Bool:=ru.2.all λp=>(g p).isSome
def cM (bt:Int->Int->Bool)(g:G)(ru:aw):Bool:=jK g ru && (!(g ru.1).isSome || bt (aH g ru) ((g ru.1).getD 0))
def sstep (bt:Int->Int->Bool)(a:G×Bool)(ru:aw):G×Bool:=if cM bt a.1 ru=true then (du a.1 ru.1 (aH a.1 ru),true) else a
def sR (bt:Int->Int->Bool)(aa:List aw)(g:G):G×Bool:=aa.foldl (sstep bt) (g,false)
inductive dI (bt:Int->Int->Bool)(aa:List aw):G->G->Prop
 | refl {g:G}:dI bt aa g g
 | step {g g1:G}{ru:aw}:dI bt aa g g1->ru∈aa->cM bt g1 ru=true->dI bt aa g (du g1 ru.1 (aH g1 ru))
def ir (bt:Int->Int->Bool)(aa:List aw)(g:G):Prop:=∀ru∈aa,cM bt g ru=false
def oW (bt:Int->Int->Bool)(aa:List aw):Nat->G->Prop
 | 0,g=>(sR bt aa g).2=false
 | n+1,g=>(sR bt aa g).2=false\/oW bt aa n (sR bt aa g).1
def dI.trans {bt:Int->Int->Bool}{aa:List aw}{g g1 g2:G}(h:dI bt aa g g1)(k:dI bt aa g1 g2):dI bt aa g g2:=by
 induction k with
 | refl=>exact h
 | step _ a b ih=>exact .step ih a b
theorem rE (bt:Int->Int->Bool)(aa:List aw):∀(l:List aw)(a:G×Bool),(∀ru∈l,ru∈aa)->dI bt aa a.1 (l.foldl (sstep bt) a).1
 | [],a,_=>.refl
 | ru::l,a,h=>by
  have ih:=rE bt aa l (sstep bt a ru) λx hx=>h x (bW _ hx);refine dI.trans ?_ ih;unfold sstep;by_cases c:cM bt a.1 ru=true
  .rw [ar c];exact .step .refl (h ru bK) c
  rw [au c];exact .refl
theorem uq (bt:Int->Int->Bool):∀(l:List aw)(a:G×Bool),a.2=true->(l.foldl (sstep bt) a).2=true
 | [],a,h=>h
 | ru::l,a,h=>by
  refine uq bt l (sstep bt a ru) ?_;unfold sstep
  split
  .rfl
  exact h
theorem rG (bt:Int->Int->Bool):∀(l:List aw)(a:G×Bool),(l.foldl (sstep bt) a).2=false->(l.foldl (sstep bt) a).1=a.1/\∀ru∈l,cM bt a.1 ru=false
 | [],a,_=>⟨rfl,λ_ h=>nomatch h⟩
 | ru::l,a,h=>by
  by_cases c:cM bt a.1 ru=true
  .have e:sstep bt a ru=(du a.1 ru.1 (aH a.1 ru),true):=ar c;have h':(l.foldl (sstep bt) (sstep bt a ru)).2=false:=h;rw [e,uq bt l _ rfl] at h';cases h'
  have e:sstep bt a ru=a:=au c;have h':(l.foldl (sstep bt) (sstep bt a ru)).2=false:=h;rw [e] at h';obtain⟨i1,i2⟩:=rG bt l a h';refine⟨by rw [List.foldl_cons,e];exact i1,λzk hr=>?_⟩;rcases bR.mp hr with z | z
  .rw [z];exact qw.mpr c
  exact i2 zk z
end M11
namespace L2
open PySem M11
def gh.tup {K:ba}{H H':Hp}{d a:Addr}{kvs:List (aL×V)}{xs:List V}(s:gh d H H')(hd:H d=some (.dK kvs))(h:aS K H a xs):aS K H' a xs:=by
 rcases h with (h | ⟨u,h⟩) | h
 .exact .inl (.inl (s _ _ (λz=>by rw [z,hd] at h;cases h) h))
 .exact .inl (.inr ⟨u,s _ _ (λz=>by rw [z,hd] at h;cases h) h⟩)
 exact .inr h
def gh.seq {K:ba}{H H':Hp}{d a:Addr}{kvs:List (aL×V)}{xs:List V}(s:gh d H H')(hd:H d=some (.dK kvs))(h:aK K H a xs):aK K H' a xs:=by
 rcases h with (h | ⟨u,h⟩) | h
 .exact .inl (.inl (s _ _ (λz=>by rw [z,hd] at h;cases h) h))
 .exact .inl (.inr ⟨u,s _ _ (λz=>by rw [z,hd] at h;cases h) h⟩)
 exact .inr h
def CQ {K:ba}{H:Hp}{p D d:Addr}{zs:List Str}{kvs:List (aL×V)}{g:G}{σ:St}{js:List (Nat×Str)}{Qp:Hp->Prop}(hσ:dJ ["part"] js σ=[none,aF d])(hp:aS K H p (zs.map V.str))(hz:zs.length<=1000)
  (hd:H d=some (.dK kvs))(hv:∀z,bu kvs (Sum.inr z)=(g z).map V.int)(ha:∀z∈zs,(g z).isSome=true)(hD:H D=none)(q:∀H2,aC H H2->H2 D=some (.lst ((zs.map λz=>(g z).getD 0).map V.int))->Qp H2) :
  ∃W:Nat->Nat->List V->St->Hp->Prop,(∃m,W 0 m [] (dJ ["part"] js σ) (upd H D (.lst []))) /\
 ∀i m ys σ' H,W i m ys σ' H->((nF K p).stop i H/\Qp H)\/((nF K p).go i H/\∃m',m' < m/\∀x H',(nF K p).kX i H x H'->dB 0 x σ' H' λσ2 H2=>gP σ2 H2 λb H3 =>
  if b=true then AK (gE 1) (gE 0) σ2 H3 λy H4=>H4 D=some (.lst ys)/\ys.length < sizeLine/\W (i+1) m' (ys++[y]) σ2 (upd H4 D (.lst (ys++[y]))) else W (i+1) m' ys σ2 H3):=by
 refine gB (xs:=zs.map V.str) (λi ys σ2 H2=>ys=(((zs.take i).map λz=>(g z).getD 0).map V.int)/\(∃y0,σ2=[y0,aF d])/\aC H H2/\H2 D=some (.lst ys))
  ⟨rfl,⟨none,hσ⟩,af hD _,ae⟩ (λi ys σ2 H2 _ h=>h.2.2.1.tup hp) (λi x ys σ2 H2 ex h=>?_) (λys σ2 H2 h=>?_)
 .obtain⟨rfl,⟨y0,rfl⟩,sm,hd2⟩:=h;rw [bq] at ex;obtain⟨z,ez,rfl⟩:=cq.mp ex;have li:=(bj.mp ez).1;obtain⟨n,en⟩:=mq.mp (ha z (cE ez));have hg:cK H2 d (.str z) (some (.int n)):=by
   have:=cK.k (k:=Sum.inr z) (sm _ _ hd);rw [hv,en] at this;exact this
  refine goN (wQ ?_);refine⟨_,rfl,_,rfl,d,_,rfl,hg,hd2,br (by rw [ax,ax,dO];omega),?_,⟨_,rfl⟩,?_,ae⟩
  .rw [cQ,ez,bB,bB];show _=_++[V.int ((g z).getD 0)];rw [en];rfl
  intro b o hb;rw [ak (λz=>by rw [z,hD] at hb;cases hb)];exact sm b o hb
 obtain⟨rfl,_,sm,hd2⟩:=h;rw [ax,cH] at hd2;exact q H2 sm hd2
end L2
namespace h_
open PySem L2 M11
section
def iE (K:ba)(q:Str)(params:Arguments)(body:Expr)(scope:Scope)(bt:Int->Int->Bool):Sp:=λvs H Q _=>∃(R:Addr)(rs:List Addr)(aa:List aw)(d fl c':Addr)(pm gF:Value)(kvs:List (aL×V)) (ks:List Str)(g:G),
 vs=[.ref R,.ref d,.ref fl]/\aK K H R (rs.map V.ref)/\bL K H rs aa/\aa.length<=1000/\(∀ru∈aa,ru.2.length<=8)/\H d=some (.dK kvs)/\kvs.map (·.1)=ks.map Sum.inr/\ks.Nodup/\ks.length<=10000 /\
 (∀z,bu kvs (Sum.inr z)=(g z).map V.int)/\(∃n,oW bt aa n g)/\H fl=some (oH fl (PySem.W.kla_obj "<lambda>" q params body scope [] pm c' gF))/\H c'=some (jJ c' q) /\
 ∀(lP:List (aL×V)) (OT:List Str)(g':G)(H':Hp),gh d H H'->H' d=some (.dK lP)->lP.map (·.1)=OT.map Sum.inr->(∀z,bu lP (Sum.inr z)=(g' z).map V.int)->dI bt aa g g'->ir bt aa g'->lP.length<=20000->Q (.ref d) H'
def iF:aM ["rules","sizes","better","changed","head","parts","size"] ["rules","sizes","better"] (az mK):=jl rfl rfl rfl rfl nofun
structure yA (K:ba)(aa:List aw) (GU:List Str)(H H5:Hp)(d:Addr)(kvs:List (aL×V)) (ks:List Str)(g:G):Prop where
 sm:gh d H H5
 hd:H5 d=some (.dK kvs)
 keys:kvs.map (·.1)=ks.map Sum.inr
 nd:ks.Nodup
 sub:∀x∈ks,x∈GU++aa.map (·.1)
 val:∀z,bu kvs (Sum.inr z)=(g z).map V.int
def yA.len {aa:List aw}{GU:List Str}{H H5:Hp}{d:Addr}{kvs:List (aL×V)}{ks:List Str}{g:G}(h:yA K aa GU H H5 d kvs ks g):kvs.length<=GU.length+aa.length:=by
 have h1:=congrArg List.length h.keys;have h2:=gy ks _ h.nd h.sub;rw [bU,ax] at h2;rw [ax,ax] at h1;omega
def yA.same {aa:List aw}{GU:List Str}{H H5 H6:Hp}{d:Addr}{kvs:List (aL×V)}{ks:List Str}{g:G}(h:yA K aa GU H H5 d kvs ks g)(s:aC H5 H6):yA K aa GU H H6 d kvs ks g :=
 ⟨λb o n e=>s _ _ (h.sm b o n e),s _ _ h.hd,h.keys,h.nd,h.sub,h.val⟩
def yA.put {aa:List aw}{GU:List Str}{H H5:Hp}{d:Addr}{kvs:List (aL×V)}{ks:List Str}{g:G}(h:yA K aa GU H H5 d kvs ks g){ru:aw}(hr:ru∈aa) (n:Int) :
  yA K aa GU H (upd H5 d (.dK (bN kvs (Sum.inr ru.1) (.int n)))) d (bN kvs (Sum.inr ru.1) (.int n)) (gX ks ru.1) (du g ru.1 n):=by
 refine⟨λb o nb e=>by rw [ak nb];exact h.sm b o nb e,ae,jb h.keys ru.1,wu ru.1 h.nd,λx hx=>?_,λz=>?_⟩
 .rcases (kc ks ru.1 x).mp hx with z | z
  .exact h.sub x z
  rw [z];exact dA _ (iC hr)
 rw [qH];unfold du;by_cases c:z=ru.1
 .rw [ar c,ar (by rw [c])];rfl
 rw [au c,au (λe=>c (jT e)),h.val]
def ua (F:iM K "settled_sizes" "settled_sizes" mK f fd)(T:Txt mg){q:Str}{params:Arguments}{body:Expr}{scope:Scope}{bt:Int->Int->Bool}{te:TE}(S:aM ["size","known"] ["size","known"] scope)
  (mZ:∀(pm gF:Value)(c':Addr)(us:List Value),us.length=(["size","known"]:List Str).length->bindArgs (PySem.W.kla_fn "<lambda>" q params body scope [] pm (.ref c') gF) ⟨us,[]⟩=pure ((["size","known"]:List Str).zip us))
  (jh:∀(f c':Addr)(A:Around)(outer:List Env)(s:Shared)(H:Hp),PE (oT gw P w K mg base ["size","known"] q scope f (.ref c') A outer s H λ_ _ _=>False) body te)
  (O8:∀a b H Q,Q (.bl (bt a b)) H->te [some (.int a),some (.int b)] H Q):bZ P w K mg base gw 2 f fd ["rules","sizes","better"] (iE K q params body scope bt):=by
 refine F.ok iF (λvs H Q E h=>?_) (λeY A outer s H vs Q E hr h=>?_)
 .obtain⟨R,rs,aa,d,fl,c',pm,gF,kvs,ks,g,rfl,_⟩:=h;rfl
 obtain⟨R,rs,aa,d,fl,c',pm,gF,kvs,ks,g,rfl,hR,cV,bM,h8,hd,hk,Ro,hkl,hv,⟨n0,Rp⟩,FD,lV,qq⟩:=h;have hu:=gM hr;refine⟨_,aj (aB (i:=3) iF.nd rfl (bo rfl) eX)
  (aj (i8 cf (eK (pv 3))
   (aj (aB (i:=3) iF.nd rfl (bo rfl) eX)
   (ao (bS cf rfl (aQ (pv 0)) (fJ rfl (aA (aq (i:=4) iF.nd rfl (bo rfl)) (aA (aq (i:=5) iF.nd rfl (bo rfl)) bH)))
    (ao (b9 (eK (aI (dU rfl) rfl T.all boot_all (ab (aV ["part"] [(1,"sizes")] rfl (eQ (pv 5)) (aU rfl rfl) nofun rfl nofun
       (λ_ _ _ _ _=>aq (i:=0) (show (["part","sizes"]:List Str).Nodup by decide +kernel) rfl (bo rfl)) (λ_ _ _ _ _=>bw) (λ_ _ _ _ _=>zy (lF hu (pv 0) (pv 1)))) ai)))
     (aj (aB (i:=6) iF.nd rfl (bo rfl) (aN d5 av (aI (ku rfl) rfl T.sum u4 (ab (aV ["part"] [(1,"sizes")] rfl (eQ (pv 5)) (aU rfl rfl) nofun rfl nofun
       (λ_ _ _ _ _=>aq (i:=0) (show (["part","sizes"]:List Str).Nodup by decide +kernel) rfl (bo rfl)) (λ_ _ _ _ _=>bw) (λ_ _ _ _ _=>ft hu (pv 1) (pv 0) (λ_ _=>rfl))) ai))))
     (ao (b9 (PW.pt (qV (gr (eI hu (pv 4) (pv 1))) (qU (eK (zz (i:=2) (k:=0) rfl rfl S hr mZ jh (ab (pv 6) (ab (ft hu (pv 1) (pv 4) (λ_ _=>rfl)) ai)))))))
      (aj (gY hu (pv 1) (pv 4) (pv 6) rfl) (ao (aB (i:=3) iF.nd rfl (bo rfl) eX))) aY))) aY))))))
  (ao (bz (pv 1)))),?_⟩
 nofun
 have ll:=a0 cV;have S0:yA K aa ks H H d kvs ks g:=⟨λ_ _ _ e=>e,hd,hk,Ro,λx hx=>dP _ hx,hv⟩;refine⟨λm σ H5=>∃(fu:List (aL×V)) (Rh:List Str)(g2:G)(ch:Bool)(y4 y5 y6:Option V),σ=[aF R,aF d,aF fl,some (.bl ch),y4,y5,y6]/\yA K aa ks H H5 d fu Rh g2/\dI bt aa g g2 /\
  ((ch=true/\∃n,m=n+1/\oW bt aa n g2)\/(ch=false/\ir bt aa g2)),⟨n0+1,kvs,ks,g,true,none,none,none,rfl,S0,.refl,.inl ⟨rfl,n0,rfl,Rp⟩⟩,?_⟩
 rintro m σ H5 ⟨fu,Rh,g2,ch,y4,y5,y6,rfl,S2,GI,cs⟩;refine⟨_,rfl,ch,rfl,?_⟩;refine cu (λc=>?_) (λc=>?_)
 .rcases cs with ⟨_,n,em,en⟩ | ⟨c',_⟩
  case inr=>rw [c'] at c;cases c
  refine⟨λσ H6=>∃(lL:List (aL×V)) (Di:List Str)(g3:G)(yd:Bool)(y4 y5 y6:Option V),σ=[aF R,aF d,aF fl,some (.bl yd),y4,y5,y6]/\yA K aa ks H H6 d lL Di g3/\(g3,yd)=sR bt aa g2,?_,?_⟩
  .rintro σ H6 ⟨lL,Di,g3,yd,y4,y5,y6,rfl,S3,e3⟩;have VB:g3=(sR bt aa g2).1:=congrArg Prod.fst e3;have Mt:yd=(sR bt aa g2).2:=congrArg Prod.snd e3;have N_:dI bt aa g g3:=by
    rw [VB];exact GI.trans (rE bt aa aa (g2,false) λ_ h=>h)
   cases h3:yd with
   | false =>
    rw [h3] at Mt;obtain⟨f1,f2⟩:=rG bt aa (g2,false) Mt.symm;refine⟨0,∅,lL,Di,g3,false,_,_,_,rfl,S3,N_,.inr ⟨rfl,?_⟩⟩;have e33:g3=g2:=VB.trans f1;rw [e33];exact f2
   | true =>
    rw [h3] at Mt;cases n with
    | zero=>rw [show (sR bt aa g2).2=false from en] at Mt;cases Mt
    | succ n' =>
     rcases en with en | en
     .rw [en] at Mt;cases Mt
     exact⟨n'+1,∅,lL,Di,g3,true,_,_,_,rfl,S3,N_,.inl ⟨rfl,n',rfl,by rw [VB];exact en⟩⟩
  refine⟨_,rfl,R,rfl,⟨_,S2.sm.seq hd hR⟩,?_⟩;refine cv (xs:=rs.map V.ref) (λi σ H6=>∃(lL:List (aL×V)) (Di:List Str)(g3:G)(yd:Bool)(y4 y5 y6:Option V),σ=[aF R,aF d,aF fl,some (.bl yd),y4,y5,y6]/\yA K aa ks H H6 d lL Di g3/\(g3,yd)=(aa.take i).foldl (sstep bt) (g2,false))
   ⟨fu,Rh,g2,false,_,_,_,rfl,S2,rfl⟩ ?_ ?_ ?_
  .rintro i σ H6 _ ⟨lL,Di,g3,yd,y4,y5,y6,rfl,S3,_⟩;exact S3.sm.seq hd hR
  .rintro i x σ H6 ex ⟨lL,Di,g3,yd,y4,y5,y6,rfl,S3,e3⟩;rw [bq] at ex;obtain⟨r,er,rfl⟩:=cq.mp ex;obtain⟨ru,e1,p,v1,v2⟩:=cV.get er;have oO:=cE e1;have LZ:=h8 ru oO;have fo:(aa.take (i+1)).foldl (sstep bt) (g2,false)=sstep bt (g3,yd) ru:=by
    rw [cQ,e1,uQ,<-e3];rfl
   rw [fo];have Sh:=S3.sm.tup hd v2;refine⟨r,_,rfl,S3.sm.tup hd v1,rfl,_,_,rfl,_,_,rfl,rfl,?_⟩;refine⟨_,rfl,p,rfl,⟨_,Sh⟩,λD2 jL=>uz rfl Sh ∅ S3.hd jL λH7 WH hd7=>?_⟩;have S4:=S3.same WH;have v4:=WH.tup Sh;have eb:(ru.2.map λz=>(bu lL (Sum.inr z)).isSome).all id=jK g3 ru:=by
    unfold jK;rw [List.all_map];refine List.all_congr rfl λz=>?_;show (bu lL (Sum.inr z)).isSome=_;rw [S3.val,qg]
   refine⟨D2,_,rfl,aK.of hd7,_,rfl,?_⟩;rw [eb];refine cu (λc4=>?_) (λc4=>?_)
   .have al:∀z∈ru.2,(g3 z).isSome=true:=λz hz=>dN.mp c4 z hz;refine⟨_,rfl,p,rfl,⟨_,v4⟩,λD3 LX=>CQ (g:=g3) rfl v4 ∅ S4.hd S4.val al LX λH8 MV Py=>?_⟩;have S5:=S4.same MV;have esz:1+(ru.2.map λz=>(g3 z).getD 0).sum=aH g3 ru:=rfl;refine⟨D3,_,rfl,aK.of Py,_,_,rfl,rfl,?_⟩;have mem:(bu lL (Sum.inr ru.1)).isSome=(g3 ru.1).isSome:=by rw [S5.val,qg]
    have fl5:=S5.sm fl _ (λz=>by rw [z,hd] at FD;cases FD) FD;have c5':=S5.sm c' _ (λz=>by rw [z,hd] at lV;cases lV) lV;have l5:=S5.len;refine⟨_,rfl,_,rfl,d,_,rfl,cK.k (k:=Sum.inr ru.1) S5.hd,_,rfl,?_⟩;refine cu (λc5=>?_) (λc5=>?_)
    .have fr:cM bt g3 ru=true:=by
      unfold cM;rw [<-mem,c4,c5];rfl
     refine⟨_,rfl,_,rfl,_,rfl,d,_,rfl,l7.k (k:=Sum.inr ru.1) S5.hd (br ∅),?_⟩;exact⟨_,_,du g3 ru.1 (aH g3 ru),true,_,_,_,rfl,S5.put oO (aH g3 ru),(ar fr).symm⟩
    have isS:(g3 ru.1).isSome=true:=by
     rw [mem] at c5;cases hq:(g3 ru.1).isSome with
     | true=>rfl
     | false=>rw [hq] at c5;exact absurd rfl c5
    obtain⟨k,ek⟩:=mq.mp isS;have hg:cK H8 d (.str ru.1) (some (.int k)):=by
     have:=cK.k (k:=Sum.inr ru.1) S5.hd;rw [S5.val,ek] at this;exact this
    refine⟨fl,pm,c',gF,rfl,_,rfl,_,rfl,_,rfl,d,_,rfl,hg,fl5,c5',rfl,O8 (aH g3 ru) k _ _ ⟨_,rfl,?_⟩⟩;refine cu (λc6=>?_) (λc6=>?_)
    .have fr:cM bt g3 ru=true:=by
      unfold cM;rw [c4,ek];show (true && (false || bt (aH g3 ru) k))=true
      rw [c6];rfl
     refine⟨_,rfl,_,rfl,_,rfl,d,_,rfl,l7.k (k:=Sum.inr ru.1) S5.hd (br ∅),?_⟩;exact⟨_,_,du g3 ru.1 (aH g3 ru),true,_,_,_,rfl,S5.put oO (aH g3 ru),(ar fr).symm⟩
    have fr:¬cM bt g3 ru=true:=by
     unfold cM;rw [c4,ek];show ¬(true && (false || bt (aH g3 ru) k))=true
     rw [qw.mpr c6];exact nofun
    exact⟨lL,Di,g3,yd,_,_,_,rfl,S5,(au fr).symm⟩
   have e5:sstep bt (g3,yd) ru=(g3,yd):=au (λz=>c4 (by unfold cM at z;exact(iZ.mp z).1));exact⟨lL,Di,g3,yd,_,_,_,rfl,S4,e5.symm⟩
  rintro σ H6 ⟨lL,Di,g3,yd,y4,y5,y6,rfl,S3,e3⟩;rw [ax,ll,cH] at e3;exact⟨lL,Di,g3,yd,_,_,_,rfl,S3,e3⟩
 rcases cs with ⟨c',_⟩ | ⟨_,se⟩
 .rw [c'] at c;exact absurd rfl c
 exact⟨_,rfl,qq fu Rh g2 H5 S2.sm S2.hd S2.keys S2.val GI se (by have:=S2.len;omega)⟩
end
end h_
namespace M11
open PySem L2
theorem fold_lt {bt:Int->Int->Bool}{aa:List aw}{J:G->Prop}{r:G->G->Prop}(tr:∀a b c,r a b->r b c->r a c)
  (yt:∀g ru,J g->ru∈aa->cM bt g ru=true->J (du g ru.1 (aH g ru))/\r (du g ru.1 (aH g ru)) g) :
  ∀(l:List aw)(a:G×Bool),(∀ru∈l,ru∈aa)->J a.1->J (l.foldl (sstep bt) a).1/\(l.foldl (sstep bt) a=a\/r (l.foldl (sstep bt) a).1 a.1)
 | [],a,_,j=>⟨j,.inl rfl⟩
 | ru::l,a,h,j=>by
  by_cases c:cM bt a.1 ru=true
  .have e:sstep bt a ru=(du a.1 ru.1 (aH a.1 ru),true):=ar c;obtain⟨j1,r1⟩:=yt a.1 ru j (h ru bK) c;obtain⟨j2,r2⟩:=fold_lt tr yt l (du a.1 ru.1 (aH a.1 ru),true) (λx hx=>h x (bW _ hx)) j1;rw [List.foldl_cons,e];refine⟨j2,.inr ?_⟩;rcases r2 with r2 | r2
   .rw [r2];exact r1
   exact tr _ _ _ r2 r1
  have e:sstep bt a ru=a:=au c;rw [List.foldl_cons,e];exact fold_lt tr yt l a (λx hx=>h x (bW _ hx)) j
def xU {bt:Int->Int->Bool}{aa:List aw}{J:G->Prop}{r:G->G->Prop}(tr:∀a b c,r a b->r b c->r a c)
  (yt:∀g ru,J g->ru∈aa->cM bt g ru=true->J (du g ru.1 (aH g ru))/\r (du g ru.1 (aH g ru)) g){g:G}(h:Acc r g)(j:J g):∃n,oW bt aa n g:=by
 induction h with
 | intro g _ ih =>
  cases c:(sR bt aa g).2 with
  | false=>exact⟨0,c⟩
  | true =>
   obtain⟨j2,r2⟩:=fold_lt tr yt aa (g,false) (λ_ h=>h) j;have r3:r (sR bt aa g).1 g:=by
    rcases r2 with r2 | r2
    .have e:(sR bt aa g)=(g,false):=r2;rw [e] at c;cases c
    exact r2
   obtain⟨n,hn⟩:=ih _ r3 j2;exact⟨n+1,.inr hn⟩
def dI.keep {bt:Int->Int->Bool}{aa:List aw}{J:G->Prop}(yt:∀g ru,J g->ru∈aa->cM bt g ru=true->J (du g ru.1 (aH g ru))){g g':G}(h:dI bt aa g g')(j:J g):J g':=by
 induction h with
 | refl=>exact j
 | step _ a b ih=>exact yt _ _ ih a b
def fg (f:Str->Nat) (hs:List Str):Nat:=(hs.map f).sum
theorem w5 {f k:Str->Nat}:∀{hs:List Str},(∀x∈hs,f x<=k x)->fg f hs<=fg k hs
 | [],_=>aE _
 | h::r,q=>by
  have h1:=q h bK;have h2:=w5 (hs:=r) λx hx=>q x (bW _ hx);show f h+fg f r<=k h+fg k r;omega
theorem mE {f k:Str->Nat}:∀{hs:List Str}{h:Str},(∀x∈hs,f x<=k x)->h∈hs->f h < k h->fg f hs < fg k hs
 | a::r,h,q,m,l=>by
  have h1:=q a bK;have h2:∀x∈r,f x<=k x:=λx hx=>q x (bW _ hx);show f a+fg f r < k a+fg k r;rcases bR.mp m with z | z
  .have:=w5 h2;rw [z] at l;omega
  have:=mE h2 z l;omega
theorem jt (g:G)(J:∀z n,g z=some n->(0:Int)<=n):∀ps:List Str,0<=(ps.map λp=>(g p).getD 0).sum
 | []=>by simp
 | p::r=>by
  have h1:=jt g J r;have h2:0<=(g p).getD 0:=by
   cases e:g p with
   | none=>exact jC _
   | some n=>exact J p n e
  rw [cA,jO];omega
def NN (g:G):Prop:=∀z n,g z=some n->(0:Int)<=n
def vQ {g:G}(j:NN g)(ru:aw):NN (du g ru.1 (aH g ru)):=λz n e=>by
 unfold du at e;by_cases c:z=ru.1
 .rw [ar c] at e;cases e;have:=jt g j ru.2;unfold aH;omega
 rw [au c] at e;exact j z n e
def bl (a b:Int):Bool:=decide (a < b)
def bg (a b:Int):Bool:=decide (a > b)
def zQ (hs:List Str)(g' g:G):Prop :=
 fg (λh=>if (g' h).isSome then 0 else 1) hs < fg (λh=>if (g h).isSome then 0 else 1) hs \/
 (fg (λh=>if (g' h).isSome then 0 else 1) hs=fg (λh=>if (g h).isSome then 0 else 1) hs/\fg (λh=>((g' h).getD 0).toNat) hs < fg (λh=>((g h).getD 0).toNat) hs)
def Ig (hs:List Str)(g:G):Acc (zQ hs) g:=by
 have wf:=(Prod.lex (β:=Nat) (α:=Nat) ⟨(· < ·),Nat.lt_wfRel.wf⟩ ⟨(· < ·),Nat.lt_wfRel.wf⟩).wf;have key:∀p:Nat×Nat,∀g:G,(fg (λh=>if (g h).isSome then 0 else 1) hs,fg (λh=>((g h).getD 0).toNat) hs)=p->Acc (zQ hs) g:=λp=>by
  induction p using wf.induction with
  | _ p ih =>
   intro g e;refine⟨g,λg' r=>ih _ ?_ g' rfl⟩;rw [<-e];rcases r with r | ⟨r1,r2⟩
   .exact Prod.Lex.left _ _ r
   show Prod.Lex _ _ (fg (λh=>if (g' h).isSome then 0 else 1) hs,_) _;rw [r1];exact Prod.Lex.right _ r2
 exact key _ g rfl
def Lm (hs:List Str)(a b c:G)(h:zQ hs a b)(k:zQ hs b c):zQ hs a c:=by
 unfold zQ at *;omega
def Fn {aa:List aw}(g:G)(ru:aw)(j:NN g)(m:ru∈aa)(f:cM bl g ru=true):NN (du g ru.1 (aH g ru))/\zQ (aa.map (·.1)) (du g ru.1 (aH g ru)) g:=by
 refine⟨vQ j ru,?_⟩;have hm:ru.1∈aa.map (·.1):=iC m;have nn:=vQ j ru;have C1:du g ru.1 (aH g ru) ru.1=some (aH g ru):=ar rfl;have ne:∀z,z≠ru.1->du g ru.1 (aH g ru) z=g z:=λz n=>au n;unfold cM at f;have f2:=(iZ.mp f).2;cases e:g ru.1 with
 | none =>
  refine .inl (mE (λx _=>?_) hm ?_)
  .by_cases c:x=ru.1
   .show (if (du g ru.1 (aH g ru) x).isSome then 0 else 1)<=_;rw [c,C1];exact g9 _
   show (if (du g ru.1 (aH g ru) x).isSome then 0 else 1)<=_;rw [ne x c];exact aE _
  show (if (du g ru.1 (aH g ru) ru.1).isSome then 0 else 1) < (if (g ru.1).isSome then 0 else 1);rw [C1,e];show 0 < 1;exact Nat.one_pos
 | some k =>
  rw [e] at f2;have lt:aH g ru < k:=cS (by simpa [bl] using f2);have h0:=nn ru.1 _ C1;refine .inr ⟨?_,mE (λx _=>?_) hm ?_⟩
  .unfold fg
   congr 1
   refine uX λx _=>?_;by_cases c:x=ru.1
   .show (if (du g ru.1 (aH g ru) x).isSome then 0 else 1)=(if (g x).isSome then 0 else 1);rw [c,C1,e];rfl
   show (if (du g ru.1 (aH g ru) x).isSome then 0 else 1)=(if (g x).isSome then 0 else 1);rw [ne x c]
  .by_cases c:x=ru.1
   .show ((du g ru.1 (aH g ru) x).getD 0).toNat<=((g x).getD 0).toNat;rw [c,C1,e];show (aH g ru).toNat<=k.toNat;omega
   show ((du g ru.1 (aH g ru) x).getD 0).toNat<=((g x).getD 0).toNat;rw [ne x c];exact aE _
  show ((du g ru.1 (aH g ru) ru.1).getD 0).toNat < ((g ru.1).getD 0).toNat;rw [C1,e];show (aH g ru).toNat < k.toNat;omega
def zR (aa:List aw)(g:G)(j:NN g):∃n,oW bl aa n g:=xU (Lm (aa.map (·.1))) (λg ru=>Fn g ru) (Ig _ g) j
inductive Em (aa:List aw):Str->Prop
 | mk {ru:aw}:ru∈aa->(∀p∈ru.2,Em aa p)->Em aa ru.1
def sG (aa:List aw)(b:Str->Int):Prop:=(∀z,0<=b z)/\∀ru∈aa,(∀p∈ru.2,Em aa p)->1+(ru.2.map b).sum<=b ru.1
def GJ (aa:List aw)(b:Str->Int)(g:G):Prop:=∀z n,g z=some n->0<=n/\n<=b z/\Em aa z
theorem AN {aa:List aw}{b:Str->Int}{g:G}(j:GJ aa b g)(hb:∀z,0<=b z):∀ps:List Str,(ps.map λp=>(g p).getD 0).sum<=(ps.map b).sum
 | []=>by simp
 | p::r=>by
  have h1:=AN j hb r;have h2:(g p).getD 0<=b p:=by
   cases e:g p with
   | none=>exact hb p
   | some n=>exact(j p n e).2.1
  rw [cA,jO,cA,jO];omega
def gm (b:Str->Int)(g:G)(h:Str):Nat:=if (g h).isSome then (b h - (g h).getD 0).toNat else (b h).toNat+1
def rp {aa:List aw}{b:Str->Int}(B:sG aa b)(g:G)(ru:aw)(j:GJ aa b g)(m:ru∈aa)(f:cM bg g ru=true) :
  GJ aa b (du g ru.1 (aH g ru))/\fg (gm b (du g ru.1 (aH g ru))) (aa.map (·.1)) < fg (gm b g) (aa.map (·.1)):=by
 have hm:ru.1∈aa.map (·.1):=iC m;have C1:du g ru.1 (aH g ru) ru.1=some (aH g ru):=ar rfl;have ne:∀z,z≠ru.1->du g ru.1 (aH g ru) z=g z:=λz n=>au n;unfold cM at f;obtain⟨f1,f2⟩:=iZ.mp f;have em:∀p∈ru.2,Em aa p:=λp hp=>by
  obtain⟨n,en⟩:=mq.mp (dN.mp f1 p hp);exact(j p n en).2.2
 have bd:=B.2 ru m em;have sb:=AN j B.1 ru.2;have s0:=jt g (λz n e=>(j z n e).1) ru.2;have sz:0<=aH g ru/\aH g ru<=b ru.1:=by unfold aH;omega
 refine⟨λz n e=>?_,mE (λx _=>?_) hm ?_⟩
 .by_cases c:z=ru.1
  .rw [c,C1] at e;cases e;rw [c];exact⟨sz.1,sz.2,.mk m em⟩
  rw [ne z c] at e;exact j z n e
 .by_cases c:x=ru.1
  .rw [c];unfold gm;rw [C1];show (b ru.1 - aH g ru).toNat<=_;cases e:g ru.1 with
   | none=>show _<=(b ru.1).toNat+1;omega
   | some k =>
    rw [e] at f2;have lt:aH g ru > k:=cS (by simpa [bg] using f2);show _<=(b ru.1 - k).toNat;omega
  unfold gm;rw [ne x c];exact aE _
 unfold gm;rw [C1];show (b ru.1 - aH g ru).toNat < _;cases e:g ru.1 with
 | none=>show _ < (b ru.1).toNat+1;omega
 | some k =>
  rw [e] at f2;have lt:aH g ru > k:=cS (by simpa [bg] using f2);show _ < (b ru.1 - k).toNat;omega
def z7 {aa:List aw}{b:Str->Int}(B:sG aa b)(g:G)(j:GJ aa b g):∃n,oW bg aa n g :=
 xU (r:=λg' g=>fg (gm b g') (aa.map (·.1)) < fg (gm b g) (aa.map (·.1))) (λ_ _ _ h k=>jV h k) (rp B) ((InvImage.wf (λg:G=>fg (gm b g) (aa.map λx:aw=>x.1)) Nat.lt_wfRel.wf).apply g) j
def xP {aa:List aw}{b:Str->Int}(B:sG aa b){g g':G}(h:dI bg aa g g')(j:GJ aa b g):GJ aa b g':=h.keep (λg ru a m f=>(rp B g ru a m f).1) j
end M11
namespace L2
open PySem
def x8 {K:ba}{H:Hp}{p D:Addr}{zs:List Str}{σ:St}{v:V}{x:Str}{Qp:Hp->Prop}(hp:aK K H p (zs.map V.str))(hz:zs.length<=10000)(hD:H D=none)
  (q:∀ts H2,aC H H2->H2 D=some (.lst (ts.map V.ref))->Paired (λt h=>aS K H2 t [.str h,v]) ts zs->Qp H2) :
  ∃W:Nat->Nat->List V->St->Hp->Prop,(∃m,W 0 m [] (dJ [x] [] σ) (upd H D (.lst []))) /\
 ∀i m ys σ' H,W i m ys σ' H->((jn K p).stop i H/\Qp H)\/((jn K p).go i H/\∃m',m' < m/\∀x H',(jn K p).kX i H x H'->dB 0 x σ' H' λσ2 H2=>gP σ2 H2 λb H3 =>
  if b=true then sQ (gH (gE 0) (gH (tC v) qJ)) σ2 H3 λy H4=>H4 D=some (.lst ys)/\ys.length < sizeLine/\W (i+1) m' (ys++[y]) σ2 (upd H4 D (.lst (ys++[y]))) else W (i+1) m' ys σ2 H3):=by
 refine b0 (xs:=zs.map V.str) (λi ys σ2 H2=>∃ts:List Addr,ys=ts.map V.ref/\ts.length=i/\Paired (λt h=>aS K H2 t [.str h,v]) ts (zs.take i)/\(∃y0,σ2=[y0])/\aC H H2/\H2 D=some (.lst ys))
  ⟨[],rfl,rfl,.nil,⟨none,rfl⟩,af hD _,ae⟩ (λi ys σ2 H2 _ h=>?_) (λi x ys σ2 H2 ex h=>?_) (λys σ2 H2 h=>?_)
 .obtain⟨_,_,_,_,_,sm,_⟩:=h;exact sm.seq hp
 .obtain⟨ts,rfl,ht,jA,⟨y0,rfl⟩,sm,hd⟩:=h;rw [bq] at ex;obtain⟨z,ez,rfl⟩:=cq.mp ex;have li:=(bj.mp ez).1;refine goN (wQ ?_);refine⟨_,rfl,kN,λt jH=>⟨?_,br (by rw [ax];omega),ts++[t],?_,?_,?_,⟨_,rfl⟩,?_,ae⟩⟩
  .rw [ak (ay hd jH)];exact hd
  .rw [bB];rfl
  .rw [bU,ht];rfl
  .rw [cQ,ez];have iU:upd H2 t (.tup [.str z,v]) D=some (.lst (ts.map V.ref)):=by rw [ak (ay hd jH)];exact hd
   exact fO (Paired.di jA λt' h' z=>aP iU ((af jH _).tup z)) (aP iU (aS.of ae))
  intro b o hb;rw [ak (λz=>by rw [z,hD] at hb;cases hb)];exact af jH _ _ _ (sm b o hb)
 obtain⟨ts,rfl,ht,jA,_,sm,hd⟩:=h;rw [ax,cH] at jA;exact q ts H2 sm hd jA
def Tab.same {T:Addr}{pos:Pos}{qual:Str}{H H':Hp}(h:Tab T pos qual H)(s:aC H H'):Tab T pos qual H':=by
 obtain⟨ps,a,b,c⟩:=h;refine⟨ps,s _ _ a,b,c.imp id ?_⟩;rintro⟨c',e,g⟩;exact⟨c',e,s _ _ g⟩
def Tab.Jg {T d:Addr}{pos:Pos}{qual:Str}{H H':Hp}{kvs:List (aL×V)}(h:Tab T pos qual H)(s:gh d H H')(hd:H d=some (.dK kvs)):Tab T pos qual H':=by
 obtain⟨ps,a,b,c⟩:=h;refine⟨ps,s _ _ (λz=>by rw [z,hd] at a;cases a) a,b,c.imp id ?_⟩;rintro⟨c',e,g⟩;exact⟨c',e,s _ _ (λz=>by rw [z,hd] at g;cases g) g⟩
structure yl (K:ba)(x qual:Str)(st:Stmt)(f:Addr)(fd:FuncData)(T:Addr):Prop where
 ex:∃(oc:Value)(od:Option Addr)(kV doc pm:Value)(an:Option Addr)(c:Addr)(ct:Value)(xt:Array (Option Value)),
  fd=PySem.W.fnOf x qual (dr st) (cw st) (az st) .none kV doc pm an (.ref c) ct/\K.lookup f=some ⟨oc,od,.func fd,xt⟩/\PySem.W.codeIn K (.ref c) qual=true/\PySem.W.codeHdIn K c T=true
 kp:PySem.W.keepIn K (.ref f)=true
def yl.ok {P:Program}{w:World}{K:ba}{mg:Str->Option Value}{base:Heap}{x qual:Str}{st:Stmt}{f:Addr}{fd:FuncData}{T:Addr}{N ps:List Str}{k:Nat}{sp:Sp}(F:yl K x qual st f fd T)(S:aM N ps (az st))(len:∀vs H Q E,sp vs H Q E->vs.length=ps.length)
  (jh:∀(c:Addr)(A:Around)(outer:List Env)(s:Shared)(H:Hp)(vs:List V)(Q:VK)(E:XK),PySem.W.codeHdIn K c T=true->eZ k (A.deeper (PyProof.Rows.envOfC qual (az st) s.heap.objs.size f (.ref c)))->sp vs H Q E ->
   ∃t,Aq (oT gw P w K mg base N qual (az st) f (.ref c) A outer s H E).Ck (cw st) t/\t { nx:=λ_ H'=>Q .fc H',rt:=Q } (start N vs) H):bZ P w K mg base gw (k+1) f fd ps sp:=by
 obtain⟨oc,od,kV,doc,pm,an,c,ct,xt,rfl,lk,v8,hC⟩:=F.ex;refine FU lk v8 S len λA outer s H vs Q E hr yu=>?_;obtain⟨t,h,q⟩:=jh c A outer s H vs Q E hC hr yu;exact⟨t,h.Ck,q⟩
theorem ue {v:V}:∀(hs:List Str)(bQ:List (aL×V)) (as:List Str),bQ.map (·.1)=as.map Sum.inr->(cY (hs.map λh=>((Sum.inr h:aL),v)) bQ).map (·.1)=(M11.wk as hs).map Sum.inr
 | [],bQ,as,e=>e
 | h::r,bQ,as,e=>ue r (bN bQ (Sum.inr h) v) (M11.gX as h) (h_.jb e h)
theorem qG {v:V}:∀(hs:List Str)(bQ:List (aL×V))(z:Str),bu (cY (hs.map λh=>((Sum.inr h:aL),v)) bQ) (Sum.inr z)=if z∈hs then some v else bu bQ (Sum.inr z)
 | [],bQ,z=>by simp [cY]
 | h::r,bQ,z=>by
  have ih:=qG (v:=v) r (bN bQ (Sum.inr h) v) z;show bu (cY (r.map λh=>((Sum.inr h:aL),v)) (bN bQ (Sum.inr h) v)) (Sum.inr z)=_;rw [ih,qH];by_cases c:z∈r
  .rw [ar c,ar (bW _ c)]
  rw [au c];by_cases c2:z=h
  .rw [ar (by rw [c2]),ar (by rw [c2];exact bK)]
  rw [au (λe=>c2 (jT e)),au (λe=>(bR.mp e).elim c2 c)]
end L2
namespace h_
open PySem L2 M11
def OP:List Stmt->Arguments×Expr×Scope×Pos
 | [.Return (some (.Call _ [_,_,.Lambda p b s pos] _ _)) _]=>(p,b,s,pos)
 | _=>(⟨[],[],none,[],[],none,[]⟩,.Constant .none 0 ⟨0,0,0,0⟩,az qR,⟨0,0,0,0⟩)
abbrev q0:=OP (cw qR)
abbrev zP:=OP (cw vC)
abbrev yr:Str := "least_sizes" ++ ".<locals>." ++ "<lambda>"
abbrev Ju:Str := "greatest_empty_sizes" ++ ".<locals>." ++ "<lambda>"
def Kt:aM ["size","known"] ["size","known"] q0.2.2.1:=jl rfl rfl rfl rfl nofun
def Ku:aM ["size","known"] ["size","known"] zP.2.2.1:=jl rfl rfl rfl rfl nofun
section
def zD (F:iM K "settled_sizes" "settled_sizes" mK f fd)(T:Txt mg):bZ P w K mg base gw 2 f fd ["rules","sizes","better"] (iE K yr q0.1 q0.2.1 q0.2.2.1 M11.bl) :=
 ua F T Kt (λpm gF c' us hl=>match us,hl with | [_,_],_=>rfl) (λ_ _ _ _ _ _=>dM mT (pv 0) (pv 1) (cg _)) (λa b H Q h=>⟨_,rfl,_,rfl,_,_,rfl,rfl,h⟩)
def zE (F:iM K "settled_sizes" "settled_sizes" mK f fd)(T:Txt mg):bZ P w K mg base gw 2 f fd ["rules","sizes","better"] (iE K Ju zP.1 zP.2.1 zP.2.2.1 M11.bg) :=
 ua F T Ku (λpm gF c' us hl=>match us,hl with | [_,_],_=>rfl) (λ_ _ _ _ _ _=>dM EV (pv 0) (pv 1) (cg _)) (λa b H Q h=>⟨_,rfl,_,rfl,_,_,rfl,rfl,h⟩)
def v9 (aa:List aw):G:=λz=>if z∈sJ (hd aa) [] (aa.flatMap (·.2)) then some 0 else none
def pS (K:ba)(T1:Addr):Sp:=λvs H Q _=>∃(R:Addr)(rs:List Addr)(aa:List aw),vs=[.ref R]/\aK K H R (rs.map V.ref)/\bL K H rs aa/\aa.length<=1000/\(∀ru∈aa,ru.2.length<=8)/\Tab T1 q0.2.2.2 yr H /\
 ∀(d:Addr)(kvs:List (aL×V)) (ks:List Str)(g:G)(H':Hp),H d=none->gh T1 H H'->Tab T1 q0.2.2.2 yr H'->H' d=some (.dK kvs)->kvs.map (·.1)=ks.map Sum.inr->(∀z,bu kvs (Sum.inr z)=(g z).map V.int)->dI M11.bl aa (v9 aa) g->ir M11.bl aa g->kvs.length<=20000->Q (.ref d) H'
def Hm:aM ["rules"] ["rules"] (az qR):=jl rfl rfl rfl rfl nofun
def E5 {T1:Addr}(F:yl K "least_sizes" "least_sizes" qR f fd T1)(T:Txt mg)(hB:sH mg base)(GW:aG P w K mg base 1 "words_in" ["rules"] (AS K))
  (GS:aG P w K mg base 2 "settled_sizes" ["rules","sizes","better"] (iE K yr q0.1 q0.2.1 q0.2.2.1 M11.bl)):bZ P w K mg base gw 3 f fd ["rules"] (pS K T1):=by
 refine F.ok Hm (λvs H Q E h=>?_) (λc A outer s H vs Q E hC hr h=>?_)
 .obtain⟨R,rs,aa,rfl,_⟩:=h;rfl
 obtain⟨R,rs,aa,rfl,hR,cV,bM,h8,hT,q⟩:=h;refine⟨_,ao (bz (bA GS hr rfl (ab (pv 0) (ab (bc (d7 rfl) rfl T.Bx gb (ab
  (aV ["word"] [] rfl (aQ (bA (GW.mono (by decide:1<=2)) hr rfl (ab (pv 0) ai))) (aU rfl rfl) nofun rfl nofun
   (λ_ _ _ _ _=>aq (i:=0) (show (["word"]:List Str).Nodup by decide +kernel) rfl (bo rfl)) (λ_ _ _ _ _=>bw)
   (λ_ _ _ _ _=>bC (ab (pv 0) (ab av ai)))) ai)) (ab (EK (T:=T1) rfl hC hB nofun) ai))))),?_⟩
 dsimp only [F6];refine⟨_,rfl,_,rfl,R,rs,aa,rfl,hR,cV,bM,h8,λD1 H1 f1 s1 e1=>?_⟩;have lw:(sJ (hd aa) [] (aa.flatMap (·.2))).length<=8000:=by
  have h1:=vb (hd aa) (aa.flatMap (·.2)) [];have h2:=jj aa 1000 bM h8;simp only [jP] at h1;omega
 refine⟨D1,rfl,⟨_,aK.of e1⟩,λD2 jL=>x8 (aK.of e1) ∅ jL λts H2 s2 e2 p2=>?_⟩;have kp:Paired (λt (kv:aL×V)=>aS K H2 t [kV kv.1,kv.2]) ts ((sJ (hd aa) [] (aa.flatMap (·.2))).map λh=>((Sum.inr h:aL),V.int 0)):=cT p2 λ_ _ z=>z;refine⟨D2,ts,_,rfl,e2,kp,λd hd2=>?_⟩;have k1:=ue (v:=.int 0) (sJ (hd aa) [] (aa.flatMap (·.2))) [] [] rfl;have k2:∀z,bu (cY ((sJ (hd aa) [] (aa.flatMap (·.2))).map λh=>((Sum.inr h:aL),V.int 0)) []) (Sum.inr z)=(v9 aa z).map V.int:=λz=>by
  rw [qG];unfold v9
  split <;> rfl
 have lk:=iR (sJ (hd aa) [] (aa.flatMap (·.2))) [];simp only [jP] at lk;generalize cY ((sJ (hd aa) [] (aa.flatMap (·.2))).map λh=>((Sum.inr h:aL),V.int 0)) []=OS at k1 k2;have s3:=(s1.trans s2).trans (af hd2 (.dK OS));have e3:upd H2 d (.dK OS) d=some (.dK OS):=ae;have yy:H d=none:=(s1.trans s2).free hd2;generalize upd H2 d (.dK OS)=H3 at s3 e3;refine⟨hT.same s3,λfl c' gF H4 s4 t4 ffl e4 Vn=>?_⟩;have nT:d≠T1:=λz=>by
  obtain⟨ps,a,_⟩:=hT.same s3;rw [<-z,e3] at a;cases a
 have Bm:=s4 d _ nT e3;have Tu:∀{a xs},aS K H a xs->aS K H4 a xs:=λ{a xs} h=>by
  obtain⟨ps,b,_⟩:=hT;rcases h with (h | ⟨u,h⟩) | h
  .exact .inl (.inl (s4 _ _ (λz=>by rw [z,b] at h;cases h) (s3 _ _ h)))
  .exact .inl (.inr ⟨u,s4 _ _ (λz=>by rw [z,b] at h;cases h) (s3 _ _ h)⟩)
  exact .inr h
 have Tv:∀{a xs},aK K H a xs->aK K H4 a xs:=λ{a xs} h=>by
  obtain⟨ps,b,_⟩:=hT;rcases h with (h | ⟨u,h⟩) | h
  .exact .inl (.inl (s4 _ _ (λz=>by rw [z,b] at h;cases h) (s3 _ _ h)))
  .exact .inl (.inr ⟨u,s4 _ _ (λz=>by rw [z,b] at h;cases h) (s3 _ _ h)⟩)
  exact .inr h
 refine⟨R,rs,aa,d,fl,c',_,gF,OS,_,v9 aa,rfl,Tv hR,cV.keep λ_ _ z=>Tu z,bM,h8,Bm,k1,oS _ iN,∅,k2,zR aa _ λz n e=>?_,e4,Vn,λlP OT g' H5 s5 e5 k5 v5 st se Xn=>?_⟩
 .unfold v9 at e
  split at e
  .cases e;exact jC _
  cases e
 refine q d lP OT g' H5 yy (λb o n hb=>s5 b o (λz=>?_) (s4 b o n (s3 b o hb))) (t4.Jg s5 Bm) e5 k5 v5 st se Xn;rw [z,yy] at hb;cases hb
def vh (K:ba)(T2:Addr):Sp:=λvs H Q _=>∃(R:Addr)(rs:List Addr)(aa:List aw)(b:Str->Int),vs=[.ref R]/\aK K H R (rs.map V.ref)/\bL K H rs aa/\aa.length<=1000/\(∀ru∈aa,ru.2.length<=8)/\sG aa b/\Tab T2 zP.2.2.2 Ju H /\
 ∀(d:Addr)(kvs:List (aL×V)) (ks:List Str)(g:G)(H':Hp),H d=none->gh T2 H H'->Tab T2 zP.2.2.2 Ju H'->H' d=some (.dK kvs)->kvs.map (·.1)=ks.map Sum.inr->(∀z,bu kvs (Sum.inr z)=(g z).map V.int)->GJ aa b g->dI M11.bg aa (λ_=>none) g->ir M11.bg aa g->Q (.ref d) H'
def Hq:aM ["rules"] ["rules"] (az vC):=jl rfl rfl rfl rfl nofun
def E7 {T2:Addr}(F:yl K "greatest_empty_sizes" "greatest_empty_sizes" vC f fd T2)(hB:sH mg base)
  (GS:aG P w K mg base 2 "settled_sizes" ["rules","sizes","better"] (iE K Ju zP.1 zP.2.1 zP.2.2.1 M11.bg)):bZ P w K mg base gw 3 f fd ["rules"] (vh K T2):=by
 refine F.ok Hq (λvs H Q E h=>?_) (λc A outer s H vs Q E hC hr h=>?_)
 .obtain⟨R,rs,aa,b,rfl,_⟩:=h;rfl
 obtain⟨R,rs,aa,b,rfl,hR,cV,bM,h8,Ye,hT,q⟩:=h;refine⟨_,ao (bz (bA GS hr rfl (ab (pv 0) (ab fZ (ab (EK (T:=T2) rfl hC hB nofun) ai))))),?_⟩;refine⟨_,rfl,λd yy=>?_⟩;have s3:=af yy (.dK []);have e3:upd H d (.dK []) d=some (.dK []):=ae;generalize upd H d (.dK [])=H3 at s3 e3;refine⟨hT.same s3,λfl c' gF H4 s4 t4 ffl e4 Vn=>?_⟩;have nT:d≠T2:=λz=>by
  obtain⟨ps,a,_⟩:=hT.same s3;rw [<-z,e3] at a;cases a
 have Bm:=s4 d _ nT e3;have Tu:∀{a xs},aS K H a xs->aS K H4 a xs:=λ{a xs} h=>by
  obtain⟨ps,b,_⟩:=hT;rcases h with (h | ⟨u,h⟩) | h
  .exact .inl (.inl (s4 _ _ (λz=>by rw [z,b] at h;cases h) (s3 _ _ h)))
  .exact .inl (.inr ⟨u,s4 _ _ (λz=>by rw [z,b] at h;cases h) (s3 _ _ h)⟩)
  exact .inr h
 have Tv:∀{a xs},aK K H a xs->aK K H4 a xs:=λ{a xs} h=>by
  obtain⟨ps,b,_⟩:=hT;rcases h with (h | ⟨u,h⟩) | h
  .exact .inl (.inl (s4 _ _ (λz=>by rw [z,b] at h;cases h) (s3 _ _ h)))
  .exact .inl (.inr ⟨u,s4 _ _ (λz=>by rw [z,b] at h;cases h) (s3 _ _ h)⟩)
  exact .inr h
 have j0:GJ aa b (λ_=>none):=λz n e=>nomatch e;refine⟨R,rs,aa,d,fl,c',_,gF,[],[],λ_=>none,rfl,Tv hR,cV.keep λ_ _ z=>Tu z,bM,h8,Bm,rfl,iN,g9 _,λ_=>rfl,z7 Ye _ j0,e4,Vn,λlP OT g' H5 s5 e5 k5 v5 st se Xn=>?_⟩;refine q d lP OT g' H5 yy (λb o n hb=>s5 b o (λz=>?_) (s4 b o n (s3 b o hb))) (t4.Jg s5 Bm) e5 k5 v5 (xP Ye st j0) st se;rw [z,yy] at hb;cases hb
end
end h_
namespace L2
open PySem PySem.Spec PyProof.Rows
def Ml (o:Obj):Nat:=match o.data with
 | .dict _ ep=>ep
 | _=>0
def QK (d:Addr)(o:Obj)(kvs:List (aL×V)):It :=
 ⟨λi H=>H d=some (.jN o (.dK kvs))/\i < kvs.length,λi H x H'=>H'=H/\∃kv,kvs[i]?=some kv/\x=kV kv.1,λi H=>H d=some (.jN o (.dK kvs))/\kvs.length<=i⟩
def Aa {X:Cx}{ag:List (Addr×Obj)}{σ:St}{H:Hp}{s:Shared}{d:Addr}{o:Obj}{kvs:List (aL×V)}(I:Inv X ag σ H s)(e:H d=some (.jN o (.dK kvs))) :
  (d == sysModules)=false/\∃vs,KV kvs vs/\s.heap.DictAt (bf X.prog X.w) d vs (Ml o):=by
 obtain⟨ho,hz,hs,vs,r,o',es,ep,h1,h2,h3,h4⟩:=(show cJ X.prog X.w H s.heap d (.jN o (.dK kvs)) from I.b8 d _ e);rw [ho] at h1;cases h1;refine⟨hs,vs,r,o,es,ho,h2,?_,h4⟩;unfold Ml;rw [h3]
def BS {P:Program}{w:World}{K:ba}{tg:Expr}(d it:Addr)(o:Obj)(kvs:List (aL×V)):Turn P w K tg (QK d o kvs) [it] it (λi h=>h.IsKeyIter it d i kvs.length (Ml o)) where
 mem:=by simp
 obj:=λi h st b hb=>by
  have e:b=it:=by simpa using hb
  subst e;obtain⟨o,e,c,d⟩:=st;exact⟨o,e,λv z=>by rw [d] at z;cases z⟩
 keep:=λi h h' st k=>let ⟨o,e,r⟩:=st;⟨o,k it (by simp) o e,r⟩
 item:=by
  intro X hP hw hK hc i ag s σ H E I hf st hg;subst hP hw hK;obtain⟨hq,hi⟩:=hg;obtain⟨hs,vs,r,da⟩:=Aa I hq;have l:=r.length;obtain⟨kv,RD⟩:∃kv,kvs[i]?=some kv:=⟨kvs[i],cR hi⟩;obtain⟨q,eq⟩:∃q,vs[i]?=some q:=⟨vs[i]'∅,cR ∅⟩;have ek:kv.1=q.1:=by
   have:=congrArg (λl:List aL=>l[i]?) r.keys;simp only [bq,RD,eq] at this;exact fQ this
  obtain⟨f0,f1,f2,f3,f4,f5⟩:=hf it (by simp);rw [l] at st;refine wpAny_pyNext_dict_item (k:=q.1) (v:=q.2) st da eq λkey h' hk wL sb=>?_;have I1:Inv X ag σ H { s with heap:=h' }:=I.turned (t':=s.toks) (λb o hb e=>(sb.2 b hb).trans e) f0 f1 f3 f4 f5;obtain⟨o2,e,c,dd⟩:=id wL;rw [<-l] at wL;exact⟨key,rfl,Bn (s:={ s with heap:=h' }) e c dd nofun ⟨kV kv.1,H,I1,by rw [ek];exact JB hk,⟨rfl,kv,RD,rfl⟩,wL,λb hb=>(hf b hb).1⟩⟩
 done:=by
  intro X hP hw hK hc i ag s σ H E I hf st hg;subst hP hw hK;obtain⟨hq,hi⟩:=hg;obtain⟨hs,vs,r,da⟩:=Aa I hq;have l:=r.length;obtain⟨f0,f1,f2,f3,f4,f5⟩:=hf it (by simp);rw [l] at st;exact wpAny_pyNext_dict_end (I.ok.hd hc) st da (u3 ∅) λh' eb=>⟨rfl,I.turned (t':=s.toks) (λb o hb e=>eb b o hb e) f0 f1 f3 f4 f5⟩
 self:=λ_ _ _ _ _ st h=>wpAny_pyIter_keyiter st h
def O4 (tl:TE):TI:=λσ H R=>tl σ H λx H1=>∃d kvs,x=.ref d/\H1 d=some (.dK kvs)/\∀o,R (QK d o kvs) (upd H1 d (.jN o (.dK kvs)))
def Ba {X:Cx}{tg l:Expr}{tl:TE}(hl:PE X l tl):PI X tg l (O4 tl):=by
 intro ag s σ H R I h;refine cW (hl ag s σ H _ I h) λv s1 bF=>?_;obtain⟨x,H1,I1,r1,q1⟩:=bF;obtain⟨d,kvs,e,hd,q⟩:=q1;subst e;cases r1;obtain⟨hz,hs,vs,r,o,es,ep,h1,h2⟩:=(show cJ X.prog X.w H1 s1.heap d (.dK kvs) from I1.b8 d _ hd);have I2:Inv X ag σ (upd H1 d (.jN o (.dK kvs))) { s1 with heap:=s1.heap,toks:=s1.toks }:=I1.write (x:=d) (e:=d) (by rw [hd];exact True.intro) (.inl rfl) (λb u _ e=>e) ⟨o,h1⟩ ⟨h1,hz,hs,vs,r,o,es,ep,h1,h2⟩;have e2:upd H1 d (.jN o (.dK kvs)) d=some (.jN o (.dK kvs)):=ae;obtain⟨_,Ws,r2,da⟩:=Aa I2 e2;have q2:=q o;generalize upd H1 d (.jN o (.dK kvs))=H2 at I2 e2 q2;refine wpAny_pyIter_dict hs da ?_;refine⟨s1.heap.objs.size,[s1.heap.objs.size],_,_,H2,rfl,I2.kept (t':=s1.toks) λb o e=>cx _ e,BS d _ o kvs,⟨_,dH _ rfl,rfl,by rw [r2.length];rfl⟩,λb hb=>?_,q2⟩;have e:b=s1.heap.objs.size:=by simpa using hb
 subst e;exact I2.v_ (aE _) (I2.b8.fresh (aE _))
section
variable {d D:Addr}{o:Obj}{kvs:List (aL×V)}{ts:List Str}{js:List (Nat×Str)}{g:TG}{tif:TT}{te:TE}{R:Hp->Prop}{σ:St}{H:Hp}
def rX (Pv:Nat->List V->St->Hp->Prop)(h0:Pv 0 [] (dJ ts js σ) (upd H D (.lst [])))(hl:∀i ys σ H,i<=kvs.length->Pv i ys σ H->H d=some (.jN o (.dK kvs)))
  (hs:∀i kv ys σ H,kvs[i]?=some kv->Pv i ys σ H->g (kV kv.1) σ H λσ2 H2=>tif σ2 H2 λb H3=>if b=true then te σ2 H3 λy H4=>H4 D=some (.lst ys)/\ys.length < sizeLine/\Pv (i+1) (ys++[y]) σ2 (upd H4 D (.lst (ys++[y]))) else Pv (i+1) ys σ2 H3)
  (hd:∀ys σ H,Pv kvs.length ys σ H->R H) :
  ∃W:Nat->Nat->List V->St->Hp->Prop,(∃m,W 0 m [] (dJ ts js σ) (upd H D (.lst []))) /\
 ∀i m ys σ' H,W i m ys σ' H->((QK d o kvs).stop i H/\R H)\/((QK d o kvs).go i H/\∃m',m' < m/\∀x H',(QK d o kvs).kX i H x H'->g x σ' H' λσ2 H2=>tif σ2 H2 λb H3 =>
  if b=true then te σ2 H3 λy H4=>H4 D=some (.lst ys)/\ys.length < sizeLine/\W (i+1) m' (ys++[y]) σ2 (upd H4 D (.lst (ys++[y]))) else W (i+1) m' ys σ2 H3):=by
 refine⟨λi m ys σ H=>m=kvs.length - i/\i<=kvs.length/\Pv i ys σ H,⟨kvs.length,by simp,g9 _,h0⟩,?_⟩;rintro i m ys σ' H ⟨rfl,hi,p⟩;have q:=hl i ys σ' H hi p;by_cases jI:i < kvs.length
 .refine .inr ⟨⟨q,jI⟩,kvs.length - (i+1),∅,λx H' y=>?_⟩;obtain⟨e,kv,RD,rfl⟩:=y;subst e;have z:=hs i kv ys σ' _ RD p;have h1:(i+1<=kvs.length)=True:=eq_true jI;simp only [h1,true_and];exact z
 have e:i=kvs.length:=by omega
 subst e;exact .inl ⟨⟨q,aE _⟩,hd ys σ' H p⟩
end
def uy {A:Around}{s:Shared}{l b:Addr}{ys xs:List Int}{aT eU:List Value}(r:a_ (ys.map V.int) aT)(r2:a_ (xs.map V.int) eU)(hl:s.heap.IsList l aT.toArray)(hb:s.heap.IsList b eU.toArray)(ne:l≠b)(hu:A.units < cLine) :
  SeqAt.EqAt A s (.ref l) (.ref b) (decide (ys=xs)):=by
 have l1:=r.length;have l2:=r2.length;rw [ax] at l1 l2;by_cases bM:ys.length=xs.length
 .have h:=SeqAt.RcAt.lists (A:=A) (e:=λj=>decide (ys[j]?=xs[j]?)) hl hb (by simp only [cP];omega) hu λj h1 h2=>?_
  .have e:((List.range aT.toArray.size).all λj=>decide (ys[j]?=xs[j]?))=decide (ys=xs):=by
    rw [iY,dN,decide_eq_true_iff];constructor
    .intro h;refine List.ext_getElem? λj=>?_;by_cases c:j < ys.length
     .exact cS (h j (iX.mpr (by simp only [cP];omega)))
     rw [u3 ∅,u3 ∅]
    intro h j _;rw [h];exact cC rfl
   rw [e] at h;exact .of_refs ne h
  have k1:j < aT.length:=by simpa using h1
  have k2:j < eU.length:=by simpa using h2
  have e1:ys[j]?=some (ys[j]'∅):=cR ∅;have e2:xs[j]?=some (xs[j]'∅):=cR ∅;obtain⟨u1,f1,q1⟩:=r.get (show (ys.map V.int)[j]?=some (.int (ys[j]'∅)) by rw [bq,e1];rfl);obtain⟨u2,f2,q2⟩:=r2.get (show (xs.map V.int)[j]?=some (.int (xs[j]'∅)) by rw [bq,e2];rfl);have g1:aT.toArray[j]=u1:=by
   have:=(bj.mp f1).2;simpa using this
  have g2:eU.toArray[j]=u2:=by
   have:=(bj.mp f2).2;simpa using this
  rw [g1,g2,e1,e2];obtain⟨t1,rfl⟩:=q1;obtain⟨t2,rfl⟩:=q2;have:=SeqAt.EqAt.int_int (A:=A.in1) (s:=s) (ys[j]'∅) t1 (xs[j]'∅) t2;have e3:(ys[j]'∅ == xs[j]'∅)=decide (some (ys[j]'∅)=some (xs[j]'∅)):=by
   rw [iY,beq_iff_eq,decide_eq_true_iff,Option.some.injEq]
  rw [e3] at this;exact this
 have h:=SeqAt.RcAt.lists_lengths (A:=A) hl hb (by simp only [cP,bne_iff_ne];omega) hu;rw [fA (λz=>bM (by rw [z]))];exact .of_refs ne h
def B9 {X:Cx}(hu:X.A.units+1 < cLine):jM X (compareOp .In) (λx y H Q=>∃t a l1 l2 xs ys zs,x=.ref a/\y=.ref t/\aS X.K H t [.ref l1,.ref l2]/\aK X.K H a (List.map V.int xs)/\aK X.K H l1 (List.map V.int ys)/\aK X.K H l2 (List.map V.int zs)/\l1≠a/\l2≠a /\
  Q (.bl (decide (ys=xs) || decide (zs=xs))) H):=by
 intro ag s σ H x y v u Q I rx ry h;obtain⟨t,a,l1,l2,xs,ys,zs,rfl,rfl,ht,ha,h1,h2,n1,n2,q⟩:=h;cases rx;cases ry;obtain⟨aT,r,pl,hz⟩:=I.tuple ht;obtain⟨u1,u2,rfl,q1,q2⟩:=vals2 r;cases (show u1=Value.ref l1 from q1);cases (show u2=Value.ref l2 from q2);obtain⟨xa,ra,pa,za⟩:=I.list ha;obtain⟨x1,r1,p1,z1⟩:=I.list h1;obtain⟨x2,r2,p2,z2⟩:=I.list h2;have e1:=uy (A:=X.A.in1) (s:=s) r1 ra p1.isList pa.isList n1 hu;have e2:=uy (A:=X.A.in1) (s:=s) r2 ra p2.isList pa.isList n2 hu;refine SeqAt.in_tupleAt (λy=>if y == .ref l1 then decide (ys=xs) else decide (zs=xs)) (show s.heap.IsTuple t #[.ref l1,.ref l2] from pl) (λy hy=>?_) ?_
 .have hy':y=.ref l1\/y=.ref l2:=by simpa using hy
  by_cases c:y=.ref l1
  .subst c;rw [ar (n8 _)];exact e1
  rcases hy' with z | z
  .exact absurd z c
  subst z;rw [au (λq=>c (eq_of_beq q))];exact e2
 refine⟨.bl (decide (ys=xs) || decide (zs=xs)),H,I,?_,q⟩
 show Value.bool _=Value.bool _
 congr 1
 by_cases c:l2=l1
 .subst c;have e3:=I.q_ h1 h2;have e4:ys=zs:=by
   have:=congrArg (List.map λv:V=>match v with | .int n=>n | _=>0) e3
   simpa [iA,Function.comp_def] using this
  subst e4;simp
 simp [c]
end L2
namespace M11
open PySem L2
def CG (b:Str->Bool) (zs:List Str) (i:Nat):List Int:=((List.range i).filter λj=>!(zs[j]?.elim true b)).map λj:Nat=>(j:Int)
def xS (b:Str->Bool) (zs:List Str) (i:Nat){z:Str}(e:zs[i]?=some z):CG b zs (i+1)=CG b zs i++(if b z=true then [] else [(i:Int)]):=by
 unfold CG;rw [List.range_succ,qi,bB]
 congr 1
 by_cases h:b z=true
 .rw [ar h];simp [e,h]
 rw [au h];simp [e,h]
def Iz (b:Str->Bool) (zs:List Str) (i:Nat):(CG b zs i).length<=i:=by
 unfold CG;rw [ax];have:=mn (λj=>!(zs[j]?.elim true b)) (List.range i);rw [uR] at this;exact this
def Ie (b:Str->Bool) (zs:List Str) (j:Nat):Bool:=decide ([]=CG b zs zs.length) || decide ([(j:Int)]=CG b zs zs.length)
def NI (aa:List aw) (names:List Str)(b:Str->Bool)(n:Str) (k j:Nat):Prop:=∃ru z,aa[k]?=some ru/\ru.1=n/\ru.2[j]?=some z/\z∈names/\Ie b ru.2 j=true
end M11
namespace L2
open PySem M11
def jo (p:Str×Addr):aL×V:=(Sum.inr p.1,.ref p.2)
theorem nj:∀(ps bQ:List (aL×V)),((bQ++ps).map (·.1)).Nodup->cY ps bQ=bQ++ps
 | [],bQ,_=>by simp [cY]
 | p::r,bQ,h=>by
  have n:bu bQ p.1=none:=by
   cases e:bu bQ p.1 with
   | none=>rfl
   | some v =>
    have hm:=(eV bQ p.1).mp (by rw [e];rfl);rw [bB,cA] at h;exact absurd rfl ((jE.mp h).2.2 p.1 hm p.1 bK)
  show cY r (bN bQ p.1 p.2)=_;rw [xn p.2 n,nj r (bQ++[(p.1,p.2)]) (by rw [jD];exact h),jD];rfl
theorem gS:∀(ps:List (Str×Addr)),(ps.map (·.1)).Nodup->∀p∈ps,bu (ps.map jo) (Sum.inr p.1)=some (.ref p.2)
 | q::r,h,p,hp=>by
  rw [cA] at h ⊢;rcases bR.mp hp with z | z
  .rw [z];exact d8 rfl
  rw [d_,gS r (iB.mp h).2 p z];intro e;have e':q.1=p.1:=jT e;exact(iB.mp h).1 (by rw [e'];exact iC z)
def mU (ps:List (Str×Addr)):(ps.map jo).map (·.1)=(ps.map (·.1)).map Sum.inr:=by
 rw [iA,iA];rfl
def rW {K:ba}{H:Hp}{p D:Addr}{zs:List Str}{σ:St}{x:Str}{Qp:Hp->Prop}(hp:aK K H p (zs.map V.str))(hz:zs.length<=10000)(hD:H D=none)
  (q:∀ts (ps:List (Str×Addr)) H2,aC H H2->H2 D=some (.lst (ts.map V.ref))->ps.map (·.1)=zs->Paired (λt (p:Str×Addr)=>aS K H2 t [.str p.1,.ref p.2]) ts ps->(∀p∈ps,H2 p.2=some (.lst [])/\H p.2=none/\p.2≠D)->(ps.map (·.2)).Nodup->Qp H2) :
  ∃W:Nat->Nat->List V->St->Hp->Prop,(∃m,W 0 m [] (dJ [x] [] σ) (upd H D (.lst []))) /\
 ∀i m ys σ' H,W i m ys σ' H->((jn K p).stop i H/\Qp H)\/((jn K p).go i H/\∃m',m' < m/\∀x H',(jn K p).kX i H x H'->dB 0 x σ' H' λσ2 H2=>gP σ2 H2 λb H3 =>
  if b=true then sQ (gH (gE 0) (gH (NZ qJ) qJ)) σ2 H3 λy H4=>H4 D=some (.lst ys)/\ys.length < sizeLine/\W (i+1) m' (ys++[y]) σ2 (upd H4 D (.lst (ys++[y]))) else W (i+1) m' ys σ2 H3):=by
 refine b0 (xs:=zs.map V.str) (λi ys σ2 H2=>∃(ts:List Addr)(ps:List (Str×Addr)),ys=ts.map V.ref/\ts.length=i/\ps.map (·.1)=zs.take i/\Paired (λt (p:Str×Addr)=>aS K H2 t [.str p.1,.ref p.2]) ts ps /\
   (∀p∈ps,H2 p.2=some (.lst [])/\H p.2=none/\p.2≠D)/\(ps.map (·.2)).Nodup/\(∃y0,σ2=[y0])/\aC H H2/\H2 D=some (.lst ys))
  ⟨[],[],rfl,rfl,rfl,.nil,by simp,by simp,⟨none,rfl⟩,af hD _,ae⟩ (λi ys σ2 H2 _ h=>?_) (λi x ys σ2 H2 ex h=>?_) (λys σ2 H2 h=>?_)
 .obtain⟨_,_,_,_,_,_,_,_,_,sm,_⟩:=h;exact sm.seq hp
 .obtain⟨ts,ps,rfl,ht,hm,jA,hl,hn,⟨y0,rfl⟩,sm,hd⟩:=h;rw [bq] at ex;obtain⟨z,ez,rfl⟩:=cq.mp ex;have li:=(bj.mp ez).1;refine goN (wQ ?_);refine⟨_,rfl,tI,λl sV=>⟨kN,λt jH=>?_⟩⟩;have Lf:l≠D:=(ay hd sV).symm;have nt:t≠l:=λe=>by rw [e,ae] at jH;cases jH
  have Pa:H2 t=none:=by rw [ak nt] at jH;exact jH
  have ntD:t≠D:=(ay hd Pa).symm;have vk:aC H2 (upd (upd H2 l (.lst [])) t (.tup [.str z,.ref l])):=(af sV _).trans (af jH _);have iU:=vk _ _ hd;have el:upd (upd H2 l (.lst [])) t (.tup [.str z,.ref l]) l=some (.lst []):=by rw [ak nt.symm,ae]
  have et:aS K (upd (upd H2 l (.lst [])) t (.tup [.str z,.ref l])) t [.str z,.ref l]:=aS.of ae;generalize upd (upd H2 l (.lst [])) t (.tup [.str z,.ref l])=H4 at vk iU el et;refine⟨iU,br (by rw [ax];omega),ts++[t],ps++[(z,l)],by rw [bB];rfl,by rw [bU,ht];rfl,by rw [bB,hm,cQ,ez];rfl,?_,?_,?_,⟨_,rfl⟩,?_,ae⟩
  .exact fO (Paired.di jA λt' h' z=>aP iU (vk.tup z)) (aP iU et)
  .intro p' oN;rcases cD.mp oN with h | h
   .obtain⟨a1,a2,a3⟩:=hl p' h;exact⟨by rw [ak a3];exact vk _ _ a1,a2,a3⟩
   rw [cO.mp h];exact⟨by rw [ak Lf];exact el,sm.free sV,Lf⟩
  .rw [bB];refine jE.mpr ⟨hn,by simp,λa ha b hb e=>?_⟩;rw [tu,cO] at hb;obtain⟨p',oN,rfl⟩:=bV.mp ha;have:=(hl p' oN).1;rw [e,hb] at this;rw [show H2 l=none from sV] at this;cases this
  intro b o hb;rw [ak (λz=>by rw [z,hD] at hb;cases hb)];exact vk _ _ (sm b o hb)
 obtain⟨ts,ps,rfl,ht,hm,jA,hl,hn,_,sm,hd⟩:=h;rw [ax,cH] at hm;exact q ts ps H2 sm hd hm jA hl hn
def ya {K:ba}{H:Hp}{p D d:Addr}{zs:List Str}{kvs:List (aL×V)}{σ:St}{js:List (Nat×Str)}{Qp:Hp->Prop}(hσ:dJ ["place","part"] js σ=[none,none,aF d])(hp:aS K H p (zs.map V.str))(hz:zs.length<=1000)
  (hd:H d=some (.dK kvs))(hD:H D=none)(q:∀H2,aC H H2->H2 D=some (.lst ((CG (λz=>(bu kvs (Sum.inr z)).isSome) zs zs.length).map V.int))->Qp H2) :
  ∃W:Nat->Nat->List V->St->Hp->Prop,(∃m,W 0 m [] (dJ ["place","part"] js σ) (upd H D (.lst []))) /\
 ∀i m ys σ' H,W i m ys σ' H->((sr K p).stop i H/\Qp H)\/((sr K p).go i H/\∃m',m' < m/\∀x H',(sr K p).kX i H x H'->z9 K 2 (ji (dB 0) (ji (dB 1) CD)) x σ' H' λσ2 H2=>tB (AJ (gE 1) (gE 2)) σ2 H2 λb H3 =>
  if b=true then gE 0 σ2 H3 λy H4=>H4 D=some (.lst ys)/\ys.length < sizeLine/\W (i+1) m' (ys++[y]) σ2 (upd H4 D (.lst (ys++[y]))) else W (i+1) m' ys σ2 H3):=by
 refine yb (xs:=zs.map V.str) (λi ys σ2 H2=>ys=(CG (λz=>(bu kvs (Sum.inr z)).isSome) zs i).map V.int/\(∃y0 y1,σ2=[y0,y1,aF d])/\aC H H2/\H2 D=some (.lst ys))
  ⟨rfl,⟨none,none,hσ⟩,af hD _,ae⟩ (λi ys σ2 H2 _ h=>h.2.2.1.tup hp) (λi x ys σ2 H2 t ex h ht=>?_) (λys σ2 H2 h=>?_)
 .obtain⟨rfl,⟨y0,y1,rfl⟩,sm,hd2⟩:=h;rw [bq] at ex;obtain⟨z,ez,rfl⟩:=cq.mp ex;have li:=(bj.mp ez).1;have vk:=sm.trans (af ht (.tup [.int (i:Int),.str z]));have iU:upd H2 t (.tup [.int (i:Int),.str z]) D=some (.lst ((CG (λz=>(bu kvs (Sum.inr z)).isSome) zs i).map V.int)):=by rw [ak (ay hd2 ht)];exact hd2
  have hv:aS K (upd H2 t (.tup [.int (i:Int),.str z])) t [.int (i:Int),.str z]:=aS.of ae;generalize upd H2 t (.tup [.int (i:Int),.str z])=H3 at vk iU hv;have fl:=Iz (λz=>(bu kvs (Sum.inr z)).isSome) zs i;refine⟨t,_,rfl,hv,rfl,_,_,rfl,_,_,rfl,rfl,?_⟩;refine⟨_,rfl,_,rfl,d,_,rfl,cK.k (k:=Sum.inr z) (vk _ _ hd),_,rfl,?_⟩;refine cu (λc=>?_) (λc=>?_)
  .refine⟨_,rfl,iU,br (by rw [ax];omega),?_,⟨_,_,rfl⟩,?_,ae⟩
   .rw [xS _ zs i ez,au (λe=>by rw [e] at c;exact absurd c nofun),bB];rfl
   intro b o hb;rw [ak (λz=>by rw [z,hD] at hb;cases hb)];exact vk b o hb
  refine⟨?_,⟨_,_,rfl⟩,vk,iU⟩;rw [xS _ zs i ez,ar,gG];cases hq:(bu kvs (Sum.inr z)).isSome with
  | true=>rfl
  | false=>exact absurd (by rw [hq];rfl) c
 obtain⟨rfl,_,sm,hd2⟩:=h;rw [ax] at hd2;exact q H2 sm hd2
open PySem PySem.Spec PyProof.Rows
def ij {X:Cx}{elt iter tg:Expr}{iy:Nat}{y:Str}{py Oa:Pos}{ifs:List Expr}{scope:Scope}{pos:Pos}{wi:TI}{g:TG}{tif:TT}{te:TE}(ts:List Str)(js:List (Nat×Str))(hN:X.N.Nodup)(hiy:X.N[iy]?=some y)(hy:X.env.scope.names.lookup y=some .local)(hc:X.calm=true)(hi:PI X tg iter wi)
  (cp:I0 X scope js)(jf:∀y∈scope.names,y.2≠.cell)(je:scope.kind=.function)
  (zZ:∀y∈scope.names,y.2=.local->scope.names.lookup y.1=some .local)
  (hg:∀cl C s1 H1 fp,PG (rR X scope cl C s1 H1 (ts++js.map (·.2)) fp) tg g)
  (UA:∀cl C s1 H1 fp,C7 (rR X scope cl C s1 H1 (ts++js.map (·.2)) fp) ifs tif)(he:∀cl C s1 H1 fp,PE (rR X scope cl C s1 H1 (ts++js.map (·.2)) fp) elt te)
  (hsw:swapsWith (.ListComp elt [⟨tg,iter,ifs,0⟩] scope pos) (some (.Name y py)) Oa.line X.env=pure true:=by rfl)(hs:∀x,foldedSetIterable iter X.env x=pure x:=by intro _;rfl) :
  PS X (.Assign [.Name y py] (.ListComp elt [⟨tg,iter,ifs,0⟩] scope pos) Oa) (Kq (DP wi ts js g tif te) (dB iy)):=by
 intro ag s σ H DD I h;rw [exec_Assign_Name_used _ _ _ _ hsw];refine aD (wpAny_standAt (aD ?_));show wpAny _ _ (do let _ <-comprehension (.ListComp elt [⟨tg,iter,ifs,0⟩] scope pos) scope X.env _ (newList []) false (eval iter X.env) (some (assign (.Name y py) X.env))) _ _ s;obtain⟨cl,mY⟩:=wm (env:=X.env) (scope:=scope) λy hy=>I.ok.has y (.inl (cp.all y hy));refine aD (dw (wpAny_comprehension_free (use:=some (assign (.Name y py) X.env)) (Q:=λ_ s'=>SP X ag DD .next s') rfl hs mY.eq je zZ (cW (hi ag s σ H _ I h) λv s1 h1=>cW h1 λRi s2 h2=>?_)) (λ_ s' hq=>aR (aR hq)) λ_ _ e=>e);obtain⟨it,fp,tn,J,H2,e,I2,T,GI,f2,h2⟩:=h2;subst e;obtain⟨W,⟨m0,w0⟩,turn⟩:=h2 s2.heap.objs.size I2.fresh;have FD:∀b∈fp,b < s2.heap.objs.size:=λb hb=>by obtain⟨o,e,_⟩:=T.obj _ _ GI b hb;exact bJ e
 refine mj (wpAny_newFunctionEnv jf (by intro y hy;simp at hy) (λh₁ zY v3=>?_) je);dsimp only at zY v3 ⊢;generalize LV:s2.heap.push { cls:=.type "list",dict:=none,data:=.seq ([]:List Value).toArray }=G2 at zY v3 ⊢;have Iw:G2.objs.size=s2.heap.objs.size+1:=by rw [<-LV,nQ]
 have Nj:s2.heap.objs.size≠G2.objs.size:=by rw [Iw];exact bX (oX _)
 have old:∀b o,s2.heap.get? b=some o->h₁.get? b=some o:=λb o e =>
  v3.extBut b o (by rw [Iw];exact bX (qx (bJ e))) (cx _ (LV ▸ cx _ e))
 have CC:h₁.get? s2.heap.objs.size=some { cls:=.type "list",data:=.seq ([]:List Value).toArray 0 }:=v3.extBut _ _ Nj (cx _ (LV ▸ dH _ rfl));generalize m_:rR X scope cl G2.objs.size s2 H2 (ts++js.map (·.2)) fp=X2;have I4:Inv X2 [] (dJ ts js σ) (upd H2 s2.heap.objs.size (.lst [])) { s2 with heap:=h₁,toks:=s2.toks+([]:List (Str×Value)).length }:=by
  rw [<-m_];exact ui I2 f2 FD je jf cp mY (by rw [Iw];exact oX _) rfl rfl old zY CC
 have x1:X2.prog=X.prog:=by rw [<-m_];rfl
 have x2:X2.w=X.w:=by rw [<-m_];rfl
 have x3:X2.K=X.K:=by rw [<-m_];rfl
 have x4:X2.calm=true:=by rw [<-m_];exact hc
 have x5:X2.A=X.A:=by rw [<-m_];rfl
 have x6:X2.env=compEnvC scope cl G2.objs.size X.env:=by rw [<-m_];rfl
 have x7:X2.xe=λ_ _=>False:=by rw [<-m_];rfl
 have UD:PG X2 tg g:=by rw [<-m_];exact hg _ _ _ _ _
 have LN:C7 X2 ifs tif:=by rw [<-m_];exact UA _ _ _ _ _
 have Dl:PE X2 elt te:=by rw [<-m_];exact he _ _ _ _ _
 have N9:tn 0 h₁:=T.keep _ _ _ GI λb _ o e=>old b o e;have qL:∀{H':Hp}{jG:List (Addr×Obj)},(∀b∈fp,H' b=none)->(∀p∈jG,p.1∉fp)->∀b∈fp,wF X2 jG H' b:=λ{H' jG} hn hp b hb=>by
  have o4:=I4.ok;subst m_;exact⟨hn b hb,(o4.Nn b hb).1,o4.CH b hb,.inl hb,(o4.Nn b hb).2,λp oN=>by
   have sU:p∈([]:List (Addr×Obj))++jG:=oN;rw [qe] at sU;intro z;exact hp p sU (by rw [z];exact hb)⟩
 have fin:∀{s':Shared}{σ':St}{H':Hp},Inv X2 [] σ' H' s'->DD.nx (σ.set iy (some (.ref s2.heap.objs.size))) H' ->
   compPost (model X.prog X.w) X.A X.xe (some (assign (.Name y py) X.env)) (λ_ s'=>SP X ag DD .next s') (.ref s2.heap.objs.size) G2.objs.size (.ok .next) s':=λ{s' σ' H'} J' q=>by
  subst m_;obtain⟨m',Bk,_⟩:=J'.loc;have I5:Inv X ag σ H' s':=I2.JU (s':=s') J'.os J'.base J'.b8 J'.bare λb hb=>by
   obtain⟨_,f1,_,f3,f4,f5⟩:=f2 b hb;exact⟨f3,f1,f4,f5⟩
  obtain⟨f0,f1,_,f3,f4,f5⟩:=I2.v_ (H':=H') (b:=G2.objs.size) (by rw [Iw];exact jS _) J'.free;show wpAny _ _ (assign (.Name y py) X.env (.ref s2.heap.objs.size)) _ _ s';refine wpAny_assign_Name (tO I5 hN hiy (.inl hy) (v:=.ref s2.heap.objs.size) rfl (λOh I6 bF=>?_) (.inr hy));obtain⟨a,sb,ha⟩:=bF;have nCa:G2.objs.size≠a:=by
   rcases ha with ha | ha
   .rw [ha];exact f1
   exact(f4 _ _ ha).symm
  refine⟨m',Bk.sameBut sb nCa,λh' Na=>?_⟩;exact⟨_,H',I6.turned (t':=Oh.toks) (λb o hb e=>(Na.2 b hb).trans e) f0 f1 f3 f4 f5,q⟩
 have loop:∀s₃:Shared,s₃={ s2 with heap:=h₁,toks:=s2.toks+([]:List (Str×Value)).length } ->
   codeAny (model X.prog X.w) X.A (.compLoop (.ListComp elt [⟨tg,iter,ifs,0⟩] scope pos) 0 (.ref it) (.ref s2.heap.objs.size) (compEnvC scope cl G2.objs.size X.env))
    (compPost (model X.prog X.w) X.A X.xe (some (assign (.Name y py) X.env)) (λ_ s'=>SP X ag DD .next s') (.ref s2.heap.objs.size) G2.objs.size) s₃:=by
  rintro s₃ rfl;subst m_;refine pj (λn s'=>∃i ys σ' H',Inv (rR X scope cl G2.objs.size s2 H2 (ts++js.map (·.2)) fp) [] σ' H' s'/\tn i s'.heap/\(∀b∈fp,H' b=none)/\W i n ys σ' H') ?_ m0
   ⟨0,[],_,_,I4,N9,λb hb=>by rw [ak (bX (FD b hb))];exact(f2 b hb).1,w0⟩
  rintro n s' ⟨i,ys,σ0,H',J',wL,PX,w'⟩;rcases turn i n ys σ0 H' w' with ⟨stop,q⟩ | ⟨go,m',hm,step⟩
  .refine dw (T.done (rR X scope cl G2.objs.size s2 H2 (ts++js.map (·.2)) fp) rfl rfl rfl hc i [] s' _ H' (λ_ _=>False) J' (qL PX (by simp)) wL stop) (λr s4 ⟨hr,J4⟩=>?_) λ_ _ z=>z;subst hr;exact fin J4 q
  refine dw (T.item (rR X scope cl G2.objs.size s2 H2 (ts++js.map (·.2)) fp) rfl rfl rfl hc i [] s' _ H' (λ_ _=>False) J' (qL PX (by simp)) wL go) (λr s4 ⟨u,hr,h4⟩=>?_) λ_ _ z=>z;subst hr;refine dw h4 (λ_ s5 bF=>?_) λ_ _ z=>z;obtain⟨xv,H5,J5,r5,y5,BV,PV⟩:=bF;have Wg:=J5.pinned (qL PV (by simp)) (T.obj _ _ BV);have back:∀{s7:Shared}{σ7:St}{H7:Hp},Inv (rR X scope cl G2.objs.size s2 H2 (ts++js.map (·.2)) fp) ([]++oB fp s5.heap) σ7 H7 s7->Inv (rR X scope cl G2.objs.size s2 H2 (ts++js.map (·.2)) fp) [] σ7 H7 s7/\tn (i+1) s7.heap/\∀b∈fp,H7 b=none:=λ{s7 σ7 H7} J7=>by
   refine⟨J7.jW,T.keep _ _ _ BV λb hb o e=>(J7.pin (b,o) (dA _ (dA _ (gU hb e)))).1,λb hb=>?_⟩;obtain⟨o,e,d⟩:=T.obj _ _ BV b hb;exact(J7.pin (b,o) (dA _ (dA _ (gU hb e)))).2.1
  show wpAny _ _ (assign tg (rR X scope cl G2.objs.size s2 H2 (ts++js.map (·.2)) fp).env u) _ _ s5;refine dw (UD _ s5 _ H5 xv u _ Wg r5 (step xv H5 y5)) (λ_ s6 bF=>?_) λ_ _ z=>z;obtain⟨σ6,H6,J6,q6⟩:=bF;refine dw (LN _ s6 _ H6 _ J6 q6) (λb s7 bF=>?_) λ_ _ z=>z;obtain⟨H7,J7,q7⟩:=bF;cases b with
  | false =>
   rw [au cU] at q7 ⊢;obtain⟨J8,Sy,U4⟩:=back J7;exact⟨m',hm,i+1,ys,σ6,H7,J8,Sy,U4,q7⟩
  | true =>
   rw [ar rfl] at q7 ⊢;refine dw (Dl _ s7 _ H7 _ J7 q7) (λyv s8 bF=>?_) λ_ _ z=>z;obtain⟨y,H8,J8,r8,UU,T9,w8⟩:=bF;refine dw (bE (X:=rR X scope cl G2.objs.size s2 H2 (ts++js.map (·.2)) fp) _ s8 _ H8 (.ref s2.heap.objs.size) [y] (.ref s2.heap.objs.size) [yv] (λv H'=>W (i+1) m' (ys++[y]) σ6 H') J8 rfl (.cons r8 .nil) ⟨s2.heap.objs.size,ys,y,rfl,rfl,UU,T9,w8⟩)
    (λ_ s9 ⟨_,H9,J9,_,w9⟩=>?_) λ_ _ z=>z
   obtain⟨Wh,Kr,Mb⟩:=back J9;exact⟨m',hm,i+1,ys++[y],σ6,H9,Wh,Kr,Mb,w9⟩
 exact codeAny_compStart_list (loop _ rfl) (T.self _ _ _ _ _ N9 (loop _ rfl))
end L2
namespace h_
open PySem L2 M11
section
def vS {l:List Str}(h:l.Nodup):(l.map (Sum.inr:Str->aL)).Nodup:=List.Pairwise.map _ (λa b hab e=>hab (jT e)) h
structure Ds (K:ba)(ps:List (Str×Addr))(st:Str->List (Nat×Nat))(H:Hp)(d:Addr):Prop where
 hd:Rd H d (.dK (ps.map jo))
 n1:(ps.map (·.1)).Nodup
 n2:(ps.map (·.2)).Nodup
 lst:∀p∈ps,∃ts,H p.2=some (.lst (ts.map V.ref))/\Paired (λt (e:Nat×Nat)=>aS K H t [.int (e.1:Int),.int (e.2:Int)]) ts (st p.1)
def Rd.same {H H':Hp}{a:Addr}{u:HO}(h:Rd H a u)(s:aC H H'):Rd H' a u:=h.elim (λz=>.inl (s _ _ z)) λ⟨o,z⟩=>.inr ⟨o,s _ _ z⟩
theorem Ds.same {ps:List (Str×Addr)}{st:Str->List (Nat×Nat)}{H H':Hp}{d:Addr}(h:Ds K ps st H d)(s:aC H H'):Ds K ps st H' d :=
 ⟨Rd.same h.hd s,h.n1,h.n2,λp hp=>let ⟨ts,a,b⟩:=h.lst p hp;⟨ts,s _ _ a,Paired.di b λ_ _ z=>s.tup z⟩⟩
def uK (st:Str->List (Nat×Nat))(n:Str)(e:Nat×Nat):Str->List (Nat×Nat):=λz=>if z=n then st z++[e] else st z
def Ds.more {ps:List (Str×Addr)}{st:Str->List (Nat×Nat)}{H:Hp}{d:Addr}(h:Ds K ps st H d){p:Str×Addr}(hp:p∈ps){ts:List Addr}{t:Addr}{e:Nat×Nat}(a:H p.2=some (.lst (ts.map V.ref)))
  (b:Paired (λt (e:Nat×Nat)=>aS K H t [.int (e.1:Int),.int (e.2:Int)]) ts (st p.1))(c:aS K H t [.int (e.1:Int),.int (e.2:Int)]) :
  Ds K ps (uK st p.1 e) (upd H p.2 (.lst (ts.map V.ref++[.ref t]))) d:=by
 have nd:d≠p.2:=λz=>by
  rcases h.hd with q | ⟨o,q⟩
  .rw [z,a] at q;cases q
  rw [z,a] at q;cases q
 refine⟨?_,h.n1,h.n2,λp' oN=>?_⟩
 .rcases h.hd with q | ⟨o,q⟩
  .exact .inl (by rw [ak nd];exact q)
  exact .inr ⟨o,by rw [ak nd];exact q⟩
 by_cases z:p'=p
 .rw [z];refine⟨ts++[t],by rw [ae,bB];rfl,?_⟩;have e1:uK st p.1 e p.1=st p.1++[e]:=ar rfl;rw [e1];exact fO (Paired.di b λ_ _ z=>aP a z) (aP a c)
 have n1:p'.1≠p.1:=λq=>z (by
  have w1:=gS ps h.n1 p' oN;have w2:=gS ps h.n1 p hp;rw [q,w2] at w1;injection w1 with w3;injection w3 with w4;exact iD q w4.symm)
 have n2:p'.2≠p.2:=λq=>by
  obtain⟨i,hi,ei⟩:=qj.mp oN;obtain⟨j,hj,ej⟩:=qj.mp hp;have xM:i=j:=by
   refine(uM (xs:=ps.map (·.2)) (h₀:=by simpa using hi) (h₁:=by simpa using hj) h.n2).mp ?_;rw [n6,n6,ei,ej];exact q
  subst xM;exact z (ei.symm.trans ej)
 obtain⟨I_,a',b'⟩:=h.lst p' oN;refine⟨I_,by rw [ak n2];exact a',?_⟩;have e1:uK st p.1 e p'.1=st p'.1:=au n1;rw [e1];exact Paired.di b' λ_ _ z=>aP a z
def AV (K:ba):Sp:=λvs H Q _=>∃(R:Addr)(rs:List Addr)(aa:List aw),vs=[.ref R]/\aK K H R (rs.map V.ref)/\bL K H rs aa/\aa.length<=1000/\(∀ru∈aa,ru.2.length<=8) /\
 ∀(d:Addr)(ps:List (Str×Addr))(st:Str->List (Nat×Nat))(aX:List (Str×Nat))(H':Hp),H d=none->aC H H'->H' d=some (.dK (ps.map jo))->Ds K ps st H' d->ps.map (·.1)=hd aa->(∀p∈ps,H p.2=none)->sO aa aX->su aa aa.length aX ->
  (∀n k j,n∈hd aa->((k,j)∈st n↔NI aa (hd aa) (λz=>decide (z∈aX.map (·.1))) n k j))->Q (.ref d) H'
def iO:aM ["rules","empty","steps","number","rule","place","part","filled"] ["rules"] (az yY):=jl rfl rfl rfl rfl nofun
def EZ (F:iM K "steps_with_like_rows" "steps_with_like_rows" yY f fd)(T:Txt mg)(GE:aG P w K mg base 1 "found_empties" ["rules"] (oo K))(GH:aG P w K mg base 1 "heads_of" ["rules"] (ki K)):bZ P w K mg base gw 2 f fd ["rules"] (AV K):=by
 refine F.ok iO (λvs H Q E h=>?_) (λeY A outer s H vs Q E hr h=>?_)
 .obtain⟨R,rs,aa,rfl,_⟩:=h;rfl
 obtain⟨R,rs,aa,rfl,hR,cV,bM,h8,q⟩:=h;have hu:=gM hr;refine⟨_,aj (aB (i:=1) iO.nd rfl (Or.inr rfl) (bc (d7 rfl) rfl T.Bx gb (ab (bA GE hr rfl (ab (pv 0) ai)) ai)))
  (aj (aB (i:=2) iO.nd rfl (bo rfl) (bc (d7 rfl) rfl T.Bx gb (ab
   (aV ["name"] [] rfl (aQ (bA GH hr rfl (ab (pv 0) ai))) (aU rfl rfl) nofun rfl nofun
    (λ_ _ _ _ _=>aq (i:=0) (show (["name"]:List Str).Nodup by decide +kernel) rfl (bo rfl)) (λ_ _ _ _ _=>bw)
    (λ_ _ _ _ _=>bC (ab (pv 0) (ab (bY ai) ai)))) ai)))
  (aj (bS cf rfl (mS rfl T.IB (ab (pv 0) ai)) (fJ rfl (aA (aq (i:=3) iO.nd rfl (bo rfl)) (aA (aq (i:=4) iO.nd rfl (bo rfl)) bH)))
   (aj (ij (iy:=7) ["place","part"] [(1,"empty")] iO.nd rfl rfl rfl (mR rfl T.IB (ab (bD bT (pv 4) av (λ_ _=>rfl)) ai)) (aU rfl rfl) nofun rfl nofun
    (λ_ _ _ _ _=>dC (n:=2) K rfl (aA (aq (i:=0) (show (["place","part","empty"]:List Str).Nodup by decide +kernel) rfl (bo rfl)) (aA (aq (i:=1) (show (["place","part","empty"]:List Str).Nodup by decide +kernel) rfl (bo rfl)) bH)))
    (λ_ _ _ _ _=>gK (gr (eI hu (pv 1) (pv 2)))) (λ_ _ _ _ _=>pv 0))
   (ao (bS cf rfl (mR rfl T.IB (ab (bD bT (pv 4) av (λ_ _=>rfl)) ai)) (fJ rfl (aA (aq (i:=5) iO.nd rfl (bo rfl)) (aA (aq (i:=6) iO.nd rfl (bo rfl)) bH)))
    (ao (b9 (PW.pt (jw (gr (lF hu (pv 6) (pv 2))) (ig (a8 (B9 hu) (pv 7) (bC (ab (bY ai) (ab (bY (ab (pv 5) ai)) ai))) rfl))))
     (ao (b_ (f_ fV fX fY bE (ft hu (pv 2) (bD bT (pv 4) av (λ_ _=>rfl)) (λ_ _=>rfl)) (ab (bC (ab (pv 3) (ab (pv 5) ai))) ai)))) aY)))))
   )
  (ao (bz (pv 2))))),?_⟩
 nofun
 have ll:=a0 cV;refine⟨_,rfl,R,rs,aa,rfl,hR,cV,bM,h8,λD1 BU aX H1 f1 s1 e1 w1 emp nu=>?_⟩;have TY:Paired (λt (kv:aL×V)=>aS K H1 t [kV kv.1,kv.2]) BU (aX.map λp=>((Sum.inr p.1:aL),V.int (p.2:Int))):=cT w1 λ_ _ z=>z;refine⟨D1,BU,_,rfl,e1,TY,λe he=>?_⟩;have ekE:cY (aX.map λp=>((Sum.inr p.1:aL),V.int (p.2:Int))) []=aX.map λp=>((Sum.inr p.1:aL),V.int (p.2:Int)):=nj _ [] (by
  rw [qe,iA];have:=vS emp.nd;rw [iA] at this;exact this)
 rw [ekE];have Cn:∀z,(bu (aX.map λp=>((Sum.inr p.1:aL),V.int (p.2:Int))) (Sum.inr z)).isSome=decide (z∈aX.map (·.1)):=λz=>by
  rw [iY,eV,decide_eq_true_iff,iA];have:(aX.map λp:Str×Nat=>(Sum.inr p.1:aL))=(aX.map (·.1)).map Sum.inr:=by rw [iA];rfl
  show _∈(aX.map λp:Str×Nat=>(Sum.inr p.1:aL))↔_;rw [this];exact c_
 generalize (aX.map λp=>((Sum.inr p.1:aL),V.int (p.2:Int)))=kE at Cn ⊢;have s2:=s1.trans (af he (.dK kE));have e2:upd H1 e (.dK kE) e=some (.dK kE):=ae;generalize upd H1 e (.dK kE)=H2 at s2 e2;refine⟨_,rfl,R,rs,aa,rfl,s2.seq hR,cV.same s2,bM,λD2 H3 f3 s3 e3=>?_⟩;have Ll:=iR (aa.map (·.1)) [];simp only [jP,ax] at Ll;refine⟨D2,rfl,⟨_,aK.of e3⟩,λD3 LX=>rW (aK.of e3) ∅ LX λts ps H4 s4 e4 m4 p4 l4 n4=>?_⟩;have n1:(ps.map (·.1)).Nodup:=by rw [m4];exact oS _ iN
 have Fp:Paired (λt (kv:aL×V)=>aS K H4 t [kV kv.1,kv.2]) ts (ps.map jo):=cT p4 λ_ _ z=>z;refine⟨D3,ts,_,rfl,e4,Fp,λd uo=>?_⟩;have P9:cY (ps.map jo) []=ps.map jo:=nj _ [] (by
  rw [qe,mU];exact vS n1)
 rw [P9];have s5:=((s2.trans s3).trans s4).trans (af uo (.dK (ps.map jo)));have xl:=af uo (.dK (ps.map jo));have e5:upd H4 d (.dK (ps.map jo)) d=some (.dK (ps.map jo)):=ae;have Qa:=xl _ _ (s4 _ _ (s3 _ _ e2));have yy:H d=none:=((s2.trans s3).trans s4).free uo;have S5:Ds K ps (λ_=>[]) (upd H4 d (.dK (ps.map jo))) d:=⟨.inl e5,n1,n4,λp hp=>⟨[],xl _ _ (l4 p hp).1,.nil⟩⟩;have Nm:∀p∈ps,H p.2=none:=λp hp=>(s2.trans s3).free (l4 p hp).2.1;generalize upd H4 d (.dK (ps.map jo))=H5 at s5 e5 Qa S5;clear xl;have eb:(λz=>(bu kE (Sum.inr z)).isSome)=λz=>decide (z∈aX.map (·.1)):=funext Cn;refine⟨_,rfl,R,_,rfl,s5.seq hR,?_⟩
 let wD:sq:=λi σ H6=>∃(st:Str->List (Nat×Nat))(y3 y4 y5 y6 y7:Option V),σ=[aF R,aF e,aF d,y3,y4,y5,y6,y7]/\aC H H6/\H6 e=some (.dK kE)/\H6 d=some (.dK (ps.map jo))/\Ds K ps st H6 d /\
  (∀n,(st n).length<=8 * i)/\∀n k j,n∈hd aa->((k,j)∈st n↔k < i/\NI aa (hd aa) (λz=>decide (z∈aX.map (·.1))) n k j)
 refine ka (xs:=rs.map V.ref) wD
  ⟨λ_=>[],none,none,none,none,none,rfl,s5,Qa,e5,S5,by simp,by simp⟩ ?_ ?_ ?_
 .rintro i σ H6 _ ⟨st,y3,y4,y5,y6,y7,rfl,s6,_⟩;exact s6.seq hR
 .rintro i x σ H6 t ex ⟨st,y3,y4,y5,y6,y7,rfl,s6,Mp,Vm,S6,l6,c6⟩ ht
  ac_nf0
  rw [bq] at ex;obtain⟨r,er,rfl⟩:=cq.mp ex;obtain⟨ru,rM,p,v1,v2⟩:=cV.get er;have oO:=cE rM;have LZ:=h8 ru oO;have li:=(bj.mp rM).1;have vI:=af ht (.tup [.int (i:Int),.ref r]);have JD:aS K (upd H6 t (.tup [.int (i:Int),.ref r])) t [.int (i:Int),.ref r]:=aS.of ae;have s7:=s6.trans vI;have Mo:=vI _ _ Mp;have YG:=vI _ _ Vm;have S7:=S6.same vI;generalize upd H6 t (.tup [.int (i:Int),.ref r])=H7 at JD s7 Mo YG S7;refine⟨t,_,rfl,JD,rfl,_,_,rfl,_,_,rfl,rfl,?_⟩;refine⟨_,rfl,r,_,_,_,rfl,rfl,s7.tup v1,rfl,p,_,rfl,s7.tup v2,λD5 Nk=>ya rfl (s7.tup v2) ∅ Mo Nk λH8 MZ e8=>?_⟩;rw [eb] at e8;have s8:=s7.trans MZ;have ee8:=MZ _ _ Mo;have ed8:=MZ _ _ YG;have S8:=S7.same MZ;have nD5:∀p∈ps,p.2≠D5:=λp hp z=>by
   obtain⟨I_,a,_⟩:=S7.lst p hp;rw [z,Nk] at a;cases a
  obtain⟨pn,xK,yz⟩:∃pn∈ps,pn.1=ru.1:=by
   have:ru.1∈ps.map (·.1):=by rw [m4];exact(gZ _ _ _).mpr (.inr (iC oO))
   obtain⟨pn,a,b⟩:=bV.mp this;exact⟨pn,a,b⟩
  refine⟨_,rfl,r,_,_,_,rfl,rfl,s8.tup v1,rfl,p,_,rfl,s8.tup v2,?_⟩
  let C9:sq:=λj σ H9=>∃(st:Str->List (Nat×Nat))(y5 y6:Option V),σ=[aF R,aF e,aF d,some (.int (i:Int)),aF r,y5,y6,aF D5]/\aC H H9/\H9 e=some (.dK kE)/\H9 d=some (.dK (ps.map jo))/\Ds K ps st H9 d /\
   H9 D5=some (.lst ((CG (λz=>decide (z∈aX.map (·.1))) ru.2 ru.2.length).map V.int))/\(∀n,(st n).length<=8 * i+j)/\∀n k j',n∈hd aa->((k,j')∈st n↔(k < i\/(k=i/\j' < j))/\NI aa (hd aa) (λz=>decide (z∈aX.map (·.1))) n k j')
  refine oR (xs:=ru.2.map V.str) C9
   ⟨st,_,_,rfl,s8,ee8,ed8,S8,e8,λn=>l6 n,λn k j' hn=>by rw [c6 n k j' hn];simp⟩ ?_ ?_ ?_
  .rintro j σ H9 _ ⟨st,y5,y6,rfl,s9,_⟩;exact s9.tup v2
  .rintro j x σ H9 t2 jm ⟨st,y5,y6,rfl,s9,Vj,Vl,S9,e9,l9,c9⟩ jH
   ac_nf0
   rw [bq] at jm;obtain⟨z,ez,rfl⟩:=cq.mp jm;have lj:=(bj.mp ez).1;have xj:=af jH (.tup [.int (j:Int),.str z]);have Fu:aS K (upd H9 t2 (.tup [.int (j:Int),.str z])) t2 [.int (j:Int),.str z]:=aS.of ae;have vJ:=s9.trans xj;have wc:=xj _ _ Vj;have pL:=xj _ _ Vl;have Dn:=xj _ _ e9;have J1:=S9.same xj;generalize upd H9 t2 (.tup [.int (j:Int),.str z])=Aw at Fu vJ wc pL Dn J1;have mem:(bu (ps.map jo) (Sum.inr z)).isSome=true↔z∈hd aa:=by rw [eV,mU,m4];exact c_
   have jY:¬(z∈hd aa/\Ie (λz=>decide (z∈aX.map (·.1))) ru.2 j=true)->∀n k j',n∈hd aa->((k,j')∈st n↔(k < i\/(k=i/\j' < j+1))/\NI aa (hd aa) (λz=>decide (z∈aX.map (·.1))) n k j'):=λhn n k j' Uu=>by
    rw [c9 n k j' Uu];constructor
    .rintro⟨h1,h3⟩;exact⟨∅,h3⟩
    rintro⟨h1,h3⟩;refine⟨?_,h3⟩;by_cases c:k=i/\j'=j
    .obtain⟨zk,z',a1,a2,a3,a4,a5⟩:=h3;rw [c.1,rM] at a1;cases a1;rw [c.2] at a5;rw [c.2,ez] at a3;cases a3;exact absurd ⟨a4,a5⟩ hn
    omega
   have Xp:∀n,(st n).length<=8 * i+(j+1):=λn=>by have:=l9 n;omega
   refine⟨t2,_,rfl,Fu,rfl,_,_,rfl,_,_,rfl,rfl,?_⟩;refine⟨_,rfl,_,rfl,d,_,rfl,cK.k (k:=Sum.inr z) pL,_,rfl,?_⟩;refine cu (λc=>?_) (λc=>?_)
   .have hz:=mem.mp c;refine⟨_,rfl,tI,λl1 XX=>?_⟩;have Hs:=af XX (.lst []);have G9:upd Aw l1 (.lst []) l1=some (.lst []):=ae;have nl1:l1≠D5:=(ay Dn XX).symm;generalize upd Aw l1 (.lst [])=Dc at Hs G9;refine⟨_,rfl,I9,λl2 sV=>?_⟩;have Jj:=af sV (.lst [.int (j:Int)]);have JR:upd Dc l2 (.lst [.int (j:Int)]) l2=some (.lst [.int (j:Int)]):=ae;have Tj:l2≠D5:=(ay (Hs _ _ Dn) sV).symm;generalize upd Dc l2 (.lst [.int (j:Int)])=yk at Jj JR;refine⟨kN,λt3 Pa=>?_⟩;have Q6:=af Pa (.tup [.ref l1,.ref l2]);have Y8:aS K (upd yk t3 (.tup [.ref l1,.ref l2])) t3 [.ref l1,.ref l2]:=aS.of ae;generalize upd yk t3 (.tup [.ref l1,.ref l2])=BN at Q6 Y8;have pG:=(Hs.trans Jj).trans Q6;refine⟨t3,D5,l1,l2,_,[],[(j:Int)],rfl,rfl,Y8,aK.of (pG _ _ Dn),aK.of (Q6 _ _ (Jj _ _ G9)),aK.of (Q6 _ _ JR),nl1,Tj,_,rfl,?_⟩;have Gp:=J1.same pG;have KH:=vJ.trans pG;refine cu (λc2=>?_) (λc2=>?_)
    .obtain⟨Wu,an,bn⟩:=Gp.lst pn xK;have vn:=gS ps n1 pn xK;rw [yz] at vn;have hg:cK BN d (.str ru.1) (some (.ref pn.2)):=by
      have:=cK.k (k:=Sum.inr ru.1) (pG _ _ pL);rw [vn] at this;exact this
     have ltn:=a0 bn;have l9n:=l9 pn.1;refine⟨_,rfl,_,rfl,r,_,_,_,rfl,rfl,KH.tup v1,rfl,d,_,rfl,hg,.inl ⟨rfl,_,aK.of an⟩,_,rfl,_,rfl,kN,λt4 zX=>?_⟩;have zi:=af zX (.tup [.int (i:Int),.int (j:Int)]);have Y7:aS K (upd BN t4 (.tup [.int (i:Int),.int (j:Int)])) t4 [.int (i:Int),.int (j:Int)]:=aS.of ae;generalize upd BN t4 (.tup [.int (i:Int),.int (j:Int)])=H14 at zi Y7;have QB:=Gp.same zi;have IQ:=zi _ _ an;have VO:=Paired.di bn λt' (e':Nat×Nat)(z:aS K BN t' [.int (e'.1:Int),.int (e'.2:Int)])=>zi.tup z;refine⟨pn.2,_,_,rfl,rfl,IQ,br (by rw [ax];omega),?_⟩;have Wc:=QB.more (e:=(i,j)) xK IQ VO Y7;have ne1:e≠pn.2:=λz=>by have:=zi _ _ (pG _ _ wc);rw [z,IQ] at this;cases this
     have ne2:d≠pn.2:=λz=>by have:=zi _ _ (pG _ _ pL);rw [z,IQ] at this;cases this
     refine⟨uK st pn.1 (i,j),_,_,rfl,λb o hb=>?_,by rw [ak ne1];exact zi _ _ (pG _ _ wc),by rw [ak ne2];exact zi _ _ (pG _ _ pL),Wc,by rw [ak (nD5 pn xK).symm];exact zi _ _ (pG _ _ Dn),λn=>?_,λn k j' Uu=>?_⟩
     .rw [ak (λz=>by rw [z,Nm pn xK] at hb;cases hb)];exact zi _ _ (KH b o hb)
     .have:=l9 n;unfold uK
      split
      .rw [bU];simp;omega
      omega
     have hit:NI aa (hd aa) (λz=>decide (z∈aX.map (·.1))) ru.1 i j:=⟨ru,z,rM,rfl,ez,hz,c2⟩;have JW:=c9 n k j' Uu;unfold uK;by_cases cn:n=pn.1
     .rw [ar cn,cD,cO,JW];constructor
      .rintro(⟨h1,h3⟩ | h1)
       .exact⟨∅,h3⟩
       cases h1;exact⟨∅,by rw [cn,yz];exact hit⟩
      rintro⟨h1,h3⟩;by_cases cc:k=i/\j'=j
      .exact .inr (by rw [cc.1,cc.2])
      exact .inl ⟨∅,h3⟩
     rw [au cn,JW];constructor
     .rintro⟨h1,h3⟩;exact⟨∅,h3⟩
     rintro⟨h1,h3⟩;refine⟨?_,h3⟩;by_cases cc:k=i/\j'=j
     .obtain⟨zk,z',a1,a2,_⟩:=h3;rw [cc.1,rM] at a1;cases a1;exact absurd (a2.symm.trans yz.symm) cn
     omega
    exact⟨st,_,_,rfl,KH,pG _ _ wc,pG _ _ pL,Gp,pG _ _ Dn,Xp,jY λ⟨_,h⟩=>c2 h⟩
   exact⟨st,_,_,rfl,vJ,wc,pL,J1,Dn,Xp,jY λ⟨h,_⟩=>c (mem.mpr h)⟩
  rintro σ H9 ⟨st,y5,y6,rfl,s9,Vj,Vl,S9,e9,l9,c9⟩;rw [ax] at l9 c9;refine⟨st,_,_,_,_,_,rfl,s9,Vj,Vl,S9,λn=>?_,λn k j' hn=>?_⟩
  .have:=l9 n;omega
  rw [c9 n k j' hn];constructor
  .rintro⟨h1 | ⟨h1,h2⟩,h3⟩
   .exact⟨∅,h3⟩
   exact⟨∅,h3⟩
  rintro⟨h1,h3⟩;refine⟨?_,h3⟩;by_cases c:k < i
  .exact .inl c
  refine .inr ⟨∅,?_⟩;obtain⟨zk,z',a1,_,a3,_⟩:=h3;have:k=i:=by omega
  rw [this,rM] at a1;cases a1;exact(bj.mp a3).1
 rintro σ H6 ⟨st,y3,y4,y5,y6,y7,rfl,s6,Mp,Vm,S6,l6,c6⟩;rw [ax,ll] at c6;refine⟨_,rfl,q d ps st aX H6 yy s6 Vm S6 m4 Nm emp nu λn k j hn=>?_⟩;rw [c6 n k j hn];constructor
 .exact λh=>h.2
 intro h;obtain⟨zk,_,a1,_⟩:=id h;exact⟨(bj.mp a1).1,h⟩
end
end h_
namespace L2
open PySem
def cK.r {H:Hp}{a:Addr}{kvs:List (aL×V)}{k:aL}(e:Rd H a (.dK kvs)):cK H a (kV k) (bu kvs k):=.inl ⟨kvs,k,e,rfl,rfl⟩
end L2
namespace h_
open PySem L2 M11
section
def Down (aa:List aw) (names:List Str)(st:Str->List (Nat×Nat))(rk:Str->Nat):Prop:=∀n∈names,∀e∈st n,∃ru z,aa[e.1]?=some ru/\ru.2[e.2]?=some z/\z∈names/\rk z < rk n
def Jc (K:ba):Sp:=λvs H Q _=>∃(R d:Addr)(rs:List Addr)(aa:List aw)(ps:List (Str×Addr))(st:Str->List (Nat×Nat))(name:Str)(rk:Str->Nat),vs=[.ref R,.ref d,.str name]/\aK K H R (rs.map V.ref)/\bL K H rs aa/\aa.length<=1000 /\
 Ds K ps st H d/\ps.length<=1000/\name∈ps.map (·.1)/\Down aa (ps.map (·.1)) st rk/\∀(D:Addr)(H':Hp),H D=none->aC H H'->H' D=some (.lst [])->Q (.ref D) H'
structure Dr (K:ba) (names:List Str)(rk:Str->Nat)(name:Str)(H H5:Hp)(D m:Addr)(kY:List Addr)(jF:List (Str×Addr)) (ms:List Str)(kvs:List (aL×V)):Prop where
 sm:aC H H5
 hD:H5 D=some (.lst (kY.map V.ref))
 hm:H5 m=some (.dK kvs)
 keys:kvs.map (·.1)=ms.map Sum.inr
 nd:ms.Nodup
 sub:∀x∈ms,x∈names
 wl:jF.length=ms.length+1
 wv:Paired (λt (e:Str×Addr)=>aS K H5 t [.str e.1,.ref e.2]) kY jF
 we:∀e∈jF,e.1∈names/\rk e.1<=rk name/\∃xs,H5 e.2=some (.lst xs)/\xs.length<=jF.length/\e.2≠D
def Dr.same {names:List Str}{rk:Str->Nat}{name:Str}{H H5 H6:Hp}{D m:Addr}{kY:List Addr}{jF:List (Str×Addr)}{ms:List Str}{kvs:List (aL×V)}(h:Dr K names rk name H H5 D m kY jF ms kvs)(s:aC H5 H6):Dr K names rk name H H6 D m kY jF ms kvs :=
 ⟨h.sm.trans s,s _ _ h.hD,s _ _ h.hm,h.keys,h.nd,h.sub,h.wl,Paired.di h.wv λ_ _ z=>s.tup z,λe he=>let ⟨a,b,xs,c,d⟩:=h.we e he;⟨a,b,xs,s _ _ c,d⟩⟩
def Dr.len {names:List Str}{rk:Str->Nat}{name:Str}{H H5:Hp}{D m:Addr}{kY:List Addr}{jF:List (Str×Addr)}{ms:List Str}{kvs:List (aL×V)}(h:Dr K names rk name H H5 D m kY jF ms kvs):kY.length=jF.length/\kvs.length=ms.length/\ms.length<=names.length:=by
 refine⟨a0 h.wv,?_,gy _ _ h.nd h.sub⟩;have:=congrArg List.length h.keys;simpa using this
def Dr.more {names:List Str}{rk:Str->Nat}{name z:Str}{H H5 H9:Hp}{D m t c:Addr}{kY:List Addr}{jF:List (Str×Addr)}{ms:List Str}{kvs:List (aL×V)}{xs:List V}(h:Dr K names rk name H H5 D m kY jF ms kvs)(fD:H D=none)(fm:H m=none)
  (hz:z∈names)(hr:rk z<=rk name)(hn:z∉ms)(s:aC (upd H5 m (.dK (bN kvs (Sum.inr z) (.bl true)))) H9)(ht:aS K H9 t [.str z,.ref c])(hc:H9 c=some (.lst xs))(hx:xs.length<=jF.length+1)(nc:c≠D) :
  Dr K names rk name H (upd H9 D (.lst (kY.map V.ref++[.ref t]))) D m (kY++[t]) (jF++[(z,c)]) (ms++[z]) (bN kvs (Sum.inr z) (.bl true)):=by
 have Rc:D≠m:=λe=>by have:=h.hD;rw [e,h.hm] at this;cases this
 have wO:H9 D=some (.lst (kY.map V.ref)):=s _ _ (by rw [ak Rc];exact h.hD);have hm9:H9 m=some (.dK (bN kvs (Sum.inr z) (.bl true))):=s _ _ ae;refine⟨λb o hb=>?_,by rw [ae,bB];rfl,by rw [ak Rc.symm];exact hm9,?_,?_,?_,?_,?_,?_⟩
 .rw [ak (λe=>by rw [e,fD] at hb;cases hb)];exact s _ _ (by rw [ak (λe=>by rw [e,fm] at hb;cases hb)];exact h.sm b o hb)
 .rw [iP (by rw [h.keys];exact λe=>hn (c_.mp e)),h.keys,bB];rfl
 .refine jE.mpr ⟨h.nd,by simp,λa ha b hb e=>?_⟩;rw [cO.mp hb] at e;exact hn (e ▸ ha)
 .intro x Ua;rcases cD.mp Ua with e | e
  .exact h.sub x e
  rw [cO.mp e];exact hz
 .rw [bU,bU,h.wl];rfl
 .exact fO (Paired.di h.wv λ_ _ e=>aP wO (s.tup (hJ h.hm e))) (aP wO ht)
 intro e he;rw [bU];rcases cD.mp he with e' | e'
 .obtain⟨a,b,ys,c1,d1,n1⟩:=h.we e e';exact⟨a,b,ys,by rw [ak n1];exact s _ _ (by rw [ak (λq=>by rw [q,h.hm] at c1;cases c1)];exact c1),∅,n1⟩
 rw [cO.mp e'];exact⟨hz,hr,xs,by rw [ak nc];exact hc,hx,nc⟩
def mF:aM ["rules","steps","name","ways","met","at","way","number","place","part"] ["rules","steps","name"] (az Kw):=jl rfl rfl rfl rfl nofun
def K8 (F:iM K "way_back" "way_back" Kw f fd)(T:Txt mg):bZ P w K mg base gw 1 f fd ["rules","steps","name"] (Jc K):=by
 refine F.ok mF (λvs H Q E h=>?_) (λeY A outer s H vs Q E hr h=>?_)
 .obtain⟨R,d,rs,aa,ps,st,name,rk,rfl,_⟩:=h;rfl
 obtain⟨R,d,rs,aa,ps,st,name,rk,rfl,hR,cV,bM,S,Im,Fz,UL,q⟩:=h;have hu:=gM hr;refine⟨_,aj (aB (i:=3) mF.nd rfl (bo rfl) (bY (ab (bC (ab (pv 2) (ab (bY ai) ai))) ai)))
  (aj (aB (i:=4) mF.nd rfl (bo rfl) fZ)
  (aj (aB (i:=5) mF.nd rfl (bo rfl) av)
  (aj (i8 cf (a8 mT (pv 5) (aI a9 rfl T.len fw (ab (pv 3) ai)) (cg _))
   (aj (aB (i:=6) mF.nd rfl (bo rfl) (bD bT (bD cZ (pv 3) (pv 5) (λ_ _=>rfl)) av (λ_ _=>rfl)))
   (aj (bS cf rfl (aQ (ft hu (pv 1) (bD bT (bD cZ (pv 3) (pv 5) (λ_ _=>rfl)) av (λ_ _=>rfl)) (λ_ _=>rfl))) (fJ rfl (aA (aq (i:=7) mF.nd rfl (bo rfl)) (aA (aq (i:=8) mF.nd rfl (bo rfl)) bH)))
    (aj (aB (i:=9) mF.nd rfl (bo rfl) (bD bT (bD bT (bD cZ (pv 0) (pv 7) (λ_ _=>rfl)) av (λ_ _=>rfl)) (pv 8) (λ_ _=>rfl)))
    (aj (b9 (a8 i_ (pv 9) (pv 2) (cg _)) (ao iG) aY)
    (ao (b9 (gr (eI hu (pv 9) (pv 4)))
     (aj (gY hu (pv 4) (pv 9) eX rfl) (ao (b_ (f_ fV fX fY bE (pv 3) (ab (bC (ab (pv 9) (ab (aN oC (pv 6) (bY (ab (bC (ab (pv 7) (ab (pv 8) ai))) ai))) ai))) ai))))) aY)))))
   (ao (KY (i:=5) mF.nd rfl (bo rfl) av Lx)))))
  (ao (bz (bY ai)))))),?_⟩
 nofun
 have Bj:(ps.map (·.1)).length=ps.length:=ax _;refine⟨_,rfl,tI,λl0 Rr=>?_⟩;have s1:=af Rr (.lst []);have e1:upd H l0 (.lst []) l0=some (.lst []):=ae;generalize upd H l0 (.lst [])=H1 at s1 e1;refine⟨kN,λt0 ht0=>?_⟩;have s2:=af ht0 (.tup [.str name,.ref l0]);have e2:aS K (upd H1 t0 (.tup [.str name,.ref l0])) t0 [.str name,.ref l0]:=aS.of ae;generalize upd H1 t0 (.tup [.str name,.ref l0])=H2 at s2 e2;refine⟨I9,λD hD=>?_⟩;have s3:=af hD (.lst [.ref t0]);have e3:upd H2 D (.lst [.ref t0]) D=some (.lst ([t0].map V.ref)):=ae;have nl0:l0≠D:=ay (s2 _ _ e1) hD;generalize upd H2 D (.lst [.ref t0])=H3 at s3 e3;intro m hm;have s4:=af hm (.dK []);have e4:upd H3 m (.dK []) m=some (.dK []):=ae;generalize upd H3 m (.dK [])=H4 at s4 e4;have fD:H D=none:=(s1.trans s2).free hD;have fm:H m=none:=((s1.trans s2).trans s3).free hm;have W0:Dr K (ps.map (·.1)) rk name H H4 D m [t0] [(name,l0)] [] []:=⟨((s1.trans s2).trans s3).trans s4,s4 _ _ e3,e4,rfl,iN,by simp,rfl,.cons ((s3.trans s4).tup e2) .nil,λe he=>by
  rw [cO.mp he];exact⟨Fz,aE _,[],s4 _ _ (s3 _ _ (s2 _ _ e1)),by simp,nl0⟩⟩
 refine⟨λmm σ H5=>∃(kY:List Addr)(jF:List (Str×Addr)) (ms:List Str)(kvs:List (aL×V)) (at_:Nat)(y6 y7 y8 y9:Option V),σ=[aF R,aF d,some (.str name),aF D,aF m,some (.int (at_:Int)),y6,y7,y8,y9]/\Dr K (ps.map (·.1)) rk name H H5 D m kY jF ms kvs /\
  at_<=jF.length/\mm=1002 - at_,⟨1002,[t0],[(name,l0)],[],[],0,none,none,none,none,rfl,W0,by simp,rfl⟩,?_⟩
 rintro mm σ H5 ⟨kY,jF,ms,kvs,at_,y6,y7,y8,y9,rfl,W,X_,rfl⟩;obtain⟨lw,lk,lm⟩:=W.len;have aab:=W.wl;refine⟨_,rfl,_,rfl,D,_,rfl,.inl (aK.of W.hD),_,_,rfl,rfl,_,rfl,?_⟩;refine cu (λc=>?_) (λc=>?_)
 .have c':=cS c;rw [ax,lw] at c';have jI:at_ < jF.length:=by omega
  obtain⟨n,l,en⟩:∃n l,jF[at_]?=some (n,l):=⟨(jF[at_]).1,(jF[at_]).2,cR jI⟩;obtain⟨t1,et1,XI⟩:=Paired.at_ W.wv at_ (n,l) en;have MI:r_ (kY.map V.ref) (at_:Int)=some (.ref t1):=dD (by rw [bq,et1];rfl);obtain⟨hn,hrn,xs,hl,hxl,Lf⟩:=W.we (n,l) (cE en);dsimp only at hn hrn hl Lf;obtain⟨pn,xK,yz⟩:=bV.mp hn;have vn:=gS ps S.n1 pn xK;rw [yz] at vn;obtain⟨Wu,an,bn⟩:=S.lst pn xK;rw [yz] at bn;refine⟨λσ H5=>∃(kY:List Addr)(jF:List (Str×Addr)) (ms:List Str)(kvs:List (aL×V))(y6 y7 y8 y9:Option V),σ=[aF R,aF d,some (.str name),aF D,aF m,some (.int ((at_+1:Nat):Int)),y6,y7,y8,y9]/\Dr K (ps.map (·.1)) rk name H H5 D m kY jF ms kvs/\at_+1<=jF.length,?_,?_⟩
  .rintro σ H6 ⟨kY,jF,ms,kvs,y6,y7,y8,y9,rfl,W2,h2⟩;exact⟨1002 - (at_+1),∅,kY,jF,ms,kvs,at_+1,_,_,_,_,rfl,W2,h2,rfl⟩
  refine⟨_,rfl,_,rfl,D,_,_,_,rfl,rfl,aK.of W.hD,MI,t1,_,_,_,rfl,rfl,XI,rfl,?_⟩;have hg:cK H5 d (.str n) (some (.ref pn.2)):=by
   have:=cK.r (k:=Sum.inr n) (Rd.same S.hd W.sm);rw [vn] at this;exact this
  refine⟨_,rfl,_,rfl,_,rfl,D,_,_,_,rfl,rfl,aK.of W.hD,MI,t1,_,_,_,rfl,rfl,XI,rfl,d,_,rfl,hg,pn.2,rfl,⟨_,aK.of (W.sm _ _ an)⟩,?_⟩
  let wD:sq:=λi σ H6=>∃(kY:List Addr)(jF:List (Str×Addr)) (ms:List Str)(kvs:List (aL×V))(y7 y8 y9:Option V),σ=[aF R,aF d,some (.str name),aF D,aF m,some (.int (at_:Int)),aF l,y7,y8,y9]/\Dr K (ps.map (·.1)) rk name H H6 D m kY jF ms kvs /\
   at_+1<=jF.length/\∃e∈jF,e.2=l
  refine cv (xs:=Wu.map V.ref) wD ⟨kY,jF,ms,kvs,_,_,_,rfl,W,jI,(n,l),cE en,rfl⟩ ?_ ?_ ?_
  .rintro i σ H6 _ ⟨kY,jF,ms,kvs,y7,y8,y9,rfl,W2,_⟩;exact aK.of (W2.sm _ _ an)
  .rintro i x σ H6 ex ⟨kY,jF,ms,kvs,y7,y8,y9,rfl,W2,h2,e0,UK,Vk⟩
   ac_nf0
   rw [bq] at ex;obtain⟨ti,Yr,rfl⟩:=cq.mp ex;have lbn:=a0 bn;have lti:=(bj.mp Yr).1;obtain⟨⟨k,j⟩,YD⟩:∃e,(st n)[i]?=some e:=⟨(st n)[i]'∅,cR ∅⟩;obtain⟨ti',P7,hti⟩:=Paired.at_ bn i (k,j) YD;rw [Yr] at P7;cases P7;obtain⟨ru,z,er,ez,hz,hrk⟩:=UL n hn (k,j) (cE YD);obtain⟨r,Np,p,v1,v2⟩:=Paired.at_ cV k ru er;have VZ:r_ (rs.map V.ref) (k:Int)=some (.ref r):=dD (by rw [bq,Np];rfl);have Qr:r_ (ru.2.map V.str) (j:Int)=some (.str z):=dD (by rw [bq,ez];rfl);obtain⟨lw2,Rg,lm2⟩:=W2.len;have Xi:=W2.wl;refine⟨ti,_,rfl,W2.sm.tup hti,rfl,_,_,rfl,_,_,rfl,rfl,?_⟩;refine⟨_,rfl,_,rfl,R,_,_,_,rfl,rfl,W2.sm.seq hR,VZ,r,_,_,_,rfl,rfl,W2.sm.tup v1,rfl,_,rfl,p,_,_,_,rfl,rfl,W2.sm.tup v2,Qr,?_⟩;refine⟨_,rfl,_,rfl,rfl,_,rfl,?_⟩;have nz:z≠name:=λe=>by rw [e] at hrk;omega
   refine cu (λc=>absurd (cS c) (λe=>nz (by injection e))) (λ_=>?_);have mem:(bu kvs (Sum.inr z)).isSome=true↔z∈ms:=by rw [eV,W2.keys];exact c_
   refine⟨_,rfl,_,rfl,m,_,rfl,cK.k (k:=Sum.inr z) W2.hm,_,rfl,?_⟩;refine cu (λc=>?_) (λc=>?_)
   .have nm:z∉ms:=λh=>by rw [mem.mpr h] at c;exact absurd c nofun
    refine⟨_,rfl,_,rfl,m,_,rfl,l7.k (k:=Sum.inr z) W2.hm (br ∅),?_⟩;obtain⟨_,_,Df,sV,aag,Tj⟩:=W2.we e0 UK;rw [Vk] at sV Tj;have Rc:D≠m:=λe=>by have:=W2.hD;rw [e,W2.hm] at this;cases this
    have nlm:l≠m:=λe=>by rw [e,W2.hm] at sV;cases sV
    have LW:upd H6 m (.dK (bN kvs (Sum.inr z) (.bl true))) D=some (.lst (kY.map V.ref)):=by rw [ak Rc];exact W2.hD
    have hlu:upd H6 m (.dK (bN kvs (Sum.inr z) (.bl true))) l=some (.lst Df):=by rw [ak nlm];exact sV
    refine⟨_,rfl,.inl ⟨rfl,_,aK.of LW⟩,_,rfl,_,rfl,_,rfl,_,rfl,kN,λt4 zX=>?_⟩;have WO:=af zX (.tup [.int (k:Int),.int (j:Int)]);generalize upd (upd H6 m (.dK (bN kvs (Sum.inr z) (.bl true)))) t4 (.tup [.int (k:Int),.int (j:Int)])=H7 at WO;refine⟨I9,λl4 hl4=>?_⟩;have WN:=af hl4 (.lst [.ref t4]);have Y6:upd H7 l4 (.lst [.ref t4]) l4=some (.lst [.ref t4]):=ae;generalize upd H7 l4 (.lst [.ref t4])=H8 at WN Y6;have M3:=WO.trans WN;refine⟨l,l4,Df,[.ref t4],rfl,rfl,M3 _ _ hlu,Y6,fits (by simp;omega),λc0 X7=>?_⟩;have WL:=af X7 (.lst (Df++[.ref t4]));have Y5:upd H8 c0 (.lst (Df++[.ref t4])) c0=some (.lst (Df++[.ref t4])):=ae;have nc0:c0≠D:=(ay (M3 _ _ LW) X7).symm;generalize upd H8 c0 (.lst (Df++[.ref t4]))=H9 at WL Y5;refine⟨kN,λt5 O_=>?_⟩;have SK:=af O_ (.tup [.str z,.ref c0]);have Y4:aS K (upd H9 t5 (.tup [.str z,.ref c0])) t5 [.str z,.ref c0]:=aS.of ae;generalize upd H9 t5 (.tup [.str z,.ref c0])=Aw at SK Y4;have sA:=(M3.trans WL).trans SK;refine⟨D,_,_,rfl,rfl,sA _ _ LW,br (by rw [ax];omega),?_⟩;exact⟨kY++[t5],jF++[(z,c0)],ms++[z],_,_,_,_,rfl,W2.more fD fm hz ∅ nm sA Y4 (SK _ _ Y5) (by rw [bU];simp;omega) nc0,by rw [bU];omega,e0,dP _ UK,Vk⟩
   exact⟨kY,jF,ms,kvs,_,_,_,rfl,W2,h2,e0,UK,Vk⟩
  rintro σ H6 ⟨kY,jF,ms,kvs,y7,y8,y9,rfl,W2,h2,_⟩;exact⟨_,rfl,_,_,rfl,rfl,kY,jF,ms,kvs,_,_,_,_,rfl,W2,h2⟩
 refine⟨tI,λD9 wO=>q D9 _ (W.sm.free wO) (W.sm.trans (af wO _)) ae⟩
end
end h_
namespace L2
open PySem PySem.Spec PyProof.Rows
section
variable {prog:Program}{w:World}{A:Around}{E:Value->Shared->Prop}{s:Shared}
def yh (a b c:Value):argsOk "min" ⟨[a],[("key",b),("default",c)]⟩:=by unfold argsOk;kernel_rfl
def sY {l:Addr}{kf dv:Value}{Q:Value->Shared->Prop}(hh:A.handled=none)(hl:s.heap.IsList l #[])(h:∀h' tk,(∀b o,s.heap.get? b=some o->h'.get? b=some o)->Q dv { s with heap:=h',toks:=tk }) :
  wpAny (model prog w) A (call (.builtin "min") [.ref l] [("key",kf),("default",dv)]) Q E s:=by
 have Fz:(toString "min" ++ toString ".loop":String) = "min.loop" := by decide
 refine wpAny_call (codeAny_call_builtin F.plain_min F.entry_min ?_);have core:wpAny (model prog w) A.in1 (Builtin.«min» ⟨[.ref l],[("key",kf),("default",dv)]⟩) (λfin s'=>match fin with
   | .done f=>(match (Except.ok f:Result) with | .ok (.ret v)=>Q v s' | .ok _=>False | .error e=>E e s')
   | .again c'=>c'.quiet=true/\codeAny (model prog w) A c' (λr s'=>match r with | .ok (.ret v)=>Q v s' | .ok _=>False | .error e=>E e s') s') E s:=by
  show wpAny _ A.in1 (Builtin.Builtins.bindParams "min" ["key","default"] 0 ⟨[],[("key",kf),("default",dv)]⟩ >>= _) _ _ s;refine aD (wpAny_of_eq (show Builtin.Builtins.bindParams "min" ["key","default"] 0 ⟨[],[("key",kf),("default",dv)]⟩=pure [some kf,some dv] from rfl) ?_);refine aD (aR ?_);refine aD (nY hl ?_);refine aD (mj ?_);rw [Fz];obtain⟨ol,h1,h2⟩:=id hl;generalize hG:s.heap.push { cls:=.type "list_iterator",data:=.fields #[.ref l,.int 0 0] }=G;have k1:∀b o,s.heap.get? b=some o->G.get? b=some o:=λb o e=>by rw [<-hG];exact cx _ e
  have hi:G.get? s.heap.objs.size=some { cls:=.type "list_iterator",data:=.fields #[.ref l,.int 0 0] }:=by rw [<-hG];exact dH _ rfl
  refine aR ⟨nK F.plain_min_loop _,qo F.entry_min_loop ?_⟩;rw [qz F.plain_min_loop _];show wpAny _ A.in1 (seqItems? (.ref G.objs.size) >>= _) _ _ _;refine aD (qk (dH _ rfl) rfl ?_);show wpAny _ A.in1 (tryCatch (pyNext (.ref s.heap.objs.size)) _ >>= _) _ _ _;refine aD (wpAny_tryCatch (uY (show A.in1.handled=none from hh) ⟨_,cx _ hi,rfl,rfl⟩ ⟨ol,cx _ (k1 _ _ h1),h2⟩ (by simp) λh' eb=>?_));refine aD (wpAny_rule (aR ?_));exact h h' _ λb o e=>eb b o (bX (bJ e)) (cx _ (k1 b o e))
 simp only [checkBuiltinCall,F.kind_min];cases Ug:Manifest.signature? "min" with
 | none=>exact aR core
 | some sig =>
  have ha':Bind.checkArgs "min" sig ⟨[.ref l],[("key",kf),("default",dv)]⟩=pure ():=by have:=yh (.ref l) kf dv;simpa only [argsOk,Ug] using this
  simp only [ha'];exact aR core
end
def NW (K:ba)(t:TA)(td:TE):TE:=λσ H Q=>t σ H λvs H1=>td σ H1 λdv H2=>∃a,vs=[.ref a]/\aK K H2 a []/\Q dv H2
def Hy {X:Cx}{p pos lp TY Fp:Pos}{e e2:Expr}{t:TA}{td:TE}(hc:X.calm=true)(hg:Gl X "min")(hm:X.mg "min"=none)(UC:Gl X "len")(Nf:X.mg "len"=none)(ha:PA X [e] t)(hd:PE X e2 td)
  (he:backTo pos (starEach [e] X.env)=(false,eval e X.env)::backTo pos (starEach [] X.env):=by rfl)(hp:(backTo pos (starEach [e] X.env)).any (·.1)=false:=by rfl) :
  PE X (.Call (.Name "min" p) [e] [⟨some "key",.Name "len" lp,TY⟩,⟨some "default",e2,Fp⟩] pos) (NW X.K t td):=by
 intro ag s σ H Q I h;refine qh (jy I hg hm boot_min ?_);refine callWith_kw (cW (ha pos ag s σ H _ I h) λus s1 bF=>?_) he hp rfl rfl;obtain⟨vs,H1,I1,r1,q1⟩:=bF;refine kws_cons (jy I1 UC Nf fw (kws_cons (cW (hd ag s1 σ H1 _ I1 q1) λu2 s2 bF=>?_)));obtain⟨dv,H2,I2,r2,a,ev,hs,q⟩:=bF;refine kws_nil ?_;subst ev;obtain⟨u,rfl,rx⟩:=vals1 r1;cases (show u=Value.ref a from rx);obtain⟨aT,rv,pl,hz⟩:=I2.list hs;cases rv;exact sY (I2.ok.hd hc) pl.isList λh' tk kk=>⟨dv,H2,I2.kept (t':=tk) kk,r2,q⟩
open PySem
def CS {K:ba}{H:Hp}{p D:Addr}{ls:List Addr}{σ:St}{x:Str}{Qp:Hp->Prop}(hp:H p=some (.lst (ls.map V.ref)))(hl:∀l∈ls,H l=some (.lst []))(hD:H D=none)(q:∀H2,aC H H2->H2 D=some (.lst [])->Qp H2) :
  ∃W:Nat->Nat->List V->St->Hp->Prop,(∃m,W 0 m [] (dJ [x] [] σ) (upd H D (.lst []))) /\
 ∀i m ys σ' H,W i m ys σ' H->((jn K p).stop i H/\Qp H)\/((jn K p).go i H/\∃m',m' < m/\∀x H',(jn K p).kX i H x H'->dB 0 x σ' H' λσ2 H2=>gE 0 σ2 H2 λx H'=>∃k,Gm K x H' k/\(λb H3 =>
  if b=true then gE 0 σ2 H3 λy H4=>H4 D=some (.lst ys)/\ys.length < sizeLine/\W (i+1) m' (ys++[y]) σ2 (upd H4 D (.lst (ys++[y]))) else W (i+1) m' ys σ2 H3) k H'):=by
 refine b0 (tif:=λσ H Q=>gE 0 σ H λx H'=>∃k,Gm K x H' k/\Q k H') (xs:=ls.map V.ref) (λi ys σ2 H5=>ys=[]/\(∃y0,σ2=[y0])/\aC H H5/\H5 D=some (.lst [])) ⟨rfl,⟨none,rfl⟩,af hD _,ae⟩ (λi ys σ2 H5 _ h=>aK.of (h.2.2.1 _ _ hp)) (λi x ys σ2 H5 ex h=>?_) (λys σ2 H5 h=>?_)
 .obtain⟨rfl,⟨y0,rfl⟩,s5,e5⟩:=h;rw [bq] at ex;obtain⟨l,el,rfl⟩:=cq.mp ex;refine goN ?_;refine⟨_,rfl,false,.inl ⟨[],aK.of (s5 _ _ (hl l (cE el))),rfl⟩,?_⟩;refine gW ?_;exact⟨rfl,⟨_,rfl⟩,s5,e5⟩
 obtain⟨rfl,_,s5,e5⟩:=h;exact q H5 s5 e5
end L2
namespace h_
open PySem L2 M11
section
def Au (aa:List aw)(rk:Str->Nat):Prop:=∀aX,sO aa aX->su aa aa.length aX->∀n k j,NI aa (hd aa) (λz=>decide (z∈aX.map (·.1))) n k j->∀ru z,aa[k]?=some ru->ru.2[j]?=some z->rk z < rk n
def DX (K:ba):Sp:=λvs H Q _=>∃(R:Addr)(rs:List Addr)(aa:List aw)(rk:Str->Nat),vs=[.ref R]/\aK K H R (rs.map V.ref)/\bL K H rs aa/\aa.length<=1000/\(∀ru∈aa,ru.2.length<=8)/\Au aa rk /\
 ∀(D:Addr)(H':Hp),H D=none->aC H H'->H' D=some (.lst [])->Q (.ref D) H'
def yU:aM ["rules","steps","loops"] ["rules"] (az Ek):=jl rfl rfl rfl rfl nofun
def HS (F:iM K "find_loop" "find_loop" Ek f fd)(T:Txt mg)(GS:aG P w K mg base 2 "steps_with_like_rows" ["rules"] (AV K))(GW:aG P w K mg base 1 "way_back" ["rules","steps","name"] (Jc K)):bZ P w K mg base gw 3 f fd ["rules"] (DX K):=by
 refine F.ok yU (λvs H Q E h=>?_) (λeY A outer s H vs Q E hr h=>?_)
 .obtain⟨R,rs,aa,rk,rfl,_⟩:=h;rfl
 obtain⟨R,rs,aa,rk,rfl,hR,cV,bM,h8,XR,q⟩:=h;refine⟨_,aj (aB (i:=1) yU.nd rfl (Or.inr rfl) (bA GS hr rfl (ab (pv 0) ai)))
  (aj (ij (iy:=2) ["name"] [(0,"rules"),(1,"steps")] yU.nd rfl rfl rfl (Ba (pv 1)) (aU rfl rfl) nofun rfl nofun
   (λ_ _ _ _ _=>aq (i:=0) (show (["name","rules","steps"]:List Str).Nodup by decide +kernel) rfl (bo rfl)) (λ_ _ _ _ _=>bw)
   (λ_ _ _ _ _=>bA (GW.mono (by decide:1<=2)) hr rfl (ab (pv 1) (ab (pv 2) (ab (pv 0) ai)))))
  (ao (bz (Hy rfl rfl T.min rfl T.len (ab (aV ["loop"] [] rfl (aQ (pv 2)) (aU rfl rfl) nofun rfl nofun
   (λ_ _ _ _ _=>aq (i:=0) (show (["loop"]:List Str).Nodup by decide +kernel) rfl (bo rfl)) (λ_ _ _ _ _=>gK (B0 K (pv 0) (λ_=>rfl))) (λ_ _ _ _ _=>pv 0)) ai) (bY ai))))),?_⟩
 nofun
 refine⟨_,rfl,R,rs,aa,rfl,hR,cV,bM,h8,λd ps st aX H1 fd1 s1 e1 S1 m1 Nm emp nu hits=>?_⟩;have lps:ps.length<=1000:=by
  have h1:=congrArg List.length m1;have h2:=iR (aa.map (·.1)) [];simp only [jP,ax] at h2;rw [ax] at h1;have h3:(hd aa).length=(wk [] (aa.map (·.1))).length:=rfl;omega
 have UL:Down aa (ps.map (·.1)) st rk:=λn hn e he=>by
  rw [m1] at hn ⊢;have hit:=(hits n e.1 e.2 hn).mp he;obtain⟨ru,z,er,_,ez,hz,_⟩:=id hit;exact⟨ru,z,er,ez,hz,XR aX emp nu n e.1 e.2 hit ru z er ez⟩
 refine⟨_,rfl,d,_,rfl,e1,λo D hD=>?_⟩;have Tf:∀p∈ps,p.2≠d:=λp hp z=>by
  obtain⟨ts,a,_⟩:=S1.lst p hp;rw [z,e1] at a;cases a
 have s2:aC H (upd H1 d (.jN o (.dK (ps.map jo)))):=λb u hb=>by
  rw [ak (λz=>by rw [z,fd1] at hb;cases hb)];exact s1 b u hb
 have S2:Ds K ps st (upd H1 d (.jN o (.dK (ps.map jo)))) d:=⟨.inr ⟨o,ae⟩,S1.n1,S1.n2,λp hp=>by
  obtain⟨ts,a,b⟩:=S1.lst p hp;exact⟨ts,by rw [ak (Tf p hp)];exact a,Paired.di b λ_ _ z=>hJ e1 z⟩⟩
 have e2:upd H1 d (.jN o (.dK (ps.map jo))) d=some (.jN o (.dK (ps.map jo))):=ae;generalize upd H1 d (.jN o (.dK (ps.map jo)))=H2 at hD s2 S2 e2 ⊢;refine rX (λi ys σ2 H3=>∃ls:List Addr,ys=ls.map V.ref/\ls.length=i/\(∀l∈ls,H3 l=some (.lst [])/\l≠D)/\(∃y0,σ2=[y0,aF R,aF d])/\aC H2 H3/\H3 D=some (.lst ys))
  ⟨[],rfl,rfl,by simp,⟨none,rfl⟩,af hD _,ae⟩ (λi ys σ2 H3 _ h=>?_) (λi kv ys σ2 H3 ex h=>?_) (λys σ2 H3 h=>?_)
 .obtain⟨_,_,_,_,_,sm,_⟩:=h;exact sm _ _ e2
 .obtain⟨ls,rfl,XW,hl,⟨y0,rfl⟩,sm,iU⟩:=h;rw [bq] at ex;obtain⟨p,ep,rfl⟩:=cq.mp ex;have hp:=cE ep;have li:=(bj.mp ep).1;refine goN (wQ ?_);have s3:=s2.trans sm;refine⟨_,rfl,_,rfl,_,rfl,R,d,rs,aa,ps,st,p.1,rk,rfl,s3.seq hR,cV.same s3,bM,S2.same sm,lps,iC hp,UL,λD4 H4 f4 s4 e4=>?_⟩;have Bm:=s4 _ _ iU;have Xg:D4≠D:=λz=>by rw [z,iU] at f4;cases f4
  refine⟨Bm,br (by rw [ax];omega),ls++[D4],by rw [bB];rfl,by rw [bU,XW];rfl,λl Ux=>?_,⟨_,rfl⟩,λb u hb=>?_,ae⟩
  .rcases cD.mp Ux with h | h
   .obtain⟨a1,a2⟩:=hl l h;exact⟨by rw [ak a2];exact s4 _ _ a1,a2⟩
   rw [cO.mp h];exact⟨by rw [ak Xg];exact e4,Xg⟩
  rw [ak (λz=>by rw [z,hD] at hb;cases hb)];exact s4 _ _ (sm b u hb)
 obtain⟨ls,rfl,XW,hl,_,sm,iU⟩:=h;have s3:=s2.trans sm;refine⟨_,rfl,D,rfl,⟨_,aK.of iU⟩,λD5 Nk=>?_⟩;refine CS iU (λl Ux=>(hl l Ux).1) Nk λH5 s5 e5=>?_;refine⟨tI,λD6 UX=>⟨D5,rfl,aK.of (af UX _ _ _ e5),?_⟩⟩;exact q D6 _ ((s3.trans s5).free UX) ((s3.trans s5).trans (af UX _)) ae
end
end h_
namespace L2
open PySem
def AG {K:ba}{T:Addr}{pos:Pos}{qu:Str}{H H':Hp}{a:Addr}{xs:List V}(s:gh T H H')(t:Tab T pos qu H)(h:aS K H a xs):aS K H' a xs:=by
 obtain⟨ps,b,_⟩:=t;rcases h with (h | ⟨u,h⟩) | h
 .exact .inl (.inl (s _ _ (λz=>by rw [z,b] at h;cases h) h))
 .exact .inl (.inr ⟨u,s _ _ (λz=>by rw [z,b] at h;cases h) h⟩)
 exact .inr h
def A4 {K:ba}{T:Addr}{pos:Pos}{qu:Str}{H H':Hp}{a:Addr}{xs:List V}(s:gh T H H')(t:Tab T pos qu H)(h:aK K H a xs):aK K H' a xs:=by
 obtain⟨ps,b,_⟩:=t;rcases h with (h | ⟨u,h⟩) | h
 .exact .inl (.inl (s _ _ (λz=>by rw [z,b] at h;cases h) h))
 .exact .inl (.inr ⟨u,s _ _ (λz=>by rw [z,b] at h;cases h) h⟩)
 exact .inr h
def AH {T T':Addr}{pos pos':Pos}{qu GK:Str}{H H':Hp}(s:gh T H H')(t:Tab T pos qu H)(h:Tab T' pos' GK H)(n:T'≠T):Tab T' pos' GK H':=by
 obtain⟨ps,b,_⟩:=t;obtain⟨SV,a,o,c⟩:=h;refine⟨SV,s _ _ n a,o,c.imp id ?_⟩;rintro⟨c',e,g⟩;exact⟨c',e,s _ _ (λz=>by rw [z,b] at g;cases g) g⟩
def rT {K:ba}{H:Hp}{p D:Addr}{zs:List Str}{σ:St}{js:List (Nat×Str)}{cs:List (Option V)}{tif:TT}{te:TE}{Qp:Hp->Prop}(hσ:dJ ["name"] js σ=none::cs)(hp:aK K H p (zs.map V.str))(hD:H D=none)
  (ht:∀z∈zs,∀H2 Q,aC H H2->Q false H2->tif (some (.str z)::cs) H2 Q)(q:∀H2,aC H H2->H2 D=some (.lst [])->Qp H2) :
  ∃W:Nat->Nat->List V->St->Hp->Prop,(∃m,W 0 m [] (dJ ["name"] js σ) (upd H D (.lst []))) /\
 ∀i m ys σ' H,W i m ys σ' H->((jn K p).stop i H/\Qp H)\/((jn K p).go i H/\∃m',m' < m/\∀x H',(jn K p).kX i H x H'->dB 0 x σ' H' λσ2 H2=>tif σ2 H2 λb H3 =>
  if b=true then te σ2 H3 λy H4=>H4 D=some (.lst ys)/\ys.length < sizeLine/\W (i+1) m' (ys++[y]) σ2 (upd H4 D (.lst (ys++[y]))) else W (i+1) m' ys σ2 H3):=by
 refine b0 (xs:=zs.map V.str) (λi ys σ2 H5=>ys=[]/\(∃y0,σ2=y0::cs)/\aC H H5/\H5 D=some (.lst [])) ⟨rfl,⟨none,hσ⟩,af hD _,ae⟩ (λi ys σ2 H5 _ h=>h.2.2.1.seq hp) (λi x ys σ2 H5 ex h=>?_) (λys σ2 H5 h=>?_)
 .obtain⟨rfl,⟨y0,rfl⟩,s5,e5⟩:=h;rw [bq] at ex;obtain⟨z,ez,rfl⟩:=cq.mp ex;refine goN ?_;refine ht z (cE ez) H5 _ s5 ?_;refine gW ?_;exact⟨rfl,⟨_,rfl⟩,s5,e5⟩
 obtain⟨rfl,_,s5,e5⟩:=h;exact q H5 s5 e5
end L2
namespace h_
open PySem L2 M11
section
structure Good (aa:List aw)(rk:Str->Nat)(b:Str->Int):Prop where
 least:∀g,dI M11.bl aa (v9 aa) g->ir M11.bl aa g->∀h∈hd aa,∃n,g h=some n/\n<=60
 met:∀gQ ms,aa[0]?=some gQ->gQ.1∈ms->C8 aa aa.length ms->∀h∈hd aa,h∈ms
 loop:Au aa rk
 Qn:sG aa b
 most:∀h∈hd aa,b h<=60
def kR (T1 T2:Addr)(H H':Hp):Prop:=∀b o,b≠T1->b≠T2->H b=some o->H' b=some o
def qN (K:ba)(T1 T2:Addr):Sp:=λvs H Q _=>∃(R S:Addr)(rs ss:List Addr)(aa str:List aw)(rk:Str->Nat)(b:Str->Int),vs=[.ref R,.ref S]/\aK K H R (rs.map V.ref)/\bL K H rs aa/\aa.length<=1000/\(∀ru∈aa,ru.2.length<=8)/\aa≠[] /\
 aK K H S (ss.map V.ref)/\bL K H ss str/\str.length<=1000/\(∀ru∈str,ru.2.length<=8)/\(str.flatMap (·.2)).Nodup/\Good aa rk b/\Tab T1 q0.2.2.2 yr H/\Tab T2 zP.2.2.2 Ju H/\T1≠T2 /\
 ∀H',kR T1 T2 H H'->Tab T1 q0.2.2.2 yr H'->Tab T2 zP.2.2.2 Ju H'->Q .fc H'
def hV:aM ["rules","strengths","least","endless","met","unmet","steps","greatest","vast"] ["rules","strengths"] (az vy):=jl rfl rfl rfl rfl nofun
def Cc {T1 T2:Addr}{tm:Tok}(F:iM K "refuse_faults" "refuse_faults" vy f fd)(T:Txt mg)(hM:mg "MOST_RULES"=some (.int 60 tm))(GT:aG P w K mg base 1 "refuse_twice" ["strengths"] (AU K))(GL:aG P w K mg base 3 "least_sizes" ["rules"] (pS K T1))
  (GH:aG P w K mg base 1 "heads_of" ["rules"] (ki K))(GM:aG P w K mg base 1 "names_met" ["rules"] (Je K))(GF:aG P w K mg base 3 "find_loop" ["rules"] (DX K))(GG:aG P w K mg base 3 "greatest_empty_sizes" ["rules"] (vh K T2)) :
  bZ P w K mg base gw 4 f fd ["rules","strengths"] (qN K T1 T2):=by
 refine F.ok hV (λvs H Q E h=>?_) (λeY A outer s H vs Q E hr h=>?_)
 .obtain⟨R,S,rs,ss,aa,str,rk,b,rfl,_⟩:=h;rfl
 obtain⟨R,S,rs,ss,aa,str,rk,b,rfl,hR,cV,bM,h8,Dj,hS,Rl,Uc,Uj,Ui,gd,Iv,Ry,nT,q⟩:=h;have hu:=gM hr;refine⟨_,aj (b9 (lB (i7 (pv 0) (λ_=>rfl))) (ao iG) aY)
  (aj (b_ (bA (GT.mono (by decide:1<=3)) hr rfl (ab (pv 1) ai)))
  (aj (aB (i:=2) hV.nd rfl (Or.inr rfl) (bA GL hr rfl (ab (pv 0) ai)))
  (aj (ij (iy:=3) ["name"] [(2,"least")] hV.nd rfl rfl rfl (aQ (bA (GH.mono (by decide:1<=3)) hr rfl (ab (pv 0) ai))) (aU rfl rfl) nofun rfl nofun
   (λ_ _ _ _ _=>aq (i:=0) (show (["name","least"]:List Str).Nodup by decide +kernel) rfl (bo rfl)) (λ_ _ _ _ _=>gK (gr (eI hu (pv 0) (pv 1)))) (λ_ _ _ _ _=>pv 0))
  (aj (b9 (i7 (pv 3) (λ_=>rfl)) (ao iG) aY)
  (aj (aB (i:=4) hV.nd rfl (Or.inr rfl) (bA (GM.mono (by decide:1<=3)) hr rfl (ab (pv 0) ai)))
  (aj (ij (iy:=5) ["name"] [(4,"met")] hV.nd rfl rfl rfl (aQ (bA (GH.mono (by decide:1<=3)) hr rfl (ab (pv 0) ai))) (aU rfl rfl) nofun rfl nofun
   (λ_ _ _ _ _=>aq (i:=0) (show (["name","met"]:List Str).Nodup by decide +kernel) rfl (bo rfl)) (λ_ _ _ _ _=>gK (gr (eI hu (pv 0) (pv 1)))) (λ_ _ _ _ _=>pv 0))
  (aj (b9 (i7 (pv 5) (λ_=>rfl)) (ao iG) aY)
  (aj (aB (i:=6) hV.nd rfl (bo rfl) (bA GF hr rfl (ab (pv 0) ai)))
  (aj (b9 (i7 (pv 6) (λ_=>rfl)) (ao iG) aY)
  (aj (aB (i:=7) hV.nd rfl (Or.inr rfl) (bA GG hr rfl (ab (pv 0) ai)))
  (aj (ij (iy:=8) ["name"] [(2,"least"),(7,"greatest")] hV.nd rfl rfl rfl (aQ (bA (GH.mono (by decide:1<=3)) hr rfl (ab (pv 0) ai))) (aU rfl rfl) nofun rfl nofun
   (λ_ _ _ _ _=>aq (i:=0) (show (["name","least","greatest"]:List Str).Nodup by decide +kernel) rfl (bo rfl)) (λ_ _ _ _ _=>gK (a8 EV (aI (uB rfl) rfl T.max PyProof.Rows.boot_max (ab (ft hu (pv 1) (pv 0) (λ_ _=>rfl)) (ab (iH hu (pv 2) (pv 0) av ⟨rfl,rfl,rfl,rfl⟩) ai))) (HG (v:=.int 60) rfl hM ⟨tm,rfl⟩) (cg _))) (λ_ _ _ _ _=>pv 0))
  (ao (b9 (i7 (pv 8) (λ_=>rfl)) (ao iG) aY))))))))))))),?_⟩
 nofun
 have ll:=a0 cV;obtain⟨gQ,Nb⟩:∃gQ,aa[0]?=some gQ:=by
  cases aa with
  | nil=>exact absurd rfl Dj
  | cons a r=>exact⟨a,rfl⟩
 have eR:(rs.map V.ref).isEmpty=false:=by
  have l0:=(bj.mp Nb).1;cases rs with
  | nil=>simp at ll;omega
  | cons a r=>rfl
 refine⟨_,rfl,true,.inl ⟨_,hR,by rw [eR];rfl⟩,?_⟩;refine gW ?_;refine⟨_,rfl,S,ss,str,rfl,hS,Rl,Uc,Uj,Ui,λH1 s1=>?_⟩;have QZ:=Iv.same s1;have ZR:=Ry.same s1;refine⟨_,rfl,R,rs,aa,rfl,s1.seq hR,cV.same s1,bM,h8,QZ,λdl kl ksl gl H2 fl s2 ZT el kkl vl ZU sel _=>?_⟩;have G4:=A4 s2 QZ (s1.seq hR);have Cv:=(cV.same s1).keep λ_ _ z=>AG s2 QZ z;have ZQ:=AH s2 QZ ZR nT.symm;have hl:=gd.least gl ZU sel;have S02:kR T1 T2 H H2:=λb o n1 _ hb=>s2 b o n1 (s1 b o hb);refine⟨_,rfl,R,rs,aa,rfl,G4,Cv,bM,λD3 H3 f3 s3 e3=>⟨D3,rfl,⟨_,aK.of e3⟩,λD4 hD4=>rT rfl (aK.of e3) hD4 (λz hz H' Q' s' hQ=>?_) λH4 s4 e4=>?_⟩⟩
 .obtain⟨n,en,_⟩:=hl z hz;have hg:cK H' dl (.str z) (some (.int n)):=by
   have:=cK.k (k:=Sum.inr z) (s' _ _ (s3 _ _ el));rw [vl,en] at this;exact this
  exact⟨_,rfl,_,rfl,dl,_,rfl,hg,_,rfl,hQ⟩
 refine⟨_,rfl,false,.inl ⟨[],aK.of e4,rfl⟩,?_⟩;refine gW ?_;have KG:=s3.trans s4;refine⟨_,rfl,R,rs,aa,gQ,rfl,KG.seq G4,Cv.same KG,Nb,bM,h8,λdm km ms H5 f5 s5 em kkm BV _ mc5=>?_⟩;have SO:=KG.trans s5;refine⟨_,rfl,R,rs,aa,rfl,SO.seq G4,Cv.same SO,bM,λD6 H6 f6 s6 e6=>⟨D6,rfl,⟨_,aK.of e6⟩,λD7 UW=>rT rfl (aK.of e6) UW (λz hz H' Q' s' hQ=>?_) λH7 s7 e7=>?_⟩⟩
 .have hm:=gd.met gQ ms Nb BV mc5 z hz;have hv:(bu km (Sum.inr z)).isSome=true:=by rw [eV,kkm];exact c_.mpr hm
  refine⟨_,rfl,_,rfl,dm,_,rfl,cK.k (k:=Sum.inr z) (s' _ _ (s6 _ _ em)),_,rfl,?_⟩;rw [hv];exact hQ
 refine⟨_,rfl,false,.inl ⟨[],aK.of e7,rfl⟩,?_⟩;refine gW ?_;have SN:=(SO.trans s6).trans s7;refine⟨_,rfl,R,rs,aa,rk,rfl,SN.seq G4,Cv.same SN,bM,h8,gd.loop,λD8 H8 f8 s8 e8=>?_⟩;refine⟨_,rfl,false,.inl ⟨[],aK.of e8,rfl⟩,?_⟩;refine gW ?_;have Ji:=SN.trans s8;have ZS:=ZT.same Ji;have N8:=ZQ.same Ji;refine⟨_,rfl,R,rs,aa,b,rfl,Ji.seq G4,Cv.same Ji,bM,h8,gd.Qn,N8,λdg kg ksg gg H9 f9 s9 ZP eg kkg vg jg _ _=>?_⟩;have hR9:=A4 s9 N8 (Ji.seq G4);have Uk:=(Cv.same Ji).keep λ_ _ z=>AG s9 N8 z;have Sw:=AH s9 N8 ZS nT;have YC:=Ji _ _ el;have el9:=s9 _ _ (λz=>by obtain⟨ps,a,_⟩:=N8;rw [<-z,YC] at a;cases a) YC;refine⟨_,rfl,R,rs,aa,rfl,hR9,Uk,bM,λWk Aw f10 vJ Dn=>⟨Wk,rfl,⟨_,aK.of Dn⟩,λD11 UY=>rT rfl (aK.of Dn) UY (λz hz H' Q' s' hQ=>?_) λDc Hs G9=>?_⟩⟩
 .obtain⟨n,en,aai⟩:=hl z hz;have Iq:cK H' dl (.str z) (some (.int n)):=by
   have:=cK.k (k:=Sum.inr z) (s' _ _ (vJ _ _ el9));rw [vl,en] at this;exact this
  have YF:=s' _ _ (vJ _ _ eg);obtain⟨v,hv1,hv2⟩:∃v:Int,((gg z).map V.int).getD (.int 0)=.int v/\v<=60:=by
   cases e:gg z with
   | none=>exact⟨0,rfl,nofun⟩
   | some v=>exact⟨v,rfl,nN (jg z v e).2.1 (gd.most z hz)⟩
  have UC:cK H' dg (.str z) ((gg z).map V.int):=by
   have:=cK.k (k:=Sum.inr z) YF;rw [vg] at this;exact this
  refine⟨_,rfl,_,rfl,dl,_,rfl,Iq,_,rfl,dg,rfl,.inl ⟨_,.inl YF⟩,_,rfl,_,UC,?_⟩;rw [hv1];refine⟨n,v,rfl,_,_,rfl,rfl,_,rfl,?_⟩;rw [fA (by split <;> omega)]
  exact hQ
 refine⟨_,rfl,false,.inl ⟨[],aK.of G9,rfl⟩,?_⟩;refine gW ?_;have KC:=vJ.trans Hs;exact q Dc (λc o n1 n2 hc=>KC c o (s9 c o n2 (Ji c o (S02 c o n1 n2 hc)))) (Sw.same KC) (ZP.same KC)
end
end h_
namespace M11
open PySem L2
abbrev Be:=Str×Str×Nat×Nat
def aZ (bh:List Be):List (Str×Str):=bh.map λb=>(b.1,b.2.1)
def ni (bh:List Be)(n:Str):List Str:=(bh.filter λb=>decide (b.1=n)).map (·.2.1)
def kZ (names:List Str)(bh:List Be)(z:Str):List Str:=if z∈names then ni bh z else [z]
inductive sI (aa:List aw) (names:List Str)(b:Str->Bool):List Be->Prop
 | nil:sI aa names b []
 | snoc {bh:List Be}{k j:Nat}{ru:aw}{z w:Str}:sI aa names b bh->aa[k]?=some ru->ru.2[j]?=some z->j < xQ b ru.2->w∈kZ names bh z->(ru.1,w)∉aZ bh->sI aa names b (bh++[(ru.1,w,k,j)])
def oP {bh:List Be}{n w:Str}:w∈ni bh n↔(n,w)∈aZ bh:=by
 unfold ni aZ;rw [bV,bV];constructor
 .rintro⟨b,hb,rfl⟩;obtain⟨h1,h2⟩:=gO.mp hb;exact⟨b,h1,by rw [cS h2]⟩
 rintro⟨b,hb,e⟩;cases e;exact⟨b,gO.mpr ⟨hb,cC rfl⟩,rfl⟩
def Bo (bh:List Be)(b:Be)(n:Str):ni (bh++[b]) n=ni bh n++(if b.1=n then [b.2.1] else []):=by
 unfold ni;rw [qi,bB];by_cases c:b.1=n
 .rw [ar c];simp [c]
 rw [au c];simp [c]
end M11
namespace h_
open PySem L2 M11
def IJ:Stmt->List Stmt
 | .ClassDef _ _ _ b _ _ _ _ _ _ _=>b
 | _=>[]
abbrev OK (st:Stmt) (i:Nat):Stmt:=(IJ st).getD i (.Pass ⟨0,0,0,0⟩)
abbrev zg:Stmt:=OK zf 0
abbrev Er:Stmt:=OK zf 1
abbrev yZ:Stmt:=OK zf 2
abbrev vE:Stmt:=OK El 0
section
structure BC (K:ba)(C:Addr):Prop where
 cls:Dd K C
 a1:dW K C "empties"
 a2:dW K C "empty"
 a3:dW K C "begins"
 a4:dW K C "firsts"
structure sP (K:ba)(C:Addr)(H0 H:Hp)(a e d bg:Addr)(kE:List (aL×V))(aX:List (Str×Nat))(ps:List (Str×Addr))(bh:List Be):Prop where
 sm:aC H0 H
 ia:∃dx fs,H a=some (.ins C dx fs)/\fs.lookup ("empty":Str)=some (.ref e)/\fs.lookup ("begins":Str)=some (.ref bg)/\fs.lookup ("firsts":Str)=some (.ref d)/\fs.lookup ("find_begins":Str)=none/\fs.lookup ("words_of_part":Str)=none
 he:H e=some (.dK kE)
 hd:H d=some (.dK (ps.map jo))
 n1:(ps.map (·.1)).Nodup
 n2:(ps.map (·.2)).Nodup
 dk:∀p∈ps,(∃kvs,H p.2=some (.dK kvs)/\kvs.map (·.1)=(ni bh p.1).map Sum.inr)/\H0 p.2=none/\p.2≠e/\p.2≠d
 lb:∃ts,H bg=some (.lst (ts.map V.ref))/\Paired (λt (b:Be)=>aS K H t [.str b.1,.str b.2.1,.int (b.2.2.1:Int),.int (b.2.2.2:Int)]) ts bh
 fb:H0 bg=none
 em:∃e1 ts,(∃dx fs,H a=some (.ins C dx fs)/\fs.lookup ("empties":Str)=some (.ref e1))/\H e1=some (.lst (ts.map V.ref))/\nH K H ts aX/\e1≠bg
def sP.same {C:Addr}{H0 H H':Hp}{a e d bg:Addr}{kE:List (aL×V)}{aX:List (Str×Nat)}{ps:List (Str×Addr)}{bh:List Be}(h:sP K C H0 H a e d bg kE aX ps bh)(s:aC H H'):sP K C H0 H' a e d bg kE aX ps bh:=by
 refine⟨h.sm.trans s,?_,s _ _ h.he,s _ _ h.hd,h.n1,h.n2,λp hp=>?_,?_,h.fb,?_⟩
 .obtain⟨dx,fs,q,r⟩:=h.ia;exact⟨dx,fs,s _ _ q,r⟩
 .obtain⟨⟨kvs,q,r⟩,t⟩:=h.dk p hp;exact⟨⟨kvs,s _ _ q,r⟩,t⟩
 .obtain⟨ts,q,r⟩:=h.lb;exact⟨ts,s _ _ q,Paired.di r λ_ _ z=>s.tup z⟩
 obtain⟨e1,ts,⟨dx,fs,q1,q2⟩,q3,q4,q5⟩:=h.em;exact⟨e1,ts,⟨dx,fs,s _ _ q1,q2⟩,s _ _ q3,q4.keep λ_ _ z=>s.tup z,q5⟩
def AW (K:ba)(C:Addr):Sp:=λvs H Q _=>∃(H0:Hp)(a e d bg:Addr)(kE:List (aL×V))(aX:List (Str×Nat))(ps:List (Str×Addr))(bh:List Be)(z:Str),vs=[.ref a,.str z]/\sP K C H0 H a e d bg kE aX ps bh /\
 ∀(D:Addr)(H':Hp),H D=none->aC H H'->H' D=some (.lst ((kZ (ps.map (·.1)) bh z).map V.str))->Q (.ref D) H'
def Hl:aM ["self","part"] ["self","part"] (az yZ):=jl rfl rfl rfl rfl nofun
def E2 {C:Addr}(F:iM K "words_of_part" "BeginTable.words_of_part" yZ f fd)(T:Txt mg)(B:BC K C):bZ P w K mg base gw 1 f fd ["self","part"] (AW K C):=by
 refine F.ok Hl (λvs H Q E h=>?_) (λeY A outer s H vs Q E hr h=>?_)
 .obtain⟨H0,a,e,d,bg,kE,aX,ps,bh,z,rfl,_⟩:=h;rfl
 obtain⟨H0,a,e,d,bg,kE,aX,ps,bh,z,rfl,S,q⟩:=h;have hu:=gM hr;obtain⟨dx,fs,ea,f1,f2,f3,f4,f5⟩:=S.ia;refine⟨_,ao (bz (xr (gr (lF hu (pv 1) (d0 (pv 0) rfl))) (bc (lY rfl) rfl T.lst hZ (ab (ft hu (d0 (pv 0) rfl) (pv 1) (λ_ _=>rfl)) ai)) (bY (ab (pv 1) ai)))),?_⟩;dsimp only [F6];have mem:(bu (ps.map jo) (Sum.inr z)).isSome=true↔z∈ps.map (·.1):=by rw [eV,mU];exact c_
 refine⟨_,rfl,_,rfl,a,C,dx,fs,_,rfl,ea,B.cls,B.a4,f3,d,_,rfl,cK.k (k:=Sum.inr z) S.hd,_,rfl,?_⟩;refine cu (λc=>?_) (λc=>?_)
 .have hz:=mem.mp c;obtain⟨p,hp,ep⟩:=bV.mp hz;obtain⟨⟨kvs,hk,kk⟩,_⟩:=S.dk p hp;have vn:=gS ps S.n1 p hp;rw [ep] at vn;have hg:cK H d (.str z) (some (.ref p.2)):=by
   have:=cK.k (k:=Sum.inr z) S.hd;rw [vn] at this;exact this
  refine⟨_,rfl,a,C,dx,fs,_,rfl,ea,B.cls,B.a4,f3,_,rfl,d,_,rfl,hg,p.2,kvs,rfl,hk,λD hD=>?_⟩;refine q D _ hD (af hD _) ?_;rw [ae,keys_str kk,ep];unfold kZ;rw [ar hz]
 refine⟨_,rfl,I9,λD hD=>?_⟩;refine q D _ hD (af hD _) ?_;rw [ae];unfold kZ;rw [au (λh=>c (mem.mpr h))];rfl
def sP.more {C:Addr}{H0 H H2:Hp}{a e d bg t:Addr}{kE kvs:List (aL×V)}{aX:List (Str×Nat)}{ps:List (Str×Addr)}{bh:List Be}{p:Str×Addr}{wd:Str}{k j:Nat}{ts:List Addr}(h:sP K C H0 H a e d bg kE aX ps bh)(hp:p∈ps)(hk:H p.2=some (.dK kvs))(kk:kvs.map (·.1)=(ni bh p.1).map Sum.inr)
  (hn:(p.1,wd)∉aZ bh)(hb:H bg=some (.lst (ts.map V.ref)))(Ni:Paired (λt (b:Be)=>aS K H t [.str b.1,.str b.2.1,.int (b.2.2.1:Int),.int (b.2.2.2:Int)]) ts bh)
  (s:aC (upd H p.2 (.dK (bN kvs (Sum.inr wd) (.bl true)))) H2)(ht:aS K H2 t [.str p.1,.str wd,.int (k:Int),.int (j:Int)]) :
  sP K C H0 (upd H2 bg (.lst (ts.map V.ref++[.ref t]))) a e d bg kE aX ps (bh++[(p.1,wd,k,j)]):=by
 have Rb:bg≠p.2:=λz=>by rw [z,hk] at hb;cases hb
 have Iu:H2 bg=some (.lst (ts.map V.ref)):=s _ _ (by rw [ak Rb];exact hb);obtain⟨_,fp,W8,W9⟩:=h.dk p hp;have up:∀c o,c≠bg->c≠p.2->H c=some o->upd H2 bg (.lst (ts.map V.ref++[.ref t])) c=some o:=λc o n1 n2 q=>by
  rw [ak n1];exact s _ _ (by rw [ak n2];exact q)
 refine⟨λc o hc=>up c o (λz=>by rw [z,h.fb] at hc;cases hc) (λz=>by rw [z,fp] at hc;cases hc) (h.sm c o hc),?_,up _ _ (λz=>by have:=h.he;rw [z,hb] at this;cases this) W8.symm h.he,up _ _ (λz=>by have:=h.hd;rw [z,hb] at this;cases this) W9.symm h.hd,h.n1,h.n2,λp' oN=>?_,⟨ts++[t],by rw [ae,bB];rfl,?_⟩,h.fb,?_⟩
 .obtain⟨dx,fs,q,r⟩:=h.ia;exact⟨dx,fs,up _ _ (λz=>by rw [z,hb] at q;cases q) (λz=>by rw [z,hk] at q;cases q) q,r⟩
 .obtain⟨⟨lP,q,r⟩,t'⟩:=h.dk p' oN;refine⟨?_,t'⟩;by_cases z:p'=p
  .rw [z];refine⟨bN kvs (Sum.inr wd) (.bl true),by rw [ak Rb.symm];exact s _ _ ae,?_⟩;rw [iP (by rw [kk];exact λq=>hn (oP.mp (c_.mp q))),kk,Bo,ar rfl,bB];rfl
  have n1:p'.1≠p.1:=λq'=>z (by
   have w1:=gS ps h.n1 p' oN;have w2:=gS ps h.n1 p hp;rw [q',w2] at w1;injection w1 with w3;injection w3 with w4;exact iD q' w4.symm)
  have n2:p'.2≠p.2:=λq'=>by
   obtain⟨i,hi,ei⟩:=qj.mp oN;obtain⟨j',hj,ej⟩:=qj.mp hp;have xM:i=j':=by
    refine(uM (xs:=ps.map (·.2)) (h₀:=by simpa using hi) (h₁:=by simpa using hj) h.n2).mp ?_;rw [n6,n6,ei,ej];exact q'
   subst xM;exact z (ei.symm.trans ej)
  refine⟨lP,up _ _ (λz=>by rw [z,hb] at q;cases q) n2 q,?_⟩;rw [r,Bo,au (λq'=>n1 q'.symm),gG]
 .exact fO (Paired.di Ni λ_ _ z=>aP Iu (s.tup (hJ hk z))) (aP Iu ht)
 obtain⟨e1,te,⟨dx,fs,q1,q2⟩,q3,q4,q5⟩:=h.em;exact⟨e1,te,⟨dx,fs,up _ _ (λz=>by rw [z,hb] at q1;cases q1) (λz=>by rw [z,hk] at q1;cases q1) q1,q2⟩,up _ _ q5 (λz=>by rw [z,hk] at q3;cases q3) q3,q4.keep λ_ _ z=>aP Iu (s.tup (hJ hk z)),q5⟩
def Ma (l m:List Be)(n:Str):ni (l++m) n=ni l n++ni m n:=by
 unfold ni;rw [qi,bB]
def Hg {names:List Str}(l m:List Be){z x:Str}(h:x∈kZ names l z):x∈kZ names (l++m) z:=by
 unfold kZ at h ⊢
 split
 .rename_i c
  rw [ar c] at h;rw [Ma];exact dP _ h
 rename_i c
 rw [au c] at h;exact h
def L_ (bh:List Be)(n:Str):(ni bh n).length<=bh.length:=by
 unfold ni;rw [ax];exact mn _ _
def My {n i:Nat}(h:i < n):(cnt n)[i]?=some (.int (i:Int)):=by
 unfold cnt;rw [bq,List.getElem?_range h];rfl
def By (n:Nat):(cnt n).length=n:=by unfold cnt;rw [ax,uR]
def D_ (K:ba)(C:Addr):Sp:=λvs H Q _=>∃(H0:Hp)(a e d bg r:Addr)(kE:List (aL×V))(aX:List (Str×Nat))(ps:List (Str×Addr))(bh:List Be) (k:Nat)(ru:aw)(aa:List aw),vs=[.ref a,.int (k:Int),.ref r]/\sP K C H0 H a e d bg kE aX ps bh/\BM K H0 r ru/\aa[k]?=some ru/\ru.2.length<=8 /\
 ru.1∈ps.map (·.1)/\(∀wq:List Be,sI aa (ps.map (·.1)) (λz=>(bu kE (Sum.inr z)).isSome) wq->wq.length<=900000)/\sI aa (ps.map (·.1)) (λz=>(bu kE (Sum.inr z)).isSome) bh /\
 ∀(wq:List Be)(H':Hp),sP K C H0 H' a e d bg kE aX ps wq->sI aa (ps.map (·.1)) (λz=>(bu kE (Sum.inr z)).isSome) wq->bh.length<=wq.length->(wq.length=bh.length->wq=bh/\∀j z,j < xQ (λz=>(bu kE (Sum.inr z)).isSome) ru.2->ru.2[j]?=some z->∀wd∈kZ (ps.map (·.1)) bh z,(ru.1,wd)∈aZ bh)->Q .fc H'
def vq:aM ["self","number","rule","own","place","word"] ["self","number","rule"] (az Er):=jl rfl rfl rfl rfl nofun
def HW {C fW:Addr}{Yj:FuncData}(F:iM K "find_begins" "BeginTable.find_begins" Er f fd)(T:Txt mg)(B:BC K C)(GP:aG P w K mg base 1 "first_places" ["parts","empty"] (xc K))(FW:bZ P w K mg base gw 1 fW Yj ["self","part"] (AW K C))(MW:Meth K C "words_of_part" fW)(BW:Binds K Yj ["self","part"] []) :
  bZ P w K mg base gw 2 f fd ["self","number","rule"] (D_ K C):=by
 refine F.ok vq (λvs H Q E h=>?_) (λeY A outer s H vs Q E hr h=>?_)
 .obtain⟨H0,a,e,d,bg,r,kE,aX,ps,bh,k,ru,aa,rfl,_⟩:=h;rfl
 obtain⟨H0,a,e,d,bg,r,kE,aX,ps,bh,k,ru,aa,rfl,S,⟨p,v1,v2⟩,er,h8,hh,hbd,UO,q⟩:=h;have hu:=gM hr;refine⟨_,aj (aB (i:=3) vq.nd rfl (bo rfl) (ft hu (d0 (pv 0) rfl) (bD bT (pv 2) av (λ_ _=>rfl)) (λ_ _=>rfl)))
  (ao (bS cf rfl (aQ (bA GP hr rfl (ab (bD bT (pv 2) av (λ_ _=>rfl)) (ab (d0 (pv 0) rfl) ai)))) (aq (i:=4) vq.nd rfl (bo rfl))
   (ao (bS cf rfl (aQ (Bb (pv 0) B.cls MW FW hr BW .nil tX (ab (bD bT (bD bT (pv 2) av (λ_ _=>rfl)) (pv 4) (λ_ _=>rfl)) ai))) (aq (i:=5) vq.nd rfl (bo rfl))
    (ao (b9 (gr (eI hu (pv 5) (pv 3)))
     (aj (gY hu (pv 3) (pv 5) eX rfl)
     (ao (b_ (f_ fV fX fY bE (d0 (pv 0) rfl) (ab (bC (ab (bD bT (pv 2) av (λ_ _=>rfl)) (ab (pv 5) (ab (pv 1) (ab (pv 4) ai))))) ai))))) aY)))))),?_⟩
 nofun
 obtain⟨pn,xK,yz⟩:=bV.mp hh;have vn:=gS ps S.n1 pn xK;rw [yz] at vn;obtain⟨dx,fs,ea,f1,f2,f3,f4,f5⟩:=S.ia;have hg:cK H d (.str ru.1) (some (.ref pn.2)):=by
  have:=cK.k (k:=Sum.inr ru.1) S.hd;rw [vn] at this;exact this
 refine⟨_,rfl,a,C,dx,fs,_,rfl,ea,B.cls,B.a4,f3,_,rfl,r,_,_,_,rfl,rfl,S.sm.tup v1,rfl,d,_,rfl,hg,?_⟩;refine⟨_,rfl,r,_,_,_,rfl,rfl,S.sm.tup v1,rfl,_,rfl,a,C,dx,fs,_,rfl,ea,B.cls,B.a2,f1,p,e,ru.2,kE,rfl,S.sm.tup v2,∅,S.he,λD5 H5 f6 s5 e5=>⟨D5,rfl,⟨_,aK.of e5⟩,?_⟩⟩;obtain⟨ts0,hb0,_⟩:=S.lb;have nDb:D5≠bg:=λz=>by rw [z,hb0] at f6;cases f6
 have fle:=FR (λz=>(bu kE (Sum.inr z)).isSome) ru.2;generalize hb:(λz=>(bu kE (Sum.inr z)).isSome)=b at *;generalize hn:xQ b ru.2=n at *
 let wD:sq:=λi σ H6=>∃(dX:List Be)(y4 y5:Option V),σ=[aF a,some (.int (k:Int)),aF r,some (.ref pn.2),y4,y5]/\sP K C H0 H6 a e d bg kE aX ps dX/\H6 D5=some (.lst (cnt n))/\sI aa (ps.map (·.1)) b dX/\bh.length<=dX.length /\
  (dX.length=bh.length->dX=bh/\∀j z,j < i->ru.2[j]?=some z->∀wd∈kZ (ps.map (·.1)) bh z,(ru.1,wd)∈aZ bh)
 refine cv (xs:=cnt n) wD ⟨bh,none,none,rfl,S.same s5,e5,UO,aE _,λ_=>⟨rfl,λj z hj=>by omega⟩⟩ ?_ ?_ ?_
 .rintro i σ H6 _ ⟨dX,y4,y5,rfl,S2,e6,_⟩;exact aK.of e6
 .intro i x σ H6 ex sW
  ac_nf0
  obtain⟨dX,y4,y5,rfl,S2,e6,VP,l2,c2⟩:=sW;have li:i < n:=by have:=(bj.mp ex).1;rw [By] at this;exact this
  rw [My li] at ex;cases ex;have lz:i < ru.2.length:=by omega
  obtain⟨z,ez⟩:∃z,ru.2[i]?=some z:=⟨ru.2[i],cR lz⟩;have Qr:r_ (ru.2.map V.str) (i:Int)=some (.str z):=dD (by rw [bq,ez];rfl);obtain⟨Qf,sN,Qb,g1,g2,g3,g4,g5⟩:=S2.ia;refine goN ?_
  ac_nf
  refine⟨_,rfl,a,Qf,sN,rfl,Qb,g5,_,rfl,r,_,_,_,rfl,rfl,S2.sm.tup v1,rfl,_,rfl,p,_,_,_,rfl,rfl,S2.sm.tup v2,Qr,H0,a,e,d,bg,kE,aX,ps,dX,z,rfl,S2,λD6 H7 f7 s7 e7=>⟨D6,rfl,⟨_,aK.of e7⟩,?_⟩⟩;obtain⟨wK,Iu,_⟩:=S2.lb;have nD6:D6≠bg:=λz=>by rw [z,Iu] at f7;cases f7
  generalize XA:kZ (ps.map (·.1)) dX z=ws at *
  let C9:sq:=λm σ H8=>∃(l:List Be)(y5:Option V),σ=[aF a,some (.int (k:Int)),aF r,some (.ref pn.2),some (.int (i:Int)),y5]/\sP K C H0 H8 a e d bg kE aX ps (dX++l)/\H8 D5=some (.lst (cnt n))/\H8 D6=some (.lst (ws.map V.str))/\sI aa (ps.map (·.1)) b (dX++l) /\
   (l=[]->∀wd∈ws.take m,(ru.1,wd)∈aZ dX)
  refine cv (xs:=ws.map V.str) C9 ⟨[],_,rfl,by rw [gG];exact S2.same s7,s7 _ _ e6,e7,by rw [gG];exact VP,λ_ wd h=>by simp at h⟩ ?_ ?_ ?_
  .rintro m σ H8 _ ⟨l,y5,rfl,S3,e8,e9,_⟩;exact aK.of e9
  .intro m x σ H8 ex sW
   ac_nf0
   obtain⟨l,y5,rfl,S3,e8,e9,Qo,c3⟩:=sW;rw [bq] at ex;obtain⟨wd,ew,rfl⟩:=cq.mp ex;obtain⟨⟨kvs,hk,kk⟩,fp,W8,W9⟩:=S3.dk pn xK;obtain⟨Wv,Rx,PH⟩:=S3.lb;have lim:=hbd _ Qo;have ltk:kvs.length<=900000:=by
    have h1:=congrArg List.length kk;rw [ax,ax] at h1;have:=L_ (dX++l) pn.1;omega
   have ltt:=a0 PH;have mem:(bu kvs (Sum.inr wd)).isSome=true↔(ru.1,wd)∈aZ (dX++l):=by rw [eV,kk,c_,oP,yz]
   refine goN ?_
   ac_nf
   refine⟨_,rfl,_,rfl,pn.2,_,rfl,cK.k (k:=Sum.inr wd) hk,_,rfl,?_⟩;refine cu (λc=>?_) (λc=>?_)
   .have nm:(ru.1,wd)∉aZ (dX++l):=λh=>by rw [mem.mpr h] at c;exact absurd c nofun
    refine⟨_,rfl,_,rfl,_,_,rfl,l7.k (k:=Sum.inr wd) hk (br ∅),?_⟩;obtain⟨Y9,G5,Vo,k1,k2,k3,k4,k5⟩:=S3.ia;have nap:a≠pn.2:=λz=>by rw [z,hk] at Vo;cases Vo
    have Rb:bg≠pn.2:=λz=>by rw [z,hk] at Rx;cases Rx
    have Mr:upd H8 pn.2 (.dK (bN kvs (Sum.inr wd) (.bl true))) a=some (.ins C Y9 G5):=by rw [ak nap];exact Vo
    have X8:upd H8 pn.2 (.dK (bN kvs (Sum.inr wd) (.bl true))) bg=some (.lst (Wv.map V.ref)):=by rw [ak Rb];exact Rx
    refine⟨_,rfl,a,C,Y9,G5,_,rfl,Mr,B.cls,B.a3,k2,.inl ⟨rfl,_,aK.of X8⟩,_,rfl,r,_,_,_,rfl,rfl,hJ hk (S3.sm.tup v1),rfl,_,rfl,_,rfl,_,rfl,Wn,λt4 zX=>?_⟩;have s4:=af zX (.tup [.str ru.1,.str wd,.int (k:Int),.int (i:Int)]);have e4:aS K (upd (upd H8 pn.2 (.dK (bN kvs (Sum.inr wd) (.bl true)))) t4 (.tup [.str ru.1,.str wd,.int (k:Int),.int (i:Int)])) t4 [.str ru.1,.str wd,.int (k:Int),.int (i:Int)]:=aS.of ae;generalize upd (upd H8 pn.2 (.dK (bN kvs (Sum.inr wd) (.bl true)))) t4 (.tup [.str ru.1,.str wd,.int (k:Int),.int (i:Int)])=H9 at s4 e4;refine⟨bg,_,_,rfl,rfl,s4 _ _ X8,br (by rw [ax];omega),?_⟩;have nm':(pn.1,wd)∉aZ (dX++l):=by rw [yz];exact nm
    have S4:=S3.more (k:=k) (j:=i) xK hk kk nm' Rx PH s4 (by rw [yz];exact e4);have JA:∀D ys,H8 D=some (.lst ys)->D≠bg->upd H9 bg (.lst (Wv.map V.ref++[.ref t4])) D=some (.lst ys):=λD ys hD nb=>by
     rw [ak nb];exact s4 _ _ (by rw [ak (λz=>by rw [z,hk] at hD;cases hD)];exact hD)
    rw [jD,yz] at S4;refine⟨l++[(ru.1,wd,k,i)],_,rfl,S4,JA _ _ e8 nDb,JA _ _ e9 nD6,?_,λh=>by simp at h⟩;rw [<-jD];refine .snoc Qo er ez (by rw [hn];exact li) (Hg dX l (by rw [XA];exact cE ew)) nm
   refine⟨l,_,rfl,S3,e8,e9,Qo,λhl x hx=>?_⟩;rw [cQ,ew] at hx;rcases cD.mp hx with h | h
   .exact c3 hl x h
   rw [Option.toList_some,cO] at h;subst h;have hm:(ru.1,x)∈aZ (dX++l):=mem.mp (by
    cases hq:(bu kvs (Sum.inr x)).isSome with
    | true=>rfl
    | false=>exact absurd (by rw [hq];rfl) c)
   rw [hl,gG] at hm;exact hm
  rintro σ H8 ⟨l,y5,rfl,S3,e8,e9,Qo,c3⟩;rw [ax,cH] at c3;refine⟨dX++l,_,_,rfl,S3,e8,Qo,by rw [bU];omega,λPn=>?_⟩;rw [bU] at Pn;have Rr:l=[]:=List.length_eq_zero_iff.mp ∅;obtain⟨LS,mY⟩:=c2 ∅;rw [Rr,gG];refine⟨LS,λj z' hj U_ wd XD=>?_⟩;by_cases cj:j < i
  .exact mY j z' cj U_ wd XD
  have:j=i:=by omega
  subst this;rw [ez] at U_;cases U_;have:=c3 Rr wd (by rw [<-XA,LS];exact XD);rw [LS] at this;exact this
 rintro σ H6 ⟨dX,y4,y5,rfl,S2,e6,VP,l2,c2⟩;rw [By] at c2;exact q dX H6 S2 VP l2 c2
end
end h_
namespace L2
open PySem M11
def x_ {K:ba}{H:Hp}{p D:Addr}{zs:List Str}{σ:St}{x:Str}{Qp:Hp->Prop}(hp:aK K H p (zs.map V.str))(hz:zs.length<=10000)(hD:H D=none)
  (q:∀ts (ps:List (Str×Addr)) H2,aC H H2->H2 D=some (.lst (ts.map V.ref))->ps.map (·.1)=zs->Paired (λt (p:Str×Addr)=>aS K H2 t [.str p.1,.ref p.2]) ts ps->(∀p∈ps,H2 p.2=some (.dK [])/\H p.2=none/\p.2≠D)->(ps.map (·.2)).Nodup->Qp H2) :
  ∃W:Nat->Nat->List V->St->Hp->Prop,(∃m,W 0 m [] (dJ [x] [] σ) (upd H D (.lst []))) /\
 ∀i m ys σ' H,W i m ys σ' H->((jn K p).stop i H/\Qp H)\/((jn K p).go i H/\∃m',m' < m/\∀x H',(jn K p).kX i H x H'->dB 0 x σ' H' λσ2 H2=>gP σ2 H2 λb H3 =>
  if b=true then sQ (gH (gE 0) (gH (DN) qJ)) σ2 H3 λy H4=>H4 D=some (.lst ys)/\ys.length < sizeLine/\W (i+1) m' (ys++[y]) σ2 (upd H4 D (.lst (ys++[y]))) else W (i+1) m' ys σ2 H3):=by
 refine b0 (xs:=zs.map V.str) (λi ys σ2 H2=>∃(ts:List Addr)(ps:List (Str×Addr)),ys=ts.map V.ref/\ts.length=i/\ps.map (·.1)=zs.take i/\Paired (λt (p:Str×Addr)=>aS K H2 t [.str p.1,.ref p.2]) ts ps /\
   (∀p∈ps,H2 p.2=some (.dK [])/\H p.2=none/\p.2≠D)/\(ps.map (·.2)).Nodup/\(∃y0,σ2=[y0])/\aC H H2/\H2 D=some (.lst ys))
  ⟨[],[],rfl,rfl,rfl,.nil,by simp,by simp,⟨none,rfl⟩,af hD _,ae⟩ (λi ys σ2 H2 _ h=>?_) (λi x ys σ2 H2 ex h=>?_) (λys σ2 H2 h=>?_)
 .obtain⟨_,_,_,_,_,_,_,_,_,sm,_⟩:=h;exact sm.seq hp
 .obtain⟨ts,ps,rfl,ht,hm,jA,hl,hn,⟨y0,rfl⟩,sm,hd⟩:=h;rw [bq] at ex;obtain⟨z,ez,rfl⟩:=cq.mp ex;have li:=(bj.mp ez).1;refine goN (wQ ?_);refine⟨_,rfl,λl sV=>⟨kN,λt jH=>?_⟩⟩;have Lf:l≠D:=(ay hd sV).symm;have nt:t≠l:=λe=>by rw [e,ae] at jH;cases jH
  have Pa:H2 t=none:=by rw [ak nt] at jH;exact jH
  have ntD:t≠D:=(ay hd Pa).symm;have vk:aC H2 (upd (upd H2 l (.dK [])) t (.tup [.str z,.ref l])):=(af sV _).trans (af jH _);have iU:=vk _ _ hd;have el:upd (upd H2 l (.dK [])) t (.tup [.str z,.ref l]) l=some (.dK []):=by rw [ak nt.symm,ae]
  have et:aS K (upd (upd H2 l (.dK [])) t (.tup [.str z,.ref l])) t [.str z,.ref l]:=aS.of ae;generalize upd (upd H2 l (.dK [])) t (.tup [.str z,.ref l])=H4 at vk iU el et;refine⟨iU,br (by rw [ax];omega),ts++[t],ps++[(z,l)],by rw [bB];rfl,by rw [bU,ht];rfl,by rw [bB,hm,cQ,ez];rfl,?_,?_,?_,⟨_,rfl⟩,?_,ae⟩
  .exact fO (Paired.di jA λt' h' z=>aP iU (vk.tup z)) (aP iU et)
  .intro p' oN;rcases cD.mp oN with h | h
   .obtain⟨a1,a2,a3⟩:=hl p' h;exact⟨by rw [ak a3];exact vk _ _ a1,a2,a3⟩
   rw [cO.mp h];exact⟨by rw [ak Lf];exact el,sm.free sV,Lf⟩
  .rw [bB];refine jE.mpr ⟨hn,by simp,λa ha b hb e=>?_⟩;rw [tu,cO] at hb;obtain⟨p',oN,rfl⟩:=bV.mp ha;have:=(hl p' oN).1;rw [e,hb] at this;rw [show H2 l=none from sV] at this;cases this
  intro b o hb;rw [ak (λz=>by rw [z,hD] at hb;cases hb)];exact vk _ _ (sm b o hb)
 obtain⟨ts,ps,rfl,ht,hm,jA,hl,hn,_,sm,hd⟩:=h;rw [ax,cH] at hm;exact q ts ps H2 sm hd hm jA hl hn
def gI {K:ba}{H:Hp}{D a C dx:Addr}{xs:List V}{fs:List (Str×V)}{o:HO}(hD:H D=some (.ins C dx fs))(h:aS K H a xs):aS K (upd H D o) a xs:=by
 rcases h with (h | ⟨u,h⟩) | h
 .exact .inl (.inl (by rw [ak (λz=>by rw [z,hD] at h;cases h)];exact h))
 .exact .inl (.inr ⟨u,by rw [ak (λz=>by rw [z,hD] at h;cases h)];exact h⟩)
 exact .inr h
def x9 {K:ba}{H:Hp}{R D:Addr}{rs:List Addr}{es:List (Str×Nat)}{σ:St}{x1 x2:Str}{Qp:Hp->Prop}(hR:aK K H R (rs.map V.ref))(cV:Paired (λt (e:Str×Nat)=>aS K H t [.str e.1,.int (e.2:Int)]) rs es)(bM:es.length<=1000)(hD:H D=none)
  (q:∀ts H2,aC H H2->H2 D=some (.lst (ts.map V.ref))->Paired (λt h=>aS K H2 t [.str h,.bl true]) ts (es.map (·.1))->Qp H2) :
  ∃W:Nat->Nat->List V->St->Hp->Prop,(∃m,W 0 m [] (dJ [x1,x2] [] σ) (upd H D (.lst []))) /\
 ∀i m ys σ' H,W i m ys σ' H->((jn K R).stop i H/\Qp H)\/((jn K R).go i H/\∃m',m' < m/\∀x H',(jn K R).kX i H x H'->z9 K 2 (ji (dB 0) (ji (dB 1) CD)) x σ' H' λσ2 H2=>gP σ2 H2 λb H3 =>
  if b=true then sQ (gH (gE 0) (gH (tC (.bl true)) qJ)) σ2 H3 λy H4=>H4 D=some (.lst ys)/\ys.length < sizeLine/\W (i+1) m' (ys++[y]) σ2 (upd H4 D (.lst (ys++[y]))) else W (i+1) m' ys σ2 H3):=by
 have ll:=a0 cV;refine b0 (xs:=rs.map V.ref) (λi ys σ2 H2=>∃ts:List Addr,ys=ts.map V.ref/\ts.length=i/\Paired (λt h=>aS K H2 t [.str h,.bl true]) ts ((es.take i).map (·.1))/\(∃y0 y1,σ2=[y0,y1])/\aC H H2/\H2 D=some (.lst ys))
  ⟨[],rfl,rfl,.nil,⟨none,none,rfl⟩,af hD _,ae⟩ (λi ys σ2 H2 _ h=>?_) (λi x ys σ2 H2 ex h=>?_) (λys σ2 H2 h=>?_)
 .obtain⟨_,_,_,_,_,sm,_⟩:=h;exact sm.seq hR
 .obtain⟨ts,rfl,ht,hp,⟨y0,y1,rfl⟩,sm,hd⟩:=h;rw [bq] at ex;obtain⟨r,er,rfl⟩:=cq.mp ex;have lr:=(bj.mp er).1;obtain⟨ru,e1⟩:∃ru,es[i]?=some ru:=⟨es[i]'∅,cR ∅⟩;obtain⟨r',P8,v1⟩:=Paired.at_ cV i ru e1;rw [er] at P8;cases P8;have li:=(bj.mp e1).1;refine⟨r,_,rfl,sm.tup v1,rfl,_,_,rfl,_,_,rfl,rfl,?_⟩;refine wQ ?_;refine⟨_,rfl,kN,λt jH=>⟨?_,br (by rw [ax];omega),ts++[t],?_,?_,?_,⟨_,_,rfl⟩,?_,ae⟩⟩
  .rw [ak (ay hd jH)];exact hd
  .rw [bB];rfl
  .rw [bU,ht];rfl
  .rw [cQ,e1,bB];have iU:upd H2 t (.tup [.str ru.1,.bl true]) D=some (.lst (ts.map V.ref)):=by rw [ak (ay hd jH)];exact hd
   exact fO (Paired.di hp λt' h' z=>aP iU ((af jH _).tup z)) (aP iU (aS.of ae))
  intro b o hb;rw [ak (λz=>by rw [z,hD] at hb;cases hb)];exact af jH _ _ _ (sm b o hb)
 obtain⟨ts,rfl,ht,hp,_,sm,hd⟩:=h;rw [ax,ll,cH] at hp;exact q ts H2 sm hd hp
end L2
namespace M11
open PySem L2
def sI.sub {aa:List aw}{names:List Str}{b:Str->Bool}{bh:List Be}(h:sI aa names b bh):∀q∈aZ bh,q.1∈aa.map (·.1)/\q.2∈aa.flatMap (·.2):=by
 induction h with
 | nil=>intro q hq;cases hq
 | @snoc bh k j ru z wd hb er ez _ hw _ ih =>
  intro q hq;unfold aZ at hq;rw [bB] at hq;rcases cD.mp hq with hq | hq
  .exact ih q hq
  rw [tu,cO] at hq;rw [hq];have hm:=cE er;refine⟨iC hm,?_⟩;unfold kZ at hw
  split at hw
  .exact(ih (z,wd) (oP.mp hw)).2
  rw [cO.mp hw];exact mi.mpr ⟨ru,hm,cE ez⟩
def sI.nd {aa:List aw}{names:List Str}{b:Str->Bool}{bh:List Be}(h:sI aa names b bh):(aZ bh).Nodup:=by
 induction h with
 | nil=>exact iN
 | @snoc bh k j ru z wd hb er ez _ hw hn ih =>
  unfold aZ;rw [bB];refine jE.mpr ⟨ih,by simp,λx hx y hy e=>?_⟩;rw [tu,cO] at hy;rw [e,hy] at hx;exact hn hx
theorem xo (m:List Str):∀l:List Str,(l.flatMap λn=>m.map λwd=>(n,wd)).length=l.length * m.length
 | []=>by simp
 | n::l=>by
  rw [List.flatMap_cons,bU,xo m l,ax,dG,Nat.add_mul];omega
def sI.len {aa:List aw}{names:List Str}{b:Str->Bool}{bh:List Be}(h:sI aa names b bh)(hl:aa.length<=100)(h8:∀ru∈aa,ru.2.length<=8):bh.length<=80000:=by
 have h1:=gy (aZ bh) ((aa.map (·.1)).flatMap λn=>(aa.flatMap (·.2)).map λwd=>(n,wd)) h.nd λq hq=>by
  obtain⟨a,c⟩:=h.sub q hq;exact mi.mpr ⟨q.1,a,bV.mpr ⟨q.2,c,rfl⟩⟩
 rw [xo] at h1;have h2:=h_.jj aa 100 hl h8;unfold aZ at h1;rw [ax,ax] at h1;have h3:aa.length * (aa.flatMap (·.2)).length<=100 * 800:=Nat.mul_le_mul hl h2;omega
def Ax (aa:List aw) (names:List Str)(b:Str->Bool) (n:Nat)(bh:List Be):Prop:=∀k ru,k < n->aa[k]?=some ru->∀j z,j < xQ b ru.2->ru.2[j]?=some z->∀wd∈kZ names bh z,(ru.1,wd)∈aZ bh
end M11
namespace h_
open PySem L2 M11
section
def A1 (K:ba)(C:Addr):Sp:=λvs H Q _=>∃(H0:Hp)(a dx R:Addr)(rs:List Addr)(aa:List aw),vs=[.ref a,.ref R]/\aC H0 H/\H0 a=none/\H a=some (.ins C dx [])/\aK K H0 R (rs.map V.ref)/\bL K H0 rs aa/\aa.length<=100/\(∀ru∈aa,ru.2.length<=8) /\
 ∀(e d bg:Addr)(kE:List (aL×V))(aX:List (Str×Nat))(ps:List (Str×Addr))(bh:List Be)(H':Hp),sP K C H0 H' a e d bg kE aX ps bh->ps.map (·.1)=hd aa->sO aa aX->su aa aa.length aX->(∀z,(bu kE (Sum.inr z)).isSome=decide (z∈aX.map (·.1))) ->
  sI aa (hd aa) (λz=>decide (z∈aX.map (·.1))) bh->Ax aa (hd aa) (λz=>decide (z∈aX.map (·.1))) aa.length bh->Q .fc H'
def mJ:aM ["self","rules","number","many","rule"] ["self","rules"] (az zg):=jl rfl rfl rfl rfl nofun
def E_ {C fF:Addr}{Ym:FuncData}(F:iM K "__init__" "BeginTable.__init__" zg f fd)(T:Txt mg)(B:BC K C)(GE:aG P w K mg base 1 "found_empties" ["rules"] (oo K))(GH:aG P w K mg base 1 "heads_of" ["rules"] (ki K))
  (FF:bZ P w K mg base gw 2 fF Ym ["self","number","rule"] (D_ K C))(MF:Meth K C "find_begins" fF)(BF:Binds K Ym ["self","number","rule"] []):bZ P w K mg base gw 3 f fd ["self","rules"] (A1 K C):=by
 refine F.ok mJ (λvs H Q E h=>?_) (λeY A outer s H vs Q E hr h=>?_)
 .obtain⟨H0,a,dx,R,rs,aa,rfl,_⟩:=h;rfl
 obtain⟨H0,a,dx,R,rs,aa,rfl,s0,f0,ea,hR,cV,bM,h8,q⟩:=h;refine⟨_,aj (gJ (pv 0) (bA (GE.mono (by decide:1<=2)) hr rfl (ab (pv 1) ai)) rfl)
  (aj (gJ (pv 0) (bc (d7 rfl) rfl T.Bx gb (ab (aV ["name","number"] [] rfl (aQ (d0 (pv 0) rfl)) (aU rfl rfl) nofun rfl nofun
   (λ_ _ _ _ _=>dC (n:=2) K rfl (aA (aq (i:=0) (show (["name","number"]:List Str).Nodup by decide +kernel) rfl (bo rfl)) (aA (aq (i:=1) (show (["name","number"]:List Str).Nodup by decide +kernel) rfl (bo rfl)) bH))) (λ_ _ _ _ _=>bw)
   (λ_ _ _ _ _=>bC (ab (pv 0) (ab eX ai)))) ai)) rfl)
  (aj (gJ (pv 0) (bY ai) rfl)
  (aj (gJ (pv 0) (bc (d7 rfl) rfl T.Bx gb (ab (aV ["name"] [] rfl (aQ (bA (GH.mono (by decide:1<=2)) hr rfl (ab (pv 1) ai))) (aU rfl rfl) nofun rfl nofun
   (λ_ _ _ _ _=>aq (i:=0) (show (["name"]:List Str).Nodup by decide +kernel) rfl (bo rfl)) (λ_ _ _ _ _=>bw)
   (λ_ _ _ _ _=>bC (ab (pv 0) (ab fZ ai)))) ai)) rfl)
  (aj (aB (i:=3) mJ.nd rfl (bo rfl) (xq qI av))
  (ao (i8 cf (a8 mT (pv 3) (aI a9 rfl T.len fw (ab (d0 (pv 0) rfl) ai)) (cg _))
   (aj (aB (i:=3) mJ.nd rfl (bo rfl) (aI a9 rfl T.len fw (ab (d0 (pv 0) rfl) ai)))
   (ao (bS cf rfl (mS rfl T.IB (ab (pv 1) ai)) (fJ rfl (aA (aq (i:=2) mJ.nd rfl (bo rfl)) (aA (aq (i:=4) mJ.nd rfl (bo rfl)) bH)))
    (ao (b_ (Bb (pv 0) B.cls MF FF hr BF .nil tX (ab (pv 2) (ab (pv 4) ai)))))))))))))),?_⟩
 nofun
 have ll:=a0 cV;refine⟨_,rfl,R,rs,aa,rfl,s0.seq hR,cV.same s0,∅,h8,λD1 BU aX H1 f1 s1 e1 w1 emp nu=>?_⟩;have Vp:=s1 _ _ ea;refine⟨_,rfl,a,C,dx,[],rfl,Vp,B.cls,B.a1,(by show 0 < 1000;decide),?_⟩;have e2:upd H1 a (.ins C dx (dQ "empties" (.ref D1) [])) D1=some (.lst (BU.map V.ref)):=by rw [ak (λz=>by rw [z,Vp] at e1;cases e1)];exact e1
 have w2:nH K (upd H1 a (.ins C dx (dQ "empties" (.ref D1) []))) BU aX:=w1.keep λ_ _ z=>gI Vp z;have Ex:aC H0 (upd H1 a (.ins C dx (dQ "empties" (.ref D1) []))):=λc o hc=>by rw [ak (λz=>by rw [z,f0] at hc;cases hc)];exact s1 _ _ (s0 c o hc)
 have Qb:upd H1 a (.ins C dx (dQ "empties" (.ref D1) [])) a=some (.ins C dx (dQ "empties" (.ref D1) [])):=ae;generalize upd H1 a (.ins C dx (dQ "empties" (.ref D1) []))=H2 at e2 w2 Ex Qb;have lets:=emp.len;refine⟨_,rfl,a,C,dx,_,_,rfl,Qb,B.cls,B.a1,rfl,D1,rfl,⟨_,aK.of e2⟩,λD2 jL=>x9 (aK.of e2) w2 ∅ jL λwK H3 s3 e3 p3=>?_⟩;have kp:Paired (λt (kv:aL×V)=>aS K H3 t [kV kv.1,kv.2]) wK ((aX.map (·.1)).map λh=>((Sum.inr h:aL),V.bl true)):=cT p3 λ_ _ z=>z;refine⟨D2,wK,_,rfl,e3,kp,λe he=>?_⟩;have Cn:∀z,(bu (cY ((aX.map (·.1)).map λh=>((Sum.inr h:aL),V.bl true)) []) (Sum.inr z)).isSome=decide (z∈aX.map (·.1)):=λz=>by
  rw [qG];by_cases c:z∈aX.map (·.1)
  .rw [ar c,cC c];rfl
  rw [au c,fA c];rfl
 generalize cY ((aX.map (·.1)).map λh=>((Sum.inr h:aL),V.bl true)) []=kE at Cn;have xm:=(Ex.trans s3).trans (af he (.dK kE));have Mr:=af he (.dK kE) _ _ (s3 _ _ Qb);have RH:upd H3 e (.dK kE) e=some (.dK kE):=ae;have KG:aC H2 (upd H3 e (.dK kE)):=s3.trans (af he (.dK kE));generalize upd H3 e (.dK kE)=H4 at xm Mr RH KG;have VF:=KG _ _ e2;have Zy:nH K H4 BU aX:=w2.keep λ_ _ z=>KG.tup z;refine⟨_,rfl,a,C,dx,_,rfl,Mr,B.cls,B.a2,(by show 1 < 1000;decide),?_⟩;generalize UH:dQ "empty" (.ref e) (dQ "empties" (.ref D1) [])=JK;have Qa:upd H4 a (.ins C dx JK) e=some (.dK kE):=by rw [ak (λz=>by rw [z,Mr] at RH;cases RH)];exact RH
 have A5:aC H0 (upd H4 a (.ins C dx JK)):=λc o hc=>by rw [ak (λz=>by rw [z,f0] at hc;cases hc)];exact xm c o hc
 have YM:upd H4 a (.ins C dx JK) a=some (.ins C dx JK):=ae;have VE:upd H4 a (.ins C dx JK) D1=some (.lst (BU.map V.ref)):=by rw [ak (λz=>by rw [z,Mr] at VF;cases VF)];exact VF
 have Wr:nH K (upd H4 a (.ins C dx JK)) BU aX:=Zy.keep λ_ _ z=>gI Mr z;generalize upd H4 a (.ins C dx JK)=H5 at Qa A5 YM VE Wr;refine⟨tI,λbg Ir=>?_⟩;have fbg:H0 bg=none:=A5.free Ir;have RI:upd H5 bg (.lst []) bg=some (.lst []):=ae;have Ew:=A5.trans (af Ir (.lst []));have Mp:=af Ir (.lst []) _ _ Qa;have Nr:=af Ir (.lst []) _ _ YM;have Tw:D1≠bg:=ay VE Ir;have RN:=af Ir (.lst []) _ _ VE;have Wq:nH K (upd H5 bg (.lst [])) BU aX:=Wr.keep λ_ _ z=>(af Ir (.lst [])).tup z;generalize upd H5 bg (.lst [])=H6 at RI Ew Mp Nr RN Wq;refine⟨_,rfl,a,C,dx,_,rfl,Nr,B.cls,B.a3,(by rw [<-UH];show 2 < 1000;decide),?_⟩;generalize X4:dQ "begins" (.ref bg) JK=Iy;have Mo:upd H6 a (.ins C dx Iy) e=some (.dK kE):=by rw [ak (λz=>by rw [z,Nr] at Mp;cases Mp)];exact Mp
 have YJ:upd H6 a (.ins C dx Iy) bg=some (.lst []):=by rw [ak (λz=>by rw [z,Nr] at RI;cases RI)];exact RI
 have KJ:aC H0 (upd H6 a (.ins C dx Iy)):=λc o hc=>by rw [ak (λz=>by rw [z,f0] at hc;cases hc)];exact Ew c o hc
 have YL:upd H6 a (.ins C dx Iy) a=some (.ins C dx Iy):=ae;have Za:upd H6 a (.ins C dx Iy) D1=some (.lst (BU.map V.ref)):=by rw [ak (λz=>by rw [z,Nr] at RN;cases RN)];exact RN
 have Wo:nH K (upd H6 a (.ins C dx Iy)) BU aX:=Wq.keep λ_ _ z=>gI Nr z;generalize upd H6 a (.ins C dx Iy)=H7 at Mo YJ KJ YL Za Wo;refine⟨_,rfl,R,rs,aa,rfl,KJ.seq hR,cV.same KJ,∅,λD4 H8 f8 s8 e8=>?_⟩;have Ll:=iR (aa.map (·.1)) [];simp only [jP,ax] at Ll;refine⟨D4,rfl,⟨_,aK.of e8⟩,λD5 Nk=>x_ (aK.of e8) ∅ Nk λts ps H9 s9 e9 m9 p9 l9 n9=>?_⟩;have n1:(ps.map (·.1)).Nodup:=by rw [m9];exact oS _ iN
 have Fp:Paired (λt (kv:aL×V)=>aS K H9 t [kV kv.1,kv.2]) ts (ps.map jo):=cT p9 λ_ _ z=>z;refine⟨D5,ts,_,rfl,e9,Fp,λd uo=>?_⟩;have P9:cY (ps.map jo) []=ps.map jo:=nj _ [] (by
  rw [qe,mU];exact vS n1)
 rw [P9];have MZ:=s8.trans s9;have sd:=af uo (.dK (ps.map jo));have zh:=MZ.trans sd;have pL:upd H9 d (.dK (ps.map jo)) d=some (.dK (ps.map jo)):=ae;have Lj:∀p∈ps,upd H9 d (.dK (ps.map jo)) p.2=some (.dK [])/\p.2≠d:=λp hp=>⟨sd _ _ (l9 p hp).1,λz=>by have:=(l9 p hp).1;rw [z,uo] at this;cases this⟩;generalize upd H9 d (.dK (ps.map jo))=Aw at zh pL Lj;have Ag:=zh _ _ YL;have wc:=zh _ _ Mo;have Mq:=zh _ _ YJ;have SQ:=KJ.trans zh;have Mw:=zh _ _ Za;have Sg:nH K Aw BU aX:=Wo.keep λ_ _ z=>zh.tup z;refine⟨_,rfl,a,C,dx,_,rfl,Ag,B.cls,B.a4,(by rw [<-X4,<-UH];show 3 < 1000;decide),?_⟩;have fp:∀p∈ps,H0 p.2=none/\p.2≠e:=λp hp=>by
  have Yg:H8 p.2=none:=(l9 p hp).2.1;refine⟨(KJ.trans s8).free Yg,λz=>?_⟩;have:=s8 _ _ Mo;rw [<-z,Yg] at this;cases this
 have hfs:∃fs,dQ "firsts" (.ref d) Iy=fs/\fs.lookup ("empty":Str)=some (.ref e)/\fs.lookup ("begins":Str)=some (.ref bg)/\fs.lookup ("firsts":Str)=some (.ref d)/\fs.lookup ("find_begins":Str)=none/\fs.lookup ("words_of_part":Str)=none/\fs.lookup ("empties":Str)=some (.ref D1):=by
  refine⟨_,rfl,?_⟩;rw [<-X4,<-UH];refine⟨?_,?_,?_,?_,?_,?_⟩ <;> rfl
 obtain⟨fs,efs,k1,k2,k3,k4,k5,k6⟩:=hfs;rw [efs];have Du:sP K C H0 (upd Aw a (.ins C dx fs)) a e d bg kE aX ps []:=by
  refine⟨λc o hc=>by rw [ak (λz=>by rw [z,f0] at hc;cases hc)];exact SQ c o hc,⟨dx,fs,ae,k1,k2,k3,k4,k5⟩,?_,?_,n1,n9,λp hp=>⟨⟨[],?_,rfl⟩,(fp p hp).1,(fp p hp).2,(Lj p hp).2⟩,⟨[],?_,.nil⟩,fbg,⟨D1,BU,⟨dx,fs,ae,k6⟩,by rw [ak (λz=>by rw [z,Ag] at Mw;cases Mw)];exact Mw,Sg.keep λ_ _ z=>gI Ag z,Tw⟩⟩
  .rw [ak (λz=>by rw [z,Ag] at wc;cases wc)];exact wc
  .rw [ak (λz=>by rw [z,Ag] at pL;cases pL)];exact pL
  .have:=(Lj p hp).1;rw [ak (λz=>by rw [z,Ag] at this;cases this)];exact this
  rw [ak (λz=>by rw [z,Ag] at Mq;cases Mq)];exact Mq
 generalize upd Aw a (.ins C dx fs)=Dc at Du;have eb:(λz=>(bu kE (Sum.inr z)).isSome)=λz=>decide (z∈aX.map (·.1)):=funext Cn;refine⟨1,rfl,?_⟩;refine⟨λmm σ yk=>∃(bh:List Be) (many:Int)(y2 y4:Option V),σ=[aF a,aF R,y2,some (.int many),y4]/\sP K C H0 yk a e d bg kE aX ps bh/\sI aa (hd aa) (λz=>decide (z∈aX.map (·.1))) bh/\-1<=many/\many<=bh.length /\
  (many=bh.length->Ax aa (hd aa) (λz=>decide (z∈aX.map (·.1))) aa.length bh)/\(mm:Int)=80001 - many,⟨80002,[],-1,none,none,rfl,Du,.nil,∅,by simp,by simp,∅⟩,?_⟩
 rintro mm σ yk ⟨bh,many,y2,y4,rfl,Hc,ME,b1,b2,cl,em⟩;obtain⟨Qf,sN,q1,q2,q3,q4,q5,q6⟩:=Hc.ia;obtain⟨tb,X9,Iu⟩:=Hc.lb;have lb:=a0 Iu;have Lo:=ME.len bM h8;refine⟨_,rfl,_,rfl,a,C,Qf,sN,_,rfl,q1,B.cls,B.a3,q3,bg,_,rfl,.inl (aK.of X9),_,_,rfl,rfl,_,rfl,?_⟩;refine cu (λc=>?_) (λc=>?_)
 .have c':=cS c;rw [ax,lb] at c';refine⟨λσ BN=>∃(dX:List Be)(y2 y4:Option V),σ=[aF a,aF R,y2,some (.int (bh.length:Int)),y4]/\sP K C H0 BN a e d bg kE aX ps dX/\sI aa (hd aa) (λz=>decide (z∈aX.map (·.1))) dX/\bh.length<=dX.length /\
   (dX.length=bh.length->dX=bh/\Ax aa (hd aa) (λz=>decide (z∈aX.map (·.1))) aa.length bh),?_,?_⟩
  .rintro σ BN ⟨dX,y2,y4,rfl,Gp,CW,TN,Dq⟩;have:=CW.len bM h8;refine⟨(80001 - bh.length:Int).toNat,∅,dX,_,_,_,rfl,Gp,CW,∅,∅,λz=>?_,∅⟩;obtain⟨IF,CM⟩:=Dq ∅;rw [IF];exact CM
  refine⟨_,rfl,a,C,Qf,sN,_,rfl,q1,B.cls,B.a3,q3,bg,_,rfl,.inl (aK.of X9),?_⟩;rw [ax,lb];refine⟨_,rfl,R,_,rfl,Hc.sm.seq hR,?_⟩;refine ka (xs:=rs.map V.ref) (λi σ BN=>∃(dX:List Be)(y2 y4:Option V),σ=[aF a,aF R,y2,some (.int (bh.length:Int)),y4]/\sP K C H0 BN a e d bg kE aX ps dX/\sI aa (hd aa) (λz=>decide (z∈aX.map (·.1))) dX/\bh.length<=dX.length /\
   (dX.length=bh.length->dX=bh/\Ax aa (hd aa) (λz=>decide (z∈aX.map (·.1))) i bh)) ⟨bh,_,_,rfl,Hc,ME,aE _,λ_=>⟨rfl,λk ru hk=>by omega⟩⟩ ?_ ?_ ?_
  .rintro i σ BN _ ⟨dX,y2,y4,rfl,Gp,_⟩;exact Gp.sm.seq hR
  .rintro i x σ BN t ex ⟨dX,y2,y4,rfl,Gp,CW,TN,Dq⟩ ht
   ac_nf0
   rw [bq] at ex;obtain⟨r,er,rfl⟩:=cq.mp ex;obtain⟨ru,rM,rv⟩:=cV.get er;have oO:=cE rM;have QB:=Gp.same (af ht (.tup [.int (i:Int),.ref r]));have O7:aS K (upd BN t (.tup [.int (i:Int),.ref r])) t [.int (i:Int),.ref r]:=aS.of ae;generalize upd BN t (.tup [.int (i:Int),.ref r])=H14 at QB O7;obtain⟨dx4,Nl,r1,r2,r3,r4,r5,r6⟩:=QB.ia;refine⟨t,_,rfl,O7,rfl,_,_,rfl,_,_,rfl,rfl,?_⟩;refine⟨_,rfl,a,dx4,Nl,rfl,r1,r5,_,rfl,_,rfl,H0,a,e,d,bg,r,kE,aX,ps,dX,i,ru,aa,rfl,QB,rv,rM,h8 ru oO,by rw [m9];exact(gZ _ _ _).mpr (.inr (iC oO)),?_,?_,?_⟩
   .intro wq G3;have:=G3.len bM h8;omega
   .rw [m9,eb];exact CW
   rw [m9,eb];intro VR H15 Wc VQ l15 VM;refine⟨VR,_,_,rfl,Wc,VQ,∅,λhl3=>?_⟩;obtain⟨x1,x2⟩:=Dq ∅;obtain⟨x3,x4⟩:=VM ∅;refine⟨x3.trans x1,λk zk hk Vb j z hj ez wd hw=>?_⟩;by_cases ck:k < i
   .exact x2 k zk ck Vb j z hj ez wd hw
   have:k=i:=by omega
   subst this;rw [rM] at Vb;cases Vb;rw [<-x1] at hw ⊢;exact x4 j z hj ez wd hw
  rintro σ BN ⟨dX,y2,y4,rfl,Gp,CW,TN,Dq⟩;rw [ax,ll] at Dq;exact⟨dX,_,_,rfl,Gp,CW,TN,Dq⟩
 have c':=of_decide_eq_false (qw.mpr c);rw [ax,lb] at c';exact q e d bg kE aX ps bh yk Hc m9 emp nu Cn ME (cl ∅)
end
end h_
namespace L2
open PySem PySem.W
section
variable {X:Cx}{ag:List (Addr×Obj)}{σ:St}{H:Hp}{s:Shared}{a:Addr}{kvs:List (aL×V)}{k:aL}{u:Value}{A:Around}{E:Value->Shared->Prop}
def Mu {z:V}{r:Value}{Q:Value->Shared->Prop}(I:Inv X ag σ H s)(e:H a=some (.dK kvs))(hl:kvs.length < sizeLine)(ry:RelV (kV k) u)(rz:RelV z r)
  (h1:∀v w' s',bu kvs k=some v->Inv X ag σ H s'->RelV v w'->Q w' s')(h2:bu kvs k=none->∀s',Inv X ag σ (upd H a (.dK (bN kvs k z))) s'->Q r s') :
  wpAny (model X.prog X.w) A (call (.builtin "dict.setdefault") [.ref a,u,r]) Q E s:=by
 obtain⟨zl,hd,vs,rel,dd⟩:=xV I.b8 e;refine call_meetsIn PySem.F.slot_dict_setdefault dd.typeIs PySem.F.entry_dict_setdefault (PySem.F.args_dict_setdefault_3 _ _ _) (kt_meets_setdefault (bf X.prog X.w) a (kP ry) hd r)
  ⟨vs,dd,by rw [<-rel.length];exact zl,λv hv=>?_,λhn h' G_ hs=>?_⟩
 .have rv:=rel.val k;rw [hv] at rv;cases e2:bu kvs k with
  | none=>rw [e2] at rv;cases rv
  | some x=>rw [e2] at rv;exact h1 x v _ e2 (I.tok _) rv
 have FA:bu kvs k=none:=by
  have rv:=rel.val k;rw [hn] at rv;cases e2:bu kvs k with
  | none=>rfl
  | some x=>rw [e2] at rv;cases rv
 have he:∃q,h'.get? a=some q:=let ⟨q,_,_,hq,_⟩:=G_;⟨q,hq⟩;exact h2 FA _ (qc I (by rw [e];exact True.intro) hs he (rQ (by have:=fj kvs k z;omega) hd (rel.put k rz) G_))
end
section
variable {X:Cx}{o e f:Expr}{apos hX:Pos}{td ty tx:TE}
def Km (td ty tx:TE):TE:=λσ H Q=>td σ H λx H1=>∃a,x=.ref a/\RT H1 a/\ty σ H1 λy H2=>tx σ H2 λz H3=>∃kvs k,H3 a=some (.dK kvs)/\y=kV k/\kvs.length < sizeLine /\
 (∀v,bu kvs k=some v->Q v H3)/\(bu kvs k=none->Q z (upd H3 a (.dK (bN kvs k z))))
def EL (ho:PE X o td)(he:PE X e ty)(hf:PE X f tx)(m:M2 X o "setdefault" apos e f hX):PE X (.Call (.Attribute o "setdefault" apos) [e,f] [] hX) (Km td ty tx):=by
 intro ag s σ H Q I h;refine wpAny_Call_method m.base m.nr m.line yF PySem.F.slot_dict_setdefault PySem.F.type_dict_setdefault (cW (ho ag s σ H _ I h) λu s1 bF=>?_);obtain⟨x,H1,I1,rx,a,ex,d,q1⟩:=bF;subst ex;obtain rfl:u=Value.ref a:=rx;obtain⟨t1,t2,_⟩:=zV I1 d;refine⟨t1,t2,?_⟩;rw [m.trees];refine uZ rfl (uS (s_ (cW (he ag s1 σ H1 _ I1 q1) λiv s2 ⟨y,H2,I2,ry,q2⟩ =>
  s_ (cW (hf ag s2 σ H2 _ I2 q2) λfv s3 ⟨z,H3,I3,rz,kvs,k,ea,ey,hl,q3,q4⟩=>Calls.spliced_nil ?_))))
 subst ey;exact Mu I3 ea hl ry rz (λv w' s4 l I4 zj=>⟨v,_,I4,zj,q3 v l⟩) λl s4 I4=>⟨z,_,I4,rz,q4 l⟩
end
end L2
namespace h_
open PySem L2 M11
section
def Ou {ps:List (Str×Addr)}(n1:(ps.map (·.1)).Nodup)(n2:(ps.map (·.2)).Nodup){p p':Str×Addr}(hp:p∈ps)(oN:p'∈ps)(z:p'≠p):p'.1≠p.1/\p'.2≠p.2:=by
 refine⟨λq=>z ?_,λq=>z ?_⟩
 .have w1:=gS ps n1 p' oN;have w2:=gS ps n1 p hp;rw [q,w2] at w1;injection w1 with w3;injection w3 with w4;exact iD q w4.symm
 obtain⟨i,hi,ei⟩:=qj.mp oN;obtain⟨j,hj,ej⟩:=qj.mp hp;have xM:i=j:=by
  refine(uM (xs:=ps.map (·.2)) (h₀:=by simpa using hi) (h₁:=by simpa using hj) n2).mp ?_;rw [n6,n6,ei,ej];exact q
 subst xM;exact ei.symm.trans ej
structure He (ps:List (Str×Addr))(st:Str->List Int)(H:Hp)(d:Addr):Prop where
 hd:H d=some (.dK (ps.map jo))
 n1:(ps.map (·.1)).Nodup
 n2:(ps.map (·.2)).Nodup
 lst:∀p∈ps,H p.2=some (.lst ((st p.1).map V.int))
def He.same {ps:List (Str×Addr)}{st:Str->List Int}{H H':Hp}{d:Addr}(h:He ps st H d)(s:aC H H'):He ps st H' d:=⟨s _ _ h.hd,h.n1,h.n2,λp hp=>s _ _ (h.lst p hp)⟩
def BH (st:Str->List Int)(n:Str) (k:Int):Str->List Int:=λz=>if z=n then st z++[k] else st z
def He.more {ps:List (Str×Addr)}{st:Str->List Int}{H:Hp}{d:Addr}(h:He ps st H d){p:Str×Addr}(hp:p∈ps) (k:Int):He ps (BH st p.1 k) (upd H p.2 (.lst ((st p.1).map V.int++[.int k]))) d:=by
 have a:=h.lst p hp;have nd:d≠p.2:=λz=>by have:=h.hd;rw [z,a] at this;cases this
 refine⟨by rw [ak nd];exact h.hd,h.n1,h.n2,λp' oN=>?_⟩;by_cases z:p'=p
 .rw [z,ae];have e1:BH st p.1 k p.1=st p.1++[k]:=ar rfl;rw [e1,bB];rfl
 obtain⟨a1,a2⟩:=Ou h.n1 h.n2 hp oN z;have e1:BH st p.1 k p'.1=st p'.1:=au a1;rw [ak a2,e1];exact h.lst p' oN
def DV (K:ba):Sp:=λvs H Q _=>∃(R:Addr)(rs:List Addr)(aa:List aw),vs=[.ref R]/\aK K H R (rs.map V.ref)/\bL K H rs aa/\aa.length<=1000 /\
 ∀(d:Addr)(ps:List (Str×Addr))(H':Hp),H d=none->aC H H'->He ps (λn=>nums aa n aa.length) H' d->ps.map (·.1)=hd aa->(∀p∈ps,H p.2=none)->Q (.ref d) H'
def vo:aM ["rules","numbers","number","rule"] ["rules"] (az Ei):=jl rfl rfl rfl rfl nofun
def HQ (F:iM K "numbers_by_name" "numbers_by_name" Ei f fd)(T:Txt mg)(GH:aG P w K mg base 1 "heads_of" ["rules"] (ki K)):bZ P w K mg base gw 2 f fd ["rules"] (DV K):=by
 refine F.ok vo (λvs H Q E h=>?_) (λeY A outer s H vs Q E hr h=>?_)
 .obtain⟨R,rs,aa,rfl,_⟩:=h;rfl
 obtain⟨R,rs,aa,rfl,hR,cV,bM,q⟩:=h;have hu:=gM hr;refine⟨_,aj (aB (i:=1) vo.nd rfl (bo rfl) (bc (d7 rfl) rfl T.Bx gb (ab
   (aV ["name"] [] rfl (aQ (bA GH hr rfl (ab (pv 0) ai))) (aU rfl rfl) nofun rfl nofun
    (λ_ _ _ _ _=>aq (i:=0) (show (["name"]:List Str).Nodup by decide +kernel) rfl (bo rfl)) (λ_ _ _ _ _=>bw)
    (λ_ _ _ _ _=>bC (ab (pv 0) (ab (bY ai) ai)))) ai)))
  (aj (bS cf rfl (mS rfl T.IB (ab (pv 0) ai)) (fJ rfl (aA (aq (i:=2) vo.nd rfl (bo rfl)) (aA (aq (i:=3) vo.nd rfl (bo rfl)) bH)))
   (ao (b_ (f_ fV fX fY bE (ft hu (pv 1) (bD bT (pv 3) av (λ_ _=>rfl)) (λ_ _=>rfl)) (ab (pv 2) ai)))))
  (ao (bz (pv 1)))),?_⟩
 nofun
 have ll:=a0 cV;refine⟨_,rfl,R,rs,aa,rfl,hR,cV,bM,λD2 H3 f3 s3 e3=>?_⟩;have Ll:=iR (aa.map (·.1)) [];simp only [jP,ax] at Ll;refine⟨D2,rfl,⟨_,aK.of e3⟩,λD3 LX=>rW (aK.of e3) ∅ LX λts ps H4 s4 e4 m4 p4 l4 n4=>?_⟩;have n1:(ps.map (·.1)).Nodup:=by rw [m4];exact oS _ iN
 have Fp:Paired (λt (kv:aL×V)=>aS K H4 t [kV kv.1,kv.2]) ts (ps.map jo):=cT p4 λ_ _ z=>z;refine⟨D3,ts,_,rfl,e4,Fp,λd uo=>?_⟩;have P9:cY (ps.map jo) []=ps.map jo:=nj _ [] (by
  rw [qe,mU];exact vS n1)
 rw [P9];have s5:=(s3.trans s4).trans (af uo (.dK (ps.map jo)));have xl:=af uo (.dK (ps.map jo));have yy:H d=none:=(s3.trans s4).free uo;have S5:He ps (λn=>nums aa n 0) (upd H4 d (.dK (ps.map jo))) d:=⟨ae,n1,n4,λp hp=>xl _ _ (l4 p hp).1⟩;have Nm:∀p∈ps,H p.2=none:=λp hp=>s3.free (l4 p hp).2.1;generalize upd H4 d (.dK (ps.map jo))=H5 at s5 S5;clear xl;refine⟨_,rfl,R,_,rfl,s5.seq hR,?_⟩
 let wD:sq:=λi σ H6=>∃(y2 y3:Option V),σ=[aF R,aF d,y2,y3]/\aC H H6/\He ps (λn=>nums aa n i) H6 d
 refine ka (xs:=rs.map V.ref) wD ⟨none,none,rfl,s5,S5⟩ ?_ ?_ ?_
 .rintro i σ H6 _ ⟨y2,y3,rfl,s6,_⟩;exact s6.seq hR
 .rintro i x σ H6 t ex ⟨y2,y3,rfl,s6,S6⟩ ht
  ac_nf0
  rw [bq] at ex;obtain⟨r,er,rfl⟩:=cq.mp ex;obtain⟨ru,rM,p,v1,v2⟩:=cV.get er;have oO:=cE rM;have li:=(bj.mp rM).1;have vI:=af ht (.tup [.int (i:Int),.ref r]);have JD:aS K (upd H6 t (.tup [.int (i:Int),.ref r])) t [.int (i:Int),.ref r]:=aS.of ae;have s7:=s6.trans vI;have S7:=S6.same vI;generalize upd H6 t (.tup [.int (i:Int),.ref r])=H7 at JD s7 S7;obtain⟨pn,xK,yz⟩:∃pn∈ps,pn.1=ru.1:=by
   have:ru.1∈ps.map (·.1):=by rw [m4];exact(gZ _ _ _).mpr (.inr (iC oO))
   obtain⟨pn,a,b⟩:=bV.mp this;exact⟨pn,a,b⟩
  have an:=S7.lst pn xK;have vn:=gS ps n1 pn xK;rw [yz] at vn;have hg:cK H7 d (.str ru.1) (some (.ref pn.2)):=by
   have:=cK.k (k:=Sum.inr ru.1) S7.hd;rw [vn] at this;exact this
  have ln:=xA aa pn.1 i;refine⟨t,_,rfl,JD,rfl,_,_,rfl,_,_,rfl,rfl,?_⟩;refine⟨_,rfl,_,rfl,r,_,_,_,rfl,rfl,s7.tup v1,rfl,d,_,rfl,hg,.inl ⟨rfl,_,aK.of an⟩,_,rfl,pn.2,_,_,rfl,rfl,an,br (by rw [ax];omega),?_⟩;have S8:=S7.more xK (i:Int);refine⟨_,_,rfl,λb o hb=>by rw [ak (λz=>by rw [z,Nm pn xK] at hb;cases hb)];exact s7 b o hb,S8.hd,S8.n1,S8.n2,λp' oN=>?_⟩;have:=S8.lst p' oN;rw [this]
  congr 3
  unfold BH;rw [Cj];by_cases c:p'.1=pn.1
  .rw [ar c,ar];unfold M8;rw [rM,c,yz];simp
  rw [au c,au,gG];unfold M8;rw [rM];intro z;have z2:=cS z;injection z2 with z3;exact c (by rw [yz];exact z3.symm)
 rintro σ H6 ⟨y2,y3,rfl,s6,S6⟩;rw [ax,ll] at S6;exact⟨_,rfl,q d ps H6 yy s6 S6 m4 Nm⟩
def Jd (K:ba):Sp:=λvs H Q _=>∃(R:Addr)(rs:List Addr)(aa:List aw),vs=[.ref R]/\aK K H R (rs.map V.ref)/\bL K H rs aa/\aa.length<=1000/\(∀ru∈aa,ru.2.length<=8) /\
 ∀(d:Addr)(H':Hp),H d=none->aC H H'->Q (.ref d) H'
structure Dt (H0 H:Hp)(d:Addr)(kvs:List (aL×V)) (n:Nat):Prop where
 hd:H d=some (.dK kvs)
 ln:kvs.length<=n
 lst:∀kv∈kvs,∃a xs,kv.2=.ref a/\H a=some (.lst xs)/\H0 a=none/\xs.length<=n
def Dt.same {H0 H H':Hp}{d:Addr}{kvs:List (aL×V)}{n:Nat}(h:Dt H0 H d kvs n)(s:aC H H'):Dt H0 H' d kvs n:=⟨s _ _ h.hd,h.ln,λkv hk=>let ⟨a,xs,e1,e2,e3,e4⟩:=h.lst kv hk;⟨a,xs,e1,s _ _ e2,e3,e4⟩⟩
def Dt.more {H0 H:Hp}{d a:Addr}{kvs:List (aL×V)}{n:Nat}{xs:List V}{y:V}(h:Dt H0 H d kvs (n+1))(ha:H a=some (.lst xs))(lx:xs.length<=n)(l2:∀kv∈kvs,∃a xs,kv.2=.ref a/\H a=some (.lst xs)/\H0 a=none/\xs.length<=n):Dt H0 (upd H a (.lst (xs++[y]))) d kvs (n+1):=by
 have nd:d≠a:=λz=>by have:=h.hd;rw [z,ha] at this;cases this
 refine⟨by rw [ak nd];exact h.hd,h.ln,λkv hk=>?_⟩;obtain⟨b,ys,e1,e2,e3,e4⟩:=l2 kv hk;by_cases c:b=a
 .exact⟨b,xs++[y],e1,by rw [c,ae],e3,by rw [bU];simp;omega⟩
 exact⟨b,ys,e1,by rw [ak c];exact e2,e3,∅⟩
def Kf {kvs:List (aL×V)}{k:aL}{v:V}(h:bu kvs k=some v):∃kv∈kvs,kv.2=v:=by
 unfold bu at h;obtain⟨kv,e1,e2⟩:=cq.mp h;exact⟨kv,List.mem_of_find?_eq_some e1,e2⟩
def tR:aM ["rules","standings","number","rule","place","part"] ["rules"] (az Kx):=jl rfl rfl rfl rfl nofun
def K9 (F:iM K "standings_by_part" "standings_by_part" Kx f fd)(T:Txt mg):bZ P w K mg base gw 1 f fd ["rules"] (Jd K):=by
 refine F.ok tR (λvs H Q E h=>?_) (λeY A outer s H vs Q E hr h=>?_)
 .obtain⟨R,rs,aa,rfl,_⟩:=h;rfl
 obtain⟨R,rs,aa,rfl,hR,cV,bM,h8,q⟩:=h;have hu:=gM hr;refine⟨_,aj (aB (i:=1) tR.nd rfl (bo rfl) fZ)
  (aj (bS cf rfl (mS rfl T.IB (ab (pv 0) ai)) (fJ rfl (aA (aq (i:=2) tR.nd rfl (bo rfl)) (aA (aq (i:=3) tR.nd rfl (bo rfl)) bH)))
   (ao (bS cf rfl (mR rfl T.IB (ab (bD bT (pv 3) av (λ_ _=>rfl)) ai)) (fJ rfl (aA (aq (i:=4) tR.nd rfl (bo rfl)) (aA (aq (i:=5) tR.nd rfl (bo rfl)) bH)))
    (ao (b_ (f_ fV fX fY bE (EL (pv 1) (pv 5) (bY ai) ⟨rfl,rfl,rfl,rfl⟩) (ab (bC (ab (pv 2) (ab (pv 4) ai))) ai)))))))
  (ao (bz (pv 1)))),?_⟩
 nofun
 have ll:=a0 cV;intro d uo;have s1:=af uo (.dK []);have S1:Dt H (upd H d (.dK [])) d [] (8 * 0):=⟨ae,aE _,λkv hk=>by cases hk⟩;generalize upd H d (.dK [])=H1 at s1 S1;refine⟨_,rfl,R,_,rfl,s1.seq hR,?_⟩
 let C9:sq:=λi σ H6=>∃(kvs:List (aL×V))(y2 y3 y4 y5:Option V),σ=[aF R,aF d,y2,y3,y4,y5]/\aC H H6/\Dt H H6 d kvs (8 * i)
 refine ka (xs:=rs.map V.ref) C9 ⟨[],none,none,none,none,rfl,s1,S1⟩ ?_ ?_ ?_
 .rintro i σ H6 _ ⟨kvs,y2,y3,y4,y5,rfl,s6,_⟩;exact s6.seq hR
 .rintro i x σ H6 t ex ⟨kvs,y2,y3,y4,y5,rfl,s6,S6⟩ ht
  ac_nf0
  rw [bq] at ex;obtain⟨r,er,rfl⟩:=cq.mp ex;obtain⟨ru,rM,p,v1,v2⟩:=cV.get er;have oO:=cE rM;have LZ:=h8 ru oO;have li:=(bj.mp rM).1;have vI:=af ht (.tup [.int (i:Int),.ref r]);have JD:aS K (upd H6 t (.tup [.int (i:Int),.ref r])) t [.int (i:Int),.ref r]:=aS.of ae;have s7:=s6.trans vI;have S7:=S6.same vI;generalize upd H6 t (.tup [.int (i:Int),.ref r])=H7 at JD s7 S7;refine⟨t,_,rfl,JD,rfl,_,_,rfl,_,_,rfl,rfl,?_⟩;refine⟨_,rfl,r,_,_,_,rfl,rfl,s7.tup v1,rfl,p,_,rfl,s7.tup v2,?_⟩
  let QI:sq:=λj σ H9=>∃(kvs:List (aL×V))(y4 y5:Option V),σ=[aF R,aF d,some (.int (i:Int)),aF r,y4,y5]/\aC H H9/\Dt H H9 d kvs (8 * i+j)
  refine oR (xs:=ru.2.map V.str) QI ⟨kvs,_,_,rfl,s7,S7⟩ ?_ ?_ ?_
  .rintro j σ H9 _ ⟨kvs,y4,y5,rfl,s9,_⟩;exact s9.tup v2
  .rintro j x σ H9 t2 jm ⟨kvs,y4,y5,rfl,s9,S9⟩ jH
   ac_nf0
   rw [bq] at jm;obtain⟨z,ez,rfl⟩:=cq.mp jm;have lj:=(bj.mp ez).1;have xj:=af jH (.tup [.int (j:Int),.str z]);have Fu:aS K (upd H9 t2 (.tup [.int (j:Int),.str z])) t2 [.int (j:Int),.str z]:=aS.of ae;have vJ:=s9.trans xj;have J1:=S9.same xj;generalize upd H9 t2 (.tup [.int (j:Int),.str z])=Aw at Fu vJ J1;refine⟨t2,_,rfl,Fu,rfl,_,_,rfl,_,_,rfl,rfl,?_⟩;have lk:=J1.ln;refine⟨_,rfl,d,rfl,.inl ⟨kvs,.inl J1.hd⟩,_,rfl,tI,λl hl=>?_⟩;have Hs:=af hl (.lst []);have G9:upd Aw l (.lst []) l=some (.lst []):=ae;have fl:H l=none:=vJ.free hl;have Du:=J1.same Hs;have sA:=vJ.trans Hs;generalize upd Aw l (.lst [])=Dc at Hs G9 Du sA;have fin:∀(a:Addr)(xs:List V)(lP:List (aL×V))(yk:Hp),yk a=some (.lst xs)->H a=none->xs.length<=8 * i+j->Dt H yk d lP (8 * i+j+1)->(∀kv∈lP,∃a xs,kv.2=.ref a/\yk a=some (.lst xs)/\H a=none/\xs.length<=8 * i+j)->aC H yk ->
     ∀t4,yk t4=none->xs.length < sizeLine/\∃(kvs:List (aL×V))(y4 y5:Option V),[some (V.ref R),aF d,some (.int (i:Int)),aF r,some (.int (j:Int)),some (.str z)]=[aF R,aF d,some (.int (i:Int)),aF r,y4,y5]/\aC H (upd (upd yk t4 (.tup [.int (i:Int),.int (j:Int)])) a (.lst (xs++[.ref t4])))/\Dt H (upd (upd yk t4 (.tup [.int (i:Int),.int (j:Int)])) a (.lst (xs++[.ref t4]))) d kvs (8 * i+(j+1)) :=
    λa xs lP yk ea fa lx Hc GQ Jj t4 zX=>by
     have zi:=af zX (.tup [.int (i:Int),.int (j:Int)]);refine⟨br ∅,lP,_,_,rfl,λb o hb=>by rw [ak (λz=>by rw [z,fa] at hb;cases hb)];exact zi _ _ (Jj b o hb),?_⟩;exact(Hc.same zi).more (zi _ _ ea) lx λkv hk=>let ⟨b,ys,e1,e2,e3,e4⟩:=GQ kv hk;⟨b,ys,e1,zi _ _ e2,e3,e4⟩
   refine⟨kvs,Sum.inr z,Du.hd,rfl,br ∅,λv hv=>?_,λhn=>?_⟩
   .obtain⟨kv,hk,ek⟩:=Kf hv;obtain⟨a,xs,e1,e2,e3,e4⟩:=Du.lst kv hk;rw [e1] at ek;subst ek;refine⟨.inl ⟨rfl,_,aK.of e2⟩,_,rfl,_,rfl,kN,λt4 zX=>?_⟩;obtain⟨g1,g2⟩:=fin a xs kvs Dc e2 e3 e4 ⟨Du.hd,∅,λkv hk=>let ⟨b,ys,e1,e2,e3,e4⟩:=Du.lst kv hk;⟨b,ys,e1,e2,e3,∅⟩⟩ Du.lst sA t4 zX;exact⟨a,_,_,rfl,rfl,af zX _ _ _ e2,g1,g2⟩
   have nd:d≠l:=λz=>by have:=Du.hd;rw [z,G9] at this;cases this
   have JR:upd Dc d (.dK (bN kvs (Sum.inr z) (.ref l))) l=some (.lst []):=by rw [ak nd.symm];exact G9
   have yy:H d=none:=uo;have Jj:aC H (upd Dc d (.dK (bN kvs (Sum.inr z) (.ref l)))):=λb o hb=>by rw [ak (λz=>by rw [z,yy] at hb;cases hb)];exact sA b o hb
   have GQ:∀kv∈bN kvs (Sum.inr z) (.ref l),∃a xs,kv.2=.ref a/\upd Dc d (.dK (bN kvs (Sum.inr z) (.ref l))) a=some (.lst xs)/\H a=none/\xs.length<=8 * i+j:=λkv hk=>by
    rw [xn _ hn] at hk;rcases cD.mp hk with h | h
    .obtain⟨b,ys,e1,e2,e3,e4⟩:=Du.lst kv h;exact⟨b,ys,e1,by rw [ak (λz=>by rw [z,Du.hd] at e2;cases e2)];exact e2,e3,e4⟩
    rw [cO.mp h];exact⟨l,[],rfl,JR,fl,by simp⟩
   have lp:=fj kvs (Sum.inr z:aL) (.ref l);have Hc:Dt H (upd Dc d (.dK (bN kvs (Sum.inr z) (.ref l)))) d (bN kvs (Sum.inr z) (.ref l)) (8 * i+j+1):=⟨ae,∅,λkv hk=>let ⟨b,ys,e1,e2,e3,e4⟩:=GQ kv hk;⟨b,ys,e1,e2,e3,∅⟩⟩;generalize upd Dc d (.dK (bN kvs (Sum.inr z) (.ref l)))=yk at JR Jj GQ Hc;refine⟨.inl ⟨rfl,_,aK.of JR⟩,_,rfl,_,rfl,kN,λt4 zX=>?_⟩;obtain⟨g1,g2⟩:=fin l [] _ yk JR fl (by simp) Hc GQ Jj t4 zX;exact⟨l,_,_,rfl,rfl,af zX _ _ _ JR,g1,g2⟩
  rintro σ H9 ⟨kvs,y4,y5,rfl,s9,S9⟩;rw [ax] at S9;refine⟨kvs,_,_,_,_,rfl,s9,S9.hd,by have:=S9.ln;omega,λkv hk=>let ⟨b,ys,e1,e2,e3,e4⟩:=S9.lst kv hk;⟨b,ys,e1,e2,e3,∅⟩⟩
 rintro σ H6 ⟨kvs,y2,y3,y4,y5,rfl,s6,S6⟩;exact⟨_,rfl,q d H6 uo s6⟩
end
end h_
namespace L2
open PySem PySem.Spec PyProof.Rows
open PySem
def dF {X:Cx}(K:ba)(hK:X.K=K:=by rfl):jM X (compareOp .In) (Q9 K false):=by
 subst hK;exact i9
def J_ (K:ba)(H:Hp):Nat->V->V->Prop
 | 0,x,y=>x=y/\wB x
 | n+1,x,y=>(x=y/\wB x)\/∃a b xs ys,x=.ref a/\y=.ref b/\((aK K H a xs/\aK K H b ys)\/(aS K H a xs/\aS K H b ys))/\Paired (J_ K H n) xs ys
def J_.self {K:ba}{H:Hp}{x:V}(h:wB x):∀n,J_ K H n x x
 | 0=>⟨rfl,h⟩
 | _+1=>.inl ⟨rfl,h⟩
def kr {A:Around}{s:Shared}{F:V->V->Prop}{xs ys:List V}{aT eU:List Value}(r:a_ xs aT)(r2:a_ ys eU)(p:Paired F xs ys)(hF:∀x y u v,F x y->RelV x u->RelV y v->SeqAt.EqAt A s u v true) (j:Nat)(h1:j < aT.toArray.size)(h2:j < eU.toArray.size) :
  SeqAt.EqAt A s aT.toArray[j] eU.toArray[j] true:=by
 have l1:=r.length;have l2:=r2.length;have k1:j < aT.length:=by simpa using h1
 have k2:j < eU.length:=by simpa using h2
 have g2:ys[j]?=some (ys[j]'∅):=cR ∅;obtain⟨x,g1,fx⟩:=Paired.at_ p j _ g2;obtain⟨u1,e1,q1⟩:=r.get g1;obtain⟨u2,e2,q2⟩:=r2.get g2;have f1:aT.toArray[j]=u1:=by
  have:=(bj.mp e1).2;simpa using this
 have f2:eU.toArray[j]=u2:=by
  have:=(bj.mp e2).2;simpa using this
 rw [f1,f2];exact hF _ _ _ _ fx q1 q2
theorem wj {X:Cx}{ag:List (Addr×Obj)}{σ:St}{H:Hp}{s:Shared}(I:Inv X ag σ H s):∀(n:Nat)(A:Around)(x y:V)(u v:Value),J_ X.K H n x y->RelV x u->RelV y v->A.units+n < cLine->SeqAt.EqAt A s u v true
 | 0,A,x,y,u,v,⟨e,h⟩,ru,rv,_=>by subst e;exact rN h ru rv
 | n+1,A,x,y,u,v,.inl ⟨e,h⟩,ru,rv,_=>by subst e;exact rN h ru rv
 | n+1,A,x,y,u,v,.inr ⟨a,b,xs,ys,ex,ey,hs,p⟩,ru,rv,hu=>by
  subst ex;subst ey;cases (show u=Value.ref a from ru);cases (show v=Value.ref b from rv);by_cases e:a=b
  .subst e;exact .same _
  refine .of_refs e ?_;have lp:=a0 p;rcases hs with ⟨ha,hb⟩ | ⟨ha,hb⟩
  .obtain⟨aT,r,pl,_⟩:=I.list ha;obtain⟨eU,r2,zw,_⟩:=I.list hb;have l1:=r.length;have l2:=r2.length;have q:=SeqAt.RcAt.lists (A:=A) (s:=s) (e:=λ_=>true) pl.isList zw.isList (by simp only [cP];omega) ∅ (λj h1 h2=>kr r r2 p (λx y u v d r1 r2=>wj I n A.in1 x y u v d r1 r2 (by rw [qd];omega)) j h1 h2);have e:((List.range aT.toArray.size).all λ_=>true)=true:=by simp
   rw [e] at q;exact q
  obtain⟨aT,r,pl,_⟩:=I.tuple ha;obtain⟨eU,r2,zw,_⟩:=I.tuple hb;have l1:=r.length;have l2:=r2.length;have q:=SeqAt.RcAt.tuples (A:=A) (s:=s) (e:=λ_=>true) pl zw ∅ (λj h1 h2=>kr r r2 p (λx y u v d r1 r2=>wj I n A.in1 x y u v d r1 r2 (by rw [qd];omega)) j h1 h2);have e1:((List.range (min aT.toArray.size eU.toArray.size)).all (λ_=>true) && aT.toArray.size == eU.toArray.size)=true:=by
   have:aT.toArray.size=eU.toArray.size:=by simp only [cP];omega
   rw [this];simp
  rw [e1] at q;exact q
def Jm (K:ba)(b:Bool) (n:Nat):V->V->Hp->VK->Prop:=λx y H Q=>∃p q xs ys,x=.ref p/\y=.ref q/\aK K H p xs/\aK K H q ys/\Paired (J_ K H n) xs ys/\Q (.bl b) H
def zC {X:Cx}(n:Nat)(hu:X.A.units+(n+1) < cLine):jM X (compareOp .NotEq) (Jm X.K false n):=by
 intro ag s σ H x y v u Q I rx ry h;obtain⟨a,b,xs,ys,rfl,rfl,ha,hb,p,q⟩:=h;cases rx;cases ry;obtain⟨aT,r,pl,hz⟩:=I.list ha;obtain⟨eU,r2,zw,Xy⟩:=I.list hb;have l1:=r.length;have l2:=r2.length;have lp:=a0 p;refine SeqAt.RcNeAt.lists (e:=λ_=>true) pl.isList zw.isList (by simp only [cP];omega) ∅ (λj h1 h2=>kr r r2 p (λx y u v d r1 r2=>wj I n X.A.in1 x y u v d r1 r2 (by rw [qd];omega)) j h1 h2) X.prog X.w X.xe _ ?_;have e:(!(List.range aT.toArray.size).all λ_=>true)=false:=by simp
 rw [e];exact⟨.bl false,H,I,rfl,q⟩
section
variable {prog:Program}{w:World}{A:Around}{E:Value->Shared->Prop}{s:Shared}
abbrev Gv (h:Heap)(z:Addr)(f0 f1:Value)(TI TO:Addr):Prop:=h.get? z=some { cls:=.type "zip",data:=.fields #[f0,f1,.bool false,.ref TI,.ref TO] }
end
structure V4 (h:Heap)(z TI TO i1 i2 l1 l2:Addr)(xs ys:Array Value) (i:Nat):Prop where
 hz:∃f0 f1,Gv h z f0 f1 TI TO/\(f0=.none\/∃T:Nat,f0=rawInt T)
 hI:IsPair h TI (.ref i1) (.ref i2)
 hO:∃a b,IsPair h TO a b
 h1:h.IsTupleIter i1 l1 i
 h2:h.IsTupleIter i2 l2 i
 t1:h.IsTuple l1 xs
 t2:h.IsTuple l2 ys
def wY {h h':Heap}{l:Addr}{xs:Array Value}(t:h.IsTuple l xs)(k:∀o,h.get? l=some o->h'.get? l=some o):h'.IsTuple l xs:=by
 obtain⟨o,a,b,c⟩:=t;exact⟨o,k o a,b,c⟩
def uL (h:Heap) (N:Nat)(xs ys bQ:Array Value):Prop:=∃Ts:List Nat,bQ.toList=Ts.map Value.ref/\Ts.Pairwise (· < ·)/\∀(j T:Nat),Ts[j]?=some T->N<=T/\∃x y:Value,IsPair h T x y/\xs[j]?=some x/\ys[j]?=some y
def uL.keep {h h':Heap}{N:Nat}{xs ys bQ:Array Value}(a:uL h N xs ys bQ)(k:∀(T:Nat) o,N<=T->h.get? T=some o->h'.get? T=some o):uL h' N xs ys bQ:=by
 obtain⟨Ts,e1,e2,e3⟩:=a;refine⟨Ts,e1,e2,λj T hj=>?_⟩;obtain⟨l,x,y,p,q⟩:=e3 j T hj;exact⟨l,x,y,k T _ l p,q⟩
def uL.more {h:Heap}{N T0:Nat}{xs ys bQ:Array Value}{x y:Value}(a:uL h N xs ys bQ)(lt:∀(Ts:List Nat),bQ.toList=Ts.map Value.ref->∀T∈Ts,T < T0)(hN:N<=T0)(p:IsPair h T0 x y)(hx:xs[bQ.size]?=some x)(hy:ys[bQ.size]?=some y):uL h N xs ys (bQ.push (.ref T0)):=by
 obtain⟨Ts,e1,e2,e3⟩:=a;have el:Ts.length=bQ.size:=by
  have:=congrArg List.length e1;rw [ax] at this;rw [<-this];simp
 refine⟨Ts++[T0],by rw [Array.toList_push,e1,bB];rfl,List.pairwise_append.mpr ⟨e2,by simp,λT hT b hb=>by rw [cO.mp hb];exact lt Ts e1 T hT⟩,λj T hj=>?_⟩;by_cases c:j < Ts.length
 .rw [mr c] at hj;exact e3 j T hj
 rw [kM ∅] at hj;have c2:j - Ts.length=0:=by
  have:=(bj.mp hj).1;simp at this;omega
 rw [c2] at hj;cases hj;have:j=bQ.size:=by omega
 rw [this];exact⟨hN,x,y,p,hx,hy⟩
def V4.keep {h h':Heap}{z TI TO i1 i2 l1 l2:Addr}{xs ys:Array Value}{i:Nat}(st:V4 h z TI TO i1 i2 l1 l2 xs ys i)(k:∀b o,h.get? b=some o->h'.get? b=some o):V4 h' z TI TO i1 i2 l1 l2 xs ys i:=by
 obtain⟨⟨f0,f1,a,b⟩,hI,⟨c,d,hO⟩,h1,h2,t1,t2⟩:=st;exact⟨⟨f0,f1,k _ _ a,b⟩,k _ _ hI,⟨c,d,k _ _ hO⟩,h1.at λo q=>k _ _ q,h2.at λo q=>k _ _ q,wY t1 λo q=>k _ _ q,wY t2 λo q=>k _ _ q⟩
end L2
namespace HT
open PySem PyProof.Rows
section
variable {prog:Program}{w:World}{A:Around}{E:Value->Shared->Prop}{s:Shared}
end
end HT
namespace L2
open PySem PySem.Spec PyProof.Rows
open PySem
section
variable {prog:Program}{w:World}{A:Around}{E:Value->Shared->Prop}{s:Shared}
end
structure ZTn (h:Heap)(z TI TO i1 i2 l1 l2:Addr) (i:Nat):Prop where
 hz:∃f0 f1,Gv h z f0 f1 TI TO/\(f0=.none\/∃T:Nat,f0=rawInt T)
 hI:IsPair h TI (.ref i1) (.ref i2)
 hO:∃a b,IsPair h TO a b
 h1:h.IsTupleIter i1 l1 i
 h2:h.IsTupleIter i2 l2 i
end L2
namespace HT
open PySem PySem.Spec PyProof.Rows
section
variable {prog:Program}{w:World}{A:Around}{E:Value->Shared->Prop}{s:Shared}
def nh {t sl:Addr}{items:Array Value}{vl vu:Value}{lo hi:Option Int}{Q:Value->Shared->Prop}(ht:IsTup s.heap t items)(hs:s.heap.IsSliceOf sl vl vu .none)(pl:IsPart vl lo)(pu:IsPart vu hi)
  (hw:fI items.size 0 lo=0/\fI items.size items.size hi=items.size)(h:Q (.ref t) s):wpAny (model prog w) A (getItem (.ref t) (.ref sl)) Q E s:=by
 obtain⟨os,LH,Rw,z6⟩:=id hs;have UP:s.TypeIs (.ref sl) "slice" := ⟨os,LH,Rw⟩;unfold getItem
 try with_reducible refine kJ ?_
 first | refine aD (aR ?_) | skip
 refine aD (wpAny_sequenceKey ht.typeIs nofun ?_);refine aD (tE (name:=Str.ofString "__getitem__") ht.typeIs tG
  (qf tG ht.typeIs entry_tuple_getitem ?_ (args_tuple_getitem _ _)))
 show wpAny _ _ (Builtin.Tuple.tupleItemsOf (.ref t) >>= _) _ _ s;refine aD (tupleItemsOf_ ht ?_);refine aD (jq UP ?_);rw [ar nofun];refine aD (i4 hs pl pu ?_);have T_:(((fI items.size 0 lo:Nat):Int) == 0 && (1:Int) == 1 && (fI items.size items.size hi - fI items.size 0 lo) == items.size)=true:=by
  rw [hw.1,hw.2];simp
 show wpAny _ _ (if (((fI items.size 0 lo:Nat):Int) == 0 && (1:Int) == 1 && (fI items.size items.size hi - fI items.size 0 lo) == items.size)=true then _ else _) _ _ s;rw [ar T_];refine aD ?_;unfold Builtin.Tuple.tupleIsExact;refine aD (jq ht.typeIs (aR ?_));rw [ar nofun];refine aD (wpAny_rule ?_);exact aR ⟨_,rfl,aR h⟩
end
end HT
namespace L2
open PySem PySem.Spec PyProof.Rows
def EE (K:ba):V->Option Int->Option Int->Hp->VK->Prop:=λx lo hi H Q=>V5 x (aS K H) λxs=>∀p H',aC H H'->aS K H' p (ip xs lo hi)->Q (.ref p) H'
def ie {X:Cx}:IU X (EE X.K):=by
 intro ag s σ H x v vl vu lo hi sl Q I rx hs pl pu h;obtain⟨a,xs,rfl,hx,q⟩:=h;by_cases hw:HT.fI xs.length 0 lo=0/\HT.fI xs.length xs.length hi=xs.length
 .have ec:ip xs lo hi=xs:=by
   unfold ip;rw [hw.1,hw.2,qp,Nat.sub_zero,cH]
  cases rx;obtain⟨aT,r,ht,hz⟩:=I.tuple hx;have bM:aT.toArray.size=xs.length:=by rw [cP];exact r.length.symm
  refine⟨"tuple",_,tG.lookup,ht.typeIs,?_⟩;exact HT.nh ht hs pl pu (by rw [bM];exact hw) ⟨.ref a,H,I,rfl,q a H (λ_ _ h=>h) (by rw [ec];exact hx)⟩
 exact Ks ag s σ H _ v vl vu lo hi sl Q I rx hs pl pu ⟨a,xs,rfl,hx,hw,λp hp=>q p _ (af hp _) (aS.of ae)⟩
def Oq (K:ba):R2:=λx y H Q=>V_ (aS K H) x y λxs ys=>∀p H',aC H H'->aS K H' p (xs++ys)->Q (.ref p) H'
def vP {X:Cx}:jM X (binaryOp .Add) (Oq X.K):=by
 intro ag s σ H x y v u Q I rx ry h;obtain⟨a,b,xs,ys,rfl,rfl,ha,hb,hz,q⟩:=h;by_cases hx:xs=[]
 .cases rx;cases ry;obtain⟨aT,r1,p1,_⟩:=I.tuple ha;obtain⟨eU,r2,p2,_⟩:=I.tuple hb;have e1:aT=[]:=r1.pX.mpr hx;obtain⟨⟨cls,dd,data,sl⟩,ho,hc,n,hd⟩:=id p1;obtain⟨⟨VG,Nz,data2,Q3⟩,Cw,PF,n2,hd2⟩:=id p2;simp only at hc hd PF hd2;subst hc hd PF hd2;exact concat_meets ⟨_,ho,rfl⟩ ⟨_,Cw,rfl⟩ noFill_tuple_add seq_tuple_add yD yE (yI _ _)
   (tuple_addW0 a b aT.toArray eU.toArray n n2 dd Nz sl Q3 (by simp [e1])) ⟨ho,Cw,.ref b,H,I,rfl,q b H (λ_ _ h=>h) (by rw [hx];exact hb)⟩
 refine HM ag s σ H _ _ v u Q I rx ry ⟨a,b,xs,ys,rfl,rfl,ha,hb,hx,hz,λe=>q a H (λ_ _ h=>h) (by rw [e,gG];exact ha),λ_ p hp=>q p _ (af hp _) (aS.of ae)⟩
theorem lt_trans:∀a b c:List Nat,ltCps b a=false->ltCps c b=false->ltCps c a=false
 | [],b,[],_,_=>ltCps.eq_1
 | [],b,_::_,_,_=>ltCps.eq_3 _ _
 | x::r,[],c,h,_=>by rw [ltCps.eq_2] at h;cases h
 | x::r,y::t,[],_,k=>by rw [ltCps.eq_2] at k;cases k
 | x::r,y::t,z::u,h,k=>by
  rw [ltCps.eq_4,Bool.or_eq_false_iff,decide_eq_false_iff_not] at h k ⊢;refine⟨∅,?_⟩;by_cases e:z=x
  .have e1:y=x:=by omega
   subst e;subst e1;have h2:=h.2;have k2:=k.2;rw [n8,mf] at h2 k2 ⊢;exact lt_trans r t u h2 k2
  rw [jR.mpr e,nV]
def vK (x:Str):Nat->Str
 | 0=>Str.empty
 | 1=>x
 | _=>x++x
def HL {X:Cx}:jM X (binaryOp .Mult) (λa b H Q=>∃x n,a=.str x/\b=.int ((n:Nat):Int)/\n<=2/\x.length=1/\Q (.str (vK x n)) H):=by
 intro ag s σ H a b v u Q I ra rb h;obtain⟨x,n,rfl,rfl,hn,hx,q⟩:=h;obtain⟨t,rfl⟩:=ra;obtain⟨t2,rfl⟩:=rb
 match n,hn,q with
 | 0,_,q=>exact PySem.P.mul_str_none nofun nofun ⟨.str Str.empty,H,I.tok _,⟨_,rfl⟩,q⟩
 | 1,_,q =>
  refine PySem.P.mul_str nofun (λ_ h=>by simp at h) (λ_ h=>by simp at h) ?_;rw [au nofun,ar (by rfl)];exact⟨.str x,H,I,⟨_,rfl⟩,q⟩
 | 2,_,q =>
  refine PySem.P.mul_str nofun (λ_ _=>by rw [hx];decide) (λ_ _=>by rw [hx];decide) ?_;rw [au nofun,au (by rw [hx];decide)];have le:(Str.mk (#[]++x.cps++x.cps)).length<=sizeLine:=by
   show (#[]++x.cps++x.cps).size<=sizeLine;rw [Array.empty_append,Array.size_append];have:x.cps.size=1:=hx;rw [this];decide
  refine⟨le,⟨.str (x++x),H,I.tok _,⟨s.toks,?_⟩,q⟩⟩;show Value.str ⟨#[]++x.cps++x.cps⟩ _=Value.str ⟨x.cps++x.cps⟩ _;rw [Array.empty_append]
section
variable {prog:Program}{w:World}{A:Around}{E:Value->Shared->Prop}{s:Shared}
end
open PySem PySem.W PyProof.Rows
section
variable {n:Nat}{lt:Nat->Nat->Bool}{cmp:Nat->Nat->(Bool->Shared->Prop)->Shared->Prop}{s:Shared}
structure oV (n:Nat)(lt:Nat->Nat->Bool):Prop where
 trans:∀a b c,a < n->b < n->c < n->lt b a=false->lt c b=false->lt c a=false
 IP:∀a b,a < n->b < n->lt a b=true->lt b a=false
def nI (n:Nat)(lt:Nat->Nat->Bool)(cmp:Nat->Nat->(Bool->Shared->Prop)->Shared->Prop)(s:Shared):Prop:=∀i j C,i < n->j < n->C (lt i j) s->cmp i j C s
structure pz (n:Nat)(p:Array Nat):Prop where
 pm:p.Perm (List.range n).toArray
theorem pz.size {p:Array Nat}(h:pz n p):p.size=n:=by
 have:=h.pm.size_eq;simpa using this
def pz.fK {p:Array Nat}(h:pz n p){i:Nat}(hi:i < n):p.getD i 0 < n:=by
 have hs:=h.size;have e:p.getD i 0=p[i]'∅:=by simp [Array.getD,hs,hi]
 rw [e];have:p[i]'∅∈(List.range n).toArray:=h.pm.mem_iff.mp (Array.getElem_mem _);simpa using this
abbrev at_ (p:Array Nat) (i:Nat):Nat:=p.getD i 0
def pO (lt:Nat->Nat->Bool)(p:Array Nat) (k:Nat):Prop:=∀i j,i<=j->j < k->lt (at_ p j) (at_ p i)=false
def wC (lt:Nat->Nat->Bool)(p:Array Nat) (k:Nat):Prop:=∀i j,i<=j->j < k->lt (at_ p i) (at_ p j)=false
def oV.zW (o:oV n lt){a:Nat}(h:a < n):lt a a=false:=by
 cases e:lt a a with
 | false=>rfl
 | true=>rw [<-o.IP a a h h e,e]
def gL {α:Type}{a:α}{Q:α->Shared->Prop}(h:Q a s):KasT.kasWp cmp (.ret a) Q s:=h
def j8 {α:Type}{i j:Nat}{k:Bool->KasT α}{Q:α->Shared->Prop}(A:nI n lt cmp s)(hi:i < n)(hj:j < n)(h:KasT.kasWp cmp (k (lt i j)) Q s):KasT.kasWp cmp (.ask i j k) Q s:=A i j _ hi hj h
def jc {α β:Type}{t:KasT α}{f:α->KasT β}{Q:β->Shared->Prop}:∀{s:Shared},KasT.kasWp cmp t (λa s'=>KasT.kasWp cmp (f a) Q s') s->KasT.kasWp cmp (t.bind f) Q s:=by
 have key:∀t:KasT α,KasT.kasWp cmp (t.bind f) Q=KasT.kasWp cmp t (λa s'=>KasT.kasWp cmp (f a) Q s'):=by
  intro t
  induction t with
  | ret a=>rfl
  | ask i j k ih =>
   funext s
   show cmp i j (λc s'=>KasT.kasWp cmp ((k c).bind f) Q s') s=cmp i j (λc s'=>KasT.kasWp cmp (k c) _ s') s
   congr 1
   funext c s'
   rw [ih c]
 intro s h;rw [key];exact h
def r9 (p:Array Nat) (i:Nat):at_ p i=(p[i]?).getD 0:=Array.getD_eq_getD_getElem?
def gC {p:Array Nat}{i j k:Nat}(hj:j<=p.size):at_ (kas_rev p i j) k=if i<=k/\k < j then at_ p (i+j - 1 - k) else at_ p k:=by
 have h:=getElem?_mirror_all (xs:=p) (i:=i) hj k;have e:at_ (kas_rev p i j) k=((mirror p i j ((j - i) / 2))[k]?).getD 0:=r9 _ _;rw [e,h,r9,r9]
 split <;> rfl
def uI {p:Array Nat}{src d k:Nat}(hs:src < p.size)(hd:d<=src):at_ (bubble p src d) k=if k=src - d then at_ p src else if src - d < k/\k<=src then at_ p (k - 1) else at_ p k:=by
 have h:=getElem?_bubble (xs:=p) hs d hd k;rw [r9,h,r9,r9,r9];by_cases c:k=src - d
 .rw [ar c,ar c]
 rw [au c,au c];by_cases c2:src - d < k/\k<=src
 .rw [ar c2,ar c2]
 rw [au c2,au c2]
def pz.rev {p:Array Nat}(h:pz n p) (i j:Nat):pz n (kas_rev p i j):=⟨(mirror_perm p i j _).trans h.pm⟩
def pz.bub {p:Array Nat}(h:pz n p) (i j:Nat):pz n (bubble p i j):=⟨(bubble_perm p i j).trans h.pm⟩
def pO.more {p:Array Nat}{m:Nat}(o:oV n lt)(P:pz n p)(h:pO lt p m)(hm:1<=m)(hn:m < n)(c:lt (at_ p m) (at_ p (m - 1))=false):pO lt p (m+1):=by
 intro i j xM hj;by_cases e:j=m
 .subst e;by_cases e2:i=j
  .subst e2;exact o.zW (P.fK hn)
  exact o.trans _ (at_ p (j - 1)) _ (P.fK ∅) (P.fK ∅) (P.fK hn) (h i (j - 1) ∅ ∅) c
 exact h i j xM ∅
def wC.more {p:Array Nat}{m:Nat}(o:oV n lt)(P:pz n p)(h:wC lt p m)(hm:1<=m)(hn:m < n)(c:lt (at_ p (m - 1)) (at_ p m)=false):wC lt p (m+1):=by
 intro i j xM hj;by_cases e:j=m
 .subst e;by_cases e2:i=j
  .subst e2;exact o.zW (P.fK hn)
  exact o.trans _ (at_ p (j - 1)) _ (P.fK hn) (P.fK ∅) (P.fK ∅) c (h i (j - 1) ∅ ∅)
 exact h i j xM ∅
theorem Am (o:oV n lt)(A:nI n lt cmp s){p:Array Nat}(P:pz n p){Q:Nat->Shared->Prop}:∀(f m:Nat),1<=m->m+f<=n->pO lt p m->(∀m',m<=m'->m'<=m+f->pO lt p m'->(m'=m+f\/lt (at_ p m') (at_ p (m' - 1))=true)->Q m' s)->KasT.kasWp cmp (kas_asc p f m) Q s
 | 0,m,h1,h2,hs,q=>gL (q m (aE _) (aE _) hs (.inl rfl))
 | f+1,m,h1,h2,hs,q=>by
  rw [kas_asc.eq_2];refine j8 A (P.fK ∅) (P.fK ∅) ?_;cases c:lt (at_ p m) (at_ p (m - 1)) with
  | true =>
   show KasT.kasWp cmp (if true=true then _ else _) Q s;rw [ar rfl];exact gL (q m (aE _) ∅ hs (.inr c))
  | false =>
   show KasT.kasWp cmp (if false=true then _ else _) Q s;rw [au cU];exact Am o A P f (m+1) ∅ ∅ (hs.more o P h1 ∅ c) λm' a b d e=>q m' ∅ ∅ d (by rcases e with e | e;exact .inl ∅;exact .inr e)
def RV (lt:Nat->Nat->Bool)(p:Array Nat) (m q:Nat):Prop:=∀k,m - (q+1)<=k->k < m->lt (at_ p k) (at_ p (m - 1))=false/\lt (at_ p (m - 1)) (at_ p k)=false
def A7 {p:Array Nat}{m q:Nat}(o:oV n lt)(P:pz n p)(hm:m<=n)(h:wC lt p m)(e:RV lt p m q):wC lt (kas_rev p (m - (q+1)) m) m:=by
 intro i j xM hj;have hs:=P.size;rw [gC ∅,gC ∅];by_cases cj:m - (q+1)<=j/\j < m
 .rw [ar cj];by_cases ci:m - (q+1)<=i/\i < m
  .rw [ar ci];have e1:=e (m - (q+1)+m - 1 - i) ∅ ∅;have e2:=e (m - (q+1)+m - 1 - j) ∅ ∅;exact o.trans _ (at_ p (m - 1)) _ (P.fK ∅) (P.fK ∅) (P.fK ∅) e2.2 e1.1
  rw [au ci];exact h i _ ∅ ∅
 rw [au cj,au ∅];exact h i j xM hj
theorem qb (o:oV n lt)(A:nI n lt cmp s){Q:Array Nat×Nat×Nat->Shared->Prop}:∀(f:Nat)(p:Array Nat) (m q:Nat),pz n p->1<=m->m+f<=n->wC lt p m->RV lt p m q->q+1<=m->(∀p' m' q',pz n p'->m<=m'->m'<=m+f->wC lt p' m'->RV lt p' m' q'->q'+1<=m'->Q (p',m',q') s)->KasT.kasWp cmp (kas_desc f p m q) Q s
 | 0,p,m,q,P,h1,h2,hn,he,hq,k=>by
  rw [kas_desc.eq_1];exact gL (k p m q P (aE _) (aE _) hn he hq)
 | f+1,p,m,q,P,h1,h2,hn,he,hq,k=>by
  rw [kas_desc.eq_2];have hs:=P.size;refine j8 A (P.fK ∅) (P.fK ∅) ?_;cases c:lt (at_ p m) (at_ p (m - 1)) with
  | true =>
   show KasT.kasWp cmp (if true=true then _ else _) Q s;rw [ar rfl];have c2:=o.IP _ _ (P.fK ∅) (P.fK ∅) c;have one:∀p',RV lt p' (m+1) 0->True:=λ_ _=>trivial;by_cases XN:q > 0
   .rw [ar XN];have P':=P.rev (m - (q+1)) m;have e1:at_ (kas_rev p (m - (q+1)) m) m=at_ p m:=by rw [gC ∅,au ∅]
    have e2:at_ (kas_rev p (m - (q+1)) m) (m - 1)=at_ p (m - (q+1)):=by
     rw [gC ∅,ar ∅]
     congr 1
     omega
    refine qb o A f _ (m+1) 0 P' ∅ ∅ ((A7 o P ∅ hn he).more o P' h1 ∅ ?_) ?_ ∅ λp' m' q' a b d g i j=>k p' m' q' a ∅ ∅ g i j
    .rw [e1,e2];exact o.trans _ (at_ p (m - 1)) _ (P.fK ∅) (P.fK ∅) (P.fK ∅) c2 (he (m - (q+1)) (aE _) ∅).1
    intro x h3 h4;have:x=m:=by omega
    subst this;exact⟨o.zW (P'.fK ∅),o.zW (P'.fK ∅)⟩
   rw [au XN];refine qb o A f p (m+1) 0 P ∅ ∅ (hn.more o P h1 ∅ c2) ?_ ∅ λp' m' q' a b d g i j=>k p' m' q' a ∅ ∅ g i j;intro x h3 h4;have:x=m:=by omega
   subst this;exact⟨o.zW (P.fK ∅),o.zW (P.fK ∅)⟩
  | false =>
   show KasT.kasWp cmp (if false=true then _ else _) Q s;rw [au cU];refine j8 A (P.fK ∅) (P.fK ∅) ?_;cases c2:lt (at_ p (m - 1)) (at_ p m) with
   | true =>
    show KasT.kasWp cmp (if true=true then _ else _) Q s;rw [ar rfl];exact gL (k p m q P (aE _) ∅ hn he hq)
   | false =>
    show KasT.kasWp cmp (if false=true then _ else _) Q s;rw [au cU];refine qb o A f p (m+1) (q+1) P ∅ ∅ (hn.more o P h1 ∅ c2) ?_ ∅ λp' m' q' a b d g i j=>k p' m' q' a ∅ ∅ g i j;intro x h3 h4;have em:m+1 - 1=m:=by omega
    rw [em];by_cases ex:x=m
    .subst ex;exact⟨o.zW (P.fK ∅),o.zW (P.fK ∅)⟩
    have e1:=he x ∅ ∅;exact⟨o.trans _ (at_ p (m - 1)) _ (P.fK ∅) (P.fK ∅) (P.fK ∅) c2 e1.1,o.trans _ (at_ p (m - 1)) _ (P.fK ∅) (P.fK ∅) (P.fK ∅) e1.2 c⟩
def wZ (o:oV n lt)(A:nI n lt cmp s){p:Array Nat}{m oE:Nat}{Q:Nat×Array Nat->Shared->Prop}(P:pz n p)(h1:1<=m)(h2:m<=oE)(h3:oE<=n)(hn:wC lt p m)(q:∀m' p',pz n p'->1<=m'->m'<=oE->pO lt p' m'->Q (m',p') s):KasT.kasWp cmp (kas_tail3 m oE p) Q s:=by
 have hs:=P.size;have P':=P.rev 0 m;unfold kas_tail3;refine jc (Am o A P' (oE - m) m h1 ∅ ?_ λm' a b c d=>gL (q m' _ P' ∅ ∅ c));intro i j xM hj;rw [gC ∅,gC ∅,ar ∅,ar ∅];exact hn _ _ ∅ ∅
def pb (o:oV n lt)(A:nI n lt cmp s){p:Array Nat}{m oE:Nat}{Q:Nat×Array Nat->Shared->Prop}(P:pz n p)(h2:m+1<=oE)(h3:oE<=n)(hn:wC lt p (m+1))(q:∀m' p',pz n p'->1<=m'->m'<=oE->pO lt p' m'->Q (m',p') s):KasT.kasWp cmp (kas_descPart m oE p) Q s:=by
 unfold kas_descPart;refine jc (qb o A (oE - (m+1)) p (m+1) 0 P ∅ ∅ hn ?_ ∅ λp' m' q' P' a b Bk Dl Nc=>?_)
 .intro x h4 h5;have:x=m:=by omega
  subst this;exact⟨o.zW (P.fK ∅),o.zW (P.fK ∅)⟩
 show KasT.kasWp cmp (if q' > 0 then kas_tail3 m' oE (kas_rev p' (m' - (q'+1)) m') else kas_tail3 m' oE p') Q s
 split
 .exact wZ o A (P'.rev _ _) ∅ ∅ h3 (A7 o P' ∅ Bk Dl) q
 exact wZ o A P' ∅ ∅ h3 Bk q
def F_ (o:oV n lt)(A:nI n lt cmp s){p:Array Nat}{Q:Nat×Array Nat->Shared->Prop}(P:pz n p)(h1:1<=n)(q:∀m' p',pz n p'->1<=m'->m'<=n->pO lt p' m'->Q (m',p') s):KasT.kasWp cmp (kas_count n p) Q s:=by
 have hs:=P.size;unfold kas_count;refine jc (Am o A P (n - 1) 1 (aE _) ∅ (λi j a b=>?_) λm a b hm hd=>?_)
 .have e1:i=0:=by omega
  have e2:j=0:=by omega
  subst e1;subst e2;exact o.zW (P.fK ∅)
 show KasT.kasWp cmp (if (m == n)=true then _ else _) Q s;by_cases e:m=n
 .rw [ar (by simp [e])];exact gL (q m p P a ∅ hm)
 rw [au (by simp [e])];have jI:lt (at_ p m) (at_ p (m - 1))=true:=by
  rcases hd with hd | hd
  .omega
  exact hd
 have G0:=o.IP _ _ (P.fK ∅) (P.fK ∅) jI
 split
 .rename_i h2
  refine j8 A (P.fK ∅) (P.fK ∅) ?_;cases c:lt (at_ p 0) (at_ p (m - 1)) with
  | true =>
   show KasT.kasWp cmp (if true=true then _ else _) Q s;rw [ar rfl];exact gL (q m p P a ∅ hm)
  | false =>
   show KasT.kasWp cmp (if false=true then _ else _) Q s;rw [au cU];refine pb o A (P.rev 0 m) ∅ (aE _) ?_ q;have al:∀i j,i < m->j < m->lt (at_ p i) (at_ p j)=false:=λi j hi hj=>by
    have e1:lt (at_ p i) (at_ p (m - 1))=false:=by
     have:lt (at_ p i) (at_ p (m - 1))=false:=by
      by_cases e0:i=0
      .rw [e0];exact c
      cases e2:lt (at_ p i) (at_ p (m - 1)) with
      | false=>rfl
      | true =>
       have h5:lt (at_ p i) (at_ p 0)=false:=hm 0 i ∅ hi;exact absurd (o.trans _ (at_ p 0) _ (P.fK ∅) (P.fK ∅) (P.fK ∅) c h5) (by rw [e2];decide)
     exact this
    exact o.trans _ (at_ p (m - 1)) _ (P.fK ∅) (P.fK ∅) (P.fK ∅) (hm j (m - 1) ∅ ∅) e1
   intro i j xM hj;rw [gC ∅,gC ∅];by_cases cj:j=m
   .subst cj;by_cases ci:i=j
    .subst ci;rw [au ∅];exact o.zW (P.fK ∅)
    rw [ar (show 0<=i/\i < j by omega),au (show ¬(0<=j/\j < j) by omega)];exact o.trans _ (at_ p (j - 1)) _ (P.fK ∅) (P.fK ∅) (P.fK ∅) G0 (al _ _ ∅ ∅)
   rw [ar ∅,ar ∅];exact al _ _ ∅ ∅
 rename_i h2
 have e1:m=1:=by omega
 subst e1;refine pb o A P ∅ (aE _) ?_ q;intro i j xM hj;by_cases ej:j=0
 .have:i=0:=by omega
  subst this;subst ej;exact o.zW (P.fK ∅)
 have:j=1:=by omega
 subst this;by_cases ei:i=1
 .subst ei;exact o.zW (P.fK ∅)
 have:i=0:=by omega
 subst this;exact G0
theorem qX (o:oV n lt)(A:nI n lt cmp s){p:Array Nat}{k:Nat}{Q:Nat->Shared->Prop}(P:pz n p)(hk:k < n)(hs:pO lt p k):∀(f l r:Nat),l<=r->r<=k->r - l<=f->(∀i,i < l->lt (at_ p k) (at_ p i)=false)->(∀i,r<=i->i < k->lt (at_ p k) (at_ p i)=true) ->
  (∀l',l'<=k->(∀i,i < l'->lt (at_ p k) (at_ p i)=false)->(∀i,l'<=i->i < k->lt (at_ p k) (at_ p i)=true)->Q l' s)->KasT.kasWp cmp (kas_place p k f l r) Q s
 | 0,l,r,h1,h2,h3,ha,hb,q=>by
  rw [kas_place.eq_def];have:l=r:=by omega
  subst this;exact gL (q l h2 ha hb)
 | f+1,l,r,h1,h2,h3,ha,hb,q=>by
  rw [kas_place.eq_def];show KasT.kasWp cmp (if l≥r then _ else _) Q s
  split
  .have:l=r:=by omega
   subst this;exact gL (q l h2 ha hb)
  refine j8 A (P.fK hk) (P.fK ∅) ?_;cases c:lt (at_ p k) (at_ p ((l+r) / 2)) with
  | true =>
   show KasT.kasWp cmp (if true=true then _ else _) Q s;rw [ar rfl];refine qX o A P hk hs f l ((l+r) / 2) ∅ ∅ ∅ ha (λi hi hik=>?_) q;cases e:lt (at_ p k) (at_ p i) with
   | true=>rfl
   | false=>exact absurd (o.trans _ (at_ p i) _ (P.fK ∅) (P.fK ∅) (P.fK hk) (hs _ i hi hik) e) (by rw [c];decide)
  | false =>
   show KasT.kasWp cmp (if false=true then _ else _) Q s;rw [au cU];refine qX o A P hk hs f ((l+r) / 2+1) r ∅ ∅ ∅ (λi hi=>?_) hb q;exact o.trans _ (at_ p ((l+r) / 2)) _ (P.fK ∅) (P.fK ∅) (P.fK hk) (hs i _ ∅ ∅) c
theorem Ga (o:oV n lt)(A:nI n lt cmp s){Q:Array Nat->Shared->Prop}:∀(f:Nat)(p:Array Nat) (k:Nat),pz n p->k+f=n->pO lt p k->(∀p',pz n p'->pO lt p' n->Q p' s)->KasT.kasWp cmp (kas_bin f p k) Q s
 | 0,p,k,P,h,hs,q=>by
  rw [kas_bin.eq_1];have:k=n:=by omega
  subst this;exact gL (q p P hs)
 | f+1,p,k,P,h,hs,q=>by
  rw [kas_bin.eq_2];have hz:=P.size;refine jc (qX o A P ∅ hs k 0 k ∅ (aE _) ∅ (λi hi=>by omega) (λi a b=>by omega) λl hl ha hb=>?_);refine Ga o A f _ (k+1) (P.bub _ _) ∅ ?_ q;intro i j xM hj;have el:k - (k - l)=l:=by omega
  rw [uI ∅ ∅,uI ∅ ∅,el];have hk:k < n:=by omega
  by_cases j1:j=l
  .rw [ar j1];by_cases i1:i=l
   .rw [ar i1];exact o.zW (P.fK hk)
   rw [au i1,au ∅];exact ha i ∅
  rw [au j1];by_cases j2:l < j/\j<=k
  .rw [ar j2];by_cases i1:i=l
   .rw [ar i1];exact o.IP _ _ (P.fK hk) (P.fK ∅) (hb (j - 1) ∅ ∅)
   rw [au i1];by_cases i2:l < i/\i<=k
   .rw [ar i2];exact hs _ _ ∅ ∅
   rw [au i2];exact hs _ _ ∅ ∅
  rw [au j2,au ∅,au ∅];exact hs _ _ xM ∅
def Hj (o:oV n lt)(A:nI n lt cmp s){Q:Array Nat->Shared->Prop}(h1:1<=n)(q:∀p',pz n p'->pO lt p' n->Q p' s):KasT.kasWp cmp (kas_sort n) Q s:=by
 unfold kas_sort;refine jc (F_ o A ⟨Array.Perm.refl _⟩ h1 λm p P a b hs=>?_);show KasT.kasWp cmp (if m < n then _ else _) Q s
 split
 .have e:max m 1=m:=by omega
  rw [e];exact Ga o A (n - m) p m P ∅ hs q
 have:m=n:=by omega
 subst this;exact gL (q p P hs)
end
def Inv.Jv {X:Cx}{ag:List (Addr×Obj)}{σ:St}{H:Hp}{s:Shared}{h':Heap}{a:Addr}{o:HO}{t':Nat}(I:Inv X ag σ H s)(k:∀b u,b≠X.env.locals->s.heap.get? b=some u->h'.get? b=some u)
  (ns:∀m,s.heap.Ns X.env.locals m->h'.Ns X.env.locals m)(hp:s.heap.get? a=none)(hn:H a=none)(new:cJ X.prog X.w (upd H a o) h' a o):Inv X ag σ (upd H a o) { s with heap:=h',toks:=t' }:=by
 have ne:∀b u,s.heap.get? b=some u->b≠a:=λb u q z=>by rw [z,hp] at q;cases q
 refine I.step (g':=s.gens) (d':=s.drawn) (ch:=[]) (λ_ z=>nomatch z) (λb u hb _ _ e _=>k b u hb e) (λb u hb _ _ e _=>⟨u.slots,k b u hb e⟩) (λb u _ e n=>by rw [ak (ne b u e)];exact n)
  (λb u _ e=>?_) (λb xs q=>by rw [ak (ay q hn)];exact q) (λb u xs q=>by rw [ak (ay q hn)];exact q) (λb ps q=>⟨#[],by rw [ak (ay q hn),q];simp⟩) ns (λb u e=>?_) I.bare
 .by_cases hb:b=X.env.locals
  .obtain⟨m,hm,_⟩:=I.loc;obtain⟨o',_,_,Fy,_⟩:=ns m hm;exact⟨o',by rw [hb];exact Fy⟩
  exact⟨u,k b u hb e⟩
 by_cases hb:b=a
 .subst hb;rw [ae] at e;cases e;exact new
 rw [ak hb] at e;refine(I.b8 b u e).jY (λc v hc q=>k c v ?_ q) (λc q=>by rw [ak (ay q hn)];exact q) λc xs q=>by rw [ak (ay q hn)];exact q
 rintro rfl;rcases hc with rfl | hc
 .rw [I.free] at e;cases e
 rw [I.free] at hc;cases hc
def zN (x y:Str):Bool:=decide (x.cps.toList < y.cps.toList)
def Bg {a b c:Str}(h:zN a c=true):zN a b=true\/zN b c=true:=strKind.negTrans a.cps.toList b.cps.toList c.cps.toList h
def xH {a b:Str}(h:zN a b=true):zN b a=false:=by
 cases e:zN b a with
 | false=>rfl
 | true =>
  have h1:=strKind.trans a.cps.toList b.cps.toList a.cps.toList h e;have h2:=strKind.irrefl a.cps.toList;rw [h2] at h1;cases h1
def oG {a b:Str}(h:zN a b=false)(k:zN b a=false):a=b:=by
 have:=strKind.total a.cps.toList b.cps.toList h k;cases a with
 | mk x=>cases b with
  | mk y=>rw [show x=y from Array.toList_inj.mp this]
def Ic (a:Str):zN a a=false:=strKind.irrefl a.cps.toList
abbrev Pr:=Str×Str
def mQ (a b:Pr):Bool:=if a.1=b.1 then zN a.2 b.2 else zN a.1 b.1
def zr {a b c:Pr}(h1:mQ b a=false)(h2:mQ c b=false):mQ c a=false:=by
 unfold mQ at *;by_cases e1:c.1=a.1
 .rw [ar e1];by_cases e2:b.1=a.1
  .rw [ar e2] at h1;rw [ar (e1.trans e2.symm)] at h2;cases e:zN c.2 a.2 with
   | false=>rfl
   | true=>rcases Bg (b:=b.2) e with z | z <;> simp_all
  rw [au e2] at h1;rw [au (λz=>e2 (z.symm.trans e1)),e1] at h2;exact absurd (oG h1 h2) e2
 rw [au e1];cases e:zN c.1 a.1 with
 | false=>rfl
 | true =>
  by_cases e2:b.1=a.1
  .rw [au (λz=>e1 (z.trans e2)),e2,e] at h2;cases h2
  rw [au e2] at h1;by_cases e3:c.1=b.1
  .rw [e3,h1] at e;cases e
  rw [au e3] at h2;rcases Bg (b:=b.1) e with z | z <;> simp_all
def B2 {a b:Pr}(h:mQ a b=true):mQ b a=false:=by
 unfold mQ at *;by_cases e:a.1=b.1
 .rw [ar e] at h;rw [ar e.symm];exact xH h
 rw [au e] at h;rw [au (λz=>e z.symm)];exact xH h
def zt {a b:Pr}(h:mQ a b=false)(k:mQ b a=false):a=b:=by
 unfold mQ at *;by_cases e:a.1=b.1
 .rw [ar e] at h;rw [ar e.symm] at k;exact iD e (oG h k)
 rw [au e] at h;rw [au (λz=>e z.symm)] at k;exact absurd (oG h k) e
def C6 (l:List Pr):Prop:=l.Pairwise λx y=>mQ y x=false
theorem jZ:∀{l m:List Pr},C6 l->C6 m->l.Perm m->l=m
 | [],m,_,_,p=>by rw [List.nil_perm.mp p]
 | x::r,[],_,_,p=>absurd p.length_eq (by simp)
 | x::r,y::t,h,k,p=>by
  have e:x=y:=by
   have h1:=uT.mp h;have k1:=uT.mp k;rcases bR.mp (p.mem_iff.mp (bK (a:=x) (l:=r))) with e | e
   .exact e
   rcases bR.mp (p.mem_iff.mpr (bK (a:=y) (l:=t))) with e2 | e2
   .exact e2.symm
   exact zt (k1.1 x e) (h1.1 y e2)
  subst e;rw [jZ (uT.mp h).2 (uT.mp k).2 (List.perm_cons x |>.mp p)]
def Gd {prog:Program}{w:World}{A:Around}{s:Shared}{x y:Addr}{ox oy:Obj}{a b c d:Str}{ta tb tc td:Tok}{n k:Nat}{Q:Bool->Shared->Prop}(hx:s.heap.get? x=some ox)(dx:ox.data=.seq #[.str a ta,.str b tb] n)(hy:s.heap.get? y=some oy)(dy:oy.data=.seq #[.str c tc,.str d td] k)
  (q:Q (mQ (a,b) (c,d)) s):wpAny (model prog w) A (keyLt' (tuples' true) (.ref x) (.ref y)) Q (λ_ _=>False) s:=by
 refine PySem.W.kat_lt hx dx hy dy ?_;show PySem.W.KatLex prog w A true _ Q [(.str a ta,.str c tc),(.str b tb,.str d td)] 0 s;refine PySem.W.kat_cons (SeqAt.EqAt.str_str a ta c tc prog w _ _ ?_);unfold mQ at q;by_cases e:a=c
 .rw [ar e] at q;rw [show (a == c)=true from by simp [e]];refine PySem.W.kat_yes (PySem.W.kat_cons (SeqAt.EqAt.str_str b tb d td prog w _ _ ?_));by_cases e2:b=d
  .rw [show (b == d)=true from by simp [e2]];refine PySem.W.kat_yes (PySem.W.kat_nil ?_);have:zN b d=false:=by rw [e2];exact Ic d
   rw [show zN (a,b).2 (c,d).2=false from this] at q;exact q
  rw [show (b == d)=false from by simp [e2]];refine PySem.W.kat_no (PySem.W.kat_one _ _ (lt_str ?_));exact q
 rw [au e] at q;rw [show (a == c)=false from by simp [e]];exact PySem.W.kat_no (oneLt_str q)
def xw {P:Program}{w:World}{H:Hp}{h:Heap}{a:Addr}{o:HO}(x:cJ P w H h a o):∃u,h.get? a=some u:=by
 cases o with
 | lst xs=>obtain⟨_,_,_,_,e⟩:=x;exact⟨_,e⟩
 | tup xs=>obtain⟨_,_,_,ob,e,_⟩:=x;exact⟨_,e⟩
 | dK kvs=>obtain⟨_,_,_,_,o,_,_,e,_⟩:=x;exact⟨_,e⟩
 | dT kvs=>obtain⟨_,_,_,_,o,_,_,e,_⟩:=x;exact⟨_,e⟩
 | set S n=>obtain⟨o,_,_,_,e,_⟩:=x;exact⟨_,e⟩
 | ins C dx fs=>obtain⟨_,_,_,e,_⟩:=x;exact⟨_,e⟩
 | own y=>obtain⟨_,e⟩:=x;exact⟨_,e⟩
 | xd fs=>obtain⟨_,⟨_,_,_,e,_⟩,_⟩:=x;exact⟨_,e⟩
 | EC lo hi=>obtain⟨_,_,_,e⟩:=x;exact⟨_,e⟩
 | jN ob u=>obtain⟨e,_⟩:=x;exact⟨_,e⟩
 | sL ps=>exact⟨_,(show h.get? a=some _ from x)⟩
 | met f y=>exact⟨_,(show h.get? a=some _ from x)⟩
 | ext φ=>obtain⟨_,⟨_,e⟩,_⟩:=x;exact⟨_,e⟩
def tU (X:Cx)(H:Hp)(ts:List Addr)(aZ:List Pr):Prop:=Paired (λt (pr:Pr)=>aS X.K H t [.str pr.1,.str pr.2]) ts aZ
theorem AF {X:Cx}{ag:List (Addr×Obj)}{σ:St}{H:Hp}{s:Shared}(I:Inv X ag σ H s){h':Heap}(k:∀b u,b≠X.env.locals->s.heap.get? b=some u->h'.get? b=some u):∀{ts:List Addr}{aZ:List Pr},tU X H ts aZ ->
  (∃fs,PySem.W.KatTups h' (ts.map Value.ref) fs/\fs.length=ts.length/\∀v∈fs,∃x t,v=Value.str x t)/\∀(i:Nat)(pr:Pr),aZ[i]?=some pr->∃t o ta tb n,ts[i]?=some t/\h'.get? t=some o/\o.data=.seq #[.str pr.1 ta,.str pr.2 tb] n
 | _,_,.nil=>⟨⟨[],trivial,rfl,λv h=>by cases h⟩,λi pr h=>by simp at h⟩
 | t::ts,pr::aZ,.cons h r=>by
  obtain⟨⟨fs,h1,h2,h3⟩,h4⟩:=AF I k r;obtain⟨aT,rv,⟨ob,g,c,n,d⟩,hz⟩:=I.tuple h;obtain⟨u1,u2,e,r1,r2⟩:=vals2 rv;obtain⟨ta,rfl⟩:=r1;obtain⟨tb,rfl⟩:=r2;subst e;have ne:t≠X.env.locals:=λz=>by
   obtain⟨m,⟨o,es,ep,ho,sM,_⟩,_⟩:=I.loc;rw [<-z,g] at ho;cases ho;rw [d] at sM;cases sM
  have g':=k _ _ ne g;refine⟨⟨.str pr.1 ta::fs,⟨⟨t,ob,_,n,rfl,g',c,d,rfl⟩,h1⟩,by simp [h2],λv hv=>?_⟩,λi Z9 hi=>?_⟩
  .rcases bR.mp hv with z | z
   .exact⟨_,_,z⟩
   exact h3 v z
  cases i with
  | zero =>
   cases hi;exact⟨t,ob,ta,tb,n,rfl,g',d⟩
  | succ i=>exact h4 i Z9 hi
def FN (ts:List Addr) (i:Nat)(h:i < ts.length):(ts.map Value.ref).getD i Value.none=Value.ref (ts.getD i 0):=by
 simp [List.getD,h]
theorem oA:∀{ts:List Addr}{aT:List Value},a_ (ts.map V.ref) aT->aT=ts.map Value.ref
 | [],[],_=>rfl
 | t::r,u::aT,h=>by
  cases h with
  | cons a b =>
   cases (show u=Value.ref t from a);rw [oA b];rfl
theorem tK:∀(ts:List Addr),a_ (ts.map V.ref) (ts.map Value.ref)
 | []=>.nil
 | t::r=>.cons rfl (tK r)
def yf {X:Cx}:fC X (.builtin "sorted") (λxs H Q=>∃a ts aZ,xs=[.ref a]/\aK X.K H a (ts.map V.ref)/\tU X H ts aZ/\2<=ts.length/\ts.length < 64/\∀l I_ zq,H l=none->tU X H I_ zq->zq.Perm aZ->C6 zq->Q (.ref l) (upd H l (.lst (I_.map V.ref)))):=by
 intro ag s σ H xs us Q I r h;obtain⟨a,ts,aZ,rfl,hq,hr,h2,PR,q⟩:=h;obtain⟨u,rfl,rx⟩:=vals1 r;cases (show u=Value.ref a from rx);obtain⟨aT,r',pl,hz⟩:=I.list hq;have ei:=oA r';subst ei;have lp:=a0 hr;obtain⟨m,o_,_⟩:=id I.loc;have zw:=pl.isList;obtain⟨oa,ga,ca,na,da⟩:=id zw;have Tp:a≠X.env.locals:=λz=>by
  obtain⟨o,es,ep,ho,sM,_⟩:=o_;rw [<-z,ga] at ho;cases ho;rw [da] at sM;cases sM
 refine PySem.W.kat_sorted (h₀:=wH.oF s.heap) (L:=X.env.locals) (m:=m) (news:=(a,oa)::wH.ledger s.heap X.env.locals a) (wH.FP o_) (wH.o6 Tp ga) zw (by rw [ax];exact h2) (by rw [ax];exact PR) λD e1 h' F' N' lt'=>?_;have keep:∀b u,b≠X.env.locals->s.heap.get? b=some u->h'.get? b=some u:=λb u nb hb=>by
  by_cases e:b=a
  .subst e;rw [ga] at hb;cases hb;exact(N' (b,oa) (by simp)).1
  exact(N' (b,u) (bW _ (bW _ (wH.gu.mpr ⟨nb,e,hb⟩)))).1
 obtain⟨⟨fs,k1,k2,k3⟩,k4⟩:=AF I keep hr;refine PySem.W.kat_kind (T:=.type "str") k1 ∅ (λv hv=>?_) nofun ?_
 .obtain⟨x,t,rfl⟩:=k3 v hv;intro A Q E s _ h;exact aR h
 have hD:s.heap.get? D=none:=by
  cases e:s.heap.get? D with
  | none=>rfl
  | some o =>
   exfalso;have nD:D≠X.env.locals:=(N' (D,_) bK).2.1;by_cases ea:D=a
   .have:=lt' (a,oa) bK;rw [ea] at this;exact absurd this (kK _)
   exact absurd (lt' (D,o) (bW _ (wH.gu.mpr ⟨nD,ea,e⟩))) (kK _)
 have fD:H D=none:=by
  cases e:H D with
  | none=>rfl
  | some u =>
   obtain⟨ob,g⟩:=xw (I.b8 D u e);rw [hD] at g;cases g
 let B3:Pr:=(Str.empty,Str.empty)
 rw [ax];refine Hj (n:=ts.length) (lt:=λi j=>mQ (aZ.getD i B3) (aZ.getD j B3)) ⟨λa b c _ _ _ h1 h2=>zr h1 h2,λa b _ _ h=>B2 h⟩ (λi j C hi hj hC=>?_) ∅ λp P S=>?_
 .obtain⟨ti,oi,ta,tb,n,g1,g2,g3⟩:=k4 i (aZ.getD i B3) (by simp [List.getD,cR (show i < aZ.length by omega)]);obtain⟨tj,oj,tc,td,n2,g4,g5,g6⟩:=k4 j (aZ.getD j B3) (by simp [List.getD,cR (show j < aZ.length by omega)]);show wpAny _ _ (keyLt' _ ((ts.map Value.ref).getD i Value.none) ((ts.map Value.ref).getD j Value.none)) C _ _;have e1:(ts.map Value.ref).getD i Value.none=.ref ti:=by rw [List.getD,bq,g1];rfl
  have e2:(ts.map Value.ref).getD j Value.none=.ref tj:=by rw [List.getD,bq,g4];rfl
  rw [e1,e2];exact Gd g2 g3 g5 g6 hC
 have Im:=P.size;have pin:∀i∈p.toList,i < ts.length:=λi hi=>by
  have:i∈(List.range ts.length).toArray:=P.pm.mem_iff.mp (by simpa using hi);simpa using this
 refine⟨(D,seqObj "list" #[] e1)::(a,oa)::wH.ledger s.heap X.env.locals a,λo'=>(D,o')::(a,oa)::wH.ledger s.heap X.env.locals a,F',N',.head λq hq=>bX (lt' q hq),λh2 c F2 N2=>?_⟩;have Vf:(p.toList.map λi=>(ts.map Value.ref).getD i Value.none)=(p.toList.map λi=>ts.getD i 0).map Value.ref:=by
  rw [iA];refine uX λi hi=>?_;exact FN ts i (pin i hi)
 have OY:∀b u,b≠X.env.locals->s.heap.get? b=some u->h2.get? b=some u:=λb u nb hb=>by
  by_cases e:b=a
  .subst e;rw [ga] at hb;cases hb;exact(N2 (b,oa) (by simp)).1
  exact(N2 (b,u) (bW _ (bW _ (wH.gu.mpr ⟨nb,e,hb⟩)))).1
 have gD:=(N2 (D,_) bK).1;have perm:(p.toList.map λi=>aZ.getD i B3).Perm aZ:=by
  have e:aZ=(List.range ts.length).map λi=>aZ.getD i B3:=by
   refine List.ext_getElem (by simp [lp]) λi h1 h2=>?_;simp [List.getD,h1]
  have pp:p.toList.Perm (List.range ts.length):=by
   have:=P.pm.toList;simpa using this
  exact(pp.map _).trans (by rw [<-e])
 refine⟨.ref D,_,I.Jv (t':=s.toks) OY (λm' hm=>?_) hD fD (show cJ X.prog X.w _ _ _ (.lst ((p.toList.map λi=>ts.getD i 0).map V.ref)) from ⟨by rw [ax,ax,oY,Im];exact fits ∅,(p.toList.map λi=>ts.getD i 0).map Value.ref,c,tK _,by rw [<-Vf];exact gD⟩),rfl,q D _ (p.toList.map λi=>aZ.getD i B3) fD ?_ perm ?_⟩
 .have:=F2.ns;have e:m'=m:=by
   obtain⟨o,es,ep,ho,sM,_,hf⟩:=hm;obtain⟨o2,es2,IA,Cw,FE,_,LP⟩:=o_;rw [ho] at Cw;cases Cw;rw [sM] at FE;cases FE
   funext x
   rw [<-hf x,<-LP x]
  rw [e];exact this
 .have key:∀l:List Nat,(∀i∈l,i < ts.length)->tU X H (l.map λi=>ts.getD i 0) (l.map λi=>aZ.getD i B3):=by
   intro l
   induction l with
   | nil=>exact λ_=>.nil
   | cons i r ih =>
    intro hl;have hi:=hl i bK;obtain⟨t,e1,e2⟩:=Paired.at_ hr i (aZ.getD i B3) (by simp [List.getD,cR (show i < aZ.length by omega)]);refine .cons ?_ (ih λj hj=>hl j (bW _ hj));have e3:ts.getD i 0=t:=by rw [List.getD,e1];rfl
    show aS X.K H (ts.getD i 0) _;rw [e3];exact e2
  exact key _ pin
 unfold C6;rw [List.pairwise_map,List.pairwise_iff_getElem];intro i j hi hj xM;have:=S i j ∅ (by simpa [Im] using hj);have e1:at_ p i=p.toList[i]:=by simp [at_,Array.getD,show i < p.size by simpa using hi]
 have e2:at_ p j=p.toList[j]:=by simp [at_,Array.getD,show j < p.size by simpa using hj]
 rw [e1,e2] at this;exact this
open PySem PySem.Spec PyProof.Rows PySem.W
section
variable {P:Program}{w:World}{A:Around}{E:Value->Shared->Prop}{s:Shared}
def Fq {f c' c d:Addr}{q:Str}{params:Arguments}{scope:Scope}{cl:List (Str×Addr)}{pm gF:Value}{p1 p2 p3:Pos}{xs xh:Str}{vs:List (aL×Value)}{z:Str}{t:Tok}{u:Value}{oc:Obj}{Q:Value->Shared->Prop}
  (Pc:A.depth < recursionLimit)(nl:s.heap.NoLimit)(hf:s.heap.get? f=some (kla_obj "<lambda>" q params (.Subscript (.Name xs p1) (.Name xh p2) p3) scope cl pm c' gF))(hc:s.heap.CodeRec (.ref c') q)
  (hb:∀us:List Value,us.length=1->bindArgs (kla_fn "<lambda>" q params (.Subscript (.Name xs p1) (.Name xh p2) p3) scope cl pm (.ref c') gF) ⟨us,[]⟩=pure ([xh].zip us))
  (hk:scope.kind=.function)(UM:scope.isCoroutine=false)(LO:scope.isGenerator=false)(Uv:∀x∈scope.names,x.2≠.cell)(hh:scope.names.lookup xh=some .local)(hs:scope.names.lookup xs=some .free)
  (mY:cl.lookup xs=some c)(ho:s.heap.get? c=some oc)(yw:oc.data=.cell (some (.ref d)))(dd:s.heap.DictOf (bf P w) d vs)(hv:valueAt vs (Sum.inr z)=some u)
  (d1:(xs == ("__debug__":Str))=false)(d2:(xh == ("__debug__":Str))=false)(d3:(xs == ("__classdict__":Str))=false)
  (h:∀h' tk,(∀b o,s.heap.get? b=some o->h'.get? b=some o)->Q u { s with heap:=h',toks:=tk }):wpAny (model P w) A (call (.ref f) [.str z t]) Q E s:=by
 refine wpAny_call (kla_callFunE Pc hf rfl UM LO rfl hc ?_);rw [hb [.str z t] rfl];refine aR (wpAny_newFunctionEnv Uv (λx hx=>?_) (λh₁ o_ XJ=>⟨nl.fresh _ XJ,?_⟩) hk)
 .have:x=(xh,Value.str z t):=by simpa using hx
  rw [this];exact hh
 show codeAny _ _ (.expr (.Subscript (.Name xs p1) (.Name xh p2) p3) (envX q scope s.heap.objs.size f (.ref c') cl)) _ _;have k1:∀b o,s.heap.get? b=some o->h₁.get? b=some o:=λb o e=>XJ.extBut b o (bX (bJ e)) (cx _ e);refine kla_codeExpr (AO PySem.F.slot_dict_getitem.lookup (λ_ _=>rfl) ?_);refine wpAny_Name (wpAny_loadName_free hk hs mY ⟨oc,k1 _ _ ho,yw⟩ ?_ d3) d1;refine wpAny_Name (uU hk hh o_ (show ([(xh,Value.str z t)]:List (Str×Value)).reverse.lookup xh=some (.str z t) by simp [List.lookup]) ?_) d2;have Y_:h₁.DictOf (bf P w) d vs:=by
  obtain⟨o,es,ep,g,r⟩:=dd;exact⟨o,es,ep,k1 _ _ g,r⟩
 refine⟨Y_.typeIs,wpAny_getItem_of (kP (k:=Sum.inr z) ⟨t,rfl⟩) Y_.mapOf hv ?_⟩;exact h h₁ _ k1
end
section
variable {X:Cx}{params:Arguments}{body:Expr}{scope:Scope}{pos:Pos}{c T:Addr}
abbrev iQ (X:Cx)(params:Arguments)(body:Expr)(scope:Scope)(cl:List (Str×Addr))(c':Addr)(gF:Value):Obj:=kla_obj "<lambda>" (X.env.qual ++ "<lambda>") params body scope cl ((X.mg "__name__").getD .none) c' gF
def N0 (X:Cx)(params:Arguments)(body:Expr)(scope:Scope)(pos:Pos)(T:Addr):TE:=λσ H Q=>Tab T pos (X.env.qual ++ "<lambda>") H /\
 ∀f c' gF cl H',IZ X.env scope cl->gh T H H'->Tab T pos (X.env.qual ++ "<lambda>") H'->H f=none->H' f=some (oH f (iQ X params body scope cl c' gF))->H' c'=some (jJ c' (X.env.qual ++ "<lambda>"))->Q (.ref f) H'
def Hz (ro:X.env.code=.ref c)(hC:codeHdIn X.K c T=true)(hB:sH X.mg X.base)(mX:∀y,(y,NameKind.free)∈scope.names->X.env.scope.names.lookup y=some .cell)(FH:defaultsOf params X.env=([],[]):=by rfl):PE X (.Lambda params body scope pos) (N0 X params body scope pos T):=by
 intro ag s σ H Q I h;obtain⟨⟨ps,hT,ht,FI⟩,q⟩:=h;refine kla_eval FH ?_;obtain⟨cl,mY⟩:=wm (env:=X.env) (scope:=scope) λy hy=>I.ok.has y (.inl (mX y hy));have LU:s.heap.get? T=some (tabObj ps):=(show cJ X.prog X.w H s.heap T (.sL ps) from I.b8 T _ hT);have hg:=I.mod.glob.keeps I.bk;have C:=codeHd_of_K I.uf hC;obtain⟨bm,ob,b1,b2,b3,b4,b5,b6,b7⟩:=hB;have VY:=I.bk _ _ b4;have Tt:bm≠T:=λz=>by
  have:=(I.bs _ _ b4).2;rw [z,hT] at this;cases this
 have To:mainGlobals≠T:=λz=>by
  obtain⟨o,es,ep,e,d,_⟩:=hg;rw [z,LU] at e;cases e;cases d
 have PQ:s.heap.BuiltinsAt X.mg T:=⟨bm,ob,b1,b2,b3,Tt,VY,b5,b6,b7⟩;have GA:∀b v,H b=some v->b < s.heap.objs.size:=λb v e=>I.b8.lt e;rcases FI with Pj | ⟨c',hf,lV⟩
 .refine kla_makeFunction mY.eq I.ok.glob hg ro C LU ht Pj To PQ λc' gF h' tk hx G0 jI Fv O9=>?_;have hcr:∃oc,h'.get? c'=some oc:=by
   obtain⟨c2,oc,vs,t,e,yw,_⟩:=Fv;cases e;exact⟨oc,yw⟩
  have rm:h'.objs.size > s.heap.objs.size:=qy G0 jI;have keep:∀b o,b≠T->s.heap.get? b=some o->(h'.push (iQ X params body scope cl c' gF)).get? b=some o:=λb o n e=>cx _ (hx b o n e)
  let H':Hp:=upd (upd (upd H T (.sL (ps++#[rawInt pos.line,rawInt pos.col,.ref c']))) c' (jJ c' (X.env.qual ++ "<lambda>"))) h'.objs.size (oH h'.objs.size (iQ X params body scope cl c' gF))
  have zM:∀b v,H b=some v->b≠c'/\b≠h'.objs.size:=λb v e=>⟨bX (fS (GA b v e) G0),bX (jV (GA b v e) rm)⟩;have Tr:c'≠h'.objs.size:=bX jI;have OG:=zM T _ hT;have eT:H' T=some (.sL (ps++#[rawInt pos.line,rawInt pos.col,.ref c'])):=by
   show upd (upd (upd H T _) c' _) h'.objs.size _ T=_;rw [ak OG.2,ak OG.1,ae]
  have ec:H' c'=some (jJ c' (X.env.qual ++ "<lambda>")):=by
   show upd (upd (upd H T _) c' _) h'.objs.size _ c'=_;rw [ak Tr,ae]
  have ef:H' h'.objs.size=some (oH h'.objs.size (iQ X params body scope cl c' gF)):=ae;have eo:∀b,b≠T->b≠c'->b≠h'.objs.size->H' b=H b:=λb n1 n2 n3=>by
   show upd (upd (upd H T _) c' _) h'.objs.size _ b=_;rw [ak n3,ak n2,ak n1]
  have sT:gh T H H':=λb o n e=>by rw [eo b n (zM b o e).1 (zM b o e).2];exact e
  have I2:Inv X ag σ H' { s with heap:=h'.push (iQ X params body scope cl c' gF),toks:=tk }:=by
   refine I.call (g':=s.gens) (t':=tk) (d':=s.drawn) (ch:=[]) ⟨λb o e n _ _=>keep b o (λz=>by rw [z,hT] at n;cases n) e,λb o e n _ _=>⟨o.slots,keep b o (λz=>by rw [z,hT] at n;cases n) e⟩,λb o e n _=>?_,λb o e _=>?_,λb xs e=>?_,λb o u e=>?_,λb SV e=>?_⟩ (λb v e=>?_) I.bare (λb hb=>nomatch hb)
   .have lb:=bJ e;rw [eo b (λz=>by rw [z,hT] at n;cases n) (bX (fS lb G0)) (bX (jV lb rm))];exact n
   .by_cases z:b=T
    .exact⟨_,by rw [z];exact cx _ O9⟩
    exact⟨o,keep b o z e⟩
   .exact sT b _ (λz=>by rw [z,hT] at e;cases e) e
   .exact sT b _ (λz=>by rw [z,hT] at e;cases e) e
   .by_cases z:b=T
    .subst z;rw [hT] at e;cases e;exact⟨_,eT⟩
    exact⟨#[],by rw [Array.append_empty];exact sT b _ z e⟩
   by_cases z1:b=h'.objs.size
   .subst z1;rw [ef] at e;cases e;exact pZ (dH _ rfl)
   by_cases z2:b=c'
   .subst z2;rw [ec] at e;cases e;refine yc ?_;obtain⟨c2,oc,vs,t,e',yw,hd,hv⟩:=Fv;cases e';exact⟨_,oc,vs,t,rfl,cx _ yw,hd,hv⟩
   by_cases z3:b=T
   .subst z3;rw [eT] at e;cases e;exact cx _ O9
   rw [eo b z3 z2 z1] at e;refine(I.b8 b v e).jY (λd o CA e'=>?_) (λd e'=>sT d _ (λz=>by rw [z,hT] at e';cases e') e') λd ys e'=>sT d _ (λz=>by rw [z,hT] at e';cases e') e';rcases CA with rfl | CA
   .exact keep d o z3 e'
   exact keep d o (λz=>by rw [z,hT] at CA;cases CA) e'
  have fresh:H h'.objs.size=none:=I.b8.fresh (jU rm);exact⟨.ref h'.objs.size,H',I2,rfl,q _ c' gF cl H' mY sT ⟨_,eT,by rw [uV];exact jr _ ht,.inr ⟨c',by rw [uV];exact codeAmong_snoc _ ht Pj,ec⟩⟩ fresh ef ec⟩
 refine kla_makeFunctionHit mY.eq I.ok.glob hg ro C LU ht hf PQ λgF h' tk hk hsz=>?_;have keep:∀b o,s.heap.get? b=some o->(h'.push (iQ X params body scope cl c' gF)).get? b=some o:=λb o e=>cx _ (hk b o e);have fresh:H h'.objs.size=none:=I.b8.fresh hsz;refine⟨.ref h'.objs.size,_,I.laid (a:=h'.objs.size) (o:=oH h'.objs.size (iQ X params body scope cl c' gF)) (t':=tk) keep hsz (pZ (dH _ rfl)),rfl,?_⟩;refine q _ c' gF cl _ mY (λb o _ e=>by rw [ak (ay e fresh)];exact e) ⟨ps,by rw [ak (ay hT fresh)];exact hT,ht,.inr ⟨c',hf,by rw [ak (ay lV fresh)];exact lV⟩⟩ fresh ae (by rw [ak (ay lV fresh)];exact lV)
end
theorem AQ:∀{zs:List Str}{aT:List Value},a_ (zs.map V.str) aT->∀(i:Nat)(v:Value),aT[i]?=some v->∃z t,zs[i]?=some z/\v=.str z t
 | [],[],_,i,v,h=>by simp at h
 | z::r,u::aT,h,i,v,hi=>by
  cases h with
  | cons a b =>
   cases i with
   | zero =>
    cases hi;obtain⟨t,e⟩:=(show ∃t,u=Value.str z t from a);exact⟨z,t,rfl,e⟩
   | succ i=>exact AQ b i v hi
theorem tM:∀(ps:List (Str×Tok)),a_ ((ps.map (·.1)).map V.str) (ps.map λp=>Value.str p.1 p.2)
 | []=>.nil
 | p::r=>.cons ⟨p.2,rfl⟩ (tM r)
theorem tN:∀{zs:List Str}{aT:List Value},a_ (zs.map V.str) aT->∃ps:List (Str×Tok),ps.map (·.1)=zs/\aT=ps.map λp=>Value.str p.1 p.2
 | [],[],_=>⟨[],rfl,rfl⟩
 | z::r,u::aT,h=>by
  cases h with
  | cons a b =>
   obtain⟨t,e⟩:=(show ∃t,u=Value.str z t from a);obtain⟨ps,e1,e2⟩:=tN b;exact⟨(z,t)::ps,by rw [cA,e1],by rw [cA,e2,e]⟩
def zx {α β:Type}{f:α->β}{l m:List β}(h:l.Perm m):∀ps:List α,m=ps.map f->∃qs:List α,l=qs.map f/\qs.Perm ps:=by
 induction h with
 | nil =>
  intro ps e;cases ps with
  | nil=>exact⟨[],rfl,.nil⟩
  | cons p r=>cases e
 | cons x h ih =>
  intro ps e;cases ps with
  | nil=>cases e
  | cons p r =>
   rw [cA] at e;injection e with e1 e2;obtain⟨qs,a,b⟩:=ih r e2;exact⟨p::qs,by rw [cA,a,e1],b.cons p⟩
 | swap x y l =>
  intro ps e
  match ps,e with
  | [],e=>cases e
  | [_],e=>cases e
  | p::p2::r,e =>
   rw [cA,cA] at e;injection e with e1 e2;injection e2 with e3 e4;exact⟨p2::p::r,by rw [cA,cA,e1,e3,e4],.swap p p2 r⟩
 | trans h1 h2 i1 i2 =>
  intro ps e;obtain⟨qs,a,b⟩:=i2 ps e;obtain⟨rs,c,d⟩:=i1 qs a;exact⟨rs,c,d.trans b⟩
def EN {g:Str->Int}{ps:List (Str×Tok)}{out:List Value}(h:KskOut false ((ps.map (·.1)).map g) (ps.map λp=>Value.str p.1 p.2) out) :
  ∃qs:List (Str×Tok),out=qs.map (λp=>Value.str p.1 p.2)/\(qs.map (·.1)).Perm (ps.map (·.1))/\(qs.map (·.1)).Pairwise λx y=>g x<=g y:=by
 obtain⟨rs,h1,h2,h3⟩:=h;have ez:((ps.map (·.1)).map g).zip (ps.map λp=>Value.str p.1 p.2)=ps.map λp=>(g p.1,Value.str p.1 p.2):=by
  rw [iA,List.zip_map,List.zip_eq_zipWith]
  induction ps with
  | nil=>rfl
  | cons p r ih=>simp_all
 rw [ez] at h1;obtain⟨qs,q1,q2⟩:∃qs:List (Str×Tok),rs=qs.map (λp=>(g p.1,Value.str p.1 p.2))/\qs.Perm ps:=by
  exact zx h1 ps rfl
 subst q1;refine⟨qs,by rw [h2,iA];rfl,q2.map _,?_⟩;rw [List.pairwise_map] at h3 ⊢;exact h3.imp λh=>by simpa using h
section
variable {X:Cx}{i:Nat}{xs xh:Str}{params:Arguments}{scope:Scope}{p pos zO kp p1 p2 p3:Pos}{e:Expr}{ta:TA}{c T:Addr}{k:Nat}
abbrev BD (xs xh:Str)(p1 p2 p3:Pos):Expr:=.Subscript (.Name xs p1) (.Name xh p2) p3
def Kj (X:Cx) (i:Nat)(zO:Pos)(T:Addr)(ta:TA):TE:=λσ H Q=>ta σ H λvs H1=>Tab T zO (X.env.qual ++ "<lambda>") H1/\∃(a:Addr) (zs:List Str)(d:Addr)(kvs:List (aL×V))(g:Str->Int),vs=[.ref a]/\aK X.K H1 a (zs.map V.str)/\zs.length < 64/\σ[i]?=some (some (.ref d))/\Rd H1 d (.dK kvs) /\
 (∀z∈zs,bu kvs (Sum.inr z)=some (.int (g z)))/\∀(l:Addr) (Kc:List Str)(H':Hp),gh T H1 H'->Tab T zO (X.env.qual ++ "<lambda>") H'->H1 l=none->Kc.Perm zs->Kc.Pairwise (λx y=>g x<=g y)->H' l=some (.lst (Kc.map V.str))->Q (.ref l) H'
def EJ (hr:eZ (k+1) X.A)(ro:X.env.code=.ref c)(hC:codeHdIn X.K c T=true)(hB:sH X.mg X.base)(hg:Gl X "sorted")(hm:X.mg "sorted"=none)(ha:PA X [e] ta)
  (hN:X.N[i]?=some xs)(hx:X.env.scope.names.lookup xs=some .cell)(mX:∀y,(y,NameKind.free)∈scope.names->X.env.scope.names.lookup y=some .cell)
  (hb:∀(q:Str)(cl:List (Str×Addr))(pm gF:Value)(c':Addr)(us:List Value),us.length=1->bindArgs (kla_fn "<lambda>" q params (BD xs xh p1 p2 p3) scope cl pm (.ref c') gF) ⟨us,[]⟩=pure ([xh].zip us))
  (hk:scope.kind=.function)(UM:scope.isCoroutine=false)(LO:scope.isGenerator=false)(Uv:∀x∈scope.names,x.2≠.cell)(hh:scope.names.lookup xh=some .local)(hs:scope.names.lookup xs=some .free)
  (d1:(xs == ("__debug__":Str))=false:=by decide)(d2:(xh == ("__debug__":Str))=false:=by decide)(d3:(xs == ("__classdict__":Str))=false:=by decide)
  (FH:defaultsOf params X.env=([],[]):=by rfl)
  (he:backTo pos (starEach [e] X.env)=(false,eval e X.env)::backTo pos (starEach [] X.env):=by rfl)(hp:(backTo pos (starEach [e] X.env)).any (·.1)=false:=by rfl) :
  PE X (.Call (.Name "sorted" p) [e] [⟨some "key",.Lambda params (BD xs xh p1 p2 p3) scope zO,kp⟩] pos) (Kj X i zO T ta):=by
 intro ag s σ H Q I h;refine qh (jy I hg hm boot_sorted ?_);refine callWith_kw (cW (ha pos ag s σ H _ I h) λus s1 bF=>?_) he hp rfl rfl;obtain⟨vs,H1,I1,r1,Iv,a,zs,d,kvs,g,ev,hq,PR,hσ,hd,hv,q1⟩:=bF;subst ev;have low:=Hz (X:=X) (params:=params) (body:=BD xs xh p1 p2 p3) (scope:=scope) (pos:=zO) (c:=c) (T:=T) ro hC hB mX FH ag s1 σ H1
  (λfv H2=>∃f c' gF cl,fv=.ref f/\IZ X.env scope cl/\gh T H1 H2/\Tab T zO (X.env.qual ++ "<lambda>") H2/\H2 f=some (oH f (iQ X params (BD xs xh p1 p2 p3) scope cl c' gF))/\H2 c'=some (jJ c' (X.env.qual ++ "<lambda>"))) I1
  ⟨Iv,λf c' gF cl H' a1 a2 a3 a4 a5 a6=>⟨f,c',gF,cl,rfl,a1,a2,a3,a5,a6⟩⟩
 refine kws_cons (cW low λu2 s2 bF=>?_);obtain⟨fv,H2,I2,r2,f,c',gF,cl,ef,mY,st,Ry,hf,lV⟩:=bF;refine kws_nil ?_;subst ef;cases (show u2=Value.ref f from r2);obtain⟨u,rfl,rx⟩:=vals1 r1;cases (show u=Value.ref a from rx);obtain⟨pt,eT,_⟩:=id Iv;have Up:aK X.K H2 a (zs.map V.str):=by
  rcases hq with (h | ⟨o,h⟩) | h
  .exact .inl (.inl (st _ _ (λz=>by rw [z,eT] at h;cases h) h))
  .exact .inl (.inr ⟨o,st _ _ (λz=>by rw [z,eT] at h;cases h) h⟩)
  exact .inr h
 have hd2:Rd H2 d (.dK kvs):=by
  rcases hd with h | ⟨o,h⟩
  .exact .inl (st _ _ (λz=>by rw [z,eT] at h;cases h) h)
  exact .inr ⟨o,st _ _ (λz=>by rw [z,eT] at h;cases h) h⟩
 obtain⟨aT,rv,pl,hz⟩:=I2.list Up;obtain⟨pzs,ez,ei⟩:=tN rv;have zw:=pl.isList;obtain⟨oa,ga,ca,na,da⟩:=id zw;obtain⟨m,o_,lk⟩:=id I2.loc;have H_:∀b o,H2 b=some o->b≠X.env.locals:=λb o hb z=>by rw [z,I2.free] at hb;cases hb
 have OA:d≠X.env.locals:=by
  rcases hd2 with h | ⟨o,h⟩
  .exact H_ d _ h
  exact H_ d _ h
 have Tp:a≠X.env.locals:=λz=>by
  obtain⟨o,es,ep,ho,sM,_⟩:=o_;rw [<-z,ga] at ho;cases ho;rw [da] at sM;cases sM
 obtain⟨ud,rd,lkd⟩:=lk i xs (.ref d) hN hσ (.inr (.inl hx));cases (show ud=Value.ref d from rd);obtain⟨cc,ecc,oc,Ph,Pg⟩:∃cc,X.env.cells.lookup xs=some cc/\s2.heap.IsCell cc (some (.ref d)):=by
  rcases lkd with ⟨l,_⟩ | ⟨_,c2,e2,h2⟩
  .have l':X.env.scope.names.lookup xs=some .local:=l;rw [hx] at l';cases l'
  exact⟨c2,e2,h2⟩
 obtain⟨cc',YH⟩:=mY.all xs (vT hs);have e3:=mY.sub _ _ YH;rw [ecc] at e3;cases e3;have M5:cc≠X.env.locals:=λz=>by
  obtain⟨o,es,ep,ho,sM,_⟩:=o_;rw [<-z,Ph] at ho;cases ho;rw [Pg] at sM;cases sM
 obtain⟨gf,_⟩:=I2.b8 f _ hf;obtain⟨gc,_⟩:=I2.b8 c' _ lV;obtain⟨zl,o9,dvs,rel,dd⟩:=nv I2.b8 hd2;obtain⟨m0,F0⟩:=I2.fr;refine ksk_sorted (kz:=zs.map g) (f:=.ref f) (b:=false) (vs:=aT) (h₀:=wH.oF s2.heap) (L:=X.env.locals) (m:=m) (news:=(a,oa)::wH.ledger s2.heap X.env.locals a) (wH.FP o_) (wH.o6 Tp ga) zw (by rw [ax,<-rv.length,ax]) (by rw [<-rv.length,ax];exact PR)
  (ksk_s1 _ _) (λx=>ksk_l1 _ _) (λx=>ksk_t1 f x) (λj v kk hj XZ sU tk own F N=>?_) λD h' tk out cnt F' N' lt' ko=>?_
 .obtain⟨z,t,RE,rfl⟩:=AQ rv j v hj;rw [bq,RE] at XZ;cases XZ;have keep:∀b u,b≠X.env.locals->s2.heap.get? b=some u->sU.get? b=some u:=λb u nb hb=>by
   by_cases e:b=a
   .subst e;rw [ga] at hb;cases hb;exact(N (b,oa) (by simp)).1
   exact(N (b,u) (dP _ (bW _ (wH.gu.mpr ⟨nb,e,hb⟩)))).1
  have hvz:=hv z (cE RE);obtain⟨w',hw,zj⟩:=jB.some_of (v:=.int (g z)) (o:=valueAt dvs (Sum.inr z)) (by rw [<-hvz];exact rel.val (Sum.inr z));obtain⟨tw,rfl⟩:=(show ∃t,w'=Value.int (g z) t from zj);have Nz:sU.DictOf (bf X.prog X.w) d dvs:=by
   obtain⟨o,es,ep,g1,r⟩:=dd;exact⟨o,es,ep,keep _ _ OA g1,r⟩
  have gc2:sU.CodeRec (.ref c') (X.env.qual ++ "<lambda>"):=by
   obtain⟨c2,oc2,Ws,t2,e2,yw,iU,M9⟩:=gc;cases e2;exact⟨_,oc2,Ws,t2,rfl,keep _ _ (H_ c' _ lV) yw,iU,M9⟩
  have nl:sU.NoLimit:=I2.mod.nolimit.keeps λb o e=>keep b o (bX (fS (bJ e) F0.above)) (I2.bk b o e);exact Fq (s:={ s2 with heap:=sU,toks:=tk }) (A:=X.A.in1.in1) hr.depth nl (keep _ _ (H_ f _ hf) gf) gc2 (λus hl=>hb _ _ _ _ _ us hl) hk UM LO Uv hh hs YH (keep _ _ M5 Ph) Pg Nz hw d1 d2 d3
   λh3 tk3 Xr=>KskEnd.intro (F.kept Xr) (N.grown Xr) λp hp=>hp
 have keep:∀b u,b≠X.env.locals->s2.heap.get? b=some u->h'.get? b=some u:=λb u nb hb=>by
  by_cases e:b=a
  .subst e;rw [ga] at hb;cases hb;exact(N' (b,oa) (by simp)).1
  exact(N' (b,u) (bW _ (bW _ (wH.gu.mpr ⟨nb,e,hb⟩)))).1
 have hD:s2.heap.get? D=none:=by
  cases e:s2.heap.get? D with
  | none=>rfl
  | some o =>
   exfalso;have nD:D≠X.env.locals:=(N' (D,_) bK).2.1;by_cases ea:D=a
   .have:=lt' (a,oa) bK;rw [ea] at this;exact absurd this (kK _)
   exact absurd (lt' (D,o) (bW _ (wH.gu.mpr ⟨nD,ea,e⟩))) (kK _)
 have fD:H2 D=none:=by
  cases e:H2 D with
  | none=>rfl
  | some u =>
   obtain⟨ob,g⟩:=xw (I2.b8 D u e);rw [hD] at g;cases g
 have fD1:H1 D=none:=by
  cases e:H1 D with
  | none=>rfl
  | some u =>
   by_cases z:D=T
   .obtain⟨pt2,eT2,_⟩:=Ry;rw [z,eT2] at fD;cases fD
   rw [st _ _ z e] at fD;cases fD
 rw [ei,<-ez] at ko;obtain⟨qs,eo,pe,ps⟩:=EN ko;rw [ez] at pe;have gD:=(N' (D,_) bK).1;have lq:qs.length=zs.length:=by have:=pe.length_eq;rw [ax] at this;exact this
 have sl:=af fD (.lst ((qs.map (·.1)).map V.str));refine⟨.ref D,_,I2.Jv (t':=tk) keep (λm' hm=>?_) hD fD (show cJ X.prog X.w _ _ _ (.lst ((qs.map (·.1)).map V.str)) from ⟨by rw [ax,ax];exact fits ∅,qs.map (λp=>Value.str p.1 p.2),cnt,tM qs,by rw [<-eo];simpa using gD⟩),rfl,q1 D (qs.map (·.1)) _ (λb o n hb=>sl _ _ (st b o n hb)) ?_ fD1 pe ps ae⟩
 .have:=F'.ns;have e:m'=m:=by
   obtain⟨o,es,ep,ho,sM,_,hf⟩:=hm;obtain⟨o2,es2,IA,Cw,FE,_,LP⟩:=o_;rw [ho] at Cw;cases Cw;rw [sM] at FE;cases FE
   funext x
   rw [<-hf x,<-LP x]
  rw [e];exact this
 obtain⟨Q_,b1,b2,b3⟩:=Ry;refine⟨Q_,sl _ _ b1,b2,b3.imp id λbF=>?_⟩;obtain⟨c3,e3,g3⟩:=bF;exact⟨c3,e3,sl _ _ g3⟩
end
open PySem M11
def Ai {K:ba}{H:Hp}{p D d:Addr}{zs:List Str}{kvs:List (aL×V)}{g:G}{σ:St}{js:List (Nat×Str)}{Qp:Hp->Prop}(hσ:dJ ["part"] js σ=[none,aF d])(hp:aS K H p (zs.map V.str))(hz:zs.length<=1000)
  (hd:Rd H d (.dK kvs))(hv:∀z,bu kvs (Sum.inr z)=(g z).map V.int)(ha:∀z∈zs,(g z).isSome=true)(hD:H D=none)(q:∀H2,aC H H2->H2 D=some (.lst ((zs.map λz=>(g z).getD 0).map V.int))->Qp H2) :
  ∃W:Nat->Nat->List V->St->Hp->Prop,(∃m,W 0 m [] (dJ ["part"] js σ) (upd H D (.lst []))) /\
 ∀i m ys σ' H,W i m ys σ' H->((nF K p).stop i H/\Qp H)\/((nF K p).go i H/\∃m',m' < m/\∀x H',(nF K p).kX i H x H'->dB 0 x σ' H' λσ2 H2=>gP σ2 H2 λb H3 =>
  if b=true then AK (gE 1) (gE 0) σ2 H3 λy H4=>H4 D=some (.lst ys)/\ys.length < sizeLine/\W (i+1) m' (ys++[y]) σ2 (upd H4 D (.lst (ys++[y]))) else W (i+1) m' ys σ2 H3):=by
 refine gB (xs:=zs.map V.str) (λi ys σ2 H2=>ys=(((zs.take i).map λz=>(g z).getD 0).map V.int)/\(∃y0,σ2=[y0,aF d])/\aC H H2/\H2 D=some (.lst ys))
  ⟨rfl,⟨none,hσ⟩,af hD _,ae⟩ (λi ys σ2 H2 _ h=>h.2.2.1.tup hp) (λi x ys σ2 H2 ex h=>?_) (λys σ2 H2 h=>?_)
 .obtain⟨rfl,⟨y0,rfl⟩,sm,hd2⟩:=h;rw [bq] at ex;obtain⟨z,ez,rfl⟩:=cq.mp ex;have li:=(bj.mp ez).1;obtain⟨n,en⟩:=mq.mp (ha z (cE ez));have hg:cK H2 d (.str z) (some (.int n)):=by
   have:=cK.r (k:=Sum.inr z) (h_.Rd.same hd sm);rw [hv,en] at this;exact this
  refine goN (wQ ?_);refine⟨_,rfl,_,rfl,d,_,rfl,hg,hd2,br (by rw [ax,ax,dO];omega),?_,⟨_,rfl⟩,?_,ae⟩
  .rw [cQ,ez,bB,bB];show _=_++[V.int ((g z).getD 0)];rw [en];rfl
  intro b o hb;rw [ak (λz=>by rw [z,hD] at hb;cases hb)];exact sm b o hb
 obtain⟨rfl,_,sm,hd2⟩:=h;rw [ax,cH] at hd2;exact q H2 sm hd2
end L2
namespace h_
open PySem L2 M11
section
def qM (K:ba):Sp:=λvs H Q _=>∃(d r:Addr)(kvs:List (aL×V))(g:G)(ru:aw),vs=[.ref d,.ref r]/\Rd H d (.dK kvs)/\(∀z,bu kvs (Sum.inr z)=(g z).map V.int)/\BM K H r ru/\ru.2.length<=8/\(∀z∈ru.2,(g z).isSome=true)/\∀H',aC H H'->Q (.int (aH g ru)) H'
def yT:aM ["sizes","rule"] ["sizes","rule"] (az ou):=jl rfl rfl rfl rfl nofun
def xx (F:iM K "rule_size" "rule_size" ou f fd)(T:Txt mg):bZ P w K mg base gw 1 f fd ["sizes","rule"] (qM K):=by
 refine F.ok yT (λvs H Q E h=>?_) (λeY A outer s H vs Q E hr h=>?_)
 .obtain⟨d,r,kvs,g,ru,rfl,_⟩:=h;rfl
 obtain⟨d,r,kvs,g,ru,rfl,hd,hv,⟨p,v1,v2⟩,h8,al,q⟩:=h;have hu:=gM hr;refine⟨_,ao (bz (aN d5 av (aI (ku rfl) rfl T.sum u4 (ab (aV ["part"] [(0,"sizes")] rfl (eQ (bD bT (pv 1) av (λ_ _=>rfl))) (aU rfl rfl) nofun rfl nofun
   (λ_ _ _ _ _=>aq (i:=0) (show (["part","sizes"]:List Str).Nodup by decide +kernel) rfl (bo rfl)) (λ_ _ _ _ _=>bw) (λ_ _ _ _ _=>ft hu (pv 1) (pv 0) (λ_ _=>rfl))) ai)))),?_⟩
 dsimp only [F6];refine⟨_,rfl,r,_,_,_,rfl,rfl,v1,rfl,p,rfl,⟨_,v2⟩,λD hD=>Ai (g:=g) rfl v2 ∅ hd hv al hD λH2 s2 e2=>?_⟩;refine⟨D,_,rfl,aK.of e2,_,_,rfl,rfl,?_⟩;exact q H2 s2
end
end h_
namespace M11
open PySem
def sO.at_ {aa:List aw}{aX:List (Str×Nat)}(h:sO aa aX):∀(i:Nat)(x:Str) (k:Nat),aX[i]?=some (x,k)->∃cN,aa[k]?=some (x,cN)/\∀p∈cN,p∈(aX.take i).map (·.1):=by
 induction h with
 | nil=>intro i x k e;simp at e
 | @snoc aX k2 ru h e n p ih =>
  intro i x k ei;by_cases hi:i < aX.length
  .rw [mr hi] at ei;obtain⟨cN,a,b⟩:=ih i x k ei;exact⟨cN,a,λq hq=>by rw [mw (jU hi)];exact b q hq⟩
  have li:=(bj.mp ei).1;rw [bU,ic] at li;have e2:i=aX.length:=by omega
  subst e2;rw [kM (aE _),nO] at ei;cases ei;exact⟨ru.2,e,λq hq=>by rw [List.take_left'];exact p q hq;rfl⟩
end M11
namespace h_
open PySem L2 M11
section
def rS {H:Hp}{p D d:Addr}{zs:List Str}{kvs:List (aL×V)}{σ:St}{js:List (Nat×Str)}{Qp:Hp->Prop}(hσ:dJ ["part"] js σ=[none,aF d])(hp:aS K H p (zs.map V.str))(hz:zs.length<=1000)
  (hd:H d=some (.dK kvs))(ha:∀z∈zs,(Sum.inr z:aL)∈kvs.map (·.1))(hD:H D=none)(q:∀ys H2,ys.length=zs.length->aC H H2->H2 D=some (.lst ys)->Qp H2) :
  ∃W:Nat->Nat->List V->St->Hp->Prop,(∃m,W 0 m [] (dJ ["part"] js σ) (upd H D (.lst []))) /\
 ∀i m ys σ' H,W i m ys σ' H->((nF K p).stop i H/\Qp H)\/((nF K p).go i H/\∃m',m' < m/\∀x H',(nF K p).kX i H x H'->dB 0 x σ' H' λσ2 H2=>gP σ2 H2 λb H3 =>
  if b=true then AK (gE 1) (gE 0) σ2 H3 λy H4=>H4 D=some (.lst ys)/\ys.length < sizeLine/\W (i+1) m' (ys++[y]) σ2 (upd H4 D (.lst (ys++[y]))) else W (i+1) m' ys σ2 H3):=by
 refine gB (xs:=zs.map V.str) (λi ys σ2 H2=>ys.length=i/\(∃y0,σ2=[y0,aF d])/\aC H H2/\H2 D=some (.lst ys))
  ⟨rfl,⟨none,hσ⟩,af hD _,ae⟩ (λi ys σ2 H2 _ h=>h.2.2.1.tup hp) (λi x ys σ2 H2 ex h=>?_) (λys σ2 H2 h=>?_)
 .obtain⟨rfl,⟨y0,rfl⟩,sm,hd2⟩:=h;rw [bq] at ex;obtain⟨z,ez,rfl⟩:=cq.mp ex;have li:=(bj.mp ez).1;obtain⟨v,ev⟩:=mq.mp ((eV kvs (Sum.inr z)).mpr (ha z (cE ez)));have hg:cK H2 d (.str z) (some v):=by
   have:=cK.k (k:=Sum.inr z) (sm _ _ hd);rw [ev] at this;exact this
  refine goN (wQ ?_);refine⟨_,rfl,_,rfl,d,_,rfl,hg,hd2,br ∅,by rw [bU];rfl,⟨_,rfl⟩,?_,ae⟩;intro b o hb;rw [ak (λz=>by rw [z,hD] at hb;cases hb)];exact sm b o hb
 obtain⟨e,_,sm,hd2⟩:=h;rw [ax] at e;exact q ys H2 e sm hd2
def tQ (K:ba):Sp:=λvs H Q _=>∃(R D:Addr)(rs ts:List Addr)(aa:List aw)(aX:List (Str×Nat)),vs=[.ref R,.ref D]/\aK K H R (rs.map V.ref)/\bL K H rs aa/\aa.length<=1000/\(∀ru∈aa,ru.2.length<=8)/\aK K H D (ts.map V.ref)/\nH K H ts aX/\sO aa aX/\aX.length<=1000 /\
 ∀(d:Addr)(kvs:List (aL×V))(H':Hp),H d=none->aC H H'->H' d=some (.dK kvs)->kvs.map (·.1)=(aX.map (·.1)).map Sum.inr->Q (.ref d) H'
def kn:aM ["rules","empties","trees","name","number"] ["rules","empties"] (az qS):=jl rfl rfl rfl rfl nofun
def zG (F:iM K "empty_by_name" "empty_by_name" qS f fd)(T:Txt mg):bZ P w K mg base gw 1 f fd ["rules","empties"] (tQ K):=by
 refine F.ok kn (λvs H Q E h=>?_) (λeY A outer s H vs Q E hr h=>?_)
 .obtain⟨R,D,rs,ts,aa,aX,rfl,_⟩:=h;rfl
 obtain⟨R,D,rs,ts,aa,aX,rfl,hR,cV,bM,h8,hD,X6,Pp,Pu,q⟩:=h;have hu:=gM hr;refine⟨_,aj (aB (i:=2) kn.nd rfl (Or.inr rfl) fZ)
  (aj (bS cf rfl (aQ (pv 1)) (dC (n:=2) K rfl (aA (aq (i:=3) kn.nd rfl (bo rfl)) (aA (aq (i:=4) kn.nd rfl (bo rfl)) bH)))
   (ao (gY hu (pv 2) (pv 3) (bC (ab (pv 4) (ab (bc iV rfl T.tup u7 (ab (aV ["part"] [(2,"trees")] rfl (eQ (bD bT (bD cZ (pv 0) (pv 4) (λ_ _=>rfl)) av (λ_ _=>rfl))) (aU rfl rfl) nofun rfl nofun
    (λ_ _ _ _ _=>aq (i:=0) (show (["part","trees"]:List Str).Nodup by decide +kernel) rfl (bo rfl)) (λ_ _ _ _ _=>bw) (λ_ _ _ _ _=>ft hu (pv 1) (pv 0) (λ_ _=>rfl))) ai)) ai))) rfl)))
  (ao (bz (pv 2)))),?_⟩
 nofun
 refine λd yy=>?_;have s1:=af yy (.dK []);have e1:upd H d (.dK []) d=some (.dK []):=ae;generalize upd H d (.dK [])=H1 at s1 e1;refine goN ?_
 ac_rfl
 have lt:=a0 X6;have ll:=a0 cV;have nd:=Pp.nd
 let wD:sq:=λi σ H3=>∃(kvs:List (aL×V))(y3 y4:Option V),σ=[aF R,aF D,aF d,y3,y4]/\aC H H3/\H3 d=some (.dK kvs)/\kvs.map (·.1)=((aX.take i).map (·.1)).map Sum.inr
 refine⟨_,rfl,D,rfl,⟨_,s1.seq hD⟩,cv (xs:=ts.map V.ref) wD ⟨[],_,_,rfl,s1,e1,rfl⟩ ?_ ?_ ?_⟩
 .rintro i σ H3 _ ⟨kvs,y3,y4,rfl,s3,_⟩;exact s3.seq hD
 .rintro i x σ H3 ex ⟨kvs,y3,y4,rfl,s3,ed,ek⟩
  ac_nf0
  rw [bq] at ex;obtain⟨t,et,rfl⟩:=cq.mp ex;have li:=(bj.mp et).1;obtain⟨e,ee⟩:∃e,aX[i]?=some e:=⟨aX[i]'∅,cR ∅⟩;obtain⟨t',JP,vt⟩:=Paired.at_ X6 i e ee;rw [et] at JP;cases JP;obtain⟨x,k⟩:=e;obtain⟨cN,hk,Im⟩:=Pp.at_ i x k ee;obtain⟨r,er,p,v1,v2⟩:=Paired.at_ cV k _ hk;have Qs:r_ (rs.map V.ref) (k:Int)=some (.ref r):=dD (by rw [bq,er];rfl);have XO:cN.length<=8:=h8 _ (cE hk);refine⟨t,_,rfl,s3.tup vt,rfl,_,_,rfl,_,_,rfl,rfl,?_⟩;refine⟨_,rfl,_,rfl,_,rfl,R,_,_,_,rfl,rfl,s3.seq hR,Qs,r,_,_,_,rfl,rfl,s3.tup v1,rfl,p,rfl,⟨_,s3.tup v2⟩,λD2 jL=>rS (zs:=cN) rfl (s3.tup v2) ∅ ed (λz hz=>by rw [ek];exact c_.mpr (Im z hz)) jL λys H4 ly s4 e4=>?_⟩;refine⟨D2,ys,rfl,.inl ⟨aK.of e4,λt2 U3=>⟨kN,λFh Me=>?_⟩⟩⟩;have k5:=(af U3 (.tup ys)).trans (af Me (.tup [.int (k:Int),.ref t2]));generalize upd (upd H4 t2 (.tup ys)) Fh (.tup [.int (k:Int),.ref t2])=H5 at k5;have ed5:=k5 _ _ (s4 _ _ ed);have lkv:kvs.length=i:=by
   have:=congrArg List.length ek;rw [ax,ax,ax,dO] at this;omega
  have nx:x∉(aX.take i).map (·.1):=λz=>by
   obtain⟨e2,m2,q2⟩:=bV.mp z;obtain⟨j,hj⟩:=fU m2;rw [List.getElem?_take] at hj
   split at hj
   .rename_i X0
    have a1:(aX.map (·.1))[j]?=some x:=by rw [bq,hj];exact congrArg some q2
    have a2:(aX.map (·.1))[i]?=some x:=by rw [bq,ee];rfl
    have:=(List.getElem?_inj (by rw [ax];omega) nd).mp (a1.trans a2.symm);omega
   cases hj
  refine⟨_,rfl,_,rfl,d,_,rfl,.inl ⟨kvs,Sum.inr x,ed5,rfl,br ∅,rfl⟩,?_⟩;refine⟨_,_,_,rfl,λb o hb=>?_,ae,?_⟩
  .rw [ak (λz=>by rw [z,yy] at hb;cases hb)];exact k5 _ _ (s4 _ _ (s3 b o hb))
  rw [iP (by rw [ek];exact λz=>nx (c_.mp z)),ek,cQ,ee,bB,bB];rfl
 rintro σ H3 ⟨kvs,y3,y4,rfl,s3,ed,ek⟩;rw [ax,lt,cH] at ek;exact⟨_,rfl,q d kvs H3 yy s3 ed ek⟩
end
end h_
namespace M11
open PySem
def Le (g' g:G):Prop:=∀z n,g z=some n->∃m,g' z=some m/\m<=n
def xT {g:G}{ru:aw}(f:cM bl g ru=true):jK g ru=true/\∀n,g ru.1=some n->aH g ru < n:=by
 unfold cM at f;rw [mh] at f;refine⟨f.1,λn e=>?_⟩;have:=f.2;rw [e] at this;have:(!(some n:Option Int).isSome || bl (aH g ru) n)=true:=this
 simpa [bl] using this
def le_step {g:G}{ru:aw}(f:cM bl g ru=true):Le (du g ru.1 (aH g ru)) g:=λz n e=>by
 unfold du;by_cases c:z=ru.1
 .rw [ar c];subst c;exact⟨_,rfl,Int.le_of_lt ((xT f).2 n e)⟩
 rw [au c];exact⟨n,e,jC _⟩
theorem DQ {g g':G}(h:Le g' g):∀ps:List Str,(∀p∈ps,(g p).isSome=true)->(∀p∈ps,(g' p).isSome=true)/\(ps.map λp=>(g' p).getD 0).sum<=(ps.map λp=>(g p).getD 0).sum
 | [],_=>⟨λp hp=>(by cases hp),jC _⟩
 | p::r,a=>by
  obtain⟨h1,h2⟩:=DQ h r λq hq=>a q (bW _ hq);obtain⟨n,en⟩:=mq.mp (a p bK);obtain⟨m,em,lm⟩:=h p n en;refine⟨λq hq=>?_,?_⟩
  .rcases bR.mp hq with rfl | hq
   .rw [em];rfl
   exact h1 q hq
  rw [cA,cA,jO,jO,en,em];show m+_<=n+_;omega
def uJ {g:G}{ru:aw}:jK g ru=true↔∀p∈ru.2,(g p).isSome=true:=by
 unfold jK;rw [dN]
def size_le {g g':G}{ru:aw}(h:Le g' g)(a:jK g ru=true):jK g' ru=true/\aH g' ru<=aH g ru:=by
 obtain⟨h1,h2⟩:=DQ h ru.2 (uJ.mp a);exact⟨uJ.mpr h1,by unfold aH;omega⟩
def NB (aa:List aw) (hs:List Str)(g:G):Prop:=∀h n,g h=some n->h∉hs\/∃ru∈aa,ru.1=h/\jK g ru=true/\aH g ru<=n
def DE {aa:List aw}{hs:List Str}(g:G)(ru:aw)(j:NB aa hs g)(m:ru∈aa)(f:cM bl g ru=true):NB aa hs (du g ru.1 (aH g ru)):=λh n e=>by
 have le:=le_step f;by_cases c:h=ru.1
 .have e2:n=aH g ru:=by
   unfold du at e;rw [ar c] at e;exact(fQ e).symm
  obtain⟨a1,a2⟩:=size_le le (xT f).1;exact .inr ⟨ru,m,c.symm,a1,∅⟩
 have e2:g h=some n:=by
  unfold du at e;rw [au c] at e;exact e
 rcases j h n e2 with h1 | ⟨Ht,m2,q2,a2,l2⟩
 .exact .inl h1
 obtain⟨b1,b2⟩:=size_le le a2;exact .inr ⟨Ht,m2,q2,b1,∅⟩
def Cp {aa:List aw}{hs:List Str}{g0 g:G}(j0:NB aa hs g0)(st:dI bl aa g0 g)(se:ir bl aa g){h:Str}{n:Int}(hh:h∈hs)(e:g h=some n):∃ru∈aa,ru.1=h/\jK g ru=true/\aH g ru=n:=by
 have j:NB aa hs g:=dI.keep (J:=NB aa hs) (λg ru j m f=>DE g ru j m f) st j0;rcases j h n e with z | ⟨ru,m,q,a,l⟩
 .exact absurd hh z
 refine⟨ru,m,q,a,?_⟩;have f:=se ru m;unfold cM at f;rw [a,q,e] at f;have f:(true && (!(some n:Option Int).isSome || bl (aH g ru) n))=false:=f
 have f2:¬aH g ru < n:=by simpa [bl] using f
 omega
theorem Bc {g:G}(nn:NN g):∀(ps:List Str)(p:Str) (m:Int),p∈ps->g p=some m->m<=(ps.map λp=>(g p).getD 0).sum
 | q::r,p,m,hp,e=>by
  rw [cA,jO];have h1:=jt g nn r;rcases bR.mp hp with rfl | hp
  .rw [e];show m<=m+_;omega
  have h2:=Bc nn r p m hp e;have h3:0<=(g q).getD 0:=by
   cases eq:g q with
   | none=>exact jC _
   | some n=>exact nn q n eq
  omega
def B6 {g:G}(nn:NN g){ru:aw}{p:Str}{m:Int}(hp:p∈ru.2)(e:g p=some m):m < aH g ru:=by
 have:=Bc nn ru.2 p m hp e;unfold aH;omega
theorem AB:∀(a7 ps bQ:List Str),(∀z∈bQ,z∉a7)->∀z∈sJ a7 bQ ps,z∉a7
 | _,[],bQ,h=>h
 | a7,p::r,bQ,h=>by
  show ∀z∈sJ a7 (addW a7 bQ p) r,z∉a7;refine AB a7 r _ ?_;unfold addW
  split
  .exact h
  rename_i hp
  unfold gX
  split
  .exact h
  intro z hz;rcases cD.mp hz with hz | hz
  .exact h z hz
  rw [cO.mp hz];exact hp
def vj {g:Str->Int}{zs:List Str}(h:zs.Pairwise λx y=>g x<=g y){i:Nat}{x p:Str}(e:zs[i]?=some x)(hp:p∈zs)(l:g p < g x):p∈zs.take i:=by
 obtain⟨j,ej⟩:=fU hp;obtain⟨li,ei⟩:=bj.mp e;obtain⟨lj,ej2⟩:=bj.mp ej;have X0:j < i:=by
  rcases Nat.lt_trichotomy j i with h1 | h1 | h1
  .exact h1
  .subst h1;rw [e] at ej;cases ej;omega
  have:=List.pairwise_iff_getElem.mp h i j li lj h1;rw [ei,ej2] at this;omega
 rw [List.mem_iff_getElem?];exact⟨j,by rw [List.getElem?_take,ar X0];exact ej⟩
end M11
namespace h_
open PySem L2 M11
def Sf (aa:List aw):NB aa (hd aa) (v9 aa):=λh n e=>by
 unfold v9 at e;by_cases c:h∈sJ (hd aa) [] (aa.flatMap (·.2))
 .exact .inl (AB _ _ [] (λz hz=>by cases hz) h c)
 rw [au c] at e;cases e
def nn0 (aa:List aw):NN (v9 aa):=λh n e=>by
 unfold v9 at e;by_cases c:h∈sJ (hd aa) [] (aa.flatMap (·.2))
 .rw [ar c] at e;cases e;exact jC _
 rw [au c] at e;cases e
def Lc {aa:List aw}{g:G}(st:dI M11.bl aa (v9 aa) g):NN g:=dI.keep (J:=NN) (λg ru j m f=>vQ j ru) st (nn0 aa)
theorem pR (a7:List Str):∀(ps bQ:List Str)(x:Str),(x∈bQ\/(x∈ps/\x∉a7))->x∈sJ a7 bQ ps
 | [],bQ,x,h=>by
  rcases h with h | ⟨h,_⟩
  .exact h
  cases h
 | p::r,bQ,x,h=>by
  show x∈sJ a7 (addW a7 bQ p) r;apply pR a7 r;unfold addW;by_cases c:p∈a7
  .rw [ar c];rcases h with h | ⟨h,n⟩
   .exact .inl h
   rcases bR.mp h with z | z
   .exact absurd (z ▸ c) n
   exact .inr ⟨z,n⟩
  rw [au c];rcases h with h | ⟨h,n⟩
  .exact .inl ((kc _ _ _).mpr (.inl h))
  rcases bR.mp h with z | z
  .exact .inl ((kc _ _ _).mpr (.inr z))
  exact .inr ⟨z,n⟩
def Ov:List Stmt->Pos
 | [_,_,_,.For _ (.Call _ _ [⟨_,.Lambda _ _ _ pos,_⟩] _) _ _ _,_]=>pos
 | _=>⟨0,0,0,0⟩
abbrev posB:Pos:=Ov (cw mM)
abbrev GO:Str := "least_by_part" ++ ".<locals>." ++ "<lambda>"
section
def om (K:ba)(T1 T3:Addr):Sp:=λvs H Q _=>∃(R:Addr)(rs:List Addr)(aa:List aw),vs=[.ref R]/\aK K H R (rs.map V.ref)/\bL K H rs aa/\aa.length < 64/\(∀ru∈aa,ru.2.length<=8)/\(∀g,dI M11.bl aa (v9 aa) g->ir M11.bl aa g->∀h∈hd aa,∃n,g h=some n/\n<=60)/\Tab T1 q0.2.2.2 yr H/\Tab T3 posB GO H/\T1≠T3 /\
 ∀(d:Addr)(kvs:List (aL×V))(H':Hp),H d=none->kR T1 T3 H H'->Tab T1 q0.2.2.2 yr H'->Tab T3 posB GO H'->H' d=some (.dK kvs)->(∀z,z∈hd aa->(Sum.inr z:aL)∈kvs.map (·.1))->Q (.ref d) H'
structure LB (K:ba)(rs:List Addr)(aa:List aw)(p_:List (aL×V))(ps:List (Str×Addr))(R dz dn T1 T3:Addr)(H5:Hp):Prop where
 hR:aK K H5 R (rs.map V.ref)
 cV:bL K H5 rs aa
 nm:He ps (λn=>nums aa n aa.length) H5 dn
 rz:Rd H5 dz (.dK p_)
 t1:Tab T1 q0.2.2.2 yr H5
 t3:Tab T3 posB GO H5
theorem LB.same {rs:List Addr}{aa:List aw}{p_:List (aL×V)}{ps:List (Str×Addr)}{R dz dn T1 T3:Addr}{H5 H6:Hp}(h:LB K rs aa p_ ps R dz dn T1 T3 H5)(s:aC H5 H6):LB K rs aa p_ ps R dz dn T1 T3 H6 :=
 ⟨s.seq h.hR,h.cV.same s,h.nm.same s,h_.Rd.same h.rz s,h.t1.same s,h.t3.same s⟩
def LB.Jz {rs:List Addr}{aa:List aw}{p_:List (aL×V)}{ps:List (Str×Addr)}{R dz dn T1 T3 d:Addr}{H5 H6:Hp}{kv:List (aL×V)}(h:LB K rs aa p_ ps R dz dn T1 T3 H5)(e:H5 d=some (.dK kv))(n1:dn≠d)(n2:dz≠d)(s:gh d H5 H6):LB K rs aa p_ ps R dz dn T1 T3 H6:=by
 have tk:∀a xs,aS K H5 a xs->aS K H6 a xs:=λa xs z=>by
  rcases z with (z | ⟨u,z⟩) | z
  .exact .inl (.inl (s _ _ (λy=>by rw [y,e] at z;cases z) z))
  .exact .inl (.inr ⟨u,s _ _ (λy=>by rw [y,e] at z;cases z) z⟩)
  exact .inr z
 have tb:∀{T':Addr}{pos':Pos}{GK:Str},Tab T' pos' GK H5->Tab T' pos' GK H6:=λ{T' pos' GK} ⟨p,a,b,cc⟩=>⟨p,s _ _ (λy=>by rw [y,e] at a;cases a) a,b,cc.imp id λ⟨c',e1,e2⟩=>⟨c',e1,s _ _ (λy=>by rw [y,e] at e2;cases e2) e2⟩⟩;refine⟨?_,h.cV.keep tk,⟨s _ _ n1 h.nm.hd,h.nm.n1,h.nm.n2,λp hp=>s _ _ (λy=>by have a:=h.nm.lst p hp;rw [y,e] at a;cases a) (h.nm.lst p hp)⟩,?_,tb h.t1,tb h.t3⟩
 .rcases h.hR with (z | ⟨u,z⟩) | z
  .exact .inl (.inl (s _ _ (λy=>by rw [y,e] at z;cases z) z))
  .exact .inl (.inr ⟨u,s _ _ (λy=>by rw [y,e] at z;cases z) z⟩)
  exact .inr z
 rcases h.rz with z | ⟨u,z⟩
 .exact .inl (s _ _ n2 z)
 exact .inr ⟨u,s _ _ n2 z⟩
def LB.Ob {rs:List Addr}{aa:List aw}{p_:List (aL×V)}{ps:List (Str×Addr)}{R dz dn T1 T3:Addr}{H5 H6:Hp}(h:LB K rs aa p_ ps R dz dn T1 T3 H5)(nT:T1≠T3)(s:gh T3 H5 H6)(t:Tab T3 posB GO H6):LB K rs aa p_ ps R dz dn T1 T3 H6:=by
 obtain⟨pt,eT,_⟩:=id h.t3;refine⟨A4 s h.t3 h.hR,h.cV.keep λ_ _ z=>AG s h.t3 z,⟨s _ _ (λy=>by have a:=h.nm.hd;rw [y,eT] at a;cases a) h.nm.hd,h.nm.n1,h.nm.n2,λp hp=>s _ _ (λy=>by have a:=h.nm.lst p hp;rw [y,eT] at a;cases a) (h.nm.lst p hp)⟩,?_,AH s h.t3 h.t1 nT,t⟩;rcases h.rz with z | ⟨u,z⟩
 .exact .inl (s _ _ (λy=>by rw [y,eT] at z;cases z) z)
 exact .inr ⟨u,s _ _ (λy=>by rw [y,eT] at z;cases z) z⟩
theorem oK:∀(hs:List Str)(bQ:List (aL×V)) (as:List Str),bQ.map (·.1)=as.map Sum.inr->(cY (hs.map λh=>((Sum.inr h:aL),V.str h)) bQ).map (·.1)=(M11.wk as hs).map Sum.inr
 | [],bQ,as,e=>e
 | h::r,bQ,as,e=>oK r (bN bQ (Sum.inr h) (.str h)) (M11.gX as h) (h_.jb e h)
def iw:aM ["rules","numbers","trees","name","least","sizes"] ["rules"] (az mM):=jl rfl rfl rfl rfl nofun
def zF {T1 T3:Addr}(F:yl K "least_by_part" "least_by_part" mM f fd T3)(T:Txt mg)(hB:sH mg base)(hS:mg "sorted"=none)(GH:aG P w K mg base 3 "heads_of" ["rules"] (ki K))(GL:aG P w K mg base 3 "least_sizes" ["rules"] (pS K T1))(GN:aG P w K mg base 3 "numbers_by_name" ["rules"] (DV K))(GZ:aG P w K mg base 3 "rule_size" ["sizes","rule"] (qM K)):bZ P w K mg base gw 4 f fd ["rules"] (om K T1 T3):=by
 refine F.ok iw (λvs H Q E h=>?_) (λc A outer s H vs Q E hC hr h=>?_)
 .obtain⟨R,rs,aa,rfl,_⟩:=h;rfl
 obtain⟨R,rs,aa,rfl,hR,cV,bM,h8,FC,Iv,UQ,nT,q⟩:=h;have hu:=gM hr;refine⟨_,aj (aB (i:=5) iw.nd rfl (Or.inr rfl) (bA GL hr rfl (ab (pv 0) ai)))
  (aj (aB (i:=1) iw.nd rfl (Or.inr rfl) (bA GN hr rfl (ab (pv 0) ai)))
  (aj (aB (i:=2) iw.nd rfl (Or.inr rfl) (bc (d7 rfl) rfl T.Bx gb (ab (aV ["part"] [(1,"numbers")] rfl (Ba (pv 5)) (aU rfl rfl) nofun rfl nofun
    (λ_ _ _ _ _=>aq (i:=0) (show (["part","numbers"]:List Str).Nodup by decide +kernel) rfl (bo rfl)) (λ_ _ _ _ _=>gK (gr (eI hu (pv 0) (pv 1)))) (λ_ _ _ _ _=>bC (ab (pv 0) (ab (pv 0) ai)))) ai)))
  (aj (bS cf rfl (aQ (EJ (i:=5) (T:=T3) hr rfl hC hB rfl hS (ab (bA GH hr rfl (ab (pv 0) ai)) ai) rfl rfl (λy hy=>by
    rcases bR.mp hy with h | h
    .cases h
    rcases bR.mp h with h | h
    .cases h;rfl
    cases h) (λq cl pm gF c' us hl=>match us,hl with | [_],_=>rfl) rfl rfl rfl nofun rfl rfl)) (aq (i:=3) iw.nd rfl (Or.inr rfl))
   (aj (ij (iy:=4) ["number"] [(5,"sizes"),(0,"rules"),(3,"name")] iw.nd rfl rfl rfl (aQ (ft hu (pv 1) (pv 3) (λ_ _=>rfl))) (aU rfl rfl) nofun rfl nofun
    (λ_ _ _ _ _=>aq (i:=0) (show (["number","sizes","rules","name"]:List Str).Nodup by decide +kernel) rfl (bo rfl)) (λ_ _ _ _ _=>gK (a8 i_ (bA GZ hr rfl (ab (pv 1) (ab (bD (Fs K) (pv 2) (pv 0) (λ_ _=>rfl)) ai))) (ft hu (pv 1) (pv 3) (λ_ _=>rfl)) (cg _))) (λ_ _ _ _ _=>pv 0))
   (ao (gY hu (pv 2) (pv 3) (bC (ab (bD cZ (pv 4) av (λ_ _=>rfl)) (ab (bc iV rfl T.tup u7 (ab (aV ["part"] [(2,"trees")] rfl (eQ (bD bT (bD cZ (pv 0) (bD cZ (pv 4) av (λ_ _=>rfl)) (λ_ _=>rfl)) av (λ_ _=>rfl))) (aU rfl rfl) nofun rfl nofun
    (λ_ _ _ _ _=>aq (i:=0) (show (["part","trees"]:List Str).Nodup by decide +kernel) rfl (bo rfl)) (λ_ _ _ _ _=>bw) (λ_ _ _ _ _=>ft hu (pv 1) (pv 0) (λ_ _=>rfl))) ai)) ai))) rfl))))
  (ao (bz (pv 2)))))),?_⟩
 nofun
 refine⟨_,rfl,R,rs,aa,rfl,hR,cV,∅,h8,Iv,λdz p_ Jw g H1 fz s1 t1 ez kz vz Q0 WJ lz=>?_⟩;refine goN ?_
 ac_rfl
 have Yb:=A4 s1 Iv hR;have Pf:=cV.keep λ_ _ z=>AG s1 Iv z;have WB:=AH s1 Iv UQ (gq nT);refine⟨_,rfl,R,rs,aa,rfl,Yb,Pf,∅,λdn ps H2 fn s2 nm pk pf=>?_⟩;refine goN ?_
 ac_rfl
 have JO:=s2 _ _ ez;refine⟨_,rfl,dz,p_,rfl,JO,λo D hD=>?_⟩;have Tf:∀p∈ps,p.2≠dz:=λp hp z=>by
  have a:=nm.lst p hp;rw [z,JO] at a;cases a
 have ndz:dn≠dz:=λz=>by rw [z,ez] at fn;cases fn
 have nz1:T1≠dz:=λz=>by
  obtain⟨p,a,_⟩:=t1;rw [z,ez] at a;cases a
 have nz3:T3≠dz:=λz=>by
  obtain⟨p,a,_⟩:=WB;rw [z,ez] at a;cases a
 have NS:∀{T':Addr}{pos':Pos}{GK:Str},T'≠dz->Tab T' pos' GK H2->Tab T' pos' GK (upd H2 dz (.jN o (.dK p_))):=λ{T' pos' GK} n ⟨p,a,b,cc⟩=>⟨p,by rw [ak n];exact a,b,cc.imp id λ⟨c',e1,e2⟩=>⟨c',e1,by rw [ak (λz=>by rw [z,JO] at e2;cases e2)];exact e2⟩⟩;have L3:LB K rs aa p_ ps R dz dn T1 T3 (upd H2 dz (.jN o (.dK p_))):=by
  refine⟨?_,(Pf.same s2).keep λ_ _ z=>hJ JO z,⟨by rw [ak ndz];exact nm.hd,nm.n1,nm.n2,λp hp=>by rw [ak (Tf p hp)];exact nm.lst p hp⟩,.inr ⟨o,ae⟩,NS nz1 (t1.same s2),NS nz3 (WB.same s2)⟩;rcases s2.seq Yb with (h | ⟨u,h⟩) | h
  .exact .inl (.inl (by rw [ak (λz=>by rw [z,JO] at h;cases h)];exact h))
  .exact .inl (.inr ⟨u,by rw [ak (λz=>by rw [z,JO] at h;cases h)];exact h⟩)
  exact .inr h
 have e3:upd H2 dz (.jN o (.dK p_)) dz=some (.jN o (.dK p_)):=ae;have BY:kR T1 T3 H (upd H2 dz (.jN o (.dK p_))):=λb u n1 n3 hb=>by
  rw [ak (λz=>by rw [z,fz] at hb;cases hb)];exact s2 _ _ (s1 b u n1 hb)
 generalize upd H2 dz (.jN o (.dK p_))=H3 at hD L3 e3 BY ⊢;have lkz:p_.length=Jw.length:=by
  have:=congrArg List.length kz;rwa [ax,ax] at this
 refine rX (λi ys σ2 H4=>∃ts:List Addr,ys=ts.map V.ref/\(∃y0,σ2=[y0,aF dn])/\aC H3 H4/\H4 D=some (.lst ys)/\ts.length<=i/\Paired (λt h=>aS K H4 t [.str h,.str h]) ts ((Jw.take i).filter λz=>!decide (z∈hd aa)))
  ⟨[],rfl,⟨none,rfl⟩,af hD _,ae,aE _,.nil⟩ (λi ys σ2 H4 _ h=>?_) (λi kv ys σ2 H4 ex h=>?_) (λys σ2 H4 h=>?_)
 .obtain⟨_,_,_,sm,_⟩:=h;exact sm _ _ e3
 .obtain⟨ts,rfl,⟨y0,rfl⟩,sm,e4,Xk,pt⟩:=h;obtain⟨z,ezz,ekz⟩:∃z,Jw[i]?=some z/\kv.1=Sum.inr z:=by
   have a1:(p_.map (·.1))[i]?=some kv.1:=by rw [bq,ex];rfl
   rw [kz,bq] at a1;obtain⟨z,a2,a3⟩:=cq.mp a1;exact⟨z,a2,a3.symm⟩
  rw [ekz];have L4:=L3.same sm;have Ng:(bu (ps.map jo) (Sum.inr z)).isSome=decide (z∈hd aa):=by
   rw [iY,eV,decide_eq_true_iff,<-pk];rw [iA];constructor
   .intro h;obtain⟨p,hp,e⟩:=bV.mp h;exact bV.mpr ⟨p,hp,jT e⟩
   intro h;obtain⟨p,hp,e⟩:=bV.mp h;exact bV.mpr ⟨p,hp,congrArg Sum.inr e⟩
  refine goN ?_;refine⟨_,rfl,_,rfl,dn,_,rfl,cK.k (k:=Sum.inr z) L4.nm.hd,_,rfl,?_⟩;rw [Ng];have P6:((Jw.take (i+1)).filter λz=>!decide (z∈hd aa))=((Jw.take i).filter λz=>!decide (z∈hd aa))++(if (!decide (z∈hd aa))=true then [z] else []):=by
   rw [cQ,ezz,qi]
   congr 1
   by_cases c:z∈hd aa <;> simp [c]
  refine cu (λcc=>?_) (λcc=>?_)
  .refine⟨_,rfl,_,rfl,kN,λt ht=>?_⟩;have k5:=af ht (.tup [kV (Sum.inr z),kV (Sum.inr z)]);have v5:aS K (upd H4 t (.tup [kV (Sum.inr z),kV (Sum.inr z)])) t [.str z,.str z]:=aS.of ae;generalize upd H4 t (.tup [kV (Sum.inr z),kV (Sum.inr z)])=H5 at k5 v5;have li:=(bj.mp ex).1;have e5:=k5 _ _ e4;refine⟨e5,br (by rw [ax];omega),ts++[t],by rw [bB];rfl,⟨_,rfl⟩,λb u hb=>?_,ae,by rw [bU,ic];omega,?_⟩
   .rw [ak (λz=>by rw [z,hD] at hb;cases hb)];exact k5 _ _ (sm b u hb)
   rw [P6,ar cc];exact fO (Paired.di pt λ_ _ z=>aP e5 (k5.tup z)) (aP e5 v5)
  refine⟨ts,rfl,⟨_,rfl⟩,sm,e4,∅,?_⟩;rw [P6,au cc,gG];exact pt
 obtain⟨ts,rfl,_,s4,e4,Xk,pt⟩:=h;rw [lkz,cH] at pt;have XC:∀z,z∉hd aa->(g z).isSome=true->z∈Jw.filter λz=>!decide (z∈hd aa):=λz hz gz=>by
  refine gO.mpr ⟨?_,by simpa using hz⟩;have a1:(bu p_ (Sum.inr z)).isSome=true:=by rw [vz,qg];exact gz
  rw [eV,kz] at a1;exact c_.mp a1
 have lws:(Jw.filter λz=>!decide (z∈hd aa)).length<=20000:=ff (mn _ _) ∅;generalize Jw.filter (λz=>!decide (z∈hd aa))=ws at pt XC lws;have kp:Paired (λt (kv:aL×V)=>aS K H4 t [kV kv.1,kv.2]) ts (ws.map λh=>((Sum.inr h:aL),V.str h)):=cT pt λ_ _ z=>z;refine⟨D,ts,_,rfl,e4,kp,λdt sM=>?_⟩;have kt:∀z∈ws,(Sum.inr z:aL)∈(cY (ws.map λh=>((Sum.inr h:aL),V.str h)) []).map (·.1):=λz hz=>by
  rw [oK ws [] [] rfl];exact c_.mpr ((gZ ws [] z).mpr (.inr hz))
 have lkt:(cY (ws.map λh=>((Sum.inr h:aL),V.str h)) []).length<=20000:=by
  have a:=congrArg List.length (oK ws [] [] rfl);rw [ax,ax] at a;have:=iR ws [];simp only [jP] at this;omega
 generalize cY (ws.map λh=>((Sum.inr h:aL),V.str h)) []=OR at kt lkt;have s5:=s4.trans (af sM (.dK OR));have e5:upd H4 dt (.dK OR) dt=some (.dK OR):=ae;have JM:H3 dt=none:=s4.free sM;generalize upd H4 dt (.dK OR)=H5 at s5 e5;have L5:=L3.same s5;refine goN ?_
 ac_rfl
 refine⟨_,rfl,R,rs,aa,rfl,L5.hR,L5.cV,∅,λDH H6 fH s6 eH=>?_⟩;have L6:=L5.same s6;have Ll:=iR (aa.map (·.1)) [];simp only [jP,ax] at Ll;have gz:∀z∈hd aa,∃n,g z=some n:=λz hz=>by
  obtain⟨n,e,_⟩:=FC g Q0 WJ z hz;exact⟨n,e⟩
 refine⟨L6.t3,DH,hd aa,dz,p_,λz=>(g z).getD 0,rfl,aK.of eH,by unfold hd;omega,rfl,L6.rz,λz hz=>by obtain⟨n,e⟩:=gz z hz;rw [vz,e];show _=some (V.int ((g z).getD 0));rw [e];rfl,λl Kc H7 s7 ZN fl pe pw el=>?_⟩;have L7:=L6.Ob nT s7 ZN;have Tq:dt≠T3:=λz=>by
  obtain⟨p,a,_⟩:=L5.t3;rw [<-z,e5] at a;cases a
 have e7:=s7 _ _ Tq (s6 _ _ e5);have Xc:dn≠dt:=λz=>by have a:=L3.nm.hd;rw [z,JM] at a;cases a
 have W7:dz≠dt:=λz=>by rw [<-z,e3] at JM;cases JM
 have KJ:kR T1 T3 H H7:=λb u n1 n3 hb=>s7 _ _ n3 (s6 _ _ (s5 _ _ (BY b u n1 n3 hb)));have Ti:l≠dt:=λz=>by rw [z,s6 _ _ e5] at fl;cases fl
 have nn:=Lc Q0;have hlz:Kc.length < 64:=by rw [pe.length_eq];unfold hd;omega
 have Qv:∀ru∈aa,∀p∈ru.2,(g p).isSome=true:=λru gp p hp=>by
  by_cases hh:p∈hd aa
  .obtain⟨n,e⟩:=gz p hh;rw [e];rfl
  have j0:∃n,v9 aa p=some n:=⟨0,ar (pR _ _ [] p (.inr ⟨mi.mpr ⟨ru,gp,hp⟩,hh⟩))⟩;have:∃n,g p=some n:=dI.keep (J:=λg=>∃n,g p=some n) (λg ru ⟨n,e⟩ m f=>by obtain⟨k,a,_⟩:=le_step f p n e;exact⟨k,a⟩) Q0 j0;obtain⟨n,e⟩:=this;rw [e];rfl
 have ll:=a0 cV
 let wD:sq:=λi σ H8=>∃(kvs:List (aL×V))(y3 y4:Option V),σ=[aF R,aF dn,aF dt,y3,y4,aF dz]/\gh dt H7 H8/\H8 dt=some (.dK kvs)/\kvs.length<=20000+i/\(∀z∈ws,(Sum.inr z:aL)∈kvs.map (·.1))/\(∀z∈Kc.take i,(Sum.inr z:aL)∈kvs.map (·.1))
 refine⟨l,rfl,⟨_,aK.of el⟩,cv (xs:=Kc.map V.str) wD ⟨OR,_,_,rfl,λ_ _ _ h=>h,e7,∅,kt,λz hz=>by cases hz⟩ ?_ ?_ ?_⟩
 .rintro i σ H8 _ ⟨kvs,y3,y4,rfl,s8,_⟩;exact aK.of (s8 _ _ Ti el)
 .rintro i x σ H8 ex ⟨kvs,y3,y4,rfl,s8,e8,TJ,TQ,OQ⟩
  ac_nf0
  rw [bq] at ex;obtain⟨z,RA,rfl⟩:=cq.mp ex;have li:=(bj.mp RA).1;have hz:z∈hd aa:=pe.mem_iff.mp (cE RA);obtain⟨n,Vh⟩:=gz z hz;have L8:=L7.Jz e7 Xc W7 s8;obtain⟨p,hp,Uq⟩:=bV.mp (show z∈ps.map (·.1) by rw [pk];exact hz);refine goN ?_
  ac_rfl
  have hgn:cK H8 dn (.str z) (some (.ref p.2)):=by
   have:=cK.k (k:=Sum.inr z) L8.nm.hd;rw [<-Uq,gS ps L8.nm.n1 p hp] at this;rw [Uq] at this;exact this
  have Rq:=L8.nm.lst p hp;have Rq:H8 p.2=some (.lst ((nums aa z aa.length).map V.int)):=by rw [<-Uq];exact Rq
  have numOf:∀(m:Nat) (v:Int),(nums aa z aa.length)[m]?=some v->∃(j:Nat)(ru:aw),v=(j:Int)/\aa[j]?=some ru/\ru.1=z:=λm v e=>by
   unfold nums at e;rw [bq] at e;obtain⟨j,e1,rfl⟩:=cq.mp e;have hj:=(gO.mp (cE e1)).2;have hj:(aa[j]?.map (·.1))=some z:=cS hj;obtain⟨ru,e2,e3⟩:=cq.mp hj;exact⟨j,ru,rfl,e2,e3⟩
  have aaa:=xA aa z aa.length
  let good:Int->Bool:=λv=>match aa[v.toNat]? with | some ru=>decide (aH g ru=n) | none=>false
  have wit:∃v∈nums aa z aa.length,good v=true:=by
   obtain⟨ru,gp,q1,_,q3⟩:=Cp (Sf aa) Q0 WJ hz Vh;obtain⟨j,ej⟩:=fU gp;have lj:=(bj.mp ej).1;refine⟨(j:Int),bV.mpr ⟨j,gO.mpr ⟨iX.mpr lj,cC (by rw [ej];exact congrArg some q1)⟩,rfl⟩,?_⟩;show (match aa[(j:Int).toNat]? with | some ru=>decide (aH g ru=n) | none=>false)=true
   rw [jQ,ej];exact cC q3
  refine⟨_,rfl,_,rfl,dn,_,rfl,hgn,p.2,rfl,⟨_,aK.of Rq⟩,λD9 wO=>b0 (xs:=(nums aa z aa.length).map V.int) (λm ys σ2 H9=>ys=(((nums aa z aa.length).take m).filter good).map V.int/\(∃y0,σ2=[y0,aF dz,aF R,some (.str z)])/\aC H8 H9/\H9 D9=some (.lst ys))
   ⟨rfl,⟨none,rfl⟩,af wO _,ae⟩ (λm ys σ2 H9 _ h=>?_) (λm x ys σ2 H9 em h=>?_) (λys σ2 H9 h=>?_)⟩
  .obtain⟨_,_,sm,_⟩:=h;exact aK.of (sm _ _ Rq)
  .obtain⟨rfl,⟨y0,rfl⟩,sm,e9⟩:=h;rw [bq] at em;obtain⟨v,ev,rfl⟩:=cq.mp em;have lm:=(bj.mp ev).1;obtain⟨j,ru,rfl,ej,RE⟩:=numOf m v ev;have L9:=L8.same sm;obtain⟨r,er,rv⟩:=Paired.at_ L9.cV j ru ej;have Qs:r_ (rs.map V.ref) (j:Int)=some (.ref r):=dD (by rw [bq,er];rfl);have gj:good (j:Int)=decide (V.int (aH g ru)=V.int n):=by
    show (match aa[(j:Int).toNat]? with | some ru=>decide (aH g ru=n) | none=>false)=_
    rw [jQ,ej];show decide (aH g ru=n)=_;by_cases c:aH g ru=n
    .rw [cC c,cC (congrArg V.int c)]
    rw [fA c,fA (λy=>c (by injection y))]
   refine goN ?_;refine⟨_,rfl,_,rfl,_,rfl,R,_,_,_,rfl,rfl,L9.hR,Qs,dz,r,p_,g,ru,rfl,L9.rz,vz,rv,h8 ru (cE ej),Qv ru (cE ej),λAw vJ=>?_⟩;have hgz:cK Aw dz (.str z) (some (.int n)):=by
    have:=cK.r (k:=Sum.inr z) (L9.same vJ).rz;rw [vz,Vh] at this;exact this
   refine⟨_,rfl,_,rfl,dz,_,rfl,hgz,rfl,_,rfl,?_⟩;rw [<-gj];have P6:((nums aa z aa.length).take (m+1)).filter good=((nums aa z aa.length).take m).filter good++(if good (j:Int)=true then [(j:Int)] else []):=by
    rw [cQ,ev,qi]
    congr 1
    show List.filter good [(j:Int)]=_;by_cases c:good (j:Int)=true
    .rw [ar c,nZ,ar c,List.filter_nil]
    rw [au c,nZ,au c,List.filter_nil]
   have lf:(((nums aa z aa.length).take m).filter good).length<=1000:=ff (mn _ _) (by rw [dO];omega);refine cu (λcc=>?_) (λcc=>?_)
   .refine⟨_,rfl,vJ _ _ e9,br (by rw [ax];omega),by rw [P6,ar cc,bB];rfl,⟨_,rfl⟩,λb u hb=>?_,ae⟩;rw [ak (λz=>by rw [z,wO] at hb;cases hb)];exact vJ _ _ (sm b u hb)
   exact⟨by rw [P6,au cc,gG],⟨_,rfl⟩,sm.trans vJ,vJ _ _ e9⟩
  obtain⟨rfl,_,s9,e9⟩:=h;rw [ax,cH] at e9;refine goN ?_
  ac_rfl
  have L9:=L8.same s9;cases hf:(nums aa z aa.length).filter good with
  | nil =>
   obtain⟨v,hv,gv⟩:=wit;have:v∈(nums aa z aa.length).filter good:=gO.mpr ⟨hv,gv⟩;rw [hf] at this;cases this
  | cons v0 vr =>
   rw [hf] at e9;have hm0:v0∈(nums aa z aa.length).filter good:=by rw [hf];exact bK
   obtain⟨Dk,Rt⟩:=gO.mp hm0;obtain⟨m0,Vg⟩:=fU Dk;obtain⟨j,ru,rfl,ej,RE⟩:=numOf m0 v0 Vg;have hsz:aH g ru=n:=by
    have Rt:(match aa[(j:Int).toNat]? with | some ru=>decide (aH g ru=n) | none=>false)=true:=Rt
    rw [jQ,ej] at Rt;exact cS Rt
   have gp:=cE ej;obtain⟨r,er,pp,v1,v2⟩:=Paired.at_ L9.cV j ru ej;have Qs:r_ (rs.map V.ref) (j:Int)=some (.ref r):=dD (by rw [bq,er];rfl);have C1:r_ (V.int (j:Int)::vr.map V.int) 0=some (.int (j:Int)):=dD (j:=0) rfl;have e9:H9 D9=some (.lst (V.int (j:Int)::vr.map V.int)):=e9;have e89:=s9 _ _ e8;have r8:=h8 ru gp;have TZ:∀p∈ru.2,(Sum.inr p:aL)∈kvs.map (·.1):=λy hy=>by
    obtain⟨my,ey⟩:=mq.mp (Qv ru gp y hy);by_cases hh:y∈hd aa
    .refine OQ y (vj pw RA (pe.mem_iff.mpr hh) ?_);show (g y).getD 0 < (g z).getD 0;rw [ey,Vh];show my < n;rw [<-hsz];exact B6 nn hy ey
    exact TQ y (XC y hh (by rw [ey];rfl))
   refine⟨_,rfl,D9,_,_,_,rfl,rfl,aK.of e9,C1,_,rfl,_,rfl,D9,_,_,_,rfl,rfl,aK.of e9,C1,R,_,_,_,rfl,rfl,L9.hR,Qs,r,_,_,_,rfl,rfl,v1,rfl,pp,rfl,⟨_,v2⟩,λWk UZ=>rS (zs:=ru.2) rfl v2 ∅ e89 TZ UZ λys Aw ly vJ Dn=>?_⟩;refine⟨Wk,ys,rfl,.inl ⟨aK.of Dn,λt2 U3=>⟨kN,λFh Me=>?_⟩⟩⟩;have Xs:=(af U3 (.tup ys)).trans (af Me (.tup [.int (j:Int),.ref t2]));generalize upd (upd Aw t2 (.tup ys)) Fh (.tup [.int (j:Int),.ref t2])=Dc at Xs;have Og:=(s9.trans vJ).trans Xs;have G9:=Og _ _ e8;refine⟨_,rfl,_,rfl,dt,_,rfl,.inl ⟨kvs,Sum.inr z,G9,rfl,br ∅,rfl⟩,?_⟩;have Fp:∀y:aL,(y∈kvs.map (·.1)\/y=Sum.inr z)->y∈(bN kvs (Sum.inr z) (.ref Fh)).map (·.1):=λy hy=>by
    by_cases hk:(Sum.inr z:aL)∈kvs.map (·.1)
    .rw [zp hk];rcases hy with hy | rfl
     .exact hy
     exact hk
    rw [iP hk];rcases hy with hy | rfl
    .exact dP _ hy
    exact dA _ bK
   have aae:(bN kvs (Sum.inr z) (.ref Fh)).length<=kvs.length+1:=by
    have a:=congrArg List.length (Eq.refl ((bN kvs (Sum.inr z) (.ref Fh)).map (·.1)));by_cases hk:(Sum.inr z:aL)∈kvs.map (·.1)
    .have b:=congrArg List.length (zp (v:=.ref Fh) hk);rw [ax,ax] at b;omega
    have b:=congrArg List.length (iP (v:=.ref Fh) hk);rw [ax,bU,ax,ic] at b;omega
   refine⟨_,_,_,rfl,λb u nb hb=>?_,ae,∅,λy hy=>Fp _ (.inl (TQ y hy)),λy hy=>?_⟩
   .rw [ak nb];exact Og _ _ (s8 b u nb hb)
   rw [cQ,RA] at hy;rcases cD.mp hy with hy | hy
   .exact Fp _ (.inl (OQ y hy))
   exact Fp _ (.inr (by rw [cO.mp (show y∈[z] from hy)]))
 rintro σ H8 ⟨kvs,y3,y4,rfl,s8,e8,TJ,TQ,OQ⟩;rw [ax,cH] at OQ;have L8:=L7.Jz e7 Xc W7 s8;refine⟨_,rfl,q dt kvs H8 ?_ (λb u n1 n3 hb=>?_) L8.t1 L8.t3 e8 λz hz=>OQ z (pe.mem_iff.mpr hz)⟩
 .cases c:H dt with
  | none=>rfl
  | some u =>
   by_cases h1:dt=T1
   .obtain⟨pp,a,_⟩:=L3.t1;rw [<-h1,JM] at a;cases a
   rw [BY dt u h1 Tq c] at JM;cases JM
 refine s8 _ _ (λz=>?_) (KJ b u n1 n3 hb);rw [z] at hb;rw [BY dt u (λy=>n1 (z.trans y)) Tq hb] at JM;cases JM
end
end h_
namespace L2
open PySem PySem.Spec PyProof.Rows
section
variable {prog:Program}{w:World}{A:Around}{E:Value->Shared->Prop}
def vf {h h':Heap}{ks:List aL}{a:Addr}(p:(tupleKind (bf prog w)).is h ks a)(k:∀b o,o.cls=.type "tuple" -> h.get? b=some o->h'.get? b=some o):(tupleKind (bf prog w)).is h' ks a :=
 let ⟨o,aT,n,h1,h2,h3,h4⟩:=p;⟨o,aT,n,k a o h2 h1,h2,h3,h4⟩
def wg {h h':Heap}{d:Addr}{xs:List (List aL×Addr×Value)}(hd:h.DictOfH (tupleKind (bf prog w)) d xs)(kd:∀o,h.get? d=some o->h'.get? d=some o)(k:∀b o,o.cls=.type "tuple" -> h.get? b=some o->h'.get? b=some o) :
  h'.DictOfH (tupleKind (bf prog w)) d xs :=
 let ⟨o,es,ep,q,c,dd,e,is,n⟩:=hd;⟨o,es,ep,kd o q,c,dd,e,λx hx=>vf (is x hx) k,n⟩
def ky (prog:Program)(w:World)(h:Heap)(u:Value)(kv:List aL×Addr×Value):Prop :=
 ∃t n o,u=.ref t/\(tupleKind (bf prog w)).is h kv.1 kv.2.1/\h.get? t=some o/\o.cls=.type "tuple" /\ o.data=.seq #[.ref kv.2.1,kv.2.2] n
def ky.keep {h h':Heap}{u:Value}{kv:List aL×Addr×Value}(p:ky prog w h u kv)(k:∀b o,o.cls=.type "tuple" -> h.get? b=some o->h'.get? b=some o):ky prog w h' u kv :=
 let ⟨t,n,o,a,b,c,d,e⟩:=p;⟨t,n,o,a,vf b k,k t o d c,d,e⟩
def Br (more xs:List (List aL×Addr×Value)):List (List aL×Addr×Value):=more.foldl (λa p=>storedH a p.1 p.2.1 p.2.2) xs
def IG {R:Result->Shared->Prop}{d it l:Addr}{items:Array Value}(hh:A.handled=none)(hu:A.units+1 < cLine):∀(more:List (List aL×Addr×Value)) (i:Nat)(s:Shared)(kvs:List (List aL×Addr×Value)) (j:Int)(tk:Tok),items.size=i+more.length ->
  s.heap.DictOfH (tupleKind (bf prog w)) d kvs->s.heap.IsListIter it l i->s.heap.IsList l items->(∀m kv,more[m]?=some kv->∃u,items[i+m]?=some u/\ky prog w s.heap u kv)->kvs.length+more.length<=sizeLine ->
  (∀h' t',h'.DictOfH (tupleKind (bf prog w)) d (Br more kvs)->(∀b o,b≠d->b≠it->s.heap.get? b=some o->h'.get? b=some o)->R (.ok (.ret .none)) { s with heap:=h',toks:=t' }) ->
  codeAny (model prog w) A (.builtin "dict.update.loop" ⟨[.ref d,.ref it,.int j tk,.none],[]⟩) R s:=by
 intro more
 induction more with
 | nil =>
  intro i s kvs j tk hi hd hit hl hp hz hR;refine qo kq ?_;rw [qz fq _];unfold Builtin.«dict.update.loop»;have hs:items[i]?=none:=Array.getElem?_eq_none (by rw [hi];exact aE _);refine aD (uY hh hit hl hs λh1 eb=>?_);have nd:d≠it:=λz=>by
   obtain⟨o,_,_,q,_,c,_⟩:=hd;obtain⟨o',q',_,c'⟩:=hit;rw [z,q'] at q;cases q;rw [c'] at c;cases c
  have nt:∀b o,o.cls=.type "tuple" -> s.heap.get? b=some o->b≠it:=λb o c q z=>by
   obtain⟨o',q',c',_⟩:=hit;rw [z,q'] at q;cases q;rw [c'] at c;exact absurd c nofun
  show wpAny _ _ (Builtin.Dict.addKeywords d [] >>= _) _ _ _;exact aD (aR (aR (hR h1 s.toks (wg hd (λo q=>eb d o nd q) λb o c q=>eb b o (nt b o c q) q) λb o n1 n2 q=>eb b o n2 q)))
 | cons kv more ih =>
  intro i s kvs j tk hi hd hit hl hp hz hR;refine qo kq ?_;rw [qz fq _];unfold Builtin.«dict.update.loop»;obtain⟨u,M_,t,n,o,rfl,hk,ho,hc,sM⟩:=hp 0 kv rfl;refine aD (wpAny_pyNext_list_item hit hl M_ λh1 T5 sb=>?_);have nd:d≠it:=λz=>by
   obtain⟨o,_,_,q,_,c,_⟩:=hd;obtain⟨o',q',_,c'⟩:=hit;rw [z,q'] at q;cases q;rw [c'] at c;cases c
  have n2:∀b o,(o.cls=.type "tuple" \/ o.cls=.type "list")->s.heap.get? b=some o->b≠d/\b≠it:=by
   intro b o c q;constructor
   .intro z;obtain⟨o',q',c'⟩:=hd.typeIs;rw [z,q'] at q;cases q;rw [c'] at c;rcases c with c | c <;> exact absurd c nofun
   intro z;obtain⟨o',q',c',_⟩:=hit;rw [z,q'] at q;cases q;rw [c'] at c;rcases c with c | c <;> exact absurd c nofun
  have nt:∀b o,o.cls=.type "tuple" -> s.heap.get? b=some o->b≠d/\b≠it:=λb o c q=>n2 b o (.inl c) q;have nl:l≠d/\l≠it:=by
   obtain⟨o,q,c,_⟩:=hl;exact n2 l o (.inr c) q
  have TU:∀b o,o.cls=.type "tuple" -> s.heap.get? b=some o->h1.get? b=some o:=λb o c q=>(sb.2 b (nt b o c q).2).trans q;have JE:h1.get? t=some o:=TU t o hc ho;have Dm:h1.DictOfH (tupleKind (bf prog w)) d kvs:=wg hd (λo q=>(sb.2 d nd).trans q) TU;refine aD (kJ (aD (wpAny_tryCatch ?_)));unfold Builtin.Dict.pairItems;refine aD (jq (T := "tuple") ⟨o,JE,hc⟩ ?_);rw [ar nofun];refine aD (qk JE sM (aR ?_));show wpAny _ _ (holding [.ref kv.2.1,kv.2.2] (dictSet d (.ref kv.2.1) kv.2.2)) _ _ _;rw [dG] at hz hi;refine kJ (wpAny_dictSet_heap (s:={ s with heap:=h1 }) (tq hu) (vf hk TU) Dm (λh2 hd2 Oe=>?_) ∅);have kk:∀b o,b≠d->b≠it->s.heap.get? b=some o->h2.get? b=some o:=λb o n1 n2 q=>(Oe.2 b n1).trans ((sb.2 b n2).trans q);have ln:(storedH kvs kv.1 kv.2.1 kv.2.2).length<=kvs.length+1:=by
   unfold storedH
   split
   .simp
   simp
  refine aR ⟨nK fq _,ih (i+1) _ _ _ _ ∅ hd2 (T5.at λo q=>(Oe.2 it (gq nd)).trans q) (hl.at λo q=>kk l o nl.1 nl.2 q) (λm TR e=>?_) ∅ λh3 t3 iU k3=>?_⟩
  .obtain⟨u',e1,e2⟩:=hp (m+1) TR e;exact⟨u',by rw [<-e1];congr 1;omega,e2.keep λb o c q=>kk b o (nt b o c q).1 (nt b o c q).2 q⟩
  exact hR h3 t3 iU λb o n1 n2 q=>k3 b o n1 n2 (kk b o n1 n2 q)
def pN {s:Shared}{l:Addr}{items:Array Value}{n:Nat}{more:List (List aL×Addr×Value)}{Q:Value->Shared->Prop}(hh:A.handled=none)(hu:A.units+2 < cLine)(hx:s.heap.get? l=some { cls:=.type "list",data:=.seq items n })
  (hi:items.size=more.length)(hp:∀(m:Nat) kv,more[m]?=some kv->∃u,items[m]?=some u/\ky prog w s.heap u kv)(hz:more.length<=sizeLine)
  (h:∀h' t',h'.DictOfH (tupleKind (bf prog w)) s.heap.objs.size (Br more [])->(∀b o,s.heap.get? b=some o->h'.get? b=some o)->Q (.ref s.heap.objs.size) { s with heap:=h',toks:=t' }) :
  wpAny (model prog w) A (call (.type "dict") [.ref l]) Q E s:=by
 refine callType_codes (Q₁:=λobj s₁=>obj=.ref s.heap.objs.size/\s₁={ s with heap:=s.heap.push { cls:=.type "dict",data:=.dict #[] } }) F.kt_called_dict (F.kt_typeCall_dict_1 _) F.entry_dict_init (kt_code_dict_new _ ⟨rfl,rfl⟩) ?_;rintro obj s₁ ⟨rfl,rfl⟩;have zJ:(s.heap.push { cls:=.type "dict",data:=.dict #[] }).DictOfH (tupleKind (bf prog w)) s.heap.objs.size []:=Heap.DictOfH.new s.heap;have l0:=cx { cls:=.type "dict",data:=.dict #[] } hx;refine⟨zJ.typeIs,F.args_dict_init_2 _ _,?_⟩;unfold Builtin.«dict.__init__» Builtin.Dict.selfAndRest;refine aD (aD (wpAny_notOrdered_dict zJ.typeIs (aR ?_)));show wpAny _ _ (Builtin.Dict.updateFrom "dict.__init__" s.heap.objs.size (.ref l) [] .none) _ _ _;unfold Builtin.Dict.updateFrom;refine aD (jq (T := "list") ⟨_,l0,rfl⟩ ?_);rw [ar yP];refine aD (oJ l0 hh λh1 t1 k1=>?_);refine aD (wpAny_rule ?_);have l1:=k1 _ _ l0;refine aD (nY ⟨_,l1,rfl,_,rfl⟩ ?_);have k2:∀b o,s.heap.get? b=some o->(h1.push { cls:=.type "list_iterator",data:=.fields #[.ref l,.int 0 0] }).get? b=some o:=λb o q=>cx _ (k1 _ _ (cx _ q));refine aR ⟨nK fq _,IG (A:=A.in1) (l:=l) (items:=items) (show A.in1.handled=none from hh) (show A.in1.units+1 < cLine by rw [qd];omega) more 0 _ [] _ _ (by rw [hi,nP]) ?_ ⟨_,dH _ rfl,rfl,rfl⟩ ⟨_,k2 _ _ hx,rfl,n,rfl⟩ (λm kv e=>?_) (by simpa using hz) λh' t' hd k3=>?_⟩
 .exact wg zJ (λo q=>cx _ (k1 _ _ q)) λb o _ q=>cx _ (k1 _ _ q)
 .obtain⟨u,e1,e2⟩:=hp m kv e;exact⟨u,by rw [nP];exact e1,e2.keep λb o _ q=>k2 b o q⟩
 refine⟨rfl,h h' t' hd λb o q=>k3 b o (bX (bJ q)) ?_ (k2 b o q)⟩;have:=bJ (k1 _ _ (cx { cls:=.type "dict",data:=.dict #[] } q));exact bX this
end
def nq (kvs bQ:List (List aL×V)):List (List aL×V):=kvs.foldl (λa p=>bN a p.1 p.2) bQ
theorem uu {H:Hp}:∀{kvs:List (List aL×V)}{vs:List (List aL×Addr×Value)}{bQ:List (List aL×V)}{Gf:List (List aL×Addr×Value)},KT H kvs vs->KT H bQ Gf->KT H (nq kvs bQ) (Br vs Gf)
 | _,_,_,_,.nil,h=>h
 | _,_,_,_,.cons (a:=p) (b:=q) r t,h=>by
  obtain⟨e,hb,rv⟩:=r;show KT H (nq _ (bN _ p.1 p.2)) (Br _ (storedH _ q.1 q.2.1 q.2.2));rw [<-e];exact uu t (h.put p.1 hb rv)
theorem uv:∀(kvs bQ:List (List aL×V)),(nq kvs bQ).length<=bQ.length+kvs.length
 | [],bQ=>by simp [nq]
 | p::r,bQ=>by
  have:=uv r (bN bQ p.1 p.2);have:=fj bQ p.1 p.2;show (nq r (bN bQ p.1 p.2)).length<=_;rw [dG];omega
section
variable {X:Cx}{ag:List (Addr×Obj)}{σ:St}{H:Hp}{s:Shared}
abbrev NC (K:ba)(H:Hp)(t:Addr)(kv:List aL×V):Prop:=∃b,aS K H t [.ref b,kv.2]/\H b=some (.tup (kv.1.map kV))
theorem tY (I:Inv X ag σ H s):∀{ts:List Addr}{kvs:List (List aL×V)}{aT:List Value},Paired (NC X.K H) ts kvs->a_ (ts.map V.ref) aT ->
  ∃vs:List (List aL×Addr×Value),KT H kvs vs/\Paired (λu kv=>ky X.prog X.w s.heap u kv) aT vs
 | [],_,_,.nil,r=>by
  rw [kU] at r;cases r;exact⟨[],.nil,.nil⟩
 | t::ts,kv::kvs,_,.cons h p,r=>by
  rw [cA] at r;cases r with
  | cons r1 r2 =>
   obtain⟨vs,e1,e2⟩:=tY I p r2;obtain⟨b,h0,hb⟩:=h;obtain⟨aT,rv,⟨o,h1,h2,n,h3⟩,_⟩:=I.tuple h0;obtain⟨u1,u2,rfl,q1,q2⟩:=vals2 rv;cases (show u1=Value.ref b from q1);exact⟨(kv.1,b,u2)::vs,.cons ⟨rfl,hb,q2⟩ e1,.cons ⟨t,n,o,r1,lQ I.b8 hb,h1,h2,h3⟩ e2⟩
def yg (hc:X.calm=true)(hu:X.A.units+2 < cLine):fC X (.type "dict") (λxs H Q=>∃a ts kvs,xs=[.ref a]/\H a=some (.lst (ts.map V.ref))/\Paired (NC X.K H) ts kvs/\∀d,H d=none->Q (.ref d) (upd H d (.dT (nq kvs [])))):=by
 intro ag s σ H xs us Q I r h;obtain⟨a,ts,kvs,rfl,e,p,q⟩:=h;obtain⟨u,rfl,rx⟩:=vals1 r;cases (show u=Value.ref a from rx);obtain⟨z,aT,n,rv,ho⟩:=(show cJ X.prog X.w H s.heap a (.lst _) from I.b8 a _ e);obtain⟨vs,r1,r2⟩:=tY I p rv;have l1:=a0 r2;have l2:=a0 r1;have l3:=a0 p;rw [ax] at z;refine pN (I.ok.hd hc) hu ho (by simpa using l1) (λm kv em=>?_) ∅ λh' t' hd kk=>?_
 .obtain⟨u,e1,e2⟩:=Paired.at_ r2 m kv em;exact⟨u,by simpa using e1,e2⟩
 have fr:=I.b8.fresh (aE s.heap.objs.size);have new:cJ X.prog X.w (upd H s.heap.objs.size (.dT (nq kvs []))) h' s.heap.objs.size (.dT (nq kvs [])):=by
  obtain⟨o,es,ep,hq,h2,h3,h4,_,h5⟩:=hd;refine⟨?_,?_,_,(uu r1 .nil).keeps λc ys ec=>?_,o,es,ep,hq,h2,h3,h4,h5⟩
  .have:=uv kvs [];simp at this;omega
  .have:=I.big;exact jR.mpr (kI this)
  rw [ak (ay ec fr)];exact ec
 exact⟨.ref s.heap.objs.size,_,I.laid (t':=t') kk (aE _) new,rfl,q _ fr⟩
end
open PySem M11
def CT {K:ba}{H:Hp}{bg D:Addr}{ts:List Addr}{bh:List Be}{σ:St}{x1 x2 x3 x4:Str}{Qp:Hp->Prop}(hb:aK K H bg (ts.map V.ref))(Ni:Paired (λt (b:Be)=>aS K H t [.str b.1,.str b.2.1,.int (b.2.2.1:Int),.int (b.2.2.2:Int)]) ts bh)(bM:bh.length<=900000)(hD:H D=none)
  (q:∀us H2,aC H H2->H2 D=some (.lst (us.map V.ref))->Paired (λu (b:Be)=>∃v,NC K H2 u ([Sum.inr b.1,Sum.inr b.2.1],.ref v)) us bh->Qp H2) :
  ∃W:Nat->Nat->List V->St->Hp->Prop,(∃m,W 0 m [] (dJ [x1,x2,x3,x4] [] σ) (upd H D (.lst []))) /\
 ∀i m ys σ' H,W i m ys σ' H->((jn K bg).stop i H/\Qp H)\/((jn K bg).go i H/\∃m',m' < m/\∀x H',(jn K bg).kX i H x H'->z9 K 4 (ji (dB 0) (ji (dB 1) (ji (dB 2) (ji (dB 3) CD)))) x σ' H' λσ2 H2=>gP σ2 H2 λb H3 =>
  if b=true then sQ (gH (sQ (gH (gE 0) (gH (gE 1) qJ))) (gH (sQ (gH (gE 2) (gH (gE 3) qJ))) qJ)) σ2 H3 λy H4=>H4 D=some (.lst ys)/\ys.length < sizeLine/\W (i+1) m' (ys++[y]) σ2 (upd H4 D (.lst (ys++[y]))) else W (i+1) m' ys σ2 H3):=by
 have ll:=a0 Ni;refine b0 (xs:=ts.map V.ref) (λi ys σ2 H2=>∃us:List Addr,ys=us.map V.ref/\us.length=i/\Paired (λu (b:Be)=>∃v,NC K H2 u ([Sum.inr b.1,Sum.inr b.2.1],.ref v)) us (bh.take i)/\(∃y0 y1 y2 y3,σ2=[y0,y1,y2,y3])/\aC H H2/\H2 D=some (.lst ys))
  ⟨[],rfl,rfl,.nil,⟨none,none,none,none,rfl⟩,af hD _,ae⟩ (λi ys σ2 H2 _ h=>?_) (λi x ys σ2 H2 ex h=>?_) (λys σ2 H2 h=>?_)
 .obtain⟨_,_,_,_,_,sm,_⟩:=h;exact sm.seq hb
 .obtain⟨us,rfl,hu,hp,⟨y0,y1,y2,y3,rfl⟩,sm,hd⟩:=h;rw [bq] at ex;obtain⟨r,er,rfl⟩:=cq.mp ex;have lr:=(bj.mp er).1;obtain⟨b,e1⟩:∃b,bh[i]?=some b:=⟨bh[i]'∅,cR ∅⟩;obtain⟨r',P8,v1⟩:=Paired.at_ Ni i b e1;rw [er] at P8;cases P8;have li:=(bj.mp e1).1;refine⟨r,_,rfl,sm.tup v1,rfl,_,_,rfl,_,_,rfl,_,_,rfl,_,_,rfl,rfl,?_⟩;refine wQ ?_;refine⟨_,rfl,_,rfl,kN,λk hk=>⟨_,rfl,_,rfl,kN,λv hv=>⟨kN,λu Rk=>?_⟩⟩⟩;have s3:=(af hk (.tup [V.str b.1,V.str b.2.1])).trans ((af hv (.tup [V.int (b.2.2.1:Int),V.int (b.2.2.2:Int)])).trans (af Rk (.tup [.ref k,.ref v])));have ek:=((af hv (.tup [V.int (b.2.2.1:Int),V.int (b.2.2.2:Int)])).trans (af Rk (.tup [.ref k,.ref v]))) k _ ae;have eu:aS K (upd (upd (upd H2 k (.tup [V.str b.1,V.str b.2.1])) v (.tup [V.int (b.2.2.1:Int),V.int (b.2.2.2:Int)])) u (.tup [.ref k,.ref v])) u [.ref k,.ref v]:=aS.of ae;generalize upd (upd (upd H2 k (.tup [V.str b.1,V.str b.2.1])) v (.tup [V.int (b.2.2.1:Int),V.int (b.2.2.2:Int)])) u (.tup [.ref k,.ref v])=H4 at s3 ek eu;have Bm:=s3 _ _ hd;refine⟨Bm,br (by rw [ax];omega),us++[u],by rw [bB];rfl,by rw [bU,hu];rfl,?_,⟨_,_,_,_,rfl⟩,?_,ae⟩
  .rw [cQ,e1];have kD:k≠D:=λz=>by rw [z,Bm] at ek;cases ek
   refine fO (Paired.di hp λu' b' bF=>?_) ⟨v,k,aP Bm eu,by rw [ak kD];exact ek⟩;obtain⟨v',bb,p1,p2⟩:=bF;exact⟨v',bb,aP Bm (s3.tup p1),by rw [ak (λz=>by rw [z,hd] at p2;cases p2)];exact s3 _ _ p2⟩
  intro c o hc;rw [ak (λz=>by rw [z,hD] at hc;cases hc)];exact s3 _ _ (sm c o hc)
 obtain⟨us,rfl,hu,hp,_,sm,hd⟩:=h;rw [ax,ll,cH] at hp;exact q us H2 sm hd hp
theorem EG {K:ba}{H:Hp}:∀{us:List Addr}{bh:List Be},Paired (λu (b:Be)=>∃v,NC K H u ([Sum.inr b.1,Sum.inr b.2.1],.ref v)) us bh->∃kvs,Paired (NC K H) us kvs
 | _,_,.nil=>⟨[],.nil⟩
 | _,_,.cons ⟨v,h⟩ t=>let ⟨kvs,p⟩:=EG t;⟨_::kvs,.cons h p⟩
end L2
namespace h_
open PySem L2 M11
def Tab.s2 {T T1 T2:Addr}{p p1 p2:Pos}{q q1 q2:Str}{H H':Hp}(h:Tab T p q H)(s:kR T1 T2 H H')(t1:Tab T1 p1 q1 H)(t2:Tab T2 p2 q2 H)(n1:T≠T1)(n2:T≠T2):Tab T p q H':=by
 obtain⟨ps,a,b,c⟩:=h;obtain⟨Q_,b1,_⟩:=t1;obtain⟨WW,b2,_⟩:=t2;refine⟨ps,s _ _ n1 n2 a,b,c.imp id ?_⟩;rintro⟨c',e,g⟩;exact⟨c',e,s _ _ (λz=>by rw [z,b1] at g;cases g) (λz=>by rw [z,b2] at g;cases g) g⟩
def jX {T a C dx:Addr}{pos:Pos}{qu:Str}{H:Hp}{fs:List (Str×V)}{o:HO}(h:Tab T pos qu H)(ha:H a=some (.ins C dx fs)):Tab T pos qu (upd H a o):=by
 obtain⟨ps,p,r,c⟩:=h;refine⟨ps,by rw [ak (λz=>by rw [z,ha] at p;cases p)];exact p,r,c.imp id ?_⟩;rintro⟨c',e,g⟩;exact⟨c',e,by rw [ak (λz=>by rw [z,ha] at g;cases g)];exact g⟩
def Kp (H H':Hp):Prop:=∀b o,H b=some o->(∀ps,o≠.sL ps)->H' b=some o
def Kp.trans {H H1 H2:Hp}(a:Kp H H1)(b:Kp H1 H2):Kp H H2:=λc o h n=>b c o (a c o h n) n
def Kp.of {H H':Hp}(s:aC H H'):Kp H H':=λb o h _=>s b o h
def Kp.of2 {T1 T2:Addr}{p1 p2:Pos}{q1 q2:Str}{H H':Hp}(s:kR T1 T2 H H')(t1:Tab T1 p1 q1 H)(t2:Tab T2 p2 q2 H):Kp H H':=λc o hc hn=>by
 obtain⟨Q_,b1,_⟩:=t1;obtain⟨WW,b2,_⟩:=t2;exact s c o (λz=>by rw [z,b1] at hc;cases hc;exact hn _ rfl) (λz=>by rw [z,b2] at hc;cases hc;exact hn _ rfl) hc
section
theorem Kp.lst {H H':Hp}(k:Kp H H'){a:Addr}{xs:List V}(h:H a=some (.lst xs)):H' a=some (.lst xs):=k a _ h (λ_ z=>by cases z)
def Kp.tup {H H':Hp}(k:Kp H H'){a:Addr}{xs:List V}(h:aS K H a xs):aS K H' a xs:=by
 rcases h with (h | ⟨u,h⟩) | h
 .exact .inl (.inl (k _ _ h (λ_ z=>by cases z)))
 .exact .inl (.inr ⟨u,k _ _ h (λ_ z=>by cases z)⟩)
 exact .inr h
def Kp.seq {H H':Hp}(k:Kp H H'){a:Addr}{xs:List V}(h:aK K H a xs):aK K H' a xs:=by
 rcases h with (h | ⟨u,h⟩) | h
 .exact .inl (.inl (k _ _ h (λ_ z=>by cases z)))
 .exact .inl (.inr ⟨u,k _ _ h (λ_ z=>by cases z)⟩)
 exact .inr h
theorem Kp.aa {H H':Hp}(k:Kp H H'){rs:List Addr}{aa:List aw}(h:bL K H rs aa):bL K H' rs aa:=h.keep λ_ _ z=>k.tup z
abbrev zc:Stmt:=OK Z1 0
structure LC (K:ba)(C:Addr):Prop where
 cls:Dd K C
 a1:dW K C "rules"
 a2:dW K C "empty"
 a3:dW K C "least"
 a4:dW K C "hollow"
 a5:dW K C "beginnings"
structure Dx (C3 T1 T3:Addr)(H0 H:Hp)(a dx:Addr)(fs:List (Str×V)):Prop where
 sm:kR T1 T3 H0 H
 ia:H a=some (.ins C3 dx fs)
 fa:H0 a=none
 t1:Tab T1 q0.2.2.2 yr H
 t3:Tab T3 posB GO H
 o1:Tab T1 q0.2.2.2 yr H0
 o3:Tab T3 posB GO H0
def Dx.kp {C3 T1 T3 a dx:Addr}{H0 H:Hp}{fs:List (Str×V)}(h:Dx C3 T1 T3 H0 H a dx fs):Kp H0 H:=Kp.of2 h.sm h.o1 h.o3
def Dx.set {C3 T1 T3 a dx:Addr}{H0 H:Hp}{fs:List (Str×V)}(h:Dx C3 T1 T3 H0 H a dx fs)(G6:List (Str×V)):Dx C3 T1 T3 H0 (upd H a (.ins C3 dx G6)) a dx G6 :=
 ⟨λb o n1 n3 hb=>by rw [ak (λz=>by rw [z,h.fa] at hb;cases hb)];exact h.sm b o n1 n3 hb,ae,h.fa,jX h.t1 h.ia,jX h.t3 h.ia,h.o1,h.o3⟩
def Dx.next {C3 T1 T3 a dx:Addr}{H0 H H':Hp}{fs:List (Str×V)}(h:Dx C3 T1 T3 H0 H a dx fs)(s:aC H H'):Dx C3 T1 T3 H0 H' a dx fs :=
 ⟨λb o n1 n3 hb=>s _ _ (h.sm b o n1 n3 hb),s _ _ h.ia,h.fa,h.t1.same s,h.t3.same s,h.o1,h.o3⟩
def Dx.OC {C3 T1 T3 a dx:Addr}{H0 H H':Hp}{fs:List (Str×V)}(h:Dx C3 T1 T3 H0 H a dx fs)(s:kR T1 T3 H H')(t1:Tab T1 q0.2.2.2 yr H')(t3:Tab T3 posB GO H'):Dx C3 T1 T3 H0 H' a dx fs :=
 ⟨λb o n1 n3 hb=>s _ _ n1 n3 (h.sm b o n1 n3 hb),Kp.of2 s h.t1 h.t3 _ _ h.ia (λ_ z=>by cases z),h.fa,t1,t3,h.o1,h.o3⟩
def AZ (K:ba)(C C3 T1 T3:Addr):Sp:=λvs H Q _=>∃(H0 Hb:Hp)(a dx R x e d bg:Addr)(rs:List Addr)(aa:List aw)(kE:List (aL×V))(aX:List (Str×Nat))(ps:List (Str×Addr))(bh:List Be),vs=[.ref a,.ref R,.ref x]/\aC H0 H/\H0 a=none/\H a=some (.ins C3 dx [])/\aK K H0 R (rs.map V.ref)/\bL K H0 rs aa /\
 aa.length < 64/\(∀ru∈aa,ru.2.length<=8)/\(∀g,dI M11.bl aa (v9 aa) g->ir M11.bl aa g->∀h∈hd aa,∃n,g h=some n/\n<=60)/\sP K C Hb H0 x e d bg kE aX ps bh/\sO aa aX/\bh.length<=80000/\Tab T1 q0.2.2.2 yr H0/\Tab T3 posB GO H0/\T1≠T3 /\
 ∀H',kR T1 T3 H0 H'->Tab T1 q0.2.2.2 yr H'->Tab T3 posB GO H'->Q .fc H'
def Hn:aM ["self","rules","begin_table"] ["self","rules","begin_table"] (az zc):=jl rfl rfl rfl rfl nofun
def E4 {C C3 T1 T3:Addr}(F:iM K "__init__" "LeastTrees.__init__" zc f fd)(T:Txt mg)(B:BC K C)(L:LC K C3)(GL:aG P w K mg base 4 "least_by_part" ["rules"] (om K T1 T3))(GE:aG P w K mg base 4 "empty_by_name" ["rules","empties"] (tQ K)) :
  bZ P w K mg base gw 5 f fd ["self","rules","begin_table"] (AZ K C C3 T1 T3):=by
 refine F.ok Hn (λvs H Q E h=>?_) (λeY A outer s H vs Q E hr h=>?_)
 .obtain⟨H0,Hb,a,dx,R,x,e,d,bg,rs,aa,kE,aX,ps,bh,rfl,_⟩:=h;rfl
 obtain⟨H0,Hb,a,dx,R,x,e,d,bg,rs,aa,kE,aX,ps,bh,rfl,s0,f0,ea,hR,cV,bM,h8,FC,S,emp,Lo,t1,t3,nT,q⟩:=h;have hu:=qy (Nat.add_le_add_left (by decide:2<=64) _) hr.units;refine⟨_,aj (gJ (pv 0) (pv 1) rfl)
  (aj (gJ (pv 0) (d0 (pv 2) rfl) rfl)
  (aj (gJ (pv 0) (bA GL hr rfl (ab (pv 1) ai)) rfl)
  (aj (gJ (pv 0) (bA GE hr rfl (ab (pv 1) (ab (d0 (pv 2) rfl) ai))) rfl)
  (ao (gJ (pv 0) (bc (yg rfl hu) rfl T.Bx gb (ab (aV ["name","word","number","place"] [] rfl (aQ (d0 (pv 2) rfl)) (aU rfl rfl) nofun rfl nofun
   (λ_ _ _ _ _=>dC (n:=4) K rfl (aA (aq (i:=0) (show (["name","word","number","place"]:List Str).Nodup by decide +kernel) rfl (bo rfl)) (aA (aq (i:=1) (show (["name","word","number","place"]:List Str).Nodup by decide +kernel) rfl (bo rfl)) (aA (aq (i:=2) (show (["name","word","number","place"]:List Str).Nodup by decide +kernel) rfl (bo rfl)) (aA (aq (i:=3) (show (["name","word","number","place"]:List Str).Nodup by decide +kernel) rfl (bo rfl)) bH))))) (λ_ _ _ _ _=>bw)
   (λ_ _ _ _ _=>bC (ab (bC (ab (pv 0) (ab (pv 1) ai))) (ab (bC (ab (pv 2) (ab (pv 3) ai))) ai)))) ai)) rfl))))),?_⟩
 nofun
 have S0:Dx C3 T1 T3 H0 H a dx []:=⟨λb o _ _ hb=>s0 b o hb,ea,f0,t1.same s0,t3.same s0,t1,t3⟩;obtain⟨e1,te,⟨Ny,JJ,RB,leb⟩,ee1,evb,_⟩:=S.em;obtain⟨aaq,aal,P4,l1,l2,_⟩:=S.ia;rw [RB] at P4;cases P4;obtain⟨tb,ebg,Ni⟩:=S.lb;have lets:=emp.len;refine⟨_,rfl,_,rfl,a,C3,dx,[],rfl,S0.ia,L.cls,L.a1,(by show 0 < 1000;decide),?_⟩;have S1:=S0.set (dQ "rules" (.ref R) []);generalize Ru:dQ "rules" (.ref R) []=Rz at S1;generalize upd H a (.ins C3 dx Rz)=H1 at S1;have x1:H1 x=some (.ins C Ny JJ):=S1.kp _ _ RB (λ_ z=>by cases z);refine⟨_,rfl,x,C,Ny,JJ,_,rfl,x1,B.cls,B.a2,l1,_,rfl,a,C3,dx,Rz,rfl,S1.ia,L.cls,L.a2,(by rw [<-Ru];show 1 < 1000;decide),?_⟩;have S2:=S1.set (dQ "empty" (.ref e) Rz);generalize LP:dQ "empty" (.ref e) Rz=sN at S2;generalize upd H1 a (.ins C3 dx sN)=H2 at S2;refine⟨_,rfl,R,rs,aa,rfl,S2.kp.seq hR,S2.kp.aa cV,bM,h8,FC,S2.t1,S2.t3,nT,λdl kl H3 Yi s3 yq ZO edl kdl=>?_⟩;have S3:=S2.OC s3 yq ZO;refine⟨_,rfl,a,C3,dx,sN,rfl,S3.ia,L.cls,L.a3,(by rw [<-LP,<-Ru];show 2 < 1000;decide),?_⟩;have S4:=S3.set (dQ "least" (.ref dl) sN);generalize X5:dQ "least" (.ref dl) sN=Nl at S4;generalize upd H3 a (.ins C3 dx Nl)=H4 at S4;have x4:H4 x=some (.ins C Ny JJ):=S4.kp _ _ RB (λ_ z=>by cases z);refine⟨_,rfl,_,rfl,x,C,Ny,JJ,_,rfl,x4,B.cls,B.a1,leb,R,e1,rs,te,aa,aX,rfl,S4.kp.seq hR,S4.kp.aa cV,∅,h8,aK.of (S4.kp.lst ee1),evb.keep λ_ _ z=>S4.kp.tup z,emp,∅,λdh kh H5 fdh s5 edh kdh=>?_⟩;have S5:=S4.next s5;refine⟨_,rfl,a,C3,dx,Nl,rfl,S5.ia,L.cls,L.a4,(by rw [<-X5,<-LP,<-Ru];show 3 < 1000;decide),?_⟩;have S6:=S5.set (dQ "hollow" (.ref dh) Nl);generalize hf6:dQ "hollow" (.ref dh) Nl=yx at S6;generalize upd H5 a (.ins C3 dx yx)=H6 at S6;have x6:H6 x=some (.ins C Ny JJ):=S6.kp _ _ RB (λ_ z=>by cases z);have b6:=S6.kp.lst ebg;have v6:Paired (λt (b:Be)=>aS K H6 t [.str b.1,.str b.2.1,.int (b.2.2.1:Int),.int (b.2.2.2:Int)]) tb bh:=Paired.di Ni λ_ _ z=>S6.kp.tup z;refine⟨_,rfl,x,C,Ny,JJ,_,rfl,x6,B.cls,B.a3,l2,bg,rfl,⟨_,aK.of b6⟩,λD7 UW=>CT (aK.of b6) v6 ∅ UW λus H7 s7 e7 p7=>?_⟩;obtain⟨kvs,pk⟩:=EG p7;refine⟨D7,us,kvs,rfl,e7,pk,λdb Cz=>?_⟩;have S8:=(S6.next s7).next (af Cz (.dT (nq kvs [])));refine⟨_,rfl,a,C3,dx,yx,rfl,S8.ia,L.cls,L.a5,(by rw [<-hf6,<-X5,<-LP,<-Ru];show 4 < 1000;decide),?_⟩;have S9:=S8.set (dQ "beginnings" (.ref db) yx);exact q _ S9.sm S9.t1 S9.t3
structure Gw (K:ba)(x qual:Str)(st:Stmt)(f:Addr)(fd:FuncData):Prop where
 ex:∃(oc:Value)(od:Option Addr)(kV doc pm:Value)(an:Option Addr)(eY ct:Value)(xt:Array (Option Value))(T:Addr)(o:Obj) (n:Nat),
  fd=PySem.W.fnOf x qual (dr st) (cw st) (az st) (.ref T) kV doc pm an eY ct/\K.lookup f=some ⟨oc,od,.func fd,xt⟩/\PySem.W.codeIn K eY qual=true/\K.lookup T=some o/\o.data=.seq #[.none] n
 kp:PySem.W.keepIn K (.ref f)=true
def Gw.ok {x qual:Str}{st:Stmt}{f:Addr}{fd:FuncData}{N ps:List Str}{k:Nat}{sp:Sp}(F:Gw K x qual st f fd)(S:aM N ps (az st))(len:∀vs H Q E,sp vs H Q E->vs.length=ps.length)
  (jh:∀(eY:Value)(A:Around)(outer:List Env)(s:Shared)(H:Hp)(vs:List V)(Q:VK)(E:XK),eZ k (A.deeper (PyProof.Rows.envOfC qual (az st) s.heap.objs.size f eY))->sp vs H Q E ->
   ∃t,Aq (oT gw P w K mg base N qual (az st) f eY A outer s H E).Ck (cw st) t/\t { nx:=λ_ H'=>Q .fc H',rt:=Q } (start N vs) H):bZ P w K mg base gw (k+1) f fd ps sp:=by
 obtain⟨oc,od,kV,doc,pm,an,eY,ct,xt,T,o,n,rfl,lk,v8,_⟩:=F.ex;refine FU lk v8 S len λA outer s H vs Q E hr yu=>?_;obtain⟨t,h,q⟩:=jh eY A outer s H vs Q E hr yu;exact⟨t,h.Ck,q⟩
def FJ {f:Addr}{fd:FuncData}(F:Gw K "__init__" "Grammar.__init__" vE f fd):Binds K fd ["self","rules","strengths"] [.none]:=by
 obtain⟨oc,od,kV,doc,pm,an,eY,ct,xt,T,o,n,rfl,lk,v8,lT,dT⟩:=F.ex;intro s us KI hl;have sV:us.length=2:=by
  have:(us++[Value.none]).length=3:=hl;rw [bU] at this;exact Nat.succ.inj this
 match us,sV with
 | [u1,u2],_=>exact BindsTo.of_defaults rfl (KI T o lT) dT rfl rfl
structure GC (K:ba)(C:Addr):Prop where
 cls:Dd K C
 a1:dW K C "rules"
 a2:dW K C "strengths"
 a3:dW K C "begin_table"
 a4:dW K C "standings"
 a5:dW K C "small_trees"
def StrIn (K:ba)(H:Hp)(sv:V)(ss:List Addr)(str:List aw):Prop:=(sv=.fc/\ss=[]/\str=[])\/∃S,sv=.ref S/\aK K H S (ss.map V.ref)/\bL K H ss str
def RU (H0 H:Hp)(Cg g:Addr)(rs ss:List Addr)(bt:Addr):Prop:=∃gx fs R2 S2,H g=some (.ins Cg gx fs)/\fs.lookup ("rules":Str)=some (.ref R2)/\fs.lookup ("strengths":Str)=some (.ref S2)/\fs.lookup ("begin_table":Str)=some (.ref bt)/\fs.lookup ("start":Str)=none /\
 H R2=some (.lst (rs.map V.ref))/\H S2=some (.lst (ss.map V.ref))/\H0 R2=none/\H0 S2=none
def px (T1 T2 T3:Addr)(H H':Hp):Prop:=∀b o,b≠T1->b≠T2->b≠T3->H b=some o->H' b=some o
structure BK (T1 T2 T3:Addr)(H:Hp):Prop where
 t1:Tab T1 q0.2.2.2 yr H
 t2:Tab T2 zP.2.2.2 Ju H
 t3:Tab T3 posB GO H
 Jr:T1≠T2
 Jq:T1≠T3
 Jp:T2≠T3
theorem BK.same {T1 T2 T3:Addr}{H H':Hp}(h:BK T1 T2 T3 H)(s:aC H H'):BK T1 T2 T3 H':=⟨h.t1.same s,h.t2.same s,h.t3.same s,h.Jr,h.Jq,h.Jp⟩
def BK.DL {T1 T2 T3 a C dx:Addr}{H:Hp}{fs:List (Str×V)}{o:HO}(h:BK T1 T2 T3 H)(ha:H a=some (.ins C dx fs)):BK T1 T2 T3 (upd H a o):=⟨jX h.t1 ha,jX h.t2 ha,jX h.t3 ha,h.Jr,h.Jq,h.Jp⟩
def Kp.of3 {T1 T2 T3:Addr}{H H':Hp}(s:px T1 T2 T3 H H')(t:BK T1 T2 T3 H):Kp H H':=λc o hc hn=>by
 obtain⟨Q_,b1,_⟩:=t.t1;obtain⟨WW,b2,_⟩:=t.t2;obtain⟨ps3,b3,_⟩:=t.t3;exact s c o (λz=>by rw [z,b1] at hc;cases hc;exact hn _ rfl) (λz=>by rw [z,b2] at hc;cases hc;exact hn _ rfl) (λz=>by rw [z,b3] at hc;cases hc;exact hn _ rfl) hc
structure Dy (K:ba)(C:Addr)(H:Hp)(a:Addr)(aa:List aw)(aX:List (Str×Nat))(bh:List Be):Prop where
 ia:∃dx fs e1 bg,H a=some (.ins C dx fs)/\fs.lookup ("empties":Str)=some (.ref e1)/\fs.lookup ("begins":Str)=some (.ref bg)/\(∃ts,H e1=some (.lst (ts.map V.ref))/\nH K H ts aX) /\
  ∃ts,H bg=some (.lst (ts.map V.ref))/\Paired (λt (b:Be)=>aS K H t [.str b.1,.str b.2.1,.int (b.2.2.1:Int),.int (b.2.2.2:Int)]) ts bh
 emp:sO aa aX
 nu:su aa aa.length aX
 IL:sI aa (hd aa) (λz=>decide (z∈aX.map (·.1))) bh
 CY:Ax aa (hd aa) (λz=>decide (z∈aX.map (·.1))) aa.length bh
def Dy.mv {C a:Addr}{H H':Hp}{aa:List aw}{aX:List (Str×Nat)}{bh:List Be}(h:Dy K C H a aa aX bh)(k1:∀dx fs,H a=some (.ins C dx fs)->H' a=some (.ins C dx fs))(k2:∀b xs,H b=some (.lst xs)->H' b=some (.lst xs))(k3:∀b xs,aS K H b xs->aS K H' b xs):Dy K C H' a aa aX bh:=by
 obtain⟨dx,fs,e1,bg,q1,q2,q3,⟨t1,q4,q5⟩,t2,q6,q7⟩:=h.ia;exact⟨⟨dx,fs,e1,bg,k1 _ _ q1,q2,q3,⟨t1,k2 _ _ q4,q5.keep k3⟩,t2,k2 _ _ q6,Paired.di q7 λ_ _ z=>k3 _ _ z⟩,h.emp,h.nu,h.IL,h.CY⟩
def Dy.kp {C a:Addr}{H H':Hp}{aa:List aw}{aX:List (Str×Nat)}{bh:List Be}(h:Dy K C H a aa aX bh)(k:Kp H H'):Dy K C H' a aa aX bh:=h.mv (λ_ _ z=>k _ _ z (λ_ y=>by cases y)) (λ_ _ z=>k.lst z) λ_ _ z=>k.tup z
def Dy.same {C a:Addr}{H H':Hp}{aa:List aw}{aX:List (Str×Nat)}{bh:List Be}(h:Dy K C H a aa aX bh)(k:aC H H'):Dy K C H' a aa aX bh:=h.kp (Kp.of k)
def MC {C:Addr}{H0 H:Hp}{a e d bg:Addr}{kE:List (aL×V)}{aa:List aw}{aX:List (Str×Nat)}{ps:List (Str×Addr)}{bh:List Be}(h:sP K C H0 H a e d bg kE aX ps bh)(emp:sO aa aX)(nu:su aa aa.length aX)(IL:sI aa (hd aa) (λz=>decide (z∈aX.map (·.1))) bh)(CY:Ax aa (hd aa) (λz=>decide (z∈aX.map (·.1))) aa.length bh):Dy K C H a aa aX bh:=by
 obtain⟨dx,fs,q1,_,q3,_⟩:=h.ia;obtain⟨e1,t1,⟨Qf,sN,q4,q5⟩,q6,q7,_⟩:=h.em;obtain⟨t2,q8,q9⟩:=h.lb;rw [q1] at q4;cases q4;exact⟨⟨dx,fs,e1,bg,q1,q5,q3,⟨t1,q6,q7⟩,t2,q8,q9⟩,emp,nu,IL,CY⟩
def A0 (K:ba)(Cg C T1 T2 T3:Addr):Sp:=λvs H Q _=>∃(H0:Hp)(g gx R:Addr)(sv:V)(rs ss:List Addr)(aa str:List aw)(rk:Str->Nat)(b:Str->Int),vs=[.ref g,.ref R,sv]/\aC H0 H/\H0 g=none/\H g=some (.ins Cg gx [])/\aK K H0 R (rs.map V.ref)/\bL K H0 rs aa/\aa.length < 64/\(∀ru∈aa,ru.2.length<=8)/\aa≠[] /\
 StrIn K H0 sv ss str/\str.length<=1000/\(∀ru∈str,ru.2.length<=8)/\(str.flatMap (·.2)).Nodup/\Good aa rk b/\BK T1 T2 T3 H0 /\
 ∀(bt:Addr)(H':Hp),px T1 T2 T3 H0 H'->BK T1 T2 T3 H'->RU H0 H' Cg g rs ss bt->(∃aX bh,Dy K C H' bt aa aX bh)->Q .fc H'
def sP.DL {C:Addr}{H0 H:Hp}{a e d bg:Addr}{kE:List (aL×V)}{aX:List (Str×Nat)}{ps:List (Str×Addr)}{bh:List Be}{g Cg gx:Addr}{fs G6:List (Str×V)}(h:sP K C H0 H a e d bg kE aX ps bh)(hg:H0 g=some (.ins Cg gx fs))(na:a≠g) :
  sP K C (upd H0 g (.ins Cg gx G6)) (upd H g (.ins Cg gx G6)) a e d bg kE aX ps bh:=by
 have Iq:=h.sm _ _ hg;have up:∀c o,c≠g->H c=some o->upd H g (.ins Cg gx G6) c=some o:=λc o n q=>by rw [ak n];exact q
 refine⟨λc o hc=>?_,?_,up _ _ (λz=>by have:=h.he;rw [z,Iq] at this;cases this) h.he,up _ _ (λz=>by have:=h.hd;rw [z,Iq] at this;cases this) h.hd,h.n1,h.n2,λp hp=>?_,?_,?_,?_⟩
 .by_cases z:c=g
  .rw [z,ae] at hc ⊢;exact hc
  rw [ak z] at hc ⊢;exact h.sm _ _ hc
 .obtain⟨dx,fs,q,r⟩:=h.ia;exact⟨dx,fs,up _ _ na q,r⟩
 .obtain⟨⟨kvs,q,r⟩,t1,t2⟩:=h.dk p hp;exact⟨⟨kvs,up _ _ (λz=>by rw [z,Iq] at q;cases q) q,r⟩,by rw [ak (λz=>by rw [z,hg] at t1;cases t1)];exact t1,t2⟩
 .obtain⟨ts,q,r⟩:=h.lb;exact⟨ts,up _ _ (λz=>by rw [z,Iq] at q;cases q) q,Paired.di r λ_ _ z=>gI Iq z⟩
 .have t1:=h.fb;rw [ak (λz=>by rw [z,hg] at t1;cases t1)];exact t1
 obtain⟨e1,ts,⟨dx,fs,q1,q2⟩,q3,q4,q5⟩:=h.em;exact⟨e1,ts,⟨dx,fs,up _ _ na q1,q2⟩,up _ _ (λz=>by rw [z,Iq] at q3;cases q3) q3,q4.keep λ_ _ z=>gI Iq z,q5⟩
def Hr:aM ["self","rules","strengths"] ["self","rules","strengths"] (az vE):=jl rfl rfl rfl rfl nofun
def E8 {Cg C C3 T1 T2 T3 fB fL:Addr}{Yn Yk:FuncData}(F:Gw K "__init__" "Grammar.__init__" vE f fd)(T:Txt mg)(G:GC K Cg)(GR:aG P w K mg base 6 "refuse_faults" ["rules","strengths"] (qN K T1 T2))(GS:aG P w K mg base 6 "standings_by_part" ["rules"] (Jd K))
  (FB:bZ P w K mg base gw 5 fB Yn ["self","rules"] (A1 K C))(MB:Mk K C fB)(BB:Binds K Yn ["self","rules"] [])(mB:mg "BeginTable"=some (.ref C))
  (FL:bZ P w K mg base gw 5 fL Yk ["self","rules","begin_table"] (AZ K C C3 T1 T3))(ML:Mk K C3 fL)(BL:Binds K Yk ["self","rules","begin_table"] [])(mL:mg "LeastTrees"=some (.ref C3)):bZ P w K mg base gw 7 f fd ["self","rules","strengths"] (A0 K Cg C T1 T2 T3):=by
 refine F.ok Hr (λvs H Q E h=>?_) (λeY A outer s H vs Q E hr h=>?_)
 .obtain⟨H0,g,gx,R,sv,rs,ss,aa,str,rk,b,rfl,_⟩:=h;rfl
 obtain⟨H0,g,gx,R,sv,rs,ss,aa,str,rk,b,rfl,s0,f0,eg,hR,cV,bM,h8,Dj,yt,Uc,Uj,Ui,gd,UQ,q⟩:=h;refine⟨_,aj (gJ (pv 0) (bc iq rfl T.lst hZ (ab (pv 1) ai)) rfl)
  (aj (fk (gJ (pv 0) (xr (gr (K2 (pv 2))) (bY ai) (bc iq rfl T.lst hZ (ab (pv 2) ai))) rfl))
  (aj (b_ (bA GR hr rfl (ab (d0 (pv 0) rfl) (ab (d0 (pv 0) rfl) ai))))
  (aj (gJ (pv 0) (bA GS hr rfl (ab (d0 (pv 0) rfl) ai)) rfl)
  (aj (gJ (pv 0) (vO MB FB hr rfl mB BB .nil tX (ab (d0 (pv 0) rfl) ai)) rfl)
  (ao (gJ (pv 0) (vO ML FL hr rfl mL BL .nil tX (ab (d0 (pv 0) rfl) (ab (d0 (pv 0) rfl) ai))) rfl)))))),?_⟩
 nofun
 refine⟨_,rfl,R,_,rfl,.inl (s0.seq hR),λR2 G4=>?_⟩;have Vi:=af G4 (.lst (rs.map V.ref)) _ _ eg;have rM:upd H R2 (.lst (rs.map V.ref)) R2=some (.lst (rs.map V.ref)):=ae;have WQ:=s0.trans (af G4 (.lst (rs.map V.ref)));generalize upd H R2 (.lst (rs.map V.ref))=H1 at Vi rM WQ;refine⟨_,rfl,g,Cg,gx,[],rfl,Vi,G.cls,G.a1,(by show 0 < 1000;decide),?_⟩;generalize mW:dQ "rules" (.ref R2) []=sN;have Np:upd H1 g (.ins Cg gx sN) R2=some (.lst (rs.map V.ref)):=by rw [ak (λz=>by rw [z,Vi] at rM;cases rM)];exact rM
 have Ex:aC H0 (upd H1 g (.ins Cg gx sN)):=λc o hc=>by rw [ak (λz=>by rw [z,f0] at hc;cases hc)];exact WQ c o hc
 have RG:upd H1 g (.ins Cg gx sN) g=some (.ins Cg gx sN):=ae;generalize upd H1 g (.ins Cg gx sN)=H2 at Np Ex RG;refine⟨λσ H3=>σ=[aF g,aF R,some sv]/\∃S2 fs,aC H0 H3/\H3 g=some (.ins Cg gx fs)/\fs=dQ "strengths" (.ref S2) sN/\H3 R2=some (.lst (rs.map V.ref))/\H3 S2=some (.lst (ss.map V.ref))/\H0 S2=none,?_,?_⟩
 .have fin:∀S2,H2 S2=none->(λH3=>∃S2 fs,aC H0 H3/\H3 g=some (.ins Cg gx fs)/\fs=dQ "strengths" (.ref S2) sN/\H3 R2=some (.lst (rs.map V.ref))/\H3 S2=some (.lst (ss.map V.ref))/\H0 S2=none) (upd (upd H2 S2 (.lst (ss.map V.ref))) g (.ins Cg gx (dQ "strengths" (.ref S2) sN)))/\upd H2 S2 (.lst (ss.map V.ref)) g=some (.ins Cg gx sN):=λS2 JH=>by
   have sl:=af JH (.lst (ss.map V.ref));have eS:upd H2 S2 (.lst (ss.map V.ref)) S2=some (.lst (ss.map V.ref)):=ae;have P_:=sl _ _ RG;refine⟨⟨S2,_,λc o hc=>?_,ae,rfl,?_,?_,Ex.free JH⟩,P_⟩
   .rw [ak (λz=>by rw [z,f0] at hc;cases hc)];exact sl _ _ (Ex c o hc)
   .rw [ak (λz=>by rw [z,RG] at Np;cases Np)];exact sl _ _ Np
   rw [ak (λz=>by rw [z,RG] at JH;cases JH)];exact eS
  rcases yt with ⟨rfl,rfl,rfl⟩ | ⟨S,rfl,hS,Rl⟩
  .refine⟨_,rfl,_,rfl,?_⟩;refine zT ?_;refine⟨tI,λS2 JH=>?_⟩;obtain⟨x1,x2⟩:=fin S2 JH;exact⟨_,rfl,g,Cg,gx,sN,rfl,x2,G.cls,G.a2,(by rw [<-mW];show 1 < 1000;decide),rfl,x1⟩
  refine⟨_,rfl,_,rfl,?_⟩;refine gW ?_;refine⟨_,rfl,S,_,rfl,.inl (Ex.seq hS),λS2 JH=>?_⟩;obtain⟨x1,x2⟩:=fin S2 JH;exact⟨_,rfl,g,Cg,gx,sN,rfl,x2,G.cls,G.a2,(by rw [<-mW];show 1 < 1000;decide),rfl,x1⟩
 rintro σ H3 ⟨rfl,S2,G5,BY,P_,pJ,Yy,Yw,fS2⟩;have Xm:G5.lookup ("rules":Str)=some (.ref R2):=by rw [pJ,<-mW];rfl
 have Rg:G5.lookup ("strengths":Str)=some (.ref S2):=by rw [pJ,<-mW];rfl
 have Ue:bL K H3 ss str:=by
  rcases yt with ⟨_,rfl,rfl⟩ | ⟨S,_,_,Rl⟩
  .exact .nil
  exact Rl.same BY
 have yq:=UQ.same BY;refine⟨_,rfl,g,Cg,gx,G5,_,rfl,P_,G.cls,G.a1,Xm,_,rfl,g,Cg,gx,G5,_,rfl,P_,G.cls,G.a2,Rg,R2,S2,rs,ss,aa,str,rk,b,rfl,aK.of Yy,cV.same BY,∅,h8,Dj,aK.of Yw,Ue,Uc,Uj,Ui,gd,yq.t1,yq.t2,yq.Jr,λH4 Q5 WD WC=>?_⟩;have Ij:=Kp.of2 Q5 yq.t1 yq.t2;have t4:BK T1 T2 T3 H4:=⟨WD,WC,Tab.s2 yq.t3 Q5 yq.t1 yq.t2 yq.Jq.symm yq.Jp.symm,yq.Jr,yq.Jq,yq.Jp⟩;have S04:px T1 T2 T3 H0 H4:=λc o n1 n2 _ hc=>Q5 c o n1 n2 (BY c o hc);have YE:=Ij _ _ P_ (λ_ z=>by cases z);have Yx:=Ij.lst Yy;have es4:=Ij.lst Yw;have Pe:bL K H4 rs aa:=Ij.aa (cV.same BY);clear WD WC Q5 yq;refine⟨_,rfl,g,Cg,gx,G5,_,rfl,YE,G.cls,G.a1,Xm,R2,rs,aa,rfl,aK.of Yx,Pe,∅,h8,λds H5 fds xl=>?_⟩;have FZ:=xl _ _ YE;have er5:=xl _ _ Yx;have es5:=xl _ _ es4;have Um:=Pe.same xl;have t5:=t4.same xl;have S05:px T1 T2 T3 H0 H5:=λc o n1 n2 n3 hc=>xl _ _ (S04 c o n1 n2 n3 hc);refine⟨_,rfl,g,Cg,gx,G5,rfl,FZ,G.cls,G.a4,(by rw [pJ,<-mW];show 2 < 1000;decide),?_⟩;generalize v7:dQ "standings" (.ref ds) G5=yx;have Td:∀{Hx:Hp}{fx fy:List (Str×V)},Hx g=some (.ins Cg gx fx)->px T1 T2 T3 H0 Hx->px T1 T2 T3 H0 (upd Hx g (.ins Cg gx fy)):=λ{Hx fx fy} hg hs c o n1 n2 n3 hc=>by
  rw [ak (λz=>by rw [z,f0] at hc;cases hc)];exact hs c o n1 n2 n3 hc
 have Lh:∀{Hx:Hp}{fx fy:List (Str×V)}{b:Addr}{xs:List V},Hx g=some (.ins Cg gx fx)->Hx b=some (.lst xs)->upd Hx g (.ins Cg gx fy) b=some (.lst xs):=λ{Hx fx fy b xs} hg hb=>by
  rw [ak (λz=>by rw [z,hg] at hb;cases hb)];exact hb
 have Zr:=Td (fy:=yx) FZ S05;have Vd:=Lh (fy:=yx) FZ er5;have Yv:=Lh (fy:=yx) FZ es5;have LD:bL K (upd H5 g (.ins Cg gx yx)) rs aa:=Um.keep λ_ _ z=>gI FZ z;have t6:BK T1 T2 T3 (upd H5 g (.ins Cg gx yx)):=t5.DL FZ;have G7:upd H5 g (.ins Cg gx yx) g=some (.ins Cg gx yx):=ae;generalize upd H5 g (.ins Cg gx yx)=H6 at Zr Vd Yv LD t6 G7;have lk6:yx.lookup ("rules":Str)=some (.ref R2):=by rw [<-v7,pJ,<-mW];rfl
 refine⟨_,rfl,g,Cg,gx,yx,_,rfl,G7,G.cls,G.a1,lk6,λx dx hx hdx ndx=>?_⟩;have sx:aC H6 (upd (upd H6 dx (.own x)) x (.ins C dx [])):=(af hdx _).trans (af (by rw [ak ndx.symm];exact hx) _);refine⟨H6,x,dx,R2,rs,aa,rfl,sx,hx,ae,aK.of Vd,LD,∅,h8,λe d bg kE aX ps bh H7 S7 m7 emp nu _ IL CY=>⟨rfl,?_⟩⟩;have Nq:=S7.sm _ _ G7;have er7:=S7.sm _ _ Vd;have es7:=S7.sm _ _ Yv;have t7:=t6.same S7.sm;have Ul:=LD.same S7.sm;have S07:px T1 T2 T3 H0 H7:=λc o n1 n2 n3 hc=>S7.sm _ _ (Zr c o n1 n2 n3 hc);refine⟨_,rfl,g,Cg,gx,yx,rfl,Nq,G.cls,G.a3,(by rw [<-v7,pJ,<-mW];show 3 < 1000;decide),?_⟩;generalize z5:dQ "begin_table" (.ref x) yx=z_;have Zq:=Td (fy:=z_) Nq S07;have Vc:=Lh (fy:=z_) Nq er7;have Yu:=Lh (fy:=z_) Nq es7;have Pd:bL K (upd H7 g (.ins Cg gx z_)) rs aa:=Ul.keep λ_ _ z=>gI Nq z;have t8:BK T1 T2 T3 (upd H7 g (.ins Cg gx z_)):=t7.DL Nq;have RF:upd H7 g (.ins Cg gx z_) g=some (.ins Cg gx z_):=ae;have B8:sP K C (upd H6 g (.ins Cg gx z_)) (upd H7 g (.ins Cg gx z_)) x e d bg kE aX ps bh:=S7.DL G7 (λz=>by rw [z,G7] at hx;cases hx);generalize upd H7 g (.ins Cg gx z_)=H8 at Zq Vc Yu Pd t8 RF B8;have TJ:z_.lookup ("rules":Str)=some (.ref R2):=by rw [<-z5,<-v7,pJ,<-mW];rfl
 have lb8:z_.lookup ("begin_table":Str)=some (.ref x):=by rw [<-z5,<-v7,pJ,<-mW];rfl
 refine⟨_,rfl,g,Cg,gx,z_,_,rfl,RF,G.cls,G.a1,TJ,_,rfl,g,Cg,gx,z_,_,rfl,RF,G.cls,G.a3,lb8,λy dy hy hdy ndy=>?_⟩;have sy:aC H8 (upd (upd H8 dy (.own y)) y (.ins C3 dy [])):=(af hdy _).trans (af (by rw [ak ndy.symm];exact hy) _);have Lo:=IL.len ∅ h8;refine⟨H8,_,y,dy,R2,x,e,d,bg,rs,aa,kE,aX,ps,bh,rfl,sy,hy,ae,aK.of Vc,Pd,bM,h8,gd.least,B8,emp,Lo,t8.t1,t8.t3,t8.Jq,λH9 SJ Sw ZM=>⟨rfl,?_⟩⟩;have Ii:=Kp.of2 SJ t8.t1 t8.t3;have Mn:=Ii _ _ RF (λ_ z=>by cases z);have er9:=Ii.lst Vc;have es9:=Ii.lst Yu;have t9:BK T1 T2 T3 H9:=⟨Sw,Tab.s2 t8.t2 SJ t8.t1 t8.t3 t8.Jr.symm t8.Jp,ZM,t8.Jr,t8.Jq,t8.Jp⟩;have S09:px T1 T2 T3 H0 H9:=λc o n1 n2 n3 hc=>SJ _ _ n1 n3 (Zq c o n1 n2 n3 hc);refine⟨_,rfl,g,Cg,gx,z_,rfl,Mn,G.cls,G.a5,(by rw [<-z5,<-v7,pJ,<-mW];show 4 < 1000;decide),?_⟩;refine q x _ (Td Mn S09) (t9.DL Mn) ⟨gx,_,R2,S2,ae,?_,?_,?_,?_,Lh Mn er9,Lh Mn es9,s0.free G4,fS2⟩ ⟨aX,bh,?_⟩
 .rw [<-z5,<-v7,pJ,<-mW];rfl
 .rw [<-z5,<-v7,pJ,<-mW];rfl
 .rw [<-z5,<-v7,pJ,<-mW];rfl
 .rw [<-z5,<-v7,pJ,<-mW];rfl
 have nxg:x≠g:=λz=>by rw [z,G7] at hx;cases hx
 exact((MC B8 emp nu IL CY).kp Ii).mv (λ_ _ z=>by rw [ak nxg];exact z) (λ_ _ z=>Lh Mn z) λ_ _ z=>gI Mn z
end
def l_:List Str->Str->Nat
 | [],_=>0
 | a::r,x=>if a=x then 0 else l_ r x+1
theorem lR:∀(l:List Str)(x:Str),x∈l->l[l_ l x]?=some x
 | [],x,h=>by cases h
 | a::r,x,h=>by
  unfold l_;by_cases c:a=x
  .rw [ar c];exact congrArg some c
  rw [au c];rcases bR.mp h with e | e
  .exact absurd e.symm c
  rw [List.getElem?_cons_succ];exact lR r x e
theorem j9:∀(l:List Str)(x:Str) (i:Nat),x∈l.take i->l_ l x < i
 | [],x,i,h=>by simp at h
 | a::r,x,0,h=>by simp at h
 | a::r,x,i+1,h=>by
  unfold l_;by_cases c:a=x
  .rw [ar c];omega
  rw [au c];rw [qA] at h;rcases bR.mp h with e | e
  .exact absurd e.symm c
  have:=j9 r x i e;omega
def mC {l:List Str}{x:Str}{i:Nat}(h:x∈l.take i):∃j,j < i/\l[j]?=some x:=by
 obtain⟨j,hj⟩:=fU h;have lj:=(bj.mp hj).1;rw [dO] at lj;rw [u_ ∅] at hj;exact⟨j,∅,hj⟩
def um {aa:List aw}{ru:aw}(h:ru∈aa):ru.1∈hd aa:=(gZ _ _ _).mpr (.inr (iC h))
def JG {aa:List aw}{x:Str}(h:x∈hd aa):∃ru∈aa,ru.1=x:=by
 rcases (gZ _ _ _).mp h with h | h
 .cases h
 obtain⟨ru,a,b⟩:=bV.mp h;exact⟨ru,a,b⟩
def JQ {aa:List aw}{x:Str}(h:Em aa x):x∈hd aa:=by
 cases h with
 | mk h _=>exact um h
def Af {aa:List aw}{aX:List (Str×Nat)}(h:sO aa aX):∀y∈aX.map (·.1),Em aa y:=by
 induction h with
 | nil=>intro y hy;cases hy
 | @snoc aX k ru _ e _ p ih =>
  intro y hy;rw [bB] at hy;rcases cD.mp hy with h | h
  .exact ih y h
  rw [cO.mp h];exact .mk (cE e) λq hq=>ih q (p q hq)
def xI {b:Str->Bool}{zs:List Str}{i j:Nat}{x:Str}(h:Ie b zs j=true)(e:zs[i]?=some x)(n:i≠j):b x=true:=by
 cases hb:b x with
 | true=>rfl
 | false =>
  have li:=(bj.mp e).1;have m:((i:Nat):Int)∈CG b zs zs.length:=by
   unfold CG;exact bV.mpr ⟨i,gO.mpr ⟨iX.mpr li,by rw [e];show (!(b x))=true;rw [hb];rfl⟩,rfl⟩
  unfold Ie at h;rcases Bool.or_eq_true_iff.mp h with h | h
  .rw [<-cS h] at m;cases m
  rw [<-cS h] at m;have:=cO.mp m;omega
theorem AL {f:Str->Int}{c:Int}:∀(ps:List Str),(∀x∈ps,f x<=c)->(ps.map f).sum<=ps.length * c
 | [],_=>by simp
 | p::r,h=>by
  have h1:=AL r λx hx=>h x (bW _ hx);have h2:=h p bK;rw [cA,jO,dG];have:((r.length+1:Nat):Int) * c=(r.length:Int) * c+c:=by rw [Int.natCast_add,Int.add_mul];omega
  omega
structure QD (aa:List aw) (ns E M Pl:List Str):Prop where
 n3:ns.length<=3
 o_:∀ru∈aa,ru.1∈ns
 p3:∀ru∈aa,ru.2.length<=3
 eN:E.Nodup
 eNs:∀x∈E,x∈ns
 eO:∀(i:Nat)(h:Str),E[i]?=some h->∃cN,(h,cN)∈aa/\∀p∈cN,p∈E.take i\/p∉hd aa
 eA:∀h∈hd aa,h∈E
 mO:∀(i:Nat)(h:Str),M[i]?=some h->(∃gQ,aa[0]?=some gQ/\h=gQ.1)\/∃ru∈aa,ru.1∈M.take i/\h∈ru.2
 mA:∀h∈hd aa,h∈M
 lN:Pl.Nodup
 lNs:∀x∈Pl,x∈ns
 lO:∀(i:Nat)(h:Str),Pl[i]?=some h->∀ru∈aa,ru.1=h->∀(j:Nat)(z:Str),ru.2[j]?=some z->z∈hd aa->(∀(k:Nat)(y:Str),k≠j->ru.2[k]?=some y->Em aa y)->z∈Pl.take i
 lA:∀h∈hd aa,h∈Pl
def b3:Nat->Int
 | 0=>1
 | 1=>4
 | _=>13
def c3:Nat->Int
 | 0=>0
 | 1=>1
 | _=>4
def JY {i j:Nat}(hi:i < 3)(h:j < i):b3 j<=c3 i:=by
 have:∀i:Nat,i < 3->∀j:Nat,j < i->b3 j<=c3 i:=by decide
 exact this i hi j h
def Qm {i:Nat}:1+3 * c3 i=b3 i:=by
 match i with
 | 0=>rfl
 | 1=>rfl
 | _+2=>rfl
def JV {i:Nat}:0<=c3 i:=by
 match i with
 | 0=>decide
 | 1=>decide
 | _+2=>exact(by decide:(0:Int)<=4)
def Gb {i:Nat}:0<=b3 i/\b3 i<=60:=by
 match i with
 | 0=>decide
 | 1=>decide
 | _+2=>exact(by decide:(0:Int)<=13/\(13:Int)<=60)
def Jf {f:Str->Int}{i:Nat}{ps:List Str}(h3:ps.length<=3)(h:∀x∈ps,f x<=c3 i):1+(ps.map f).sum<=b3 i:=by
 have h1:=AL ps h;have h2:(ps.length:Int) * c3 i<=3 * c3 i:=Int.mul_le_mul_of_nonneg_right ∅ JV;have:=@Qm i;omega
def bP (Pl:List Str)(x:Str):Int:=if x∈Pl then b3 (l_ Pl x) else 0
def QD.good {aa:List aw}{ns E M Pl:List Str}(O:QD aa ns E M Pl):Good aa (l_ Pl) (bP Pl) where
 least g st se:=by
  have le3:E.length<=3:=ff (gy E ns O.eN O.eNs) O.n3;have aW:∀x,x∉hd aa->∀ru∈aa,x∈ru.2->g x=some 0:=by
   intro x nn ru gp hm;refine dI.keep (J:=λg=>g x=some 0) (λg Ht j h2 _=>?_) st ?_
   .show du g Ht.1 _ x=some 0;unfold du;have:x≠Ht.1:=λz=>nn (z ▸ um h2);rw [au this];exact j
   show v9 aa x=some 0;unfold v9;rw [ar (pR _ _ _ _ (.inr ⟨mi.mpr ⟨ru,gp,hm⟩,nn⟩))]
  have key:∀(n i:Nat),i < n->∀h:Str,E[i]?=some h->∃m,g h=some m/\m<=b3 i:=by
   intro n
   induction n with
   | zero=>intro i hi;omega
   | succ n ih =>
    intro i hi h e;have li:=(bj.mp e).1;obtain⟨ps,hm,hp⟩:=O.eO i h e;have hv:∀p∈ps,∃m,g p=some m/\m<=c3 i:=λp Fw=>by
     rcases hp p Fw with h1 | h1
     .obtain⟨j,lj,ej⟩:=mC h1;obtain⟨m,e1,e2⟩:=ih j ∅ p ej;exact⟨m,e1,nN e2 (JY ∅ lj)⟩
     exact⟨0,aW p h1 _ hm Fw,JV⟩
    have hs:=se _ hm;unfold cM at hs;have a1:jK g (h,ps)=true:=dN.mpr λp hp=>by obtain⟨m,e1,_⟩:=hv p hp;show (g p).isSome=true;rw [e1];rfl
    have s0:aH g (h,ps)<=b3 i:=by
     unfold aH;exact Jf (O.p3 _ hm) λp hp=>by obtain⟨m,e1,e2⟩:=hv p hp;show (g p).getD 0<=_;rw [e1];exact e2
    rw [a1,mf] at hs;cases gn:g h with
    | none=>rw [show g (h,ps).1=none from gn] at hs;cases hs
    | some m =>
     rw [show g (h,ps).1=some m from gn] at hs;refine⟨m,rfl,?_⟩;have:¬aH g (h,ps) < m:=by simpa [M11.bl] using hs
     omega
  intro h hh;obtain⟨i,hi⟩:=fU (O.eA h hh);obtain⟨m,e1,e2⟩:=key (i+1) i ∅ h hi;exact⟨m,e1,nN e2 Gb.2⟩
 met gQ ms e0 h0 mc:=by
  have key:∀(n i:Nat),i < n->∀h:Str,M[i]?=some h->h∈ms:=by
   intro n
   induction n with
   | zero=>intro i hi;omega
   | succ n ih =>
    intro i hi h e;rcases O.mO i h e with ⟨r0,e1,e2⟩ | ⟨ru,gp,h1,h2⟩
    .rw [e0] at e1;cases e1;rw [e2];exact h0
    obtain⟨j,lj,ej⟩:=mC h1;exact mc ru (by rw [cH];exact gp) (ih j ∅ _ ej) h h2
  intro h hh;obtain⟨i,hi⟩:=fU (O.mA h hh);exact key (i+1) i ∅ h hi
 loop:=by
  rintro aX emp nu n k j ⟨gQ,z0,e1,e2,e3,e4,e5⟩ ru z er ez;rw [er] at e1;obtain rfl:ru=gQ:=fQ e1;rw [ez] at e3;obtain rfl:z=z0:=fQ e3;have gp:=cE er;have hn:n∈Pl:=O.lA n (e2 ▸ um gp);refine j9 Pl z _ (O.lO _ n (lR Pl n hn) ru gp e2 j z ez e4 λk' y nk ey=>?_);have:=xI e5 ey nk;exact Af emp y (cS this)
 Qn:=by
  refine⟨λz=>?_,λru gp JF=>?_⟩
  .unfold bP
   split
   .exact Gb.1
   decide
  have hn:ru.1∈Pl:=O.lA _ (um gp);have li:=(bj.mp (lR Pl ru.1 hn)).1;have le3:Pl.length<=3:=ff (gy Pl ns O.lN O.lNs) O.n3;have e:bP Pl ru.1=b3 (l_ Pl ru.1):=ar hn;rw [e];refine Jf (O.p3 ru gp) λp hp=>?_;obtain⟨j,ej⟩:=fU hp;have ht:=O.lO _ ru.1 (lR Pl ru.1 hn) ru gp rfl j p ej (JQ (JF p hp)) λk' y _ ey=>JF y (cE ey);have e2:bP Pl p=b3 (l_ Pl p):=ar (qC ht);rw [e2];exact JY ∅ (j9 Pl p _ ht)
 most h hh:=by
  unfold bP
  split
  .exact Gb.2
  decide
end h_
namespace M11
open PySem
def dZ (aW:Bool) (a7 e:List Str)(ru:aw):List Str:=if ((ru.2.all λp=>decide (p∈e) || (aW && !decide (p∈a7))) && !decide (ru.1∈e))=true then e++[ru.1] else e
def gR (aW:Bool) (a7 e:List Str)(aa:List aw):List Str:=aa.foldl (dZ aW a7) e
def passes {α:Type}(f:α->α):Nat->α->α
 | 0,a=>a
 | n+1,a=>f (passes f n a)
def cI (aW:Bool)(aa:List aw):List Str:=passes (λe=>gR aW (aa.map (·.1)) e aa) aa.length []
structure EO (aW:Bool) (a7:List Str)(aa:List aw) (e:List Str):Prop where
 nd:e.Nodup
 ord:∀(i:Nat)(h:Str),e[i]?=some h->∃cN,(h,cN)∈aa/\∀p∈cN,p∈e.take i\/(aW=true/\p∉a7)
def EO.step {aW:Bool}{a7:List Str}{aa:List aw}{e:List Str}(h:EO aW a7 aa e){ru:aw}(hr:ru∈aa):EO aW a7 aa (dZ aW a7 e ru):=by
 unfold dZ
 split
 .rename_i c
  obtain⟨c1,c2⟩:=iZ.mp c;have c2':ru.1∉e:=by simpa using c2
  refine⟨jE.mpr ⟨h.nd,by simp,λa ha b hb z=>c2' (by rw [<-cO.mp hb,<-z];exact ha)⟩,λi x hx=>?_⟩;by_cases l:i < e.length
  .rw [mr l] at hx;obtain⟨cN,a,b⟩:=h.ord i x hx;refine⟨cN,a,λp hp=>?_⟩;rw [mw ∅];exact b p hp
  have li:=(bj.mp hx).1;rw [bU,ic] at li;have:i=e.length:=by omega
  subst this;rw [kM (aE _),nO] at hx;cases hx;refine⟨ru.2,hr,λp hp=>?_⟩;rw [mw (aE _),cH];have:=dN.mp c1 p hp;simp only [Bool.or_eq_true,decide_eq_true_eq,mh,Bool.not_eq_true',decide_eq_false_iff_not] at this;exact this
 exact h
theorem EO.pass {aW:Bool}{a7:List Str}{aa:List aw}:∀(rs:List aw){e:List Str},(∀ru∈rs,ru∈aa)->EO aW a7 aa e->EO aW a7 aa (rs.foldl (dZ aW a7) e)
 | [],_,_,h=>h
 | ru::rs,_,hs,h=>EO.pass rs (λr hr=>hs r (bW _ hr)) (h.step (hs ru bK))
def iJ (aW:Bool)(aa:List aw):EO aW (aa.map (·.1)) aa (cI aW aa):=by
 have:∀n,EO aW (aa.map (·.1)) aa (passes (λe=>gR aW (aa.map (·.1)) e aa) n []):=by
  intro n
  induction n with
  | zero=>exact⟨iN,λi h e=>by cases e⟩
  | succ n ih=>exact EO.pass aa (λ_ h=>h) ih
 exact this _
def tP (aW:Bool) (a7 e:List Str)(ru:aw):dZ aW a7 e ru=e\/e.length < (dZ aW a7 e ru).length:=by
 unfold dZ
 split
 .right;simp
 left;rfl
theorem xR (aW:Bool) (a7:List Str):∀(rs:List aw) (e:List Str),e.length<=(rs.foldl (dZ aW a7) e).length
 | [],_=>aE _
 | ru::rs,e=>by
  have h1:=xR aW a7 rs (dZ aW a7 e ru);have h2:=tP aW a7 e ru;show _<=(rs.foldl (dZ aW a7) (dZ aW a7 e ru)).length;rcases h2 with h | h
  .rw [h] at h1 ⊢;exact h1
  omega
theorem rF (aW:Bool) (a7:List Str):∀(rs:List aw) (e:List Str),(rs.foldl (dZ aW a7) e=e/\∀ru∈rs,dZ aW a7 e ru=e)\/e.length < (rs.foldl (dZ aW a7) e).length
 | [],_=>.inl ⟨rfl,λ_ h=>by cases h⟩
 | ru::rs,e=>by
  show (rs.foldl (dZ aW a7) (dZ aW a7 e ru)=e/\_)\/_ < (rs.foldl (dZ aW a7) (dZ aW a7 e ru)).length;rcases tP aW a7 e ru with h | h
  .rw [h];rcases rF aW a7 rs e with ⟨a,b⟩ | c
   .refine .inl ⟨a,λr hr=>?_⟩;rcases bR.mp hr with rfl | hr
    .exact h
    exact b r hr
   exact .inr c
  right;have:=xR aW a7 rs (dZ aW a7 e ru);omega
theorem iI:∀(l m:List Str),l.Nodup->(∀z∈l,z∈m)->l.length<=m.length
 | [],m,_,_=>g9 _
 | x::r,m,hn,hs=>by
  have hx:=hs x bK;have FA:=iB.mp hn;have:=iI r (m.erase x) FA.2 λz hz=>(List.mem_erase_of_ne (λe=>FA.1 (by rw [<-e];exact hz))).mpr (hs z (bW _ hz));rw [yG hx] at this;have:0 < m.length:=yC hx;rw [dG];omega
def EO.sub {aW:Bool}{a7:List Str}{aa:List aw}{e:List Str}(h:EO aW a7 aa e):∀x∈e,x∈aa.map (·.1):=λx hx=>by
 obtain⟨i,hi⟩:=fU hx;obtain⟨cN,a,_⟩:=h.ord i x hi;exact bV.mpr ⟨_,a,rfl⟩
def CJ (aW:Bool)(aa:List aw):∀ru∈aa,dZ aW (aa.map (·.1)) (cI aW aa) ru=cI aW aa:=by
 have eo:∀n,EO aW (aa.map (·.1)) aa (passes (λe=>gR aW (aa.map (·.1)) e aa) n []):=by
  intro n
  induction n with
  | zero=>exact⟨iN,λi h e=>by cases e⟩
  | succ n ih=>exact EO.pass aa (λ_ h=>h) ih
 have key:∀n,(passes (λe=>gR aW (aa.map (·.1)) e aa) (n+1) []=passes (λe=>gR aW (aa.map (·.1)) e aa) n []/\∀ru∈aa,dZ aW (aa.map (·.1)) (passes (λe=>gR aW (aa.map (·.1)) e aa) n []) ru=passes (λe=>gR aW (aa.map (·.1)) e aa) n [])\/n < (passes (λe=>gR aW (aa.map (·.1)) e aa) (n+1) []).length:=by
  intro n
  induction n with
  | zero =>
   rcases rF aW (aa.map (·.1)) aa [] with h | h
   .exact .inl h
   exact .inr h
  | succ n ih =>
   rcases ih with ⟨a,b⟩ | c
   .left;rw [show passes (λe=>gR aW (aa.map (·.1)) e aa) (n+1+1) []=gR aW (aa.map (·.1)) (passes (λe=>gR aW (aa.map (·.1)) e aa) (n+1) []) aa from rfl,a];exact⟨a,b⟩
   rcases rF aW (aa.map (·.1)) aa (passes (λe=>gR aW (aa.map (·.1)) e aa) (n+1) []) with h | h
   .exact .inl h
   right;have h2:(passes (λe=>gR aW (aa.map (·.1)) e aa) (n+1) []).length < (passes (λe=>gR aW (aa.map (·.1)) e aa) (n+1+1) []).length:=h;omega
 rcases key aa.length with ⟨_,b⟩ | c
 .exact b
 have e1:=eo (aa.length+1);have:=iI _ _ e1.nd e1.sub;rw [ax] at this;omega
def wb {aW:Bool}{aa:List aw}{ru:aw}(hr:ru∈aa)(h:∀p∈ru.2,p∈cI aW aa\/(aW=true/\p∉aa.map (·.1))):ru.1∈cI aW aa:=by
 have:=CJ aW aa ru hr;unfold dZ at this;by_cases c:ru.1∈cI aW aa
 .exact c
 rw [ar] at this
 .have:=congrArg List.length this;rw [bU] at this;simp at this
 refine iZ.mpr ⟨dN.mpr λp hp=>?_,by simpa using c⟩;simp only [Bool.or_eq_true,decide_eq_true_eq,mh,Bool.not_eq_true',decide_eq_false_iff_not];exact h p hp
def rO {aa:List aw}{x:Str}(h:Em aa x):x∈cI false aa:=by
 induction h with
 | mk hr _ ih=>exact wb hr λp hp=>.inl (ih p hp)
end M11
namespace h_
open PySem L2 M11
abbrev Et:Stmt:=top 41
abbrev y_:Stmt:=top 42
abbrev vv:Stmt:=top 43
abbrev vG:Stmt:=top 44
abbrev Eh:Stmt:=top 45
abbrev Ej:Stmt:=top 46
abbrev ze:Stmt:=top 47
abbrev Ep:Stmt:=top 49
abbrev Eo:Stmt:=top 50
abbrev Eg:Stmt:=top 48
def V2 {zs:List Str}{m:Int}(h:(zs.length:Int)=m)(hm:0 < m) (n:Int):∃z∈zs,r_ (zs.map V.str) (n % m)=some (.str z):=by
 subst h;have h1:=Int.emod_lt_of_pos n hm;have h2:=Int.emod_nonneg n (show (zs.length:Int)≠0 by omega);have l:(n % (zs.length:Int)).toNat < zs.length:=by omega
 have e:n % (zs.length:Int)=(((n % (zs.length:Int)).toNat:Nat):Int):=by omega
 refine⟨zs[(n % (zs.length:Int)).toNat],uN l,?_⟩;have t:r_ (zs.map V.str) (((n % (zs.length:Int)).toNat:Nat):Int)=some (.str zs[(n % (zs.length:Int)).toNat]):=dD (by rw [bq,cR l];rfl);rw [<-e] at t;exact t
def xp {α:Type}(i:Nat)(x y z:α):α:=match i with | 0=>x | 1=>y | _=>z
def OM {H:Hp}{L1 L2 L3 LL:Addr}{xs ys zs:List V}(h1:H L1=none)(h2:upd H L1 (.lst xs) L2=none)(h3:upd (upd H L1 (.lst xs)) L2 (.lst ys) L3=none)
  (h4:upd (upd (upd H L1 (.lst xs)) L2 (.lst ys)) L3 (.lst zs) LL=none):aC H (upd (upd (upd (upd H L1 (.lst xs)) L2 (.lst ys)) L3 (.lst zs)) LL (.lst [.ref L1,.ref L2,.ref L3]))/\∀i:Nat,i < 3->∃Li,r_ [V.ref L1,V.ref L2,V.ref L3] (i:Int)=some (.ref Li)/\H Li=none /\
   upd (upd (upd (upd H L1 (.lst xs)) L2 (.lst ys)) L3 (.lst zs)) LL (.lst [.ref L1,.ref L2,.ref L3]) Li=some (.lst (xp i xs ys zs)):=by
 have s1:=af h1 (.lst xs);have s2:=af h2 (.lst ys);have s3:=af h3 (.lst zs);have s4:=af h4 (.lst [.ref L1,.ref L2,.ref L3]);refine⟨s1.trans (s2.trans (s3.trans s4)),λi hi=>?_⟩
 match i,hi with
 | 0,_=>exact⟨L1,rfl,h1,s4 _ _ (s3 _ _ (s2 _ _ ae))⟩
 | 1,_=>exact⟨L2,rfl,s1.free h2,s4 _ _ (s3 _ _ ae)⟩
 | 2,_=>exact⟨L3,rfl,s1.free (s2.free h3),s4 _ _ ae⟩
def Bf (i:Nat):List Str:=xp i ["s","t","u","w","v"] ["b","aa","k","bb","e"] ["a","ab","n","d","aba"]
def QV (i:Nat):List Str:=xp i ["a","b","c"] ["ab","a","c"] ["b","+","ba"]
def Ia (i:Nat):xp i [V.str "s",V.str "t",V.str "u",V.str "w",V.str "v"] [V.str "b",V.str "aa",V.str "k",V.str "bb",V.str "e"] [V.str "a",V.str "ab",V.str "n",V.str "d",V.str "aba"]=(Bf i).map V.str:=by
 match i with
 | 0=>rfl
 | 1=>rfl
 | _+2=>rfl
def Hh (i:Nat):xp i [V.str "a",V.str "b",V.str "c"] [V.str "ab",V.str "a",V.str "c"] [V.str "b",V.str "+",V.str "ba"]=(QV i).map V.str:=by
 match i with
 | 0=>rfl
 | 1=>rfl
 | _+2=>rfl
def Ld (i:Nat):(Bf i).length=5:=by
 match i with
 | 0=>rfl
 | 1=>rfl
 | _+2=>rfl
def Ke (i:Nat):(QV i).length=3:=by
 match i with
 | 0=>rfl
 | 1=>rfl
 | _+2=>rfl
def Fe (i:Nat):∀z∈Bf i,z.length<=3:=by
 match i with
 | 0=>decide +kernel
 | 1=>decide +kernel
 | n+2=>exact(by decide +kernel:∀z∈Bf 2,z.length<=3)
def BZ {j:Nat}(h:j < 3):(vK "y" j).length<=2:=by
 match j,h with
 | 0,_=>decide +kernel
 | 1,_=>decide +kernel
 | 2,_=>decide +kernel
section
def cellAt (ns:List Int) (k:Nat):Int:=(ns[k]?).getD 0
def oq (K:ba):Sp:=λvs H Q _=>∃(a:Addr)(ns:List Int) (k:Nat),vs=[.ref a,.int (k:Int)]/\aK K H a (ns.map V.int)/\ns.length<=1000/\∀n:Int,n=cellAt ns k->Q (.int n) H
def Kv:aM ["_law_script","_law_k"] ["_law_script","_law_k"] (az Et):=jl rfl rfl rfl rfl nofun
def HY (F:iM K "_law_cell_at" "_law_cell_at" Et f fd)(T:Txt mg):bZ P w K mg base gw 1 f fd ["_law_script","_law_k"] (oq K):=by
 refine F.ok Kv (λvs H Q E h=>?_) (λeY A outer s H vs Q E hr h=>?_)
 .obtain⟨a,ns,k,rfl,_⟩:=h;rfl
 obtain⟨a,ns,k,rfl,hS,hn,q⟩:=h;refine⟨_,aj (b9 (a8 mT (pv 1) (aI a9 rfl T.len fw (ab (pv 0) ai)) (cg _)) (ao (bz (bD cZ (pv 0) (pv 1) (λ_ _=>rfl)))) aY) (ao (bz av)),?_⟩;refine⟨_,rfl,_,rfl,a,_,rfl,.inl hS,_,_,rfl,rfl,_,rfl,?_⟩;refine cu (λcc=>?_) (λcc=>q 0 ?_)
 rotate_left
 .have ge:¬((k:Int) < ((ns.map V.int).length:Int)):=λz=>cc (cC z);rw [ax] at ge;unfold cellAt;rw [u3 ∅];rfl
 have lt:=cS cc;rw [ax] at lt;have lt':k < ns.length:=by omega
 refine⟨_,rfl,_,rfl,a,_,_,.int ns[k],rfl,rfl,hS,dD (by rw [bq,cR lt'];rfl),q _ (by unfold cellAt;rw [cR lt'];rfl)⟩
def qO:Sp:=λvs H Q _=>∃(c:Int) (m:Nat)(S:Addr) (zs:List Str),vs=[.int c,.int (m:Int),.ref S]/\m<=100/\H S=some (.lst (zs.map V.str))/\0 < zs.length/\zs.length<=1000/\∀(p:Addr) (ps:List Str)(H':Hp),aC H H'->H' p=some (.tup (ps.map V.str))->ps.length=m->(∀x∈ps,x∈zs)->Q (.ref p) H'
def i5:aM ["_law_cell","_law_many","_law_some","_law_parts","_law_seed","_law_k"] ["_law_cell","_law_many","_law_some"] (az vG):=jl rfl rfl rfl rfl nofun
def Ce (F:iM K "_law_digits" "_law_digits" vG f fd)(T:Txt mg):bZ P w K mg base gw 1 f fd ["_law_cell","_law_many","_law_some"] qO:=by
 refine F.ok i5 (λvs H Q E h=>?_) (λeY A outer s H vs Q E hr h=>?_)
 .obtain⟨c,m,S,zs,rfl,_⟩:=h;rfl
 obtain⟨c,m,S,zs,rfl,hm,hS,hz0,hz1,q⟩:=h;refine⟨_,aj (aB (i:=3) i5.nd rfl (bo rfl) (bY ai))
  (aj (aB (i:=4) i5.nd rfl (bo rfl) (aN d5 (aN cX (pv 0) av) av))
  (aj (bS cf rfl (ix rfl T.EC (ab (pv 1) ai)) (aq (i:=5) i5.nd rfl (bo rfl))
   (ao (b9 (a8 EV (pv 0) av (cg _))
    (aj (b_ (f_ fV fX fY bE (pv 3) (ab (bD cZ (pv 2) (aN cX (aN ES (pv 0) av) (aI a9 rfl T.len fw (ab (pv 2) ai))) (λ_ _=>rfl)) ai)))
    (ao (aB (i:=0) i5.nd rfl (bo rfl) (aN dq (aN ES (pv 0) av) (aI a9 rfl T.len fw (ab (pv 2) ai))))))
    (aj (aB (i:=4) i5.nd rfl (bo rfl) (aN cX (aN K5 (pv 4) av) av))
    (ao (b_ (f_ fV fX fY bE (pv 3) (ab (bD cZ (pv 2) (aN cX (aN dq (pv 4) av) (aI a9 rfl T.len fw (ab (pv 2) ai))) (λ_ _=>rfl)) ai))))))))
  (ao (bz (bc iV rfl T.tup u7 (ab (pv 3) ai)))))),?_⟩
 have O6:(0:Int) < (zs.length:Int):=by omega
 refine⟨tI,λL hL=>?_⟩;have hS1:=af hL (.lst []) _ _ hS;have nS:S≠L:=λz=>by rw [z,hL] at hS;cases hS
 refine⟨_,rfl,_,_,rfl,rfl,(by show (0:Int) < 2147483647;decide),_,_,rfl,rfl,?_⟩;refine⟨_,rfl,(m:Int),rfl,∅,∅,?_⟩;rw [jQ m];refine iz (n:=m) (λi σ H2=>∃(c2 c4:Int)(k2:Option V) (ps:List Str),σ=[some (.int c2),some (.int (m:Int)),aF S,aF L,some (.int c4),k2]/\H2=upd H L (.lst (ps.map V.str))/\ps.length=i/\∀x∈ps,x∈zs) ⟨c,_,none,[],rfl,rfl,rfl,λ_ h=>(by cases h)⟩ ?_ ?_
 .rintro i σ H2 hi ⟨c2,c4,k2,ps,rfl,rfl,hp,Fw⟩;have eS:upd H L (.lst (ps.map V.str)) S=some (.lst (zs.map V.str)):=by rw [ak nS];exact hS
  refine goN ?_;refine⟨_,rfl,_,_,rfl,rfl,_,rfl,?_⟩;refine cu (λ_=>?_) (λ_=>?_)
  .obtain⟨z,O5,ez⟩:=V2 (zs:=zs) rfl O6 (c2 - 1);refine⟨_,rfl,.inl ⟨rfl,_,aK.of ae⟩,_,rfl,_,rfl,_,_,rfl,rfl,_,rfl,S,_,rfl,.inl (aK.of eS),_,_,rfl,rfl,(by rw [ax];exact O6),?_⟩;rw [ax];refine⟨S,_,_,_,rfl,rfl,aK.of eS,ez,L,_,_,rfl,rfl,ae,br (by rw [ax];omega),?_⟩;rw [mx];have eS2:upd H L (.lst (ps.map V.str++[.str z])) S=some (.lst (zs.map V.str)):=by rw [ak nS];exact hS
   refine⟨_,rfl,_,_,rfl,rfl,_,rfl,S,_,rfl,.inl (aK.of eS2),_,_,rfl,rfl,(by rw [ax];exact⟨O6,by show (zs.length:Int) < 1073741824;omega⟩),?_⟩;rw [ax];exact⟨_,_,_,ps++[z],rfl,by rw [bB];rfl,by rw [bU,hp];rfl,λx hx=>(cD.mp hx).elim (Fw x) λh=>(cO.mp h) ▸ O5⟩
  refine⟨_,rfl,_,_,rfl,rfl,.inr ⟨nofun,nofun⟩,_,_,rfl,rfl,(by show (0:Int) < 2147483647;decide),?_⟩;obtain⟨z,O5,ez⟩:=V2 (zs:=zs) rfl O6 (c4 * 48271 % 2147483647 / 3);refine⟨_,rfl,.inl ⟨rfl,_,aK.of ae⟩,_,rfl,_,rfl,_,_,rfl,rfl,⟨nofun,nofun⟩,_,rfl,S,_,rfl,.inl (aK.of eS),_,_,rfl,rfl,(by rw [ax];exact O6),?_⟩;rw [ax];refine⟨S,_,_,_,rfl,rfl,aK.of eS,ez,L,_,_,rfl,rfl,ae,br (by rw [ax];omega),?_⟩;rw [mx];exact⟨_,_,_,ps++[z],rfl,by rw [bB];rfl,by rw [bU,hp];rfl,λx hx=>(cD.mp hx).elim (Fw x) λh=>(cO.mp h) ▸ O5⟩
 rintro σ H2 ⟨c2,c4,k2,ps,rfl,rfl,hp,Fw⟩;refine⟨_,rfl,L,_,rfl,.inl ⟨aK.of ae,λp sU=>?_⟩⟩;exact q p ps _ ((af hL _).trans (af sU _)) ae hp Fw
def i3 (c:Int):Nat:=(c / 72 % 3).toNat
def j3 (c:Int):Nat:=(c / 3 % 3).toNat
def JC (c:Int):i3 c < 3/\c / 72 % 3=(i3 c:Int):=by unfold i3;omega
def OZ (c:Int):j3 c < 3/\c / 3 % 3=(j3 c:Int):=by unfold j3;omega
def gN (c:Int):List Str:=QV (i3 c)
def rA (c:Int):(gN c).length=3:=Ke _
def Ra (i j:Nat):List Str:=(Bf i).map λz=>z++vK "y" j
def Ff {i j:Nat}(hi:i < 3)(hj:j < 3):(Ra i j).Nodup/\∀x∈Ra i j,x∉QV i:=by
 match i,hi,j,hj with
 | 0,_,0,_=>decide +kernel
 | 0,_,1,_=>decide +kernel
 | 0,_,2,_=>decide +kernel
 | 1,_,0,_=>decide +kernel
 | 1,_,1,_=>decide +kernel
 | 1,_,2,_=>decide +kernel
 | 2,_,0,_=>decide +kernel
 | 2,_,1,_=>decide +kernel
 | 2,_,2,_=>decide +kernel
structure QF (c:Int) (nms:List Str):Prop where
 nd:nms.Nodup
 dj:∀x∈nms,x∉gN c
 one:1<=nms.length
 PY:nms.length<=5
def AX:Sp:=λvs H Q _=>∃(c:Int),vs=[.int c]/\∀(N:Addr) (nms:List Str)(H':Hp),H N=none->aC H H'->H' N=some (.lst (nms.map V.str))->QF c nms->Q (.ref N) H'
def pU:aM ["_law_cell","_law_some","_law_many"] ["_law_cell"] (az y_):=jl rfl rfl rfl rfl nofun
def E3 (F:iM K "_law_names" "_law_names" y_ f fd)(T:Txt mg):bZ P w K mg base gw 1 f fd ["_law_cell"] AX:=by
 refine F.ok pU (λvs H Q E h=>?_) (λeY A outer s H vs Q E hr h=>?_)
 .obtain⟨c,rfl,_⟩:=h;rfl
 obtain⟨c,rfl,q⟩:=h;refine⟨_,@aj _ _ _ _ _ (@aB _ _ 1 _ _ _ _ pU.nd rfl (bo rfl) (@bD _ _ _ _ _ _ _ cZ (@bY _ _ _ _ (@ab _ _ _ _ _ (@bY _ _ _ _ (@ab _ _ _ _ _ (@bI _ _ _ _) (@ab _ _ _ _ _ (@bI _ _ _ _) (@ab _ _ _ _ _ (@bI _ _ _ _) (@ab _ _ _ _ _ (@bI _ _ _ _) (@ab _ _ _ _ _ (@bI _ _ _ _) (@ai _) rfl) rfl) rfl) rfl) rfl)) (@ab _ _ _ _ _ (@bY _ _ _ _ (@ab _ _ _ _ _ (@bI _ _ _ _) (@ab _ _ _ _ _ (@bI _ _ _ _) (@ab _ _ _ _ _ (@bI _ _ _ _) (@ab _ _ _ _ _ (@bI _ _ _ _) (@ab _ _ _ _ _ (@bI _ _ _ _) (@ai _) rfl) rfl) rfl) rfl) rfl)) (@ab _ _ _ _ _ (@bY _ _ _ _ (@ab _ _ _ _ _ (@bI _ _ _ _) (@ab _ _ _ _ _ (@bI _ _ _ _) (@ab _ _ _ _ _ (@bI _ _ _ _) (@ab _ _ _ _ _ (@bI _ _ _ _) (@ab _ _ _ _ _ (@bI _ _ _ _) (@ai _) rfl) rfl) rfl) rfl) rfl)) (@ai _) rfl) rfl) rfl)) (aN cX (aN dq (pv 0) av) av) (λ_ _=>rfl)) rfl (.inr rfl))
  (aj (aB (i:=2) pU.nd rfl (bo rfl) (aN d5 av (aN cX (pv 0) av)))
  (aj (fk (b9 (a8 i_ (aN cX (aN dq (pv 0) av) av) av (cg _)) (ao (aB (i:=2) pU.nd rfl (bo rfl) av)) aY))
  (ao (bz (aV ["_law_name"] [(0,"_law_cell")] rfl (aQ (eG A3 (pv 1) gk (gi (pv 2)))) (aU rfl rfl) nofun rfl nofun
   (λ_ _ _ _ _=>aq (i:=0) (show (["_law_name","_law_cell"]:List Str).Nodup by decide +kernel) rfl (bo rfl)) (λ_ _ _ _ _=>bw)
   (λ_ _ _ _ _=>aN fh (pv 0) (aN HL bI (aN cX (aN dq (pv 1) av) av)))))))),?_⟩
 obtain⟨hi,ei⟩:=JC c;obtain⟨hj,ej⟩:=OZ c;refine⟨R8,λL1 h1=>⟨R8,λL2 h2=>⟨R8,λL3 h3=>⟨I8,λLL PL=>?_⟩⟩⟩⟩;obtain⟨s1,p1⟩:=OM h1 h2 h3 PL;obtain⟨Li,a1,f1,e1⟩:=p1 (i3 c) hi;rw [Ia] at e1;refine⟨_,rfl,_,_,rfl,rfl,⟨nofun,nofun⟩,_,_,rfl,rfl,(by show (0:Int) < 3;decide),?_⟩;refine⟨LL,_,(i3 c:Int),.ref Li,rfl,congrArg V.int ei,aK.of ae,a1,?_⟩;generalize upd (upd (upd (upd H L1 _) L2 _) L3 _) LL _=H1 at s1 e1;refine⟨_,rfl,_,_,rfl,rfl,(by show (0:Int) < 3;decide),_,_,rfl,rfl,?_⟩;refine⟨λσ H2=>∃m:Nat,1<=m/\m<=5/\σ=[some (.int c),aF Li,some (.int (m:Int))]/\H1=H2,?_,?_⟩
 .obtain⟨m,Dk,Nf,em⟩:∃m:Nat,1<=m/\m<=5/\1+c % 3=(m:Int):=⟨(1+c % 3).toNat,∅,∅,∅⟩;refine⟨_,rfl,_,_,rfl,rfl,⟨nofun,nofun⟩,_,_,rfl,rfl,(by show (0:Int) < 8;decide),rfl,_,rfl,?_⟩;refine cu (λ_=>?_) (λ_=>?_)
  .exact⟨5,nofun,nofun,rfl,rfl⟩
  exact⟨m,Dk,Nf,by show [some (V.int c),some (V.ref Li),some (V.int (1+c % 3))]=_;rw [em],rfl⟩
 rintro σ H1' ⟨m,Dk,Nf,rfl,rfl⟩;refine⟨_,rfl,_,rfl,_,rfl,Li,_,rfl,aK.of e1,λM hM=>?_⟩;have cut:ip ((Bf (i3 c)).map V.str) none (some (m:Int))=((Bf (i3 c)).take m).map V.str:=by
  unfold ip;rw [show HT.fI ((Bf (i3 c)).map V.str).length 0 none=0 from rfl,HT.pV,qp,Nat.sub_zero,ql,<-List.take_eq_take_min]
 rw [cut];have lt5:((Bf (i3 c)).take m).length=m:=by rw [dO,Ld];omega
 have Rm:∀z∈(Bf (i3 c)).take m,z.length<=3:=λz hz=>Fe (i3 c) z (qC hz);have Nd:(((Bf (i3 c)).take m).map λz=>z++vK "y" (j3 c)).Nodup/\∀x∈((Bf (i3 c)).take m).map λz=>z++vK "y" (j3 c),x∉gN c:=by
  have e:(((Bf (i3 c)).take m).map λz=>z++vK "y" (j3 c))=(Ra (i3 c) (j3 c)).take m:=by unfold Ra;rw [ql]
  rw [e];exact⟨(Ff hi hj).1.sublist (List.take_sublist _ _),λx hx=>(Ff hi hj).2 x (qC hx)⟩
 generalize (Bf (i3 c)).take m=zs at lt5 Rm Nd;have s2:=s1.trans (af hM (.lst (zs.map V.str)));have eM:upd H1 M (.lst (zs.map V.str)) M=some (.lst (zs.map V.str)):=ae;generalize upd H1 M (.lst (zs.map V.str))=H2 at s2 eM;refine⟨M,rfl,⟨_,aK.of eM⟩,λD hD=>b0 (xs:=zs.map V.str) (λk ys σ2 H3=>ys=((zs.map λz=>z++vK "y" (j3 c)).take k).map V.str/\(∃y0,σ2=[y0,some (.int c)])/\aC H2 H3/\H3 D=some (.lst ys))
    ⟨rfl,⟨none,rfl⟩,af hD _,ae⟩ (λk ys σ2 H3 _ h=>?_) (λk x ys σ2 H3 ex h=>?_) (λys σ2 H3 h=>?_)⟩
 .obtain⟨_,_,sm,_⟩:=h;exact aK.of (sm _ _ eM)
 .obtain⟨rfl,⟨y0,rfl⟩,sm,eD⟩:=h;have lk:=(bj.mp ex).1;rw [ax] at lk;rw [bq] at ex;obtain⟨z,ez,rfl⟩:=cq.mp ex;have hz:=Rm z (cE ez);have hy:=BZ hj;refine goN (wQ ?_);refine⟨_,rfl,_,rfl,_,_,rfl,rfl,⟨nofun,nofun⟩,_,_,rfl,rfl,(by show (0:Int) < 3;decide),?_⟩;have ly:("y":Str).length=1:=by decide +kernel
  refine⟨"y",j3 c,rfl,congrArg V.int ej,∅,ly,_,_,rfl,rfl,fits ∅,?_⟩;refine⟨eD,br (by rw [ax,dO];omega),?_,⟨_,rfl⟩,λb o hb=>?_,ae⟩
  .have:(zs.map λz=>z++vK "y" (j3 c))[k]?=some (z++vK "y" (j3 c)):=by rw [bq,ez];rfl
   rw [cQ,this,bB];rfl
  rw [ak (λz=>by rw [z,hD] at hb;cases hb)];exact sm b o hb
 obtain⟨rfl,_,sm,eD⟩:=h;rw [wR (by rw [ax,ax];exact aE _)] at eD;exact q D _ _ (s2.free hD) (s2.trans sm) eD ⟨Nd.1,Nd.2,by rw [ax];omega,by rw [ax];omega⟩
def w6:Sp:=λvs H Q _=>∃(c:Int),vs=[.int c]/\∀(N:Addr)(H':Hp),H N=none->aC H H'->H' N=some (.lst ((gN c).map V.str))->Q (.ref N) H'
def Ee:aM ["_law_cell"] ["_law_cell"] (az vv):=jl rfl rfl rfl rfl nofun
def B_ (F:iM K "_law_words" "_law_words" vv f fd)(T:Txt mg):bZ P w K mg base gw 1 f fd ["_law_cell"] w6:=by
 refine F.ok Ee (λvs H Q E h=>?_) (λeY A outer s H vs Q E hr h=>?_)
 .obtain⟨c,rfl,_⟩:=h;rfl
 obtain⟨c,rfl,q⟩:=h;refine⟨_,ao (bz (@bD _ _ _ _ _ _ _ cZ (@bY _ _ _ _ (@ab _ _ _ _ _ (@bY _ _ _ _ (@ab _ _ _ _ _ (@bI _ _ _ _) (@ab _ _ _ _ _ (@bI _ _ _ _) (@ab _ _ _ _ _ (@bI _ _ _ _) (@ai _) rfl) rfl) rfl)) (@ab _ _ _ _ _ (@bY _ _ _ _ (@ab _ _ _ _ _ (@bI _ _ _ _) (@ab _ _ _ _ _ (@bI _ _ _ _) (@ab _ _ _ _ _ (@bI _ _ _ _) (@ai _) rfl) rfl) rfl)) (@ab _ _ _ _ _ (@bY _ _ _ _ (@ab _ _ _ _ _ (@bI _ _ _ _) (@ab _ _ _ _ _ (@bI _ _ _ _) (@ab _ _ _ _ _ (@bI _ _ _ _) (@ai _) rfl) rfl) rfl)) (@ai _) rfl) rfl) rfl)) (aN cX (aN dq (pv 0) av) av) (λ_ _=>rfl))),?_⟩;obtain⟨hi,ei⟩:=JC c;refine⟨I8,λL1 h1=>⟨I8,λL2 h2=>⟨I8,λL3 h3=>⟨I8,λLL PL=>?_⟩⟩⟩⟩;obtain⟨s1,p1⟩:=OM h1 h2 h3 PL;obtain⟨Li,a1,f1,e1⟩:=p1 (i3 c) hi;rw [Hh] at e1;refine⟨_,rfl,_,_,rfl,rfl,⟨nofun,nofun⟩,_,_,rfl,rfl,(by show (0:Int) < 3;decide),?_⟩;refine⟨LL,_,(i3 c:Int),.ref Li,rfl,congrArg V.int ei,aK.of ae,a1,?_⟩;exact q Li _ f1 s1 e1
def DW (K:ba):Sp:=λvs H Q _=>∃(S N W:Addr)(ns:List Int) (at_ m:Nat) (nms ws:List Str),vs=[.ref S,.int (at_:Int),.ref N,.int (m:Int),.ref W]/\aK K H S (ns.map V.int)/\ns.length<=1000/\H N=some (.lst (nms.map V.str))/\H W=some (.lst (ws.map V.str))/\0 < nms.length/\nms.length<=5/\ws.length<=10/\m<=10 /\
 ∀(R:Addr)(rs:List Addr)(aa:List aw)(H':Hp),H R=none->aC H H'->H' R=some (.lst (rs.map V.ref))->bL K H' rs aa->aa.length=m->(∀ru∈aa,ru.1∈nms/\ru.2.length<=6/\∀x∈ru.2,x∈nms++ws)->Q (.ref R) H'
def k_:aM ["_law_script","_law_at","_law_names_here","_law_many","_law_words_here","_law_rules","_law_some","_law_k","_law_cell","_law_size"] ["_law_script","_law_at","_law_names_here","_law_many","_law_words_here"] (az Ej):=jl rfl rfl rfl rfl nofun
def HR (F:iM K "_law_more" "_law_more" Ej f fd)(T:Txt mg)(GC:aG P w K mg base 1 "_law_cell_at" ["_law_script","_law_k"] (oq K))(GD:aG P w K mg base 1 "_law_digits" ["_law_cell","_law_many","_law_some"] qO):bZ P w K mg base gw 2 f fd ["_law_script","_law_at","_law_names_here","_law_many","_law_words_here"] (DW K):=by
 refine F.ok k_ (λvs H Q E h=>?_) (λeY A outer s H vs Q E hr h=>?_)
 .obtain⟨S,N,W,ns,at_,m,nms,ws,rfl,_⟩:=h;rfl
 obtain⟨S,N,W,ns,at_,m,nms,ws,rfl,hS,hn,hN,hW,Rp,XT,hw1,hm,q⟩:=h;refine⟨_,aj (aB (i:=5) k_.nd rfl (bo rfl) (bY ai))
  (aj (aB (i:=6) k_.nd rfl (bo rfl) (aN oC (pv 2) (pv 4)))
  (aj (bS cf rfl (ix rfl T.EC (ab (pv 3) ai)) (aq (i:=7) k_.nd rfl (bo rfl))
   (aj (aB (i:=8) k_.nd rfl (bo rfl) (bA GC hr rfl (ab (pv 0) (ab (aN d5 (pv 1) (pv 7)) ai))))
   (aj (aB (i:=9) k_.nd rfl (bo rfl) (aN cX (aN dq (pv 8) av) av))
   (aj (fk (b9 (PW.pt (jw (a8 i_ (pv 7) av (cg _)) (ig (a8 i_ (aN cX (aN dq (pv 8) av) av) av (cg _))))) (ao (aB (i:=9) k_.nd rfl (bo rfl) (aN d5 av (aN cX (aN dq (pv 8) av) av)))) aY))
   (ao (b_ (f_ fV fX fY bE (pv 5) (ab (bC (ab (bD cZ (pv 2) (aN cX (aN cX (pv 8) av) (aI a9 rfl T.len fw (ab (pv 2) ai))) (λ_ _=>rfl))
    (ab (bA GD hr rfl (ab (aN dq (pv 8) av) (ab (pv 9) (ab (pv 6) ai)))) ai))) ai))))))))
  (ao (bz (pv 5))))),?_⟩
 refine⟨tI,λL hL=>?_⟩;have s1:=af hL (.lst []);have e1:upd H L (.lst []) L=some (.lst []):=ae;generalize upd H L (.lst [])=H1 at s1 e1;refine⟨_,rfl,_,rfl,N,W,_,_,rfl,rfl,s1 _ _ hN,s1 _ _ hW,fits (by rw [ax,ax];omega),λM hM=>?_⟩;rw [<-bB];have k2:=af hM (.lst ((nms++ws).map V.str));have s2:=s1.trans k2;have e2:=k2 _ _ e1;have m2:upd H1 M (.lst ((nms++ws).map V.str)) M=some (.lst ((nms++ws).map V.str)):=ae;have nM:M≠L:=λz=>by rw [z,e1] at hM;cases hM
 generalize upd H1 M (.lst ((nms++ws).map V.str))=H2 at k2 s2 e2 m2;refine⟨_,rfl,(m:Int),rfl,∅,∅,?_⟩;rw [jQ m];refine iz (n:=m) (λi σ H3=>∃(rs:List Addr)(aa:List aw)(y7 y8 y9:Option V),σ=[aF S,some (.int (at_:Int)),aF N,some (.int (m:Int)),aF W,aF L,aF M,y7,y8,y9]/\aC H H3/\H3 L=some (.lst (rs.map V.ref))/\H3 M=some (.lst ((nms++ws).map V.str))/\bL K H3 rs aa/\aa.length=i/\∀ru∈aa,ru.1∈nms/\ru.2.length<=6/\∀x∈ru.2,x∈nms++ws) ⟨[],[],none,none,none,rfl,s2,e2,m2,.nil,rfl,λ_ h=>by cases h⟩ ?_ ?_
 .rintro i σ H3 hi ⟨rs,aa,y7,y8,y9,rfl,s3,eL,eM,rl,hl,hf⟩;have lr:=a0 rl;refine goN ?_;refine⟨_,rfl,_,rfl,_,rfl,_,_,rfl,rfl,?_⟩;refine⟨S,ns,at_+i,(by show [V.ref S,V.int ((at_:Int)+(0+(i:Int)))]=_;congr 3;push_cast;omega),s3.seq hS,hn,λc _=>?_⟩;have XS:(0:Int) < (nms.length:Int):=by omega
  obtain⟨z,O5,ez⟩:=V2 (zs:=nms) rfl XS (c % 5);refine⟨_,rfl,_,_,rfl,rfl,⟨nofun,nofun⟩,_,_,rfl,rfl,(by show (0:Int) < 4;decide),?_⟩;refine⟨λσ H4=>∃d:Nat,d<=6/\H3=H4/\σ=[aF S,some (.int (at_:Int)),aF N,some (.int (m:Int)),aF W,aF L,aF M,some (.int (0+(i:Int))),some (.int c),some (.int (d:Int))],?_,?_⟩
  .obtain⟨d,hd,Bm⟩:∃d:Nat,c / 5 % 4=(d:Int)/\d<=6:=⟨(c / 5 % 4).toNat,∅,∅⟩;have no:∃d:Nat,d<=6/\H3=H3/\[some (V.ref S),some (.int (at_:Int)),aF N,some (.int (m:Int)),aF W,aF L,aF M,some (.int (0+(i:Int))),some (.int c),some (.int (c / 5 % 4))]=[some (V.ref S),some (.int (at_:Int)),aF N,some (.int (m:Int)),aF W,aF L,aF M,some (.int (0+(i:Int))),some (.int c),some (.int (d:Int))]:=⟨d,Bm,rfl,by rw [hd]⟩;refine⟨_,rfl,rfl,_,rfl,?_⟩;refine cu (λ_=>?_) (λ_=>no);refine⟨_,rfl,_,_,rfl,rfl,⟨nofun,nofun⟩,_,_,rfl,rfl,(by show (0:Int) < 8;decide),rfl,_,rfl,?_⟩;refine cu (λ_=>?_) (λ_=>no);obtain⟨e,he,he6⟩:∃e:Nat,4+c / 160 % 3=(e:Int)/\e<=6:=⟨(4+c / 160 % 3).toNat,∅,∅⟩;refine⟨_,rfl,_,_,rfl,rfl,⟨nofun,nofun⟩,_,_,rfl,rfl,(by show (0:Int) < 3;decide),_,_,rfl,rfl,?_⟩;exact⟨e,he6,rfl,by rw [<-he];rfl⟩
  rintro σ H3' ⟨d,hd6,rfl,rfl⟩;refine⟨_,rfl,.inl ⟨rfl,_,aK.of eL⟩,_,rfl,_,rfl,_,_,rfl,rfl,(by show (0:Int) < 5;decide),_,rfl,N,_,rfl,.inl (aK.of (s3 _ _ hN)),_,_,rfl,rfl,(by rw [ax];exact XS),?_⟩;rw [ax];refine⟨N,_,_,_,rfl,rfl,aK.of (s3 _ _ hN),ez,?_⟩;refine⟨_,rfl,_,_,rfl,rfl,⟨nofun,nofun⟩,_,rfl,_,rfl,?_⟩;refine⟨_,d,M,nms++ws,rfl,∅,eM,by rw [bU];omega,by rw [bU];omega,λp ps H4 s4 e4 l4 Fw=>⟨kN,λR hR=>?_⟩⟩;have k5:=s4.trans (af hR (.tup [.str z,.ref p]));have v1:aS K (upd H4 R (.tup [.str z,.ref p])) R [.str z,.ref p]:=aS.of ae;have v2:aS K (upd H4 R (.tup [.str z,.ref p])) p (ps.map V.str):=(af hR _).tup (aS.of e4);generalize upd H4 R (.tup [.str z,.ref p])=H5 at k5 v1 v2;have CL:=k5 _ _ eL;refine⟨L,_,_,rfl,rfl,CL,br (by rw [ax];omega),?_⟩;refine⟨rs++[R],aa++[(z,ps)],_,_,_,rfl,λb o hb=>?_,by rw [ae,bB];rfl,by rw [ak nM];exact k5 _ _ eM,fO (rl.keep λb xs z=>aP CL (k5.tup z)) ⟨p,aP CL v1,aP CL v2⟩,by rw [bU,hl];rfl,λru gp=>?_⟩
  .rw [ak (λz=>by rw [z,hL] at hb;cases hb)];exact k5 _ _ (s3 b o hb)
  rcases cD.mp gp with h | h
  .exact hf ru h
  rw [cO.mp h];exact⟨O5,by show ps.length<=6;omega,Fw⟩
 rintro σ H3 ⟨rs,aa,y7,y8,y9,rfl,s3,eL,eM,rl,hl,hf⟩;exact⟨_,rfl,q L rs aa H3 hL s3 eL rl hl hf⟩
def wA (ns ws:List Str) (a:Nat) (cN:List Str):Prop :=
 (∃n' wx,ns[a+1]?=some n'/\wx≠[]/\(∀x∈wx,x∈ws)/\wx.length<=2/\(cN=wx++[n']\/cN=n'::wx))\/(ns.length<=a+1/\(∀x∈cN,x∈ws)/\cN.length<=2)
def F7 (l:List Str)(n:Str):ip ((l++[n]).map V.str) (some (-1)) none=[V.str n]:=by
 unfold ip;have h1:HT.fI ((l++[n]).map V.str).length 0 (some (-1))=l.length:=by
  rw [ax,bU,ic];show (if (-1:Int) < 0 then ((-1:Int)+((l.length+1:Nat):Int)).toNat else min (-1:Int).toNat (l.length+1))=l.length;rw [ar nofun];omega
 rw [h1,HT.mN,<-List.map_drop,List.drop_append_of_le_length (aE _),List.drop_length,qe];rw [ax,bU,ic,show l.length+1 - l.length=1 by omega];rfl
def F8 (l:List Str)(n:Str):ip ((l++[n]).map V.str) none (some (-1))=l.map V.str:=by
 unfold ip;have h1:HT.fI ((l++[n]).map V.str).length ((l++[n]).map V.str).length (some (-1))=l.length:=by
  rw [ax,bU,ic];show (if (-1:Int) < 0 then ((-1:Int)+((l.length+1:Nat):Int)).toNat else min (-1:Int).toNat (l.length+1))=l.length;rw [ar nofun];omega
 rw [h1,HT.mN,qp,Nat.sub_zero,<-ql,mw (aE _),cH]
def DU (K:ba):Sp:=λvs H Q _=>∃(S N W:Addr)(ns:List Int) (at_:Nat) (nms ws:List Str),vs=[.ref S,.int (at_:Int),.ref N,.ref W]/\aK K H S (ns.map V.int)/\ns.length<=1000/\H N=some (.lst (nms.map V.str))/\H W=some (.lst (ws.map V.str))/\0 < nms.length/\nms.length<=5/\0 < ws.length/\ws.length<=10 /\
 ∀(R:Addr)(rs:List Addr)(aa:List aw)(H':Hp),H R=none->aC H H'->H' R=some (.lst (rs.map V.ref))->bL K H' rs aa->aa.length=nms.length->(∀(j:Nat)(ru:aw),aa[j]?=some ru->nms[j]?=some ru.1/\wA nms ws j ru.2)->Q (.ref R) H'
def k0:aM ["_law_script","_law_at","_law_names_here","_law_words_here","_law_rules","_law_k","_law_cell","_law_parts"] ["_law_script","_law_at","_law_names_here","_law_words_here"] (az Eh):=jl rfl rfl rfl rfl nofun
def HP (F:iM K "_law_skeleton" "_law_skeleton" Eh f fd)(T:Txt mg)(GC:aG P w K mg base 1 "_law_cell_at" ["_law_script","_law_k"] (oq K))(GD:aG P w K mg base 1 "_law_digits" ["_law_cell","_law_many","_law_some"] qO):bZ P w K mg base gw 2 f fd ["_law_script","_law_at","_law_names_here","_law_words_here"] (DU K):=by
 refine F.ok k0 (λvs H Q E h=>?_) (λeY A outer s H vs Q E hr h=>?_)
 .obtain⟨S,N,W,ns,at_,nms,ws,rfl,_⟩:=h;rfl
 obtain⟨S,N,W,ns,at_,nms,ws,rfl,hS,hn,hN,hW,Rp,XT,XE,hw1,q⟩:=h;refine⟨_,aj (aB (i:=4) k0.nd rfl (bo rfl) (bY ai))
  (aj (bS cf rfl (ix rfl T.EC (ab (aI a9 rfl T.len fw (ab (pv 2) ai)) ai)) (aq (i:=5) k0.nd rfl (bo rfl))
   (aj (aB (i:=6) k0.nd rfl (bo rfl) (bA GC hr rfl (ab (pv 0) (ab (aN d5 (pv 1) (pv 5)) ai))))
   (aj (aB (i:=7) k0.nd rfl (bo rfl) (bA GD hr rfl (ab (aN dq (pv 6) av) (ab (aN cX (pv 6) av) (ab (pv 3) ai)))))
   (aj (fk (b9 (a8 mT (aN d5 (pv 5) av) (aI a9 rfl T.len fw (ab (pv 2) ai)) (cg _))
    (aj (aB (i:=7) k0.nd rfl (bo rfl) (aN vP (bA GD hr rfl (ab (aN dq (pv 6) av) (ab (aN d5 av (aN cX (pv 6) av)) (ab (pv 3) ai)))) (bC (ab (bD cZ (pv 2) (aN d5 (pv 5) av) (λ_ _=>rfl)) ai))))
    (ao (b9 (a8 i_ (aN cX (aN dq (pv 6) av) av) av (cg _))
     (ao (aB (i:=7) k0.nd rfl (bo rfl) (aN vP (eG ie (pv 7) (gi (xq qI av)) gk) (eG ie (pv 7) gk (gi (xq qI av)))))) aY))) aY))
   (ao (b_ (f_ fV fX fY bE (pv 4) (ab (bC (ab (bD cZ (pv 2) (pv 5) (λ_ _=>rfl)) (ab (pv 7) ai))) ai))))))))
  (ao (bz (pv 4)))),?_⟩
 nofun
 refine⟨tI,λL hL=>?_⟩;have s1:=af hL (.lst []);have e1:upd H L (.lst []) L=some (.lst []):=ae;generalize upd H L (.lst [])=H1 at s1 e1;refine⟨_,rfl,N,_,rfl,.inl (aK.of (s1 _ _ hN)),((nms.map V.str).length:Int),rfl,by rw [ax];omega,by rw [ax];omega,?_⟩;rw [ax,jQ];refine iz (n:=nms.length) (λi σ H3=>∃(rs:List Addr)(aa:List aw)(y5 y6 y7:Option V),σ=[aF S,some (.int (at_:Int)),aF N,aF W,aF L,y5,y6,y7]/\aC H H3/\H3 L=some (.lst (rs.map V.ref))/\bL K H3 rs aa/\aa.length=i/\∀(j:Nat)(ru:aw),aa[j]?=some ru->nms[j]?=some ru.1/\wA nms ws j ru.2) ⟨[],[],none,none,none,rfl,s1,e1,.nil,rfl,λj ru e=>by cases e⟩ ?_ ?_
 .intro i σ H3 hi sW
  ac_nf0
  obtain⟨rs,aa,y5,y6,y7,rfl,s3,eL,rl,hl,hf⟩:=sW;have lr:=a0 rl;obtain⟨nm,Nd⟩:∃nm,nms[i]?=some nm:=⟨nms[i],cR hi⟩;have atn:r_ (nms.map V.str) (0+(i:Int))=some (.str nm):=by
   rw [me];exact dD (by rw [bq,Nd];rfl)
  refine goN ?_
  ac_rfl
  refine⟨_,rfl,_,rfl,_,rfl,_,_,rfl,rfl,?_⟩;refine⟨S,ns,at_+i,(by show [V.ref S,V.int ((at_:Int)+(0+(i:Int)))]=_;congr 3;push_cast;omega),s3.seq hS,hn,λc _=>?_⟩;obtain⟨d,hd⟩:∃d:Nat,c % 3=(d:Int):=⟨(c % 3).toNat,∅⟩;refine⟨_,rfl,_,_,rfl,rfl,⟨nofun,nofun⟩,_,rfl,_,_,rfl,rfl,(by show (0:Int) < 3;decide),_,rfl,?_⟩;refine⟨_,d,W,ws,(by show [_,V.int (c % 3),_]=_;rw [hd]),∅,s3 _ _ hW,XE,∅,λp ps H4 s4 e4 l4 Fw=>?_⟩;have xm:=s3.trans s4;have Nt:=s4 _ _ eL;have Q7:=rl.same s4;refine⟨λσ H5=>∃(p5:Addr) (cN:List Str),σ=[aF S,some (.int (at_:Int)),aF N,aF W,aF L,some (.int (0+(i:Int))),some (.int c),aF p5]/\aC H4 H5/\aS K H5 p5 (cN.map V.str)/\wA nms ws i cN,?_,?_⟩
  .refine⟨_,rfl,_,_,rfl,rfl,_,rfl,N,_,rfl,.inl (aK.of (xm _ _ hN)),_,_,rfl,rfl,_,rfl,?_⟩;refine cu (λcc=>?_) (λcc=>?_)
   .have lt:=cS cc;rw [ax] at lt;have lt':i+1 < nms.length:=by omega
    obtain⟨n',Bk⟩:∃n',nms[i+1]?=some n':=⟨nms[i+1],cR lt'⟩;have V1:r_ (nms.map V.str) (0+(i:Int)+1)=some (.str n'):=by
     rw [me,show (i:Int)+1=((i+1:Nat):Int) by push_cast;rfl];exact dD (by rw [bq,Bk];rfl)
    obtain⟨d2,hd2⟩:∃d2:Nat,1+c % 2=(d2:Int):=⟨(1+c % 2).toNat,∅⟩;refine⟨_,rfl,_,_,rfl,rfl,⟨nofun,nofun⟩,_,rfl,_,_,rfl,rfl,(by show (0:Int) < 2;decide),_,_,rfl,rfl,_,rfl,?_⟩;refine⟨_,d2,W,ws,(by show [_,V.int (1+c % 2),_]=_;rw [hd2]),∅,xm _ _ hW,XE,∅,λp6 wx H6 s6 e6 l6 Xz=>?_⟩;have Ew:=xm.trans s6;refine⟨_,rfl,_,rfl,_,_,rfl,rfl,N,_,_,_,rfl,rfl,aK.of (Ew _ _ hN),V1,I9,λu hu=>?_⟩;have k7:=af hu (.tup [V.str n']);refine⟨p6,u,_,_,rfl,rfl,k7.tup (aS.of e6),aS.of ae,(by rw [ax];show wx.length+1<=sizeLine;exact fits ∅),λp8 H8 s8 e8=>?_⟩;have VA:aS K H8 p8 ((wx++[n']).map V.str):=by rw [bB];exact e8
    have M3:=s6.trans (k7.trans s8);have QU:wx≠[]:=λz=>by rw [z] at l6;simp at l6;omega
    refine⟨_,rfl,_,_,rfl,rfl,⟨nofun,nofun⟩,_,_,rfl,rfl,(by show (0:Int) < 2;decide),rfl,_,rfl,?_⟩;refine cu (λc2=>?_) (λc2=>?_)
    .refine⟨_,rfl,_,rfl,_,rfl,p8,_,rfl,VA,λp9 H9 s9 e9=>?_⟩;rw [F7] at e9;refine⟨_,rfl,_,rfl,_,rfl,p8,_,rfl,s9.tup VA,λpA HA sA eA=>?_⟩;rw [F8] at eA;refine⟨p9,pA,_,_,rfl,rfl,sA.tup e9,eA,(by rw [ax];show 1+wx.length<=sizeLine;exact fits ∅),λpB HB sB eB=>?_⟩;exact⟨pB,n'::wx,rfl,M3.trans (s9.trans (sA.trans sB)),eB,.inl ⟨n',wx,Bk,QU,Xz,∅,.inr rfl⟩⟩
    exact⟨p8,wx++[n'],rfl,M3,VA,.inl ⟨n',wx,Bk,QU,Xz,∅,.inl rfl⟩⟩
   have ge:¬(0+(i:Int)+1 < ((nms.map V.str).length:Int)):=λz=>cc (cC z);rw [ax] at ge;exact⟨p,ps,rfl,aC.refl _,aS.of e4,.inr ⟨∅,Fw,∅⟩⟩
  rintro σ H5 ⟨p5,cN,rfl,s5,e5,sk⟩;have A5:=xm.trans s5;have CL:=s5 _ _ Nt;refine⟨_,rfl,.inl ⟨rfl,_,aK.of CL⟩,_,rfl,_,rfl,N,_,_,_,rfl,rfl,aK.of (A5 _ _ hN),atn,_,rfl,kN,λR hR=>?_⟩;have k6:=af hR (.tup [.str nm,.ref p5]);have v1:aS K (upd H5 R (.tup [.str nm,.ref p5])) R [.str nm,.ref p5]:=aS.of ae;have v2:=k6.tup e5;generalize upd H5 R (.tup [.str nm,.ref p5])=H6 at k6 v1 v2;have RK:=k6 _ _ CL;refine⟨L,_,_,rfl,rfl,RK,br (by rw [ax];omega),?_⟩;refine⟨rs++[R],aa++[(nm,cN)],_,_,_,rfl,λb o hb=>?_,by rw [ae,bB];rfl,fO ((Q7.same (s5.trans k6)).keep λb xs z=>aP RK z) ⟨p5,aP RK v1,aP RK v2⟩,by rw [bU,hl];rfl,λj ru e=>?_⟩
  .rw [ak (λz=>by rw [z,hL] at hb;cases hb)];exact k6 _ _ (A5 b o hb)
  by_cases cj:j < aa.length
  .rw [mr cj] at e;exact hf j ru e
  have lj:=(bj.mp e).1;rw [bU,ic] at lj;have ej:j=aa.length:=by omega
  subst ej;rw [kM (aE _),nO] at e;cases e;rw [hl];exact⟨Nd,sk⟩
 rintro σ H3 ⟨rs,aa,y5,y6,y7,rfl,s3,eL,rl,hl,hf⟩;exact⟨_,rfl,q L rs aa H3 hL s3 eL rl hl hf⟩
end
end h_
namespace L2
open PySem
def iT {X:Cx}(K:ba)(hK:X.K=K:=by rfl):jM X (compareOp .NotIn) (Q9 K true):=by
 subst hK;exact ik
def de (h:Str) (zs:List Str):Ly (.str h) (zs.map V.str)=decide (h∈zs):=by
 have:Ly (.str h) (zs.map V.str)=true↔h∈zs:=by
  unfold Ly;rw [List.any_eq_true];constructor
  .rintro⟨x,h1,h2⟩;obtain⟨z,hz,rfl⟩:=bV.mp h1;have:z=h:=by simpa [uw] using h2
   rw [<-this];exact hz
  intro hm;exact⟨.str h,bV.mpr ⟨h,hm,rfl⟩,by simp [uw]⟩
 by_cases c:h∈zs
 .rw [cC c];exact this.mpr c
 rw [fA c];cases e:Ly (.str h) (zs.map V.str) with
 | false=>rfl
 | true=>exact absurd (this.mp e) c
def bO (zs:List Str):(zs.map V.str).all jk=true:=by
 rw [dN];intro x hx;obtain⟨z,_,rfl⟩:=bV.mp hx;rfl
section
variable {K:ba}{H:Hp}{p D:Addr}{zs:List Str}{σ:St}{x:Str}{js:List (Nat×Str)}{te:TE}{Qp:Hp->Prop}
def gA (rest:St)(pr:Str->Bool)(hc:dJ [x] js σ=none::rest)(hp:aS K H p (zs.map V.str))(hz:zs.length<=1000)(hD:H D=none)
  (O8:∀z∈zs,∀(H':Hp)(Qy:VK),aC H H'->Qy (.bl (pr z)) H'->te (some (.str z)::rest) H' Qy)
  (q:∀H2,aC H H2->H2 D=some (.lst ((zs.map pr).map V.bl))->Qp H2) :
  ∃W:Nat->Nat->List V->St->Hp->Prop,(∃m,W 0 m [] (dJ [x] js σ) (upd H D (.lst []))) /\
 ∀i m ys σ' H,W i m ys σ' H->((nF K p).stop i H/\Qp H)\/((nF K p).go i H/\∃m',m' < m/\∀x H',(nF K p).kX i H x H'->dB 0 x σ' H' λσ2 H2=>gP σ2 H2 λb H3 =>
  if b=true then te σ2 H3 λy H4=>H4 D=some (.lst ys)/\ys.length < sizeLine/\W (i+1) m' (ys++[y]) σ2 (upd H4 D (.lst (ys++[y]))) else W (i+1) m' ys σ2 H3):=by
 refine gB (xs:=zs.map V.str) (λi ys σ2 H2=>ys=((zs.take i).map pr).map V.bl/\(∃y0,σ2=y0::rest)/\aC H H2/\H2 D=some (.lst ys))
  ⟨rfl,⟨none,hc⟩,af hD _,ae⟩ (λi ys σ2 H2 _ h=>?_) (λi v ys σ2 H2 ex h=>?_) (λys σ2 H2 h=>?_)
 .obtain⟨_,_,sm,_⟩:=h;exact sm.tup hp
 .obtain⟨rfl,⟨y0,rfl⟩,sm,hd⟩:=h;rw [bq] at ex;obtain⟨z,ez,rfl⟩:=cq.mp ex;have li:=(bj.mp ez).1;refine goN (wQ (O8 z (cE ez) _ _ sm ⟨hd,br (by rw [ax,ax,dO];omega),?_,⟨_,rfl⟩,λb o hb=>?_,ae⟩))
  .rw [cQ,ez,bB,bB];rfl
  rw [ak (λz=>by rw [z,hD] at hb;cases hb)];exact sm b o hb
 obtain⟨rfl,_,sm,hd⟩:=h;rw [ax,cH] at hd;exact q H2 sm hd
def ph (rest:St)(pr:Str->Bool)(hc:dJ [x] js σ=none::rest)(hp:aK K H p (zs.map V.str))(hz:zs.length<=1000)(hD:H D=none)
  (O8:∀z∈zs,∀(H':Hp)(Qy:VK),aC H H'->Qy (.bl (pr z)) H'->te (some (.str z)::rest) H' Qy)
  (q:∀H2,aC H H2->H2 D=some (.lst ((zs.map pr).map V.bl))->Qp H2) :
  ∃W:Nat->Nat->List V->St->Hp->Prop,(∃m,W 0 m [] (dJ [x] js σ) (upd H D (.lst []))) /\
 ∀i m ys σ' H,W i m ys σ' H->((jn K p).stop i H/\Qp H)\/((jn K p).go i H/\∃m',m' < m/\∀x H',(jn K p).kX i H x H'->dB 0 x σ' H' λσ2 H2=>gP σ2 H2 λb H3 =>
  if b=true then te σ2 H3 λy H4=>H4 D=some (.lst ys)/\ys.length < sizeLine/\W (i+1) m' (ys++[y]) σ2 (upd H4 D (.lst (ys++[y]))) else W (i+1) m' ys σ2 H3):=by
 refine b0 (xs:=zs.map V.str) (λi ys σ2 H2=>ys=((zs.take i).map pr).map V.bl/\(∃y0,σ2=y0::rest)/\aC H H2/\H2 D=some (.lst ys))
  ⟨rfl,⟨none,hc⟩,af hD _,ae⟩ (λi ys σ2 H2 _ h=>?_) (λi v ys σ2 H2 ex h=>?_) (λys σ2 H2 h=>?_)
 .obtain⟨_,_,sm,_⟩:=h;exact sm.seq hp
 .obtain⟨rfl,⟨y0,rfl⟩,sm,hd⟩:=h;rw [bq] at ex;obtain⟨z,ez,rfl⟩:=cq.mp ex;have li:=(bj.mp ez).1;refine goN (wQ (O8 z (cE ez) _ _ sm ⟨hd,br (by rw [ax,ax,dO];omega),?_,⟨_,rfl⟩,λb o hb=>?_,ae⟩))
  .rw [cQ,ez,bB,bB];rfl
  rw [ak (λz=>by rw [z,hD] at hb;cases hb)];exact sm b o hb
 obtain⟨rfl,_,sm,hd⟩:=h;rw [ax,cH] at hd;exact q H2 sm hd
end
theorem all_map (zs:List Str)(pr:Str->Bool):(zs.map pr).all id=zs.all pr:=by
 rw [List.all_map];rfl
end L2
namespace h_
open PySem M11
abbrev hm (aa:List aw):List Str:=aa.map (·.1)
structure Small (aa:List aw):Prop where
 one:1<=aa.length
 most:aa.length<=32
 nr:∀ru∈aa,ru.2.length<=6
open PySem L2 M11
section
def iK {H:Hp}{R D:Addr}{rs:List Addr}{aa:List aw}{σ:St}{Qp:Hp->Prop}(hR:aK K H R (rs.map V.ref))(cV:bL K H rs aa)(bM:aa.length<=1000)(hD:H D=none)
  (q:∀H2,aC H H2->H2 D=some (.lst ((hm aa).map V.str))->Qp H2) :
  ∃W:Nat->Nat->List V->St->Hp->Prop,(∃m,W 0 m [] (dJ ["_law_head","_law_parts"] [] σ) (upd H D (.lst []))) /\
 ∀i m ys σ' H,W i m ys σ' H->((jn K R).stop i H/\Qp H)\/((jn K R).go i H/\∃m',m' < m/\∀x H',(jn K R).kX i H x H'->z9 K 2 (ji (dB 0) (ji (dB 1) CD)) x σ' H' λσ2 H2=>gP σ2 H2 λb H3 =>
  if b=true then gE 0 σ2 H3 λy H4=>H4 D=some (.lst ys)/\ys.length < sizeLine/\W (i+1) m' (ys++[y]) σ2 (upd H4 D (.lst (ys++[y]))) else W (i+1) m' ys σ2 H3):=by
 have ll:=a0 cV;refine b0 (xs:=rs.map V.ref) (λi ys σ2 H2=>ys=((hm aa).take i).map V.str/\(∃y0 y1,σ2=[y0,y1])/\aC H H2/\H2 D=some (.lst ys))
  ⟨rfl,⟨none,none,rfl⟩,af hD _,ae⟩ (λi ys σ2 H2 _ h=>?_) (λi x ys σ2 H2 ex h=>?_) (λys σ2 H2 h=>?_)
 .obtain⟨_,_,sm,_⟩:=h;exact sm.seq hR
 .obtain⟨rfl,⟨y0,y1,rfl⟩,sm,Dm⟩:=h;rw [bq] at ex;obtain⟨r,er,rfl⟩:=cq.mp ex;obtain⟨ru,e1,p,v1,v2⟩:=cV.get er;have li:=(bj.mp e1).1;refine⟨r,_,rfl,sm.tup v1,rfl,_,_,rfl,_,_,rfl,rfl,?_⟩;refine wQ ?_;refine⟨_,rfl,Dm,br (by rw [ax,dO];omega),?_,⟨_,_,rfl⟩,λb o hb=>?_,ae⟩
  .have:(hm aa)[i]?=some ru.1:=by unfold hm;rw [bq,e1];rfl
   rw [cQ,this,bB];rfl
  rw [ak (λz=>by rw [z,hD] at hb;cases hb)];exact sm b o hb
 obtain⟨rfl,_,sm,Dm⟩:=h;rw [ax,ll,wR (by unfold hm;rw [ax];exact aE _)] at Dm;exact q H2 sm Dm
def pT (K:ba):Sp:=λvs H Q _=>∃(R:Addr)(rs:List Addr)(aa:List aw)(b:Bool),vs=[.ref R,.bl b]/\aK K H R (rs.map V.ref)/\bL K H rs aa/\Small aa /\
 ∀(D:Addr)(H':Hp),H D=none->aC H H'->H' D=some (.lst ((cI b aa).map V.str))->(cI b aa).length<=64->Q (.ref D) H'
abbrev NE:List Str:=["_law_rules","_law_words_here","_law_head","_law_parts","_law_heads","_law_ended_here","_law_again","_law_good_here"]
def jv:aM NE ["_law_rules","_law_words_here"] (az ze):=jl rfl rfl rfl rfl nofun
def E9 (F:iM K "_law_ended" "_law_ended" ze f fd)(T:Txt mg):bZ P w K mg base gw 1 f fd ["_law_rules","_law_words_here"] (pT K):=by
 refine F.ok jv (λvs H Q E h=>?_) (λeY A outer s H vs Q E hr h=>?_)
 .obtain⟨R,rs,aa,b,rfl,_⟩:=h;rfl
 obtain⟨R,rs,aa,b,rfl,hR,cV,o9,q⟩:=h;have Ud:=o9.one;have LA:=o9.most;refine⟨_,aj (aB (i:=4) jv.nd rfl (Or.inr rfl) (aV ["_law_head","_law_parts"] [] rfl (aQ (pv 0)) (aU rfl rfl) nofun rfl nofun
   (λ_ _ _ _ _=>dC (n:=2) K rfl (aA (aq (i:=0) (show (["_law_head","_law_parts"]:List Str).Nodup by decide +kernel) rfl (bo rfl)) (aA (aq (i:=1) (show (["_law_head","_law_parts"]:List Str).Nodup by decide +kernel) rfl (bo rfl)) bH))) (λ_ _ _ _ _=>bw)
   (λ_ _ _ _ _=>pv 0)))
  (aj (aB (i:=5) jv.nd rfl (Or.inr rfl) (bY ai))
  (aj (bS cf rfl (aQ (pv 0)) (aq (i:=6) jv.nd rfl (bo rfl))
   (ao (bS cf rfl (aQ (pv 0)) (dC (n:=2) K rfl (aA (aq (i:=2) jv.nd rfl (bo rfl)) (aA (aq (i:=3) jv.nd rfl (bo rfl)) bH)))
    (aj (aB (i:=7) jv.nd rfl (bo rfl) (aI (dU rfl) rfl T.all boot_all (ab
      (aV ["_law_part"] [(5,"_law_ended_here"),(4,"_law_heads"),(1,"_law_words_here")] rfl (eQ (pv 3)) (aU rfl rfl) nofun rfl nofun
       (λ_ _ _ _ _=>aq (i:=0) (show (["_law_part","_law_ended_here","_law_heads","_law_words_here"]:List Str).Nodup by decide +kernel) rfl (bo rfl)) (λ_ _ _ _ _=>bw)
       (λ_ _ _ _ _=>Jo (dM (dF K) (pv 0) (pv 1) rfl) (lC (lD (pv 3) (lC (dM (iT K) (pv 0) (pv 2) rfl)))))) ai)))
    (ao (b9 (PW.pt (jw (eK (pv 7)) (ig (a8 ik (pv 2) (pv 5) rfl))))
     (ao (b_ (f_ fV fX fY bE (pv 5) (ab (pv 2) ai)))) aY))))))
  (ao (bz (pv 5))))),?_⟩
 nofun
 refine⟨_,rfl,R,rfl,⟨_,hR⟩,λD hD=>iK hR cV ∅ hD λH1 s1 eD=>?_⟩;refine goN ?_
 ac_rfl
 refine⟨tI,λL hL=>?_⟩;have s2:=s1.trans (af hL (.lst []));have Bt:=af hL (.lst []) _ _ eD;have nL:L≠D:=λz=>by rw [z,eD] at hL;cases hL
 have fL:H L=none:=s1.free hL;have e2:upd H1 L (.lst []) L=some (.lst []):=ae;generalize upd H1 L (.lst [])=H2 at s2 Bt e2;refine goN ?_
 ac_rfl
 have ll:=a0 cV
 let wD:sq:=λi σ H3=>∃(es:List Str)(y2 y3 y6 y7:Option V),σ=[aF R,some (.bl b),y2,y3,aF D,aF L,y6,y7]/\aC H H3/\H3 D=some (.lst ((hm aa).map V.str))/\H3 L=some (.lst (es.map V.str))/\es=passes (λe=>gR b (hm aa) e aa) i []/\es.length<=32 * i
 refine⟨_,rfl,R,rfl,⟨_,s2.seq hR⟩,cv (xs:=rs.map V.ref) wD ⟨[],_,_,_,_,rfl,s2,Bt,e2,rfl,by simp⟩ ?_ ?_ ?_⟩
 .rintro i σ H3 _ ⟨es,y2,y3,y6,y7,rfl,s3,_⟩;exact s3.seq hR
 .intro i x σ H3 ex sW
  ac_nf0
  obtain⟨es,y2,y3,y6,y7,rfl,s3,IE,Vu,he,Pu⟩:=sW;have li:=(bj.mp ex).1;rw [ax] at li;refine goN ?_
  ac_nf
  let C9:sq:=λj σ H4=>∃(wa:List Str)(y2 y3 y7:Option V),σ=[aF R,some (.bl b),y2,y3,aF D,aF L,some x,y7]/\aC H H4/\H4 D=some (.lst ((hm aa).map V.str))/\H4 L=some (.lst (wa.map V.str))/\wa=gR b (hm aa) es (aa.take j)/\wa.length<=32 * i+j
  refine⟨_,rfl,R,rfl,⟨_,s3.seq hR⟩,cv (xs:=rs.map V.ref) C9 ⟨es,_,_,_,rfl,s3,IE,Vu,rfl,∅⟩ ?_ ?_ ?_⟩
  .rintro j σ H4 _ ⟨wa,y2,y3,y7,rfl,s4,_⟩;exact s4.seq hR
  .intro j x2 σ H4 jm sW
   ac_nf0
   obtain⟨wa,y2,y3,y7,rfl,s4,Nv,Nt,Dl,Pq⟩:=sW;have lj:=(bj.mp jm).1;rw [ax] at lj;rw [bq] at jm;obtain⟨r,er,rfl⟩:=cq.mp jm;obtain⟨ru,e1,p,v1,v2⟩:=cV.get er;have gp:=o9.nr ru (cE e1);refine⟨r,_,rfl,s4.tup v1,rfl,_,_,rfl,_,_,rfl,rfl,?_⟩;refine⟨_,rfl,p,rfl,⟨_,s4.tup v2⟩,λD2 jL=>gA (zs:=ru.2) [aF L,aF D,some (.bl b)] (λz=>decide (z∈wa) || (b && !decide (z∈hm aa))) rfl (s4.tup v2) ∅ jL (λz _ H5 Qy s5 hq=>?_) λH5 s5 eD5=>?_⟩
   .refine⟨_,rfl,_,rfl,L,_,rfl,.inl (aK.of (s5 _ _ Nt)),rfl,bO _,?_⟩;refine⟨_,rfl,?_⟩;rw [de];show if decide (z∈wa)=true then _ else _;refine cu (λc=>?_) (λc=>?_)
    .rw [c] at hq;exact hq
    have c':decide (z∈wa)=false:=by simpa using c
    rw [c',Bool.false_or] at hq;refine⟨_,rfl,b,rfl,?_⟩;refine cu (λcb=>?_) (λcb=>?_)
    .rw [cb,mf] at hq;refine⟨_,rfl,_,rfl,D,_,rfl,.inl (aK.of (s5 _ _ Nv)),rfl,bO _,?_⟩;rw [de];exact hq
    have cb':b=false:=by simpa using cb
    rw [cb',nV] at hq;exact hq
   refine⟨D2,_,rfl,aK.of eD5,?_⟩;rw [all_map];refine goN ?_
   ac_rfl
   have xl:=s4.trans s5;have CL:=s5 _ _ Nt;have pe:gR b (hm aa) es (aa.take (j+1))=dZ b (hm aa) wa ru:=by
    rw [Dl,cQ,e1];unfold gR;rw [uQ];rfl
   refine⟨_,rfl,_,rfl,?_⟩;refine cu (λc=>?_) (λc=>?_)
   .refine⟨_,rfl,_,rfl,L,_,rfl,.inl (aK.of CL),rfl,bO _,_,rfl,?_⟩;rw [de];show if (!decide (ru.1∈wa))=true then _ else _;refine cu (λc2=>?_) (λc2=>?_)
    .refine⟨_,rfl,.inl ⟨rfl,_,aK.of CL⟩,_,rfl,L,_,_,rfl,rfl,CL,br (by rw [ax];omega),?_⟩;refine⟨wa++[ru.1],_,_,_,rfl,λb o hb=>?_,by rw [ak (gq nL)];exact s5 _ _ Nv,by rw [ae,bB];rfl,?_,by rw [bU];simp;omega⟩
     .rw [ak (λz=>by rw [z,fL] at hb;cases hb)];exact xl b o hb
     rw [pe];unfold dZ;rw [c,mf,ar c2]
    refine⟨wa,_,_,_,rfl,xl,s5 _ _ Nv,CL,?_,∅⟩;rw [pe];unfold dZ;rw [c,mf,au c2]
   refine⟨wa,_,_,_,rfl,xl,s5 _ _ Nv,CL,?_,∅⟩;rw [pe];unfold dZ;rw [au (λz=>c (iZ.mp z).1)]
  rintro σ H4 ⟨wa,y2,y3,y7,rfl,s4,Nv,Nt,Dl,Pq⟩;rw [ax,ll] at Pq;rw [ax,ll,cH] at Dl;exact⟨wa,_,_,_,_,rfl,s4,Nv,Nt,by rw [Dl,he];rfl,∅⟩
 rintro σ H3 ⟨es,y2,y3,y6,y7,rfl,s3,IE,Vu,he,Pu⟩;rw [ax,ll] at he Pu;refine⟨_,rfl,?_⟩;have e:cI b aa=es:=he.symm;have l5:=iI _ _ (iJ b aa).nd (iJ b aa).sub;rw [ax] at l5;exact q L H3 fL s3 (by rw [e];exact Vu) ∅
end
def kQ {aa:List aw}{x:Str}:x∈hm aa↔x∈hd aa:=by
 constructor
 .intro h;obtain⟨ru,a,b⟩:=bV.mp h;exact b ▸ um a
 intro h;obtain⟨ru,a,b⟩:=JG h;exact bV.mpr ⟨ru,a,b⟩
def UB (aa:List aw)(h:Str) (v:Int):Prop:=∀g,dI M11.bl aa (v9 aa) g->ir M11.bl aa g->∃m,g h=some m/\m<=v
def UB.le {aa:List aw}{h:Str}{v u:Int}(a:UB aa h v)(l:v<=u):UB aa h u:=λg s t=>by
 obtain⟨m,e,k⟩:=a g s t;exact⟨m,e,nN k l⟩
def AE {aa:List aw}{x:Str}(nn:x∉hd aa){ru:aw}(gp:ru∈aa)(hm:x∈ru.2):UB aa x 0:=λg st _=>by
 refine⟨0,?_,jC _⟩;refine dI.keep (J:=λg=>g x=some 0) (λg Ht j h2 _=>?_) st ?_
 .show du g Ht.1 _ x=some 0;unfold du;have:x≠Ht.1:=λz=>nn (z ▸ um h2);rw [au this];exact j
 show v9 aa x=some 0;unfold v9;rw [ar (pR _ _ _ _ (.inr ⟨mi.mpr ⟨ru,gp,hm⟩,nn⟩))]
theorem AM {f g:Str->Int}:∀(ps:List Str),(∀x∈ps,f x<=g x)->(ps.map f).sum<=(ps.map g).sum
 | [],_=>jC _
 | a::r,h=>by
  have h1:=h a bK;have h2:=AM r λx hx=>h x (bW _ hx);simp only [cA,jO];omega
def vd {aa:List aw}{h:Str}{ps:List Str}(hm:(h,ps)∈aa){f:Str->Int}(hf:∀p∈ps,UB aa p (f p)):UB aa h (1+(ps.map f).sum):=λg st se=>by
 have hv:∀p∈ps,∃m,g p=some m/\m<=f p:=λp hp=>hf p hp g st se;have hs:=se _ hm;unfold cM at hs;have a1:jK g (h,ps)=true:=dN.mpr λp hp=>by obtain⟨m,e1,_⟩:=hv p hp;show (g p).isSome=true;rw [e1];rfl
 have s0:aH g (h,ps)<=1+(ps.map f).sum:=by
  unfold aH;have:=AM (f:=λp=>(g p).getD 0) (g:=f) ps λp hp=>by obtain⟨m,e1,e2⟩:=hv p hp;show (g p).getD 0<=_;rw [e1];exact e2
  show 1+(ps.map λp=>(g p).getD 0).sum<=_;omega
 rw [a1,mf] at hs;cases gn:g h with
 | none=>rw [show g (h,ps).1=none from gn] at hs;cases hs
 | some m =>
  rw [show g (h,ps).1=some m from gn] at hs;refine⟨m,rfl,?_⟩;have:¬aH g (h,ps) < m:=by simpa [M11.bl] using hs
  omega
def bG (g:G)(z:Str):Int:=(g z).getD 0
def dY (ns:List Str)(g:G)(ru:aw):G:=if (ru.2.all λp=>decide (p∈ns))=true then du g ru.1 (if aH g ru > bG g ru.1 then aH g ru else bG g ru.1) else g
def tJ (ns:List Str)(aa:List aw)(g:G):G:=aa.foldl (dY ns) g
def vc (ns:List Str)(g:G)(ru:aw)(x:Str):bG (dY ns g ru) x=if (ru.2.all λp=>decide (p∈ns))=true/\x=ru.1 then (if aH g ru > bG g ru.1 then aH g ru else bG g ru.1) else bG g x:=by
 unfold dY;by_cases c:(ru.2.all λp=>decide (p∈ns))=true
 .rw [ar c];by_cases e:x=ru.1
  .rw [ar (show (ru.2.all λp=>decide (p∈ns))=true/\x=ru.1 from ⟨c,e⟩)];show (if x=ru.1 then some _ else g x).getD 0=_;rw [ar e];rfl
  rw [au (show ¬((ru.2.all λp=>decide (p∈ns))=true/\x=ru.1) from λz=>e z.2)];show (if x=ru.1 then some _ else g x).getD 0=_;rw [au e];rfl
 rw [au c,au (show ¬((ru.2.all λp=>decide (p∈ns))=true/\x=ru.1) from λz=>c z.1)]
def DI (ns:List Str)(g:G)(ru:aw)(x:Str):bG g x<=bG (dY ns g ru) x:=by
 rw [vc]
 split
 .rename_i h
  rw [h.2]
  split <;> omega
 exact jC _
theorem qD (ns:List Str):∀(rs:List aw)(g:G)(x:Str),bG g x<=bG (rs.foldl (dY ns) g) x
 | [],_,_=>jC _
 | r::rs,g,x=>nN (DI ns g r x) (qD ns rs (dY ns g r) x)
def xi {g g':G}{ru:aw}(h:∀p∈ru.2,bG g p=bG g' p):aH g ru=aH g' ru:=by
 unfold aH;rw [show (ru.2.map λp=>(g p).getD 0)=ru.2.map λp=>(g' p).getD 0 from uX h]
section
variable {aa:List aw}{ns cs:List Str}
def MU (aa:List aw) (ns cs:List Str):Prop:=∀ru∈aa,(∀p∈ru.2,p∈ns)->ru.1∈cs/\∀p∈ru.2,l_ cs p < l_ cs ru.1
def Lk (aa:List aw) (ns cs:List Str) (k:Nat)(g:G):Prop:=∀ru∈aa,(∀p∈ru.2,p∈ns)->l_ cs ru.1 < k->aH g ru<=bG g ru.1
def MK {ru:aw}(h:(ru.2.all λp=>decide (p∈ns))=true):∀p∈ru.2,p∈ns:=λp hp=>cS (dN.mp h p hp)
def ke {k:Nat}{g:G}{ru:aw}(h:Lk aa ns cs k g)(hr:ru∈aa){x:Str}(hx:l_ cs x < k):bG (dY ns g ru) x=bG g x:=by
 rw [vc]
 split
 .rename_i c
  have:=h ru hr (MK c.1) (c.2 ▸ hx);rw [au ∅,c.2]
 rfl
def wV (a:MU aa ns cs){k:Nat}{g:G}{ru:aw}(h:Lk aa ns cs k g)(hr:ru∈aa):Lk aa ns cs k (dY ns g ru):=λr2 h2 e2 l2=>by
 rw [<-xi (g:=g) λp hp=>(ke h hr (jV ((a r2 h2 e2).2 p hp) l2)).symm,ke h hr l2];exact h r2 h2 e2 l2
theorem qF (a:MU aa ns cs){k:Nat}:∀(rs:List aw)(g:G),(∀ru∈rs,ru∈aa)->Lk aa ns cs k g->Lk aa ns cs k (rs.foldl (dY ns) g)/\∀x,l_ cs x < k->bG (rs.foldl (dY ns) g) x=bG g x
 | [],_,_,h=>⟨h,λ_ _=>rfl⟩
 | r::rs,g,hs,h=>by
  have h1:=wV a h (hs r bK);obtain⟨i1,i2⟩:=qF a rs _ (λru hr=>hs ru (bW _ hr)) h1;exact⟨i1,λx hx=>(i2 x hx).trans (ke h (hs r bK) hx)⟩
theorem qE (a:MU aa ns cs){k:Nat}:∀(rs:List aw)(g:G),(∀ru∈rs,ru∈aa)->Lk aa ns cs k g->∀ru∈rs,(∀p∈ru.2,p∈ns)->l_ cs ru.1=k->aH (rs.foldl (dY ns) g) ru<=bG (rs.foldl (dY ns) g) ru.1
 | [],_,_,_,_,h,_,_=>(by cases h)
 | r::rs,g,hs,h,ru,gp,hp,hk=>by
  have hr:=hs r bK;have h1:=wV a h hr;rcases bR.mp gp with e | e
  .subst e;have ah:=a ru hr hp;have lt:∀p∈ru.2,l_ cs p < k:=λp jA=>hk ▸ ah.2 p jA;obtain⟨_,i2⟩:=qF a rs (dY ns g ru) (λru hr=>hs ru (bW _ hr)) h1;have e1:aH (List.foldl (dY ns) g (ru::rs)) ru=aH g ru:=xi λp jA=>(i2 p (lt p jA)).trans (ke h hr (lt p jA));rw [e1];have e2:=qD ns rs (dY ns g ru) ru.1;have e3:=vc ns g ru ru.1;rw [ar ⟨dN.mpr λp jA=>cC (hp p jA),rfl⟩] at e3;show _<=bG (List.foldl (dY ns) (dY ns g ru) rs) ru.1;have e4:aH g ru<=(if aH g ru > bG g ru.1 then aH g ru else bG g ru.1):=by split <;> omega
   omega
  exact qE a rs _ (λru hr=>hs ru (bW _ hr)) h1 ru e hp hk
def DJ (a:MU aa ns cs){k:Nat}{g:G}(h:Lk aa ns cs k g):Lk aa ns cs (k+1) (tJ ns aa g):=λru hr hp hk=>by
 by_cases c:l_ cs ru.1 < k
 .exact(qF a aa g (λ_ z=>z) h).1 ru hr hp c
 exact qE a aa g (λ_ z=>z) h ru hr hp ∅
theorem tW (a:MU aa ns cs):∀n,Lk aa ns cs n (passes (tJ ns aa) n λ_=>none)
 | 0=>λ_ _ _ h=>absurd h (nX _)
 | n+1=>DJ a (tW a n)
theorem tV (ns:List Str)(aa:List aw)(x:Str):∀n,0<=bG (passes (tJ ns aa) n λ_=>none) x
 | 0=>jC _
 | n+1=>nN (tV ns aa x n) (qD ns aa _ x)
def Ft:∀(l:List Str)(x:Str),x∈l->l_ l x < l.length:=λl x h=>(bj.mp (lR l x h)).1
def DK (o_:∀x,Em aa x->x∈ns)(a:MU aa ns cs){n:Nat}(hl:cs.length<=n):sG aa (bG (passes (tJ ns aa) n λ_=>none)) :=
 ⟨λz=>tV ns aa z n,λru hr hp=>tW a n ru hr (λp jA=>o_ p (hp p jA)) (fS (Ft cs ru.1 (a ru hr λp jA=>o_ p (hp p jA)).1) hl)⟩
end
def yj (aa:List aw) (ms:List Str):Prop:=∀(i:Nat)(h:Str),ms[i]?=some h->(∃gQ,aa[0]?=some gQ/\h=gQ.1)\/∃ru∈aa,ru.1∈ms.take i/\h∈ru.2
def Gu (aa:List aw)(ru:aw) (j:Nat)(z:Str):Prop:=ru.2[j]?=some z/\z∈hm aa/\∀(k:Nat)(y:Str),k≠j->ru.2[k]?=some y->y∈cI false aa
def Zs (aa:List aw) (cs:List Str):Prop:=∀(i:Nat)(h:Str),cs[i]?=some h->∀ru∈aa,ru.1=h->∀(j:Nat)(z:Str),Gu aa ru j z->z∈cs.take i
structure BO (aa:List aw) (ms cs:List Str):Prop where
 mo:yj aa ms
 ma:∀z∈hm aa,z∈ms
 cn:cs.Nodup
 ch:∀x∈cs,x∈hm aa
 co:Zs aa cs
 ca:∀z∈hm aa,z∈cs
 ub:∀z∈hm aa,UB aa z 60
 bd:∃b,sG aa b/\∀h∈hd aa,b h<=60
def Fi {aa:List aw}{M:List Str}(O:yj aa M)(mA:∀h∈hd aa,h∈M):∀gQ ms,aa[0]?=some gQ->gQ.1∈ms->C8 aa aa.length ms->∀h∈hd aa,h∈ms:=λgQ ms e0 h0 mc=>by
 have key:∀(n i:Nat),i < n->∀h:Str,M[i]?=some h->h∈ms:=by
  intro n
  induction n with
  | zero=>intro i hi;omega
  | succ n ih =>
   intro i hi h e;rcases O i h e with ⟨r0,e1,e2⟩ | ⟨ru,gp,h1,h2⟩
   .rw [e0] at e1;cases e1;rw [e2];exact h0
   obtain⟨j,lj,ej⟩:=mC h1;exact mc ru (by rw [cH];exact gp) (ih j ∅ _ ej) h h2
 intro h hh;obtain⟨i,hi⟩:=fU (mA h hh);exact key (i+1) i ∅ h hi
def Bh {aa:List aw}{rk:Str->Nat}(h:∀ru∈aa,∀(j:Nat)(z:Str),ru.2[j]?=some z->z∈hd aa->(∀(k:Nat)(y:Str),k≠j->ru.2[k]?=some y->Em aa y)->rk z < rk ru.1):Au aa rk:=by
 rintro aX emp nu n k j ⟨gQ,z0,e1,e2,e3,e4,e5⟩ ru z er ez;rw [er] at e1;obtain rfl:ru=gQ:=fQ e1;rw [ez] at e3;obtain rfl:z=z0:=fQ e3;rw [<-e2];refine h ru (cE er) j z ez e4 λk' y nk ey=>?_;have:=xI e5 ey nk;exact Af emp y (cS this)
def BO.good {aa:List aw}{ms cs:List Str}(g:BO aa ms cs):∃rk b,Good aa rk b:=by
 obtain⟨b,hb,hm6⟩:=g.bd;refine⟨l_ cs,b,λgg st se h hh=>?_,Fi g.mo λh hh=>g.ma h (kQ.mpr hh),Bh λru gp j z ez hz JF=>?_,hb,hm6⟩
 .exact g.ub h (kQ.mpr hh) gg st se
 exact j9 cs z _ (g.co _ _ (lR cs ru.1 (g.ca _ (iC gp))) ru gp rfl j z ⟨ez,kQ.mpr hz,λk y nk ey=>rO (JF k y nk ey)⟩)
structure RW (aa:List aw) (nms ws:List Str):Prop where
 nd:nms.Nodup
 nr:nms.length<=9
 dj:∀x∈nms,x∉ws
 first:∀gQ,aa[0]?=some gQ->nms[0]?=some gQ.1
 z6:∀ru∈aa,ru.1∈nms
 on:∀(a:Nat)(h:Str),nms[a]?=some h->∃cN,(h,cN)∈aa/\((∃n' us vs,nms[a+1]?=some n'/\cN=us++n'::vs/\(∀p∈us,p∈ws)/\∀p∈vs,p∈ws)\/(nms.length=a+1/\∀p∈cN,p∈ws))
 sh:∀ru∈aa,(∃p∈ru.2,p∈ws)\/ru.2=[]\/∃n',nms[l_ nms ru.1+1]?=some n'/\ru.2=[n']
theorem oM:∀{l:List Str},l.Nodup->∀{a:Nat}{x:Str},l[a]?=some x->l_ l x=a
 | y::l,nd,0,x,e=>by
  cases e;unfold l_;rw [ar rfl]
 | y::l,nd,a+1,x,e=>by
  have e':l[a]?=some x:=e;have ne:y≠x:=λz=>(iB.mp nd).1 (z ▸ cE e');unfold l_;rw [au ne,oM (iB.mp nd).2 e']
theorem mD {f:Str->Int}:∀(ps:List Str),(∀x∈ps,f x=0)->(ps.map f).sum=0
 | [],_=>rfl
 | a::r,h=>by
  rw [cA,jO,h a bK,mD r λx hx=>h x (bW _ hx)];rfl
def RW.good {aa:List aw}{nms ws:List Str}(c:RW aa nms ws):∃rk b,Good aa rk b:=by
 have hN:∀x,x∈hd aa->x∈nms:=λx hx=>by
  obtain⟨ru,a,b⟩:=JG hx;exact b ▸ c.z6 ru a
 have wN:∀x∈ws,x∉hd aa:=λx hx h=>c.dj x (hN x h) hx;have Xe:∀x∈ws,¬Em aa x:=λx hx h=>wN x hx (JQ h);have ub:∀(n a:Nat)(h:Str),a+n=nms.length->nms[a]?=some h->UB aa h (n:Int):=by
  intro n
  induction n with
  | zero =>
   intro a h l e;have:=(bj.mp e).1;omega
  | succ n ih =>
   intro a h l e;obtain⟨cN,hm,hp⟩:=c.on a h e;have wd:∀p∈ws,p∈cN->UB aa p 0:=λp hpw jA=>AE (wN p hpw) hm jA;rcases hp with ⟨n',us,vs,en,rfl,XG,XF⟩ | ⟨_,hw⟩
   .have Bk:=ih (a+1) n' ∅ en;have ne:∀p∈ws,p≠n':=λp hp z=>c.dj n' (cE en) (z ▸ hp);have h1:=vd hm (f:=λp=>if p=n' then (n:Int) else 0) λp hp=>by
     by_cases cc:p=n'
     .rw [ar cc,cc];exact Bk
     rw [au cc];refine wd p ?_ hp;rcases cD.mp hp with q | q
     .exact XG p q
     rcases bR.mp q with q | q
     .exact absurd q cc
     exact XF p q
    refine h1.le ?_;rw [bB,List.sum_append,cA,jO,ar rfl,mD us λx hx=>au (ne x (XG x hx)),mD vs λx hx=>au (ne x (XF x hx))];push_cast;omega
   have h1:=vd hm (f:=λ_=>0) λp hp=>wd p (hw p hp) hp;refine h1.le ?_;rw [mD cN λ_ _=>rfl];push_cast;omega
 refine⟨λx=>nms.length - l_ nms x,λx=>if x∈nms then ((nms.length - l_ nms x:Nat):Int) else 0,λgg st se h hh=>?_,Fi (M:=nms) (λi h e=>?_) λh hh=>hN h hh,Bh λru gp j z ez hz JF=>?_,⟨λz=>?_,λru gp JF=>?_⟩,λh hh=>?_⟩
 .obtain⟨a,e⟩:=fU (hN h hh);have la:=(bj.mp e).1;have:=c.nr;exact((ub (nms.length - a) a h ∅ e).le (show ((nms.length - a:Nat):Int)<=60 by omega)) gg st se
 .match i,e with
  | 0,e =>
   obtain⟨cN,hm,_⟩:=c.on 0 h e;obtain⟨k,ek⟩:=fU hm;have l0:0 < aa.length:=by have:=(bj.mp ek).1;omega
   refine .inl ⟨aa[0],cR l0,?_⟩;have:=c.first _ (cR l0);rw [e] at this;exact fQ this
  | i+1,e =>
   have li:=(bj.mp e).1;have e5:nms[i]?=some (nms[i]'∅):=cR ∅;obtain⟨cN,hm,hp⟩:=c.on i _ e5;refine .inr ⟨_,hm,?_,?_⟩
   .refine cE (i:=i) ?_;rw [u_ ∅];exact e5
   rcases hp with ⟨n',us,vs,en,rfl,_⟩ | ⟨l,_⟩
   .rw [e] at en;cases en;exact dA _ bK
   omega
 .rcases c.sh ru gp with ⟨p,hp,hw⟩ | h | ⟨n',en,h⟩
  .exfalso;obtain⟨k,ek⟩:=fU hp;by_cases ck:k=j
   .subst ck;rw [ez] at ek;cases ek;exact wN _ hw hz
   exact Xe p hw (JF k p ck ek)
  .rw [h] at ez;cases ez
  rw [h] at ez;have JO:z=n':=by
   match j,ez with
   | 0,e=>exact(fQ e).symm
   | _+1,e=>cases e
  subst JO;have i1:=oM c.nd en;have:=(bj.mp en).1;show nms.length - l_ nms z < nms.length - l_ nms ru.1;omega
 .show (0:Int)<=if z∈nms then _ else 0
  split
  .omega
  exact jC _
 .have hn:=c.z6 ru gp;show 1+(ru.2.map λx=>if x∈nms then ((nms.length - l_ nms x:Nat):Int) else 0).sum<=if ru.1∈nms then ((nms.length - l_ nms ru.1:Nat):Int) else 0;rw [ar hn];have li:=Ft nms ru.1 hn;rcases c.sh ru gp with ⟨p,hp,hw⟩ | h | ⟨n',en,h⟩
  .exact absurd (JF p hp) (Xe p hw)
  .rw [h];show 1+0<=_;omega
  rw [h];have i1:=oM c.nd en;have:=(bj.mp en).1;rw [cA,jO,ar (cE en),i1];show 1+(_+0)<=_;omega
 show (if h∈nms then ((nms.length - l_ nms h:Nat):Int) else 0)<=60;have:=c.nr
 split
 .omega
 decide
structure DS (hs:List Str)(H5:Hp)(d:Addr)(kvs:List (aL×V)) (ks:List Str)(g:G):Prop where
 hd:H5 d=some (.dK kvs)
 keys:kvs.map (·.1)=ks.map Sum.inr
 nd:ks.Nodup
 sub:∀x∈ks,x∈hs
 val:∀z,bu kvs (Sum.inr z)=(g z).map V.int
def DS.len {hs:List Str}{H5:Hp}{d:Addr}{kvs:List (aL×V)}{ks:List Str}{g:G}(h:DS hs H5 d kvs ks g):kvs.length<=hs.length:=by
 have h1:=congrArg List.length h.keys;have h2:=iI ks _ h.nd h.sub;rw [ax,ax] at h1;omega
def DS.same {hs:List Str}{H5 H6:Hp}{d:Addr}{kvs:List (aL×V)}{ks:List Str}{g:G}(h:DS hs H5 d kvs ks g)(s:aC H5 H6):DS hs H6 d kvs ks g:=⟨s _ _ h.hd,h.keys,h.nd,h.sub,h.val⟩
def DS.other {hs:List Str}{H5:Hp}{d e:Addr}{o:HO}{kvs:List (aL×V)}{ks:List Str}{g:G}(h:DS hs H5 d kvs ks g)(n:d≠e):DS hs (upd H5 e o) d kvs ks g:=⟨by rw [ak n];exact h.hd,h.keys,h.nd,h.sub,h.val⟩
def DS.get {hs:List Str}{H5:Hp}{d:Addr}{kvs:List (aL×V)}{ks:List Str}{g:G}(h:DS hs H5 d kvs ks g)(z:Str):cK H5 d (.str z) ((g z).map V.int):=by
 have:=cK.k (k:=Sum.inr z) h.hd;rw [h.val] at this;exact this
def DS.put {hs:List Str}{H5:Hp}{d:Addr}{kvs:List (aL×V)}{ks:List Str}{g:G}(h:DS hs H5 d kvs ks g){x:Str}(hr:x∈hs) (n:Int) :
  DS hs (upd H5 d (.dK (bN kvs (Sum.inr x) (.int n)))) d (bN kvs (Sum.inr x) (.int n)) (gX ks x) (du g x n):=by
 refine⟨ae,jb h.keys x,wu x h.nd,λy hy=>?_,λz=>?_⟩
 .rcases (kc ks x y).mp hy with z | z
  .exact h.sub y z
  rw [z];exact hr
 rw [qH];unfold du;by_cases c:z=x
 .rw [ar c,ar (by rw [c])];rfl
 rw [au c,au (λe=>c (jT e)),h.val]
def getD_map (o:Option Int) (n:Int):(o.map V.int).getD (.int n)=.int (o.getD n):=by cases o <;> rfl
def uA {K:ba}{H:Hp}{p D d:Addr}{zs hs:List Str}{kvs:List (aL×V)}{ks:List Str}{g:G}{σ:St}{js:List (Nat×Str)}{Qp:Hp->Prop}(hσ:dJ ["_law_part"] js σ=[none,aF d])(hp:aS K H p (zs.map V.str))(hz:zs.length<=1000)
  (hg:DS hs H d kvs ks g)(hD:H D=none)(q:∀H2,aC H H2->H2 D=some (.lst ((zs.map λz=>(g z).getD 0).map V.int))->Qp H2) :
  ∃W:Nat->Nat->List V->St->Hp->Prop,(∃m,W 0 m [] (dJ ["_law_part"] js σ) (upd H D (.lst []))) /\
 ∀i m ys σ' H,W i m ys σ' H->((nF K p).stop i H/\Qp H)\/((nF K p).go i H/\∃m',m' < m/\∀x H',(nF K p).kX i H x H'->dB 0 x σ' H' λσ2 H2=>gP σ2 H2 λb H3 =>
  if b=true then DO (gE 1) (gE 0) (tC (.int 0)) σ2 H3 λy H4=>H4 D=some (.lst ys)/\ys.length < sizeLine/\W (i+1) m' (ys++[y]) σ2 (upd H4 D (.lst (ys++[y]))) else W (i+1) m' ys σ2 H3):=by
 refine gB (xs:=zs.map V.str) (λi ys σ2 H2=>ys=(((zs.take i).map λz=>(g z).getD 0).map V.int)/\(∃y0,σ2=[y0,aF d])/\aC H H2/\H2 D=some (.lst ys))
  ⟨rfl,⟨none,hσ⟩,af hD _,ae⟩ (λi ys σ2 H2 _ h=>h.2.2.1.tup hp) (λi x ys σ2 H2 ex h=>?_) (λys σ2 H2 h=>?_)
 .obtain⟨rfl,⟨y0,rfl⟩,sm,hd2⟩:=h;rw [bq] at ex;obtain⟨z,ez,rfl⟩:=cq.mp ex;have li:=(bj.mp ez).1;refine goN (wQ ?_);refine⟨_,rfl,d,rfl,.inl ⟨_,.inl (sm _ _ hg.hd)⟩,_,rfl,_,(hg.same sm).get z,?_⟩;rw [getD_map];refine⟨hd2,br (by rw [ax,ax,dO];omega),?_,⟨_,rfl⟩,?_,ae⟩
  .rw [cQ,ez,bB,bB];rfl
  intro b o hb;rw [ak (λz=>by rw [z,hD] at hb;cases hb)];exact sm b o hb
 obtain⟨rfl,_,sm,hd2⟩:=h;rw [ax,cH] at hd2;exact q H2 sm hd2
section
def LJ (aa:List aw)(l:G):Prop:=∀z n,l z=some n->UB aa z n
def DT (K:ba):Sp:=λvs H Q _=>∃(R N:Addr)(rs:List Addr)(aa:List aw) (ns:List Str),vs=[.ref R,.ref N]/\aK K H R (rs.map V.ref)/\bL K H rs aa/\Small aa/\H N=some (.lst (ns.map V.str))/\ns.length<=1000 /\
 ∀(b:Bool)(H':Hp),aC H H'->(b=true->(∀z∈hm aa,UB aa z 60)/\∀h∈hm aa,bG (passes (tJ ns aa) aa.length λ_=>none) h<=60)->Q (.bl b) H'
abbrev NVs:List Str:=["_law_rules","_law_empty","_law_head","_law_parts","_law_heads","_law_greatest","_law_least","_law_again","_law_size"]
def ju:aM NVs ["_law_rules","_law_empty"] (az Eg):=jl rfl rfl rfl rfl nofun
structure MN (K:ba)(aa:List aw)(H H5:Hp)(D dg dl:Addr)(kg kl:List (aL×V)) (sg sl:List Str)(g l:G):Prop where
 sm:aC H H5
 eD:H5 D=some (.lst ((hm aa).map V.str))
 gs:DS (hm aa) H5 dg kg sg g
 ls:DS (hm aa) H5 dl kl sl l
 lj:LJ aa l
theorem MN.same {aa:List aw}{H H5 H6:Hp}{D dg dl:Addr}{kg kl:List (aL×V)}{sg sl:List Str}{g l:G}(h:MN K aa H H5 D dg dl kg kl sg sl g l)(s:aC H5 H6):MN K aa H H6 D dg dl kg kl sg sl g l :=
 ⟨h.sm.trans s,s _ _ h.eD,h.gs.same s,h.ls.same s,h.lj⟩
def HN (F:iM K "_law_not_vast" "_law_not_vast" Eg f fd)(T:Txt mg):bZ P w K mg base gw 1 f fd ["_law_rules","_law_empty"] (DT K):=by
 refine F.ok ju (λvs H Q E h=>?_) (λeY A outer s H vs Q E hr h=>?_)
 .obtain⟨R,N,rs,aa,ns,rfl,_⟩:=h;rfl
 obtain⟨R,N,rs,aa,ns,rfl,hR,cV,o9,hN,XR,q⟩:=h;have hu:=gM hr;have LA:=o9.most;refine⟨_,aj (aB (i:=4) ju.nd rfl (Or.inr rfl) (aV ["_law_head","_law_parts"] [] rfl (aQ (pv 0)) (aU rfl rfl) nofun rfl nofun
   (λ_ _ _ _ _=>dC (n:=2) K rfl (aA (aq (i:=0) (show (["_law_head","_law_parts"]:List Str).Nodup by decide +kernel) rfl (bo rfl)) (aA (aq (i:=1) (show (["_law_head","_law_parts"]:List Str).Nodup by decide +kernel) rfl (bo rfl)) bH))) (λ_ _ _ _ _=>bw)
   (λ_ _ _ _ _=>pv 0)))
  (aj (aB (i:=5) ju.nd rfl (Or.inr rfl) fZ)
  (aj (aB (i:=6) ju.nd rfl (Or.inr rfl) fZ)
  (aj (bS cf rfl (aQ (pv 0)) (aq (i:=7) ju.nd rfl (bo rfl))
   (ao (bS cf rfl (aQ (pv 0)) (dC (n:=2) K rfl (aA (aq (i:=2) ju.nd rfl (bo rfl)) (aA (aq (i:=3) ju.nd rfl (bo rfl)) bH)))
    (aj (fk (b9 (eK (aI (dU rfl) rfl T.all boot_all (ab (aV ["_law_part"] [(1,"_law_empty")] rfl (eQ (pv 3)) (aU rfl rfl) nofun rfl nofun
       (λ_ _ _ _ _=>aq (i:=0) (show (["_law_part","_law_empty"]:List Str).Nodup by decide +kernel) rfl (bo rfl)) (λ_ _ _ _ _=>bw) (λ_ _ _ _ _=>dM (dF K) (pv 0) (pv 1) rfl)) ai)))
     (aj (aB (i:=8) ju.nd rfl (bo rfl) (aN d5 av (aI (ku rfl) rfl T.sum u4 (ab (aV ["_law_part"] [(5,"_law_greatest")] rfl (eQ (pv 3)) (aU rfl rfl) nofun rfl nofun
       (λ_ _ _ _ _=>aq (i:=0) (show (["_law_part","_law_greatest"]:List Str).Nodup by decide +kernel) rfl (bo rfl)) (λ_ _ _ _ _=>bw) (λ_ _ _ _ _=>iH hu (pv 1) (pv 0) av ⟨rfl,rfl,rfl,rfl⟩)) ai))))
     (ao (gY hu (pv 5) (pv 2) (aI (uB rfl) rfl T.max PyProof.Rows.boot_max (ab (iH hu (pv 5) (pv 2) av ⟨rfl,rfl,rfl,rfl⟩) (ab (pv 8) ai))) rfl))) aY))
    (ao (b9 (eK (aI (dU rfl) rfl T.all boot_all (ab (aV ["_law_part"] [(6,"_law_least"),(4,"_law_heads")] rfl (eQ (pv 3)) (aU rfl rfl) nofun rfl nofun
       (λ_ _ _ _ _=>aq (i:=0) (show (["_law_part","_law_least","_law_heads"]:List Str).Nodup by decide +kernel) rfl (bo rfl)) (λ_ _ _ _ _=>bw)
       (λ_ _ _ _ _=>Jo (zy (lF hu (pv 0) (pv 1))) (lC (dM (iT K) (pv 0) (pv 2) rfl)))) ai)))
     (aj (aB (i:=8) ju.nd rfl (bo rfl) (aN d5 av (aI (ku rfl) rfl T.sum u4 (ab (aV ["_law_part"] [(6,"_law_least")] rfl (eQ (pv 3)) (aU rfl rfl) nofun rfl nofun
       (λ_ _ _ _ _=>aq (i:=0) (show (["_law_part","_law_least"]:List Str).Nodup by decide +kernel) rfl (bo rfl)) (λ_ _ _ _ _=>bw) (λ_ _ _ _ _=>iH hu (pv 1) (pv 0) av ⟨rfl,rfl,rfl,rfl⟩)) ai))))
     (ao (gY hu (pv 6) (pv 2) (aI (CU rfl) rfl T.min PyProof.Rows.boot_min (ab (iH hu (pv 6) (pv 2) (pv 8) ⟨rfl,rfl,rfl,rfl⟩) (ab (pv 8) ai))) rfl))) aY))))))
  (ao (bz (aI (dU rfl) rfl T.all boot_all (ab (aV ["_law_name"] [(5,"_law_greatest"),(6,"_law_least")] rfl (aQ (pv 4)) (aU rfl rfl) nofun rfl nofun
    (λ_ _ _ _ _=>aq (i:=0) (show (["_law_name","_law_greatest","_law_least"]:List Str).Nodup by decide +kernel) rfl (bo rfl)) (λ_ _ _ _ _=>bw)
    (λ_ _ _ _ _=>lD (dM EU (iH hu (pv 1) (pv 0) av ⟨rfl,rfl,rfl,rfl⟩) av (cg _)) (lC (dM EU (iH hu (pv 2) (pv 0) av ⟨rfl,rfl,rfl,rfl⟩) av (cg _))))) ai))))))),?_⟩
 have ll:=a0 cV;have Bl:(hm aa).length=aa.length:=by unfold hm;rw [ax]
 refine⟨_,rfl,R,rfl,⟨_,hR⟩,λD hD=>iK hR cV ∅ hD λH1 s1 eD=>?_⟩;refine goN ?_;refine λdg Px=>?_;have k2:=af Px (.dK []);have e2:upd H1 dg (.dK []) dg=some (.dK []):=ae;have fdg:H dg=none:=s1.free Px;have nDg:D≠dg:=λz=>by rw [<-z,eD] at Px;cases Px
 generalize upd H1 dg (.dK [])=H2 at k2 e2;have Bt:=k2 _ _ eD;refine λdl Bl=>?_;have k3:=af Bl (.dK []);have e3:upd H2 dl (.dK []) dl=some (.dK []):=ae;have Yi:H dl=none:=(s1.trans k2).free Bl;have nDl:D≠dl:=λz=>by rw [<-z,Bt] at Bl;cases Bl
 have Xa:dg≠dl:=λz=>by rw [<-z,e2] at Bl;cases Bl
 generalize upd H2 dl (.dK [])=H3 at k3 e3;have S0:MN K aa H H3 D dg dl [] [] [] [] (λ_=>none) (λ_=>none):=⟨(s1.trans k2).trans k3,k3 _ _ Bt,⟨k3 _ _ e2,rfl,iN,λ_ h=>(by cases h),λ_=>rfl⟩,⟨e3,rfl,iN,λ_ h=>(by cases h),λ_=>rfl⟩,λ_ _ h=>(by cases h)⟩;clear k3 e3 k2 e2 Bt eD s1 hD Px Bl;refine⟨_,rfl,R,rfl,⟨_,S0.sm.seq hR⟩,?_⟩;refine cv (xs:=rs.map V.ref) (λi σ H5=>∃(kg kl:List (aL×V)) (sg sl:List Str)(g l:G)(y2 y3 y7 y8:Option V),σ=[aF R,aF N,y2,y3,aF D,aF dg,aF dl,y7,y8]/\MN K aa H H5 D dg dl kg kl sg sl g l/\g=passes (tJ ns aa) i λ_=>none)
  ⟨[],[],[],[],_,_,_,_,_,_,rfl,S0,rfl⟩ ?_ ?_ ?_
 .rintro i σ H5 _ ⟨kg,kl,sg,sl,g,l,y2,y3,y7,y8,rfl,S5,_⟩;exact S5.sm.seq hR
 .rintro i x σ H5 ex ⟨kg,kl,sg,sl,g,l,y2,y3,y7,y8,rfl,S5,FZ⟩;refine goN ?_;refine⟨_,rfl,R,rfl,⟨_,S5.sm.seq hR⟩,?_⟩;refine cv (xs:=rs.map V.ref) (λj σ H6=>∃(kg kl:List (aL×V)) (sg sl:List Str)(g6 l:G)(y2 y3 y8:Option V),σ=[aF R,aF N,y2,y3,aF D,aF dg,aF dl,some x,y8]/\MN K aa H H6 D dg dl kg kl sg sl g6 l/\g6=(aa.take j).foldl (dY ns) g)
   ⟨kg,kl,sg,sl,_,_,_,_,_,rfl,S5,rfl⟩ ?_ ?_ ?_
  .rintro j σ H6 _ ⟨kg,kl,sg,sl,g6,l,y2,y3,y8,rfl,S6,_⟩;exact S6.sm.seq hR
  .rintro j x2 σ H6 jm ⟨kg,kl,sg,sl,g6,l,y2,y3,y8,rfl,S6,G7⟩;rw [bq] at jm;obtain⟨r,er,rfl⟩:=cq.mp jm;obtain⟨ru,e1,p,v1,v2⟩:=cV.get er;have gp:=cE e1;have h6r:=o9.nr ru gp;have hh:ru.1∈hm aa:=iC gp;have tk:(aa.take (j+1)).foldl (dY ns) g=dY ns g6 ru:=by rw [cQ,e1,uQ,<-G7];rfl
   refine⟨r,_,rfl,S6.sm.tup v1,rfl,_,_,rfl,_,_,rfl,rfl,?_⟩;refine⟨λσ H7=>∃(kg:List (aL×V)) (sg:List Str)(y8:Option V),σ=[aF R,aF N,some (.str ru.1),aF p,aF D,aF dg,aF dl,some x,y8]/\MN K aa H H7 D dg dl kg kl sg sl (dY ns g6 ru) l,?_,?_⟩
   .refine⟨_,rfl,p,rfl,⟨_,S6.sm.tup v2⟩,λD9 wO=>gA (zs:=ru.2) [aF N] (λz=>decide (z∈ns)) rfl (S6.sm.tup v2) ∅ wO (λz _ HA Qy sA hq=>?_) λH9 s9 e9=>?_⟩
    .refine⟨_,rfl,_,rfl,N,_,rfl,.inl (aK.of (sA _ _ (S6.sm _ _ hN))),rfl,bO _,?_⟩;rw [de];exact hq
    have S9:=S6.same s9;refine⟨D9,_,rfl,aK.of e9,_,rfl,?_⟩;rw [all_map];refine cu (λca=>?_) (λca=>?_)
    .refine⟨_,rfl,p,rfl,⟨_,S9.sm.tup v2⟩,λDA JI=>uA rfl (S9.sm.tup v2) ∅ S9.gs JI λHA sA eA=>?_⟩;have SA:=S9.same sA;refine⟨DA,_,rfl,aK.of eA,_,_,rfl,rfl,?_⟩;refine⟨_,rfl,dg,rfl,.inl ⟨_,.inl SA.gs.hd⟩,_,rfl,_,SA.gs.get ru.1,?_⟩;rw [getD_map];refine⟨_,rfl,_,_,rfl,?_⟩;have ln:=SA.gs.len;refine⟨_,rfl,_,rfl,dg,_,rfl,l7.k (k:=Sum.inr ru.1) SA.gs.hd (br ∅),?_⟩;have ev:dY ns g6 ru=du g6 ru.1 (if aH g6 ru > bG g6 ru.1 then aH g6 ru else bG g6 ru.1):=by unfold dY;rw [ar ca]
     have P1:=SA.gs.put hh (if aH g6 ru > bG g6 ru.1 then aH g6 ru else bG g6 ru.1);rw [<-ev] at P1;refine⟨_,_,_,rfl,⟨λb o hb=>?_,?_,P1,SA.ls.other (gq Xa),SA.lj⟩⟩
     .rw [ak (λz=>by rw [z,fdg] at hb;cases hb)];exact SA.sm b o hb
     rw [ak nDg];exact SA.eD
    have ev:dY ns g6 ru=g6:=by unfold dY;rw [au ca]
    refine⟨kg,sg,_,rfl,?_⟩;rw [ev];exact S9
   rintro σ H7 ⟨kg,sg,y8,rfl,S7⟩;generalize hg7:dY ns g6 ru=g7 at *;refine⟨_,rfl,p,rfl,⟨_,S7.sm.tup v2⟩,λD9 wO=>gA (zs:=ru.2) [aF dl,aF D] (λz=>(l z).isSome || !decide (z∈hm aa)) rfl (S7.sm.tup v2) ∅ wO (λz _ HA Qy sA hq=>?_) λH9 s9 e9=>?_⟩
   .refine⟨_,rfl,_,rfl,dl,_,rfl,(S7.ls.same sA).get z,_,rfl,?_⟩;rw [qg];refine cu (λc=>?_) (λc=>?_)
    .rw [c,Bool.true_or] at hq;exact hq
    have c':(l z).isSome=false:=by simpa using c
    rw [c',Bool.false_or] at hq;refine⟨_,rfl,_,rfl,D,_,rfl,.inl (aK.of (sA _ _ S7.eD)),rfl,bO _,?_⟩;rw [de];exact hq
   have S9:=S7.same s9;refine⟨D9,_,rfl,aK.of e9,_,rfl,?_⟩;rw [all_map];refine cu (λca=>?_) (λca=>?_)
   .refine⟨_,rfl,p,rfl,⟨_,S9.sm.tup v2⟩,λDA JI=>uA rfl (S9.sm.tup v2) ∅ S9.ls JI λHA sA eA=>?_⟩;have SA:=S9.same sA;refine⟨DA,_,rfl,aK.of eA,_,_,rfl,rfl,?_⟩;refine⟨_,rfl,dl,rfl,.inl ⟨_,.inl SA.ls.hd⟩,_,rfl,_,rfl,_,SA.ls.get ru.1,?_⟩;rw [getD_map];refine⟨_,rfl,_,_,rfl,?_⟩;have ln:=SA.ls.len;refine⟨_,rfl,_,rfl,dl,_,rfl,l7.k (k:=Sum.inr ru.1) SA.ls.hd (br ∅),?_⟩;have sz:UB aa ru.1 (aH l ru):=vd (h:=ru.1) (ps:=ru.2) gp (f:=λp=>(l p).getD 0) λp hp=>by
     have:=dN.mp ca p hp;cases el:l p with
     | some n=>exact S7.lj p n el
     | none =>
      rw [el] at this;have nn:p∉hm aa:=by simpa using this
      exact AE (λz=>nn (kQ.mpr z)) gp hp
    refine⟨kg,_,sg,_,_,_,_,_,_,rfl,⟨λb o hb=>?_,?_,SA.gs.other Xa,SA.ls.put hh _,λz n e=>?_⟩,tk.symm⟩
    .rw [ak (λz=>by rw [z,Yi] at hb;cases hb)];exact SA.sm b o hb
    .rw [ak nDl];exact SA.eD
    unfold du at e;by_cases c:z=ru.1
    .rw [ar c] at e;cases e;rw [c]
     split
     .exact sz
     cases el:l ru.1 with
     | none=>exact sz
     | some n=>exact S7.lj _ n el
    rw [au c] at e;exact SA.lj z n e
   exact⟨_,_,_,_,_,_,_,_,_,rfl,S9,tk.symm⟩
  rintro σ H6 ⟨kg,kl,sg,sl,g6,l,y2,y3,y8,rfl,S6,G7⟩;refine⟨kg,kl,sg,sl,g6,l,_,_,_,_,rfl,S6,?_⟩;rw [G7,ax,ll,cH,FZ];rfl
 rintro σ H5 ⟨kg,kl,sg,sl,g,l,y2,y3,y7,y8,rfl,S5,FZ⟩;rw [ax,ll] at FZ;refine⟨_,rfl,D,rfl,⟨_,aK.of S5.eD⟩,λD9 wO=>ph (zs:=hm aa) [aF dg,aF dl] (λz=>decide ((g z).getD 0<=60) && decide ((l z).getD 61<=60)) rfl (aK.of S5.eD) ∅ wO (λz _ HA Qy sA hq=>?_) λH9 s9 e9=>?_⟩
 .have SA:=S5.same sA;refine⟨_,rfl,dg,rfl,.inl ⟨_,.inl SA.gs.hd⟩,_,rfl,_,SA.gs.get z,?_⟩;rw [getD_map];refine⟨_,_,rfl,rfl,_,rfl,?_⟩;refine cu (λc=>?_) (λc=>?_)
  .rw [c,mf] at hq;refine⟨_,rfl,dl,rfl,.inl ⟨_,.inl SA.ls.hd⟩,_,rfl,_,SA.ls.get z,?_⟩;rw [getD_map];exact⟨_,_,rfl,rfl,hq⟩
  have c':decide ((g z).getD 0<=60)=false:=by simpa using c
  rw [c',nV] at hq;exact hq
 refine⟨D9,_,rfl,aK.of e9,?_⟩;rw [all_map];refine q _ _ (S5.sm.trans s9) λhb=>⟨λz hz=>?_,λz hz=>?_⟩
 .have:=(iZ.mp (dN.mp hb z hz)).2;have h6:=cS this;cases el:l z with
  | none=>rw [el] at h6;exact absurd h6 nofun
  | some n=>rw [el] at h6;exact(S5.lj z n el).le h6
 have:=(iZ.mp (dN.mp hb z hz)).1;rw [<-FZ];exact cS this
end
def oU (zs:List Str) (j:Nat):ip (zs.map V.str) none (some (0+(j:Int)))=(zs.take j).map V.str:=by
 rw [me];unfold ip;rw [HT.mN,HT.pV,qp,Nat.sub_zero,ax,ql]
 conv=>rhs;rw [List.take_eq_take_min,ax]
def CP (zs:List Str) (j:Nat):ip (zs.map V.str) (some (0+(j:Int)+1)) none=(zs.drop (j+1)).map V.str:=by
 rw [me,show (j:Int)+1=((j+1:Nat):Int) by push_cast;rfl];unfold ip;rw [HT.mN,HT.pV,ax,List.map_drop];by_cases h:j+1<=zs.length
 .rw [Nat.min_eq_left h,wR (by rw [uO,ax];exact aE _)]
 rw [Nat.min_eq_right ∅,nO,List.take_zero,List.drop_eq_nil_of_le (by rw [ax];omega)]
def yj.app {aa:List aw}{ms zs:List Str}{ru:aw}(h:yj aa ms)(hr:ru∈aa)(h1:ru.1∈ms)(h2:∀z∈zs,z∈ru.2):yj aa (ms++zs):=by
 intro i x hx;by_cases l:i < ms.length
 .rw [mr l] at hx;rcases h i x hx with a | ⟨r,a,b,c⟩
  .exact .inl a
  exact .inr ⟨r,a,by rw [mw ∅];exact b,c⟩
 rw [kM ∅] at hx;refine .inr ⟨ru,hr,?_,h2 x (cE hx)⟩;rw [List.take_append,wR ∅];exact dP _ h1
def Wm (aa:List aw)(ri:List aw)(aZ:List (Str×Str)):Prop:=∀ru∈ri,∀(j:Nat)(z:Str),Gu aa ru j z->(ru.1,z)∈aZ
structure NJ (aa:List aw)(aZ:List (Str×Str)) (cs:List Str):Prop where
 cn:cs.Nodup
 ch:∀x∈cs,x∈hm aa
 co:∀(i:Nat)(h:Str),cs[i]?=some h->∀z,(h,z)∈aZ->z∈cs.take i
def NJ.add {aa:List aw}{aZ:List (Str×Str)}{cs:List Str}{nm:Str}(h:NJ aa aZ cs)(n:nm∉cs)(hh:nm∈hm aa)(a:∀z,(nm,z)∈aZ->z∈cs):NJ aa aZ (cs++[nm]):=by
 refine⟨jE.mpr ⟨h.cn,by simp,λx hx y hy z=>n (by rw [<-cO.mp hy,<-z];exact hx)⟩,λx hx=>?_,λi x hx z hz=>?_⟩
 .rcases cD.mp hx with q | q
  .exact h.ch x q
  rw [cO.mp q];exact hh
 by_cases l:i < cs.length
 .rw [mr l] at hx;rw [mw ∅];exact h.co i x hx z hz
 have li:=(bj.mp hx).1;rw [bU,ic] at li;have:i=cs.length:=by omega
 subst this;rw [kM (aE _),nO] at hx;cases hx;rw [mw (aE _),cH];exact a z hz
section
def DZ (K:ba):Sp:=λvs H Q _=>∃(R:Addr)(rs:List Addr)(aa:List aw),vs=[.ref R]/\aK K H R (rs.map V.ref)/\bL K H rs aa/\Small aa /\
 ∀(b:Bool)(H':Hp),aC H H'->(b=true->∃ms cs,BO aa ms cs)->Q (.bl b) H'
abbrev NG:List Str:=["_law_rules","_law_head","_law_parts","_law_heads","_law_ended_here","_law_met","_law_again","_law_empty","_law_alone","_law_k","_law_others","_law_settled","_law_name","_law_good_here"]
def eJ:aM NG ["_law_rules"] (az Ep):=jl rfl rfl rfl rfl nofun
def HV (F:iM K "_law_good" "_law_good" Ep f fd)(T:Txt mg)(GE:aG P w K mg base 1 "_law_ended" ["_law_rules","_law_words_here"] (pT K))(GV:aG P w K mg base 1 "_law_not_vast" ["_law_rules","_law_empty"] (DT K)):bZ P w K mg base gw 2 f fd ["_law_rules"] (DZ K):=by
 refine F.ok eJ (λvs H Q E h=>?_) (λeY A outer s H vs Q E hr h=>?_)
 .obtain⟨R,rs,aa,rfl,_⟩:=h;rfl
 obtain⟨R,rs,aa,rfl,hR,cV,o9,q⟩:=h;have Ud:=o9.one;have LA:=o9.most;refine⟨_,aj (aB (i:=3) eJ.nd rfl (Or.inr rfl) (aV ["_law_head","_law_parts"] [] rfl (aQ (pv 0)) (aU rfl rfl) nofun rfl nofun
   (λ_ _ _ _ _=>dC (n:=2) K rfl (aA (aq (i:=0) (show (["_law_head","_law_parts"]:List Str).Nodup by decide +kernel) rfl (bo rfl)) (aA (aq (i:=1) (show (["_law_head","_law_parts"]:List Str).Nodup by decide +kernel) rfl (bo rfl)) bH))) (λ_ _ _ _ _=>bw)
   (λ_ _ _ _ _=>pv 0)))
  (aj (aB (i:=4) eJ.nd rfl (Or.inr rfl) (bA GE hr rfl (ab (pv 0) (ab eX ai))))
  (aj (aB (i:=5) eJ.nd rfl (Or.inr rfl) (eG A3 (pv 3) gk (gi av)))
  (aj (bS cf rfl (aQ (pv 0)) (aq (i:=6) eJ.nd rfl (bo rfl))
   (ao (bS cf rfl (aQ (pv 0)) (dC (n:=2) K rfl (aA (aq (i:=1) eJ.nd rfl (bo rfl)) (aA (aq (i:=2) eJ.nd rfl (bo rfl)) bH)))
    (ao (b9 (a8 i9 (pv 1) (pv 5) rfl)
     (ao (aB (i:=5) eJ.nd rfl (Or.inr rfl) (aN oC (pv 5)
      (aV ["_law_part"] [(3,"_law_heads"),(5,"_law_met")] rfl (eQ (pv 2)) (aU rfl rfl) nofun rfl nofun
       (λ_ _ _ _ _=>aq (i:=0) (show (["_law_part","_law_heads","_law_met"]:List Str).Nodup by decide +kernel) rfl (bo rfl))
       (λ_ _ _ _ _=>gK (PW.pt (jw (a8 (dF K) (pv 0) (pv 1) rfl) (ig (a8 (iT K) (pv 0) (pv 2) rfl)))))
       (λ_ _ _ _ _=>pv 0))))) aY)))))
  (aj (aB (i:=7) eJ.nd rfl (Or.inr rfl) (bA GE hr rfl (ab (pv 0) (ab eX ai))))
  (aj (aB (i:=8) eJ.nd rfl (bo rfl) (bY ai))
  (aj (bS cf rfl (aQ (pv 0)) (dC (n:=2) K rfl (aA (aq (i:=1) eJ.nd rfl (bo rfl)) (aA (aq (i:=2) eJ.nd rfl (bo rfl)) bH)))
   (ao (bS cf rfl (ix rfl T.EC (ab (aI a9 rfl T.len fw (ab (pv 2) ai)) ai)) (aq (i:=9) eJ.nd rfl (bo rfl))
    (aj (aB (i:=10) eJ.nd rfl (bo rfl) (aN vP (eG ie (pv 2) gk (gi (pv 9))) (eG ie (pv 2) (gi (aN d5 (pv 9) av)) gk)))
    (ao (b9 (PW.pt (jw (a8 i9 (bD bT (pv 2) (pv 9) (λ_ _=>rfl)) (pv 3) rfl) (ig (eK (aI (dU rfl) rfl T.all boot_all (ab
      (aV ["_law_part"] [(7,"_law_empty")] rfl (eQ (pv 10)) (aU rfl rfl) nofun rfl nofun
       (λ_ _ _ _ _=>aq (i:=0) (show (["_law_part","_law_empty"]:List Str).Nodup by decide +kernel) rfl (bo rfl)) (λ_ _ _ _ _=>bw)
       (λ_ _ _ _ _=>dM (dF K) (pv 0) (pv 1) rfl)) ai))))))
     (ao (b_ (f_ fV fX fY bE (pv 8) (ab (bC (ab (pv 1) (ab (bD bT (pv 2) (pv 9) (λ_ _=>rfl)) ai))) ai)))) aY))))))
  (aj (aB (i:=11) eJ.nd rfl (Or.inr rfl) (bY ai))
  (aj (bS cf rfl (aQ (pv 0)) (aq (i:=6) eJ.nd rfl (bo rfl))
   (ao (bS cf rfl (aQ (pv 3)) (aq (i:=12) eJ.nd rfl (Or.inr rfl))
    (ao (b9 (PW.pt (jw (eK (aI (dU rfl) rfl T.all boot_all (ab
      (aV ["_law_head","_law_other"] [(11,"_law_settled"),(12,"_law_name")] rfl (aQ (pv 8)) (aU rfl rfl) nofun rfl nofun
       (λ_ _ _ _ _=>dC (n:=2) K rfl (aA (aq (i:=0) (show (["_law_head","_law_other","_law_settled","_law_name"]:List Str).Nodup by decide +kernel) rfl (bo rfl)) (aA (aq (i:=1) (show (["_law_head","_law_other","_law_settled","_law_name"]:List Str).Nodup by decide +kernel) rfl (bo rfl)) bH)))
       (λ_ _ _ _ _=>gK (a8 i_ (pv 0) (pv 3) (cg _)))
       (λ_ _ _ _ _=>dM (dF K) (pv 1) (pv 2) rfl)) ai))) (ig (a8 ik (pv 12) (pv 11) rfl))))
     (ao (b_ (f_ fV fX fY bE (pv 11) (ab (pv 12) ai)))) aY)))))
  (aj (aB (i:=13) eJ.nd rfl (bo rfl) (aI (dU rfl) rfl T.all boot_all (ab
   (aV ["_law_name"] [(4,"_law_ended_here"),(5,"_law_met"),(11,"_law_settled")] rfl (aQ (pv 3)) (aU rfl rfl) nofun rfl nofun
    (λ_ _ _ _ _=>aq (i:=0) (show (["_law_name","_law_ended_here","_law_met","_law_settled"]:List Str).Nodup by decide +kernel) rfl (bo rfl)) (λ_ _ _ _ _=>bw)
    (λ_ _ _ _ _=>lD (dM (dF K) (pv 0) (pv 1) rfl) (lD (dM (dF K) (pv 0) (pv 2) rfl) (lC (dM (dF K) (pv 0) (pv 3) rfl))))) ai)))
  (ao (bz (lD (pv 13) (lC (bA GV hr rfl (ab (pv 0) (ab (pv 7) ai)))))))))))))))),?_⟩
 nofun
 have ll:=a0 cV;refine⟨_,rfl,R,rfl,⟨_,hR⟩,λD hD=>iK hR cV ∅ hD λH1 s1 eD=>?_⟩;refine goN ?_
 ac_rfl
 refine⟨_,rfl,R,rs,aa,true,rfl,s1.seq hR,cV.same s1,o9,λEn H2 fE s2 eE lE=>?_⟩;refine goN ?_
 ac_rfl
 have Vg:ip ((hm aa).map V.str) none (some 1)=((hm aa).take 1).map V.str:=oU (hm aa) 1;have Bl:(hm aa).length=aa.length:=by unfold hm;rw [ax]
 refine⟨_,rfl,_,rfl,D,_,rfl,aK.of (s2 _ _ eD),λM0 hM0=>?_⟩;rw [Vg];have lm0:((hm aa).take 1).length<=1:=by rw [dO];omega
 have Xh:yj aa ((hm aa).take 1):=λi h e=>by
  have li:=(bj.mp e).1;have:i=0:=by omega
  subst this;rw [u_ ∅] at e;rw [bq] at e;obtain⟨r0,e0,rfl⟩:=cq.mp e;exact .inl ⟨r0,e0,rfl⟩
 generalize (hm aa).take 1=m0 at lm0 Xh;have k3:=af hM0 (.lst (m0.map V.str));have s3:=(s1.trans s2).trans k3;have IE:=k3 _ _ (s2 _ _ eD);have Qe:=k3 _ _ eE;have YS:upd H2 M0 (.lst (m0.map V.str)) M0=some (.lst (m0.map V.str)):=ae;generalize upd H2 M0 (.lst (m0.map V.str))=H3 at k3 s3 IE Qe YS;refine goN ?_
 ac_rfl
 let wD:sq:=λi σ H4=>∃(M:Addr) (ms:List Str)(y1 y2 y6:Option V),σ=[aF R,y1,y2,aF D,aF En,aF M,y6,none,none,none,none,none,none,none]/\aC H3 H4/\H4 M=some (.lst (ms.map V.str))/\ms.length<=8+200 * i/\yj aa ms
 refine⟨_,rfl,R,rfl,⟨_,s3.seq hR⟩,cv (xs:=rs.map V.ref) wD ⟨M0,m0,_,_,_,rfl,λ_ _ h=>h,YS,∅,Xh⟩ ?_ ?_ ?_⟩
 .rintro i σ H4 _ ⟨M,ms,y1,y2,y6,rfl,s4,_⟩;exact s4.seq (s3.seq hR)
 .intro i x σ H4 ex sW
  ac_nf0
  obtain⟨M,ms,y1,y2,y6,rfl,s4,eM,lM,mO⟩:=sW;have li:=(bj.mp ex).1;rw [ax] at li;refine goN ?_
  ac_nf
  let C9:sq:=λj σ H5=>∃(M:Addr) (ms:List Str)(y1 y2:Option V),σ=[aF R,y1,y2,aF D,aF En,aF M,some x,none,none,none,none,none,none,none]/\aC H3 H5/\H5 M=some (.lst (ms.map V.str))/\ms.length<=8+200 * i+6 * j/\yj aa ms
  refine⟨_,rfl,R,rfl,⟨_,s4.seq (s3.seq hR)⟩,cv (xs:=rs.map V.ref) C9 ⟨M,ms,_,_,rfl,s4,eM,∅,mO⟩ ?_ ?_ ?_⟩
  .rintro j σ H5 _ ⟨M,ms,y1,y2,rfl,s5,_⟩;exact s5.seq (s3.seq hR)
  .intro j x2 σ H5 jm sW
   ac_nf0
   obtain⟨M,ms,y1,y2,rfl,s5,eM,lM,mO⟩:=sW;have lj:=(bj.mp jm).1;rw [ax] at lj;rw [bq] at jm;obtain⟨r,er,rfl⟩:=cq.mp jm;obtain⟨ru,e1,p,v1,v2⟩:=cV.get er;have gp:=o9.nr ru (cE e1);have A5:=s3.trans s5;refine⟨r,_,rfl,A5.tup v1,rfl,_,_,rfl,_,_,rfl,rfl,?_⟩;refine⟨_,rfl,_,rfl,M,_,rfl,.inl (aK.of eM),rfl,bO _,_,rfl,?_⟩;refine cu (λc=>?_) (λc=>?_)
   .refine⟨_,rfl,_,rfl,p,rfl,⟨_,A5.tup v2⟩,λD2 jL=>gB (xs:=ru.2.map V.str) (λk ys σ2 H6=>∃zs:List Str,ys=zs.map V.str/\zs.length<=k/\(∃y0,σ2=[y0,aF D,aF M])/\aC H5 H6/\H6 D2=some (.lst ys)/\∀z∈zs,z∈ru.2)
     ⟨[],rfl,aE _,⟨none,rfl⟩,af jL _,ae,λ_ h=>(by cases h)⟩ (λk ys σ2 H6 _ h=>?_) (λk v ys σ2 H6 ex h=>?_) (λys σ2 H6 h=>?_)⟩
    .obtain⟨_,_,_,_,s6,_⟩:=h;exact s6.tup (A5.tup v2)
    .obtain⟨zs,rfl,lz,⟨y0,rfl⟩,s6,Bt,zm⟩:=h;have lk:=(bj.mp ex).1;rw [ax] at lk;rw [bq] at ex;obtain⟨z,ez,rfl⟩:=cq.mp ex;refine goN ?_;refine⟨_,rfl,_,rfl,D,_,rfl,.inl (aK.of (s6 _ _ (s5 _ _ IE))),rfl,bO _,_,rfl,?_⟩;refine cu (λc1=>?_) (λc1=>?_)
     .refine⟨_,rfl,_,rfl,M,_,rfl,.inl (aK.of (s6 _ _ eM)),rfl,bO _,_,rfl,?_⟩;refine cu (λc2=>?_) (λc2=>?_)
      .refine⟨_,rfl,Bt,br (by rw [ax];omega),zs++[z],by rw [bB];rfl,by rw [bU];simp;omega,⟨_,rfl⟩,λb o hb=>?_,ae,λy hy=>(cD.mp hy).elim (zm y) λq=>(cO.mp q) ▸ cE ez⟩;rw [ak (λz=>by rw [z,jL] at hb;cases hb)];exact s6 b o hb
      exact⟨zs,rfl,∅,⟨_,rfl⟩,s6,Bt,zm⟩
     refine gW ?_;exact⟨zs,rfl,∅,⟨_,rfl⟩,s6,Bt,zm⟩
    obtain⟨zs,rfl,lz,_,s6,Bt,zm⟩:=h;have cm:ru.1∈ms:=cS ((de _ _).symm.trans c);rw [ax] at lz;refine⟨M,D2,_,_,rfl,rfl,s6 _ _ eM,Bt,fits (by rw [ax,ax];omega),λM2 hM2=>?_⟩;rw [<-bB];refine⟨M2,ms++zs,_,_,rfl,(s5.trans s6).trans (af hM2 _),ae,by rw [bU];omega,mO.app (cE e1) cm zm⟩
   exact⟨M,ms,_,_,rfl,s5,eM,∅,mO⟩
  rintro σ H5 ⟨M,ms,y1,y2,rfl,s5,eM,lM,mO⟩;rw [ax,ll] at lM;exact⟨M,ms,_,_,_,rfl,s5,eM,∅,mO⟩
 rintro σ H4 ⟨M,ms,y1,y2,y6,rfl,s4,eM,lM,mO⟩;have xm:=s3.trans s4;refine⟨_,rfl,R,rs,aa,false,rfl,xm.seq hR,cV.same xm,o9,λEm H5 fEm s5 YW lEm=>?_⟩;refine goN ?_
 ac_rfl
 refine⟨tI,λAl U1=>?_⟩;have k6:=af U1 (.lst []);have s6:=(xm.trans s5).trans k6;have YZ:=k6 _ _ (s5 _ _ (s4 _ _ IE));have YX:=k6 _ _ (s5 _ _ (s4 _ _ Qe));have YR:=k6 _ _ (s5 _ _ eM);have Qd:=k6 _ _ YW;have Y3:upd H5 Al (.lst []) Al=some (.lst []):=ae;have nA:∀b o,H5 b=some o->b≠Al:=λb o h z=>by rw [z,U1] at h;cases h
 have nAD:=nA _ _ (s5 _ _ (s4 _ _ IE));have nAE:=nA _ _ (s5 _ _ (s4 _ _ Qe));have nAM:=nA _ _ (s5 _ _ eM);have nAm:=nA _ _ YW;have fAl:H Al=none:=(xm.trans s5).free U1;generalize upd H5 Al (.lst [])=H6 at k6 s6 YZ YX YR Qd Y3;refine goN ?_
 ac_rfl
 let Kp:Hp->Prop:=λH7=>aC H H7/\H7 D=some (.lst ((hm aa).map V.str))/\H7 En=some (.lst ((cI true aa).map V.str))/\H7 M=some (.lst (ms.map V.str))/\H7 Em=some (.lst ((cI false aa).map V.str))
 have jz:∀{H7 H8:Hp},Kp H7->aC H7 H8->Kp H8:=λh s=>⟨h.1.trans s,s _ _ h.2.1,s _ _ h.2.2.1,s _ _ h.2.2.2.1,s _ _ h.2.2.2.2⟩;have OV:∀{H7:Hp}{xs:List V},Kp H7->Kp (upd H7 Al (.lst xs)):=λh=>⟨λb o hb=>by rw [ak (λz=>by rw [z,fAl] at hb;cases hb)];exact h.1 b o hb,by rw [ak nAD];exact h.2.1,by rw [ak nAE];exact h.2.2.1,by rw [ak nAM];exact h.2.2.2.1,by rw [ak nAm];exact h.2.2.2.2⟩
 let J2:Hp->List Addr->List (Str×Str)->Prop:=λH7 as aZ=>Paired (λa (pr:Str×Str)=>aS K H7 a [.str pr.1,.str pr.2]) as aZ
 let QI:sq:=λi σ H7=>∃(as:List Addr)(aZ:List (Str×Str))(y1 y2 y6 y9 yp:Option V),σ=[aF R,y1,y2,aF D,aF En,aF M,y6,aF Em,aF Al,y9,yp,none,none,none]/\Kp H7/\H7 Al=some (.lst (as.map V.ref))/\J2 H7 as aZ/\as.length<=6 * i/\Wm aa (aa.take i) aZ
 refine⟨_,rfl,R,rfl,⟨_,s6.seq hR⟩,cv (xs:=rs.map V.ref) QI ⟨[],[],_,_,_,_,_,rfl,⟨s6,YZ,YX,YR,Qd⟩,Y3,.nil,by simp,λru h=>(by simp at h)⟩ ?_ ?_ ?_⟩
 .rintro i σ H7 _ ⟨as,aZ,y1,y2,y6,y9,yp,rfl,kp,_⟩;exact kp.1.seq hR
 .intro i x2 σ H7 jm sW
  ac_nf0
  obtain⟨as,aZ,y1,y2,y6,y9,yp,rfl,kp,eA,pA,lA,aO⟩:=sW;have lj:=(bj.mp jm).1;rw [ax] at lj;rw [bq] at jm;obtain⟨r,er,rfl⟩:=cq.mp jm;obtain⟨ru,e1,p,v1,v2⟩:=cV.get er;have gp:=o9.nr ru (cE e1);refine⟨r,_,rfl,kp.1.tup v1,rfl,_,_,rfl,_,_,rfl,rfl,?_⟩;refine⟨_,rfl,p,_,rfl,.inr (kp.1.tup v2),_,rfl,by rw [ax];omega,by rw [ax];omega,?_⟩;rw [ax,jQ]
  let Iz4:sq:=λj σ H8=>∃(as:List Addr)(aZ:List (Str×Str))(y9 yp:Option V),σ=[aF R,some (.str ru.1),aF p,aF D,aF En,aF M,y6,aF Em,aF Al,y9,yp,none,none,none]/\Kp H8/\H8 Al=some (.lst (as.map V.ref))/\J2 H8 as aZ/\as.length<=6 * i+j/\Wm aa (aa.take i) aZ/\∀(j2:Nat)(z2:Str),j2 < j->Gu aa ru j2 z2->(ru.1,z2)∈aZ
  refine iz (n:=ru.2.length) Iz4 ⟨as,aZ,_,_,rfl,kp,eA,pA,∅,aO,λj2 _ h=>by omega⟩ ?_ ?_
  .intro j σ H8 hj sW
   ac_nf0
   obtain⟨as,aZ,y9,yp,rfl,kp,eA,pA,lA,aO,aJ⟩:=sW;obtain⟨z,ez⟩:∃z,ru.2[j]?=some z:=⟨ru.2[j]'∅,cR ∅⟩;have Zg:r_ (ru.2.map V.str) (0+(j:Int))=some (.str z):=by
    rw [me];exact dD (by rw [bq,ez];rfl)
   have eq1:=oU ru.2 j;have eq2:=CP ru.2 j;have lq1:(ru.2.take j).length<=ru.2.length:=by rw [dO];omega
   have lq2:(ru.2.drop (j+1)).length<=ru.2.length:=by rw [uO];omega
   have K4:∀y,y∈ru.2.take j++ru.2.drop (j+1)->∃k,k≠j/\ru.2[k]?=some y:=λy hy=>by
    rcases cD.mp hy with h | h
    .obtain⟨k,lk,ek⟩:=mC h;exact⟨k,∅,ek⟩
    obtain⟨k,ek⟩:=fU h;rw [List.getElem?_drop] at ek;exact⟨j+1+k,∅,ek⟩
   generalize ru.2.take j=q1 at eq1 lq1 K4;generalize ru.2.drop (j+1)=q2 at eq2 lq2 K4;refine goN ?_
   ac_rfl
   refine⟨_,rfl,_,rfl,_,rfl,p,_,rfl,kp.1.tup v2,λt1 H9 s9 e9=>?_⟩;rw [eq1] at e9;refine⟨_,rfl,_,rfl,_,_,rfl,rfl,_,rfl,p,_,rfl,s9.tup (kp.1.tup v2),λt2 HA sA G8=>?_⟩;rw [eq2] at G8;refine⟨t1,t2,_,_,rfl,rfl,sA.tup e9,G8,fits (by rw [ax,ax];omega),λt3 HB sB eB=>?_⟩;rw [<-bB] at eB;refine goN ?_
   ac_rfl
   have SI:=s9.trans (sA.trans sB);have Jx:=jz kp SI;have Vz:=SI _ _ eA;have WZ:J2 HB as aZ:=Paired.di pA λa pr z=>SI.tup z;have xD:∀{HC:Hp},aC HB HC->¬Gu aa ru j z->∃(as:List Addr)(aZ:List (Str×Str))(Zx Se:Option V),[aF R,some (.str ru.1),aF p,aF D,aF En,aF M,y6,aF Em,aF Al,some (.int (0+(j:Int))),aF t3,none,none,none]=[aF R,some (.str ru.1),aF p,aF D,aF En,aF M,y6,aF Em,aF Al,Zx,Se,none,none,none]/\Kp HC/\HC Al=some (.lst (as.map V.ref))/\J2 HC as aZ/\as.length<=6 * i+(j+1)/\Wm aa (aa.take i) aZ/\∀(j2:Nat)(z2:Str),j2 < j+1->Gu aa ru j2 z2->(ru.1,z2)∈aZ:=λ{HC} sC nl=>⟨as,aZ,_,_,rfl,jz Jx sC,sC _ _ Vz,Paired.di WZ λa pr z=>sC.tup z,∅,aO,λj2 z2 h lo=>by
    by_cases c:j2 < j
    .exact aJ j2 z2 c lo
    have:j2=j:=by omega
    subst this;have e2:=lo.1;rw [ez] at e2;cases e2;exact absurd lo nl⟩
   refine⟨_,rfl,_,rfl,p,_,_,_,rfl,rfl,Jx.1.tup v2,Zg,_,rfl,D,_,rfl,.inl (aK.of Jx.2.1),rfl,bO _,_,rfl,?_⟩;refine cu (λc1=>?_) (λc1=>?_)
   .refine⟨_,rfl,t3,rfl,⟨_,eB⟩,λD2 jL=>gA (zs:=q1++q2) [aF Em] (λz=>decide (z∈cI false aa)) rfl eB (by rw [bU];omega) jL (λz _ H5 Qy s5 hq=>?_) λHC sC eC=>?_⟩
    .refine⟨_,rfl,_,rfl,Em,_,rfl,.inl (aK.of (s5 _ _ Jx.2.2.2.2)),rfl,bO _,?_⟩;rw [de];exact hq
    refine⟨D2,_,rfl,aK.of eC,_,rfl,?_⟩;refine cu (λc2=>?_) (λc2=>?_)
    .have GX:=jz Jx sC;refine⟨_,rfl,.inl ⟨rfl,_,aK.of (sC _ _ Vz)⟩,_,rfl,_,rfl,_,rfl,p,_,_,_,rfl,rfl,GX.1.tup v2,Zg,kN,λt ht=>?_⟩;have kD:=af ht (.tup [.str ru.1,.str z]);have sD:=sC.trans kD;have vD:aS K (upd HC t (.tup [.str ru.1,.str z])) t [.str ru.1,.str z]:=aS.of ae;generalize upd HC t (.tup [.str ru.1,.str z])=HD at kD sD vD;have Vy:=sD _ _ Vz;refine⟨Al,_,_,rfl,rfl,Vy,br (by rw [ax];omega),?_⟩;exact⟨as++[t],aZ++[(ru.1,z)],_,_,rfl,OV (jz Jx sD),by rw [ae,bB];rfl,fO (Paired.di WZ λa pr z=>aP Vy (sD.tup z)) (aP Vy vD),by rw [bU];simp;omega,λr uj j2 z2 lo=>dP _ (aO r uj j2 z2 lo),λj2 z2 h lo=>by
      by_cases c:j2 < j
      .exact dP _ (aJ j2 z2 c lo)
      have:j2=j:=by omega
      subst this;have e2:=lo.1;rw [ez] at e2;cases e2;exact dA _ bK⟩
    refine xD sC λlo=>c2 ?_;rw [all_map];refine dN.mpr λy hy=>cC ?_;obtain⟨k,nk,ek⟩:=K4 y hy;exact lo.2.2 k y nk ek
   refine gW ?_;exact xD (λ_ _ h=>h) λlo=>c1 ((de _ _).trans (cC lo.2.1))
  rintro σ H8 ⟨as,aZ,y9,yp,rfl,kp,eA,pA,lA,aO,aJ⟩;refine⟨as,aZ,_,_,_,_,_,rfl,kp,eA,pA,∅,λr uj j2 z2 lo=>?_⟩;rw [cQ,e1] at uj;rcases cD.mp uj with h | h
  .exact aO r h j2 z2 lo
  have:r=ru:=cO.mp h;subst this;exact aJ j2 z2 (bj.mp lo.1).1 lo
 rintro σ H7 ⟨as,aZ,y1,y2,y6,y9,yp,rfl,kp,eA,pA,lA,aO⟩;rw [ax,ll] at lA aO;rw [cH] at aO;refine⟨tI,λCm U0=>?_⟩;have k8:=af U0 (.lst []);have TV:=jz kp k8;have Y2:=k8 _ _ eA;have W4:J2 (upd H7 Cm (.lst [])) as aZ:=Paired.di pA λa pr z=>k8.tup z;have Y0:upd H7 Cm (.lst []) Cm=some (.lst []):=ae;have nC:∀b o,H7 b=some o->b≠Cm:=λb o h z=>by rw [z,U0] at h;cases h
 have nCA:=nC _ _ eA;have nCD:=nC _ _ kp.2.1;have nCE:=nC _ _ kp.2.2.1;have nCM:=nC _ _ kp.2.2.2.1;have nCm:=nC _ _ kp.2.2.2.2;have fCm:H Cm=none:=kp.1.free U0;have OU:∀{H7:Hp}{xs:List V},Kp H7->Kp (upd H7 Cm (.lst xs)):=λh=>⟨λb o hb=>by rw [ak (λz=>by rw [z,fCm] at hb;cases hb)];exact h.1 b o hb,by rw [ak nCD];exact h.2.1,by rw [ak nCE];exact h.2.2.1,by rw [ak nCM];exact h.2.2.2.1,by rw [ak nCm];exact h.2.2.2.2⟩;generalize upd H7 Cm (.lst [])=H8 at k8 TV Y2 W4 Y0;refine goN ?_
 ac_rfl
 have lap:=a0 pA
 let Iz5:sq:=λi σ H9=>∃(cs:List Str)(y1 y2 y6 y9 yp Hf Gz:Option V),σ=[aF R,y1,y2,aF D,aF En,aF M,y6,aF Em,aF Al,y9,yp,aF Cm,Hf,Gz]/\Kp H9/\H9 Al=some (.lst (as.map V.ref))/\J2 H9 as aZ/\H9 Cm=some (.lst (cs.map V.str))/\cs.length<=32 * i/\NJ aa aZ cs
 refine⟨_,rfl,R,rfl,⟨_,TV.1.seq hR⟩,cv (xs:=rs.map V.ref) Iz5 ⟨[],_,_,_,_,_,_,_,rfl,TV,Y2,W4,Y0,by simp,⟨by simp,λ_ h=>(by cases h),λi h e=>(by cases e)⟩⟩ ?_ ?_ ?_⟩
 .rintro i σ H9 _ ⟨cs,y1,y2,y6,y9,yp,Hf,Gz,rfl,GY,_⟩;exact GY.1.seq hR
 .intro i x σ H9 ex sW
  ac_nf0
  obtain⟨cs,y1,y2,y6,y9,yp,Hf,Gz,rfl,GY,Y1,W3,Vx,lC9,MA⟩:=sW;have li:=(bj.mp ex).1;rw [ax] at li;refine goN ?_
  ac_nf
  let Iz6:sq:=λj σ HA=>∃(cs:List Str)(Hf Gz:Option V),σ=[aF R,y1,y2,aF D,aF En,aF M,some x,aF Em,aF Al,y9,yp,aF Cm,Hf,Gz]/\Kp HA/\HA Al=some (.lst (as.map V.ref))/\J2 HA as aZ/\HA Cm=some (.lst (cs.map V.str))/\cs.length<=32 * i+j/\NJ aa aZ cs
  refine⟨_,rfl,D,rfl,⟨_,aK.of GY.2.1⟩,cv (xs:=(hm aa).map V.str) Iz6 ⟨cs,_,_,rfl,GY,Y1,W3,Vx,∅,MA⟩ ?_ ?_ ?_⟩
  .rintro j σ HA _ ⟨cs,Hf,Gz,rfl,OW,_⟩;exact aK.of OW.2.1
  .intro j x2 σ HA jm sW
   ac_nf0
   obtain⟨cs,Hf,Gz,rfl,OW,Nx,Ow,Nw,Xo,RO⟩:=sW;have lj:=(bj.mp jm).1;rw [ax] at lj;rw [bq] at jm;obtain⟨nm,enm,rfl⟩:=cq.mp jm;refine goN ?_;refine⟨_,rfl,Al,rfl,⟨_,aK.of Nx⟩,λD2 jL=>b0 (xs:=as.map V.ref) (λk ys σ2 HB=>∃bs:List Bool,ys=bs.map V.bl/\bs.length<=k/\(∃y0 y1,σ2=[y0,y1,aF Cm,some (.str nm)])/\aC HA HB/\HB D2=some (.lst ys)/\(bs.all id=true->∀pr∈aZ.take k,pr.1=nm->pr.2∈cs))
    ⟨[],rfl,aE _,⟨none,none,rfl⟩,af jL _,ae,λ_ _ h=>(by simp at h)⟩ (λk ys σ2 HB _ h=>?_) (λk v ys σ2 HB ex h=>?_) (λys σ2 HB h=>?_)⟩
   .obtain⟨_,_,_,_,sB,_⟩:=h;exact aK.of (sB _ _ Nx)
   .obtain⟨bs,rfl,lz,⟨u0,u1,rfl⟩,sB,eB,zA⟩:=h;have lk:=(bj.mp ex).1;rw [ax] at lk;rw [bq] at ex;obtain⟨a,ea,rfl⟩:=cq.mp ex;obtain⟨pr,YB⟩:∃pr,aZ[k]?=some pr:=⟨aZ[k]'∅,cR ∅⟩;obtain⟨a',YN,va⟩:=Paired.at_ Ow k pr YB;rw [ea] at YN;cases YN;have tk:aZ.take (k+1)=aZ.take k++[pr]:=by rw [cQ,YB];rfl
    refine⟨a,_,rfl,sB.tup va,rfl,_,_,rfl,_,_,rfl,rfl,?_⟩;refine⟨_,rfl,_,rfl,rfl,_,rfl,?_⟩;refine cu (λc1=>?_) (λc1=>?_)
    .refine⟨_,rfl,_,rfl,Cm,_,rfl,.inl (aK.of (sB _ _ Nw)),rfl,bO _,?_⟩;rw [de];refine⟨eB,br (by rw [ax];omega),bs++[decide (pr.2∈cs)],by rw [bB];rfl,by rw [bU];simp;omega,⟨_,_,rfl⟩,λb o hb=>?_,ae,λPK p2 sU e2=>?_⟩
     .rw [ak (λz=>by rw [z,jL] at hb;cases hb)];exact sB b o hb
     rw [List.all_append,mh] at PK;rw [tk] at sU;rcases cD.mp sU with h | h
     .exact zA PK.1 p2 h e2
     rw [cO.mp h];have:=PK.2;simpa using this
    refine⟨bs,rfl,∅,⟨_,_,rfl⟩,sB,eB,λPK p2 sU e2=>?_⟩;rw [tk] at sU;rcases cD.mp sU with h | h
    .exact zA PK p2 h e2
    have:p2=pr:=cO.mp h;rw [this] at e2;exact absurd (cC (congrArg V.str e2)) c1
   obtain⟨bs,rfl,lz,_,sC,eC,zA⟩:=h;rw [ax] at lz zA;rw [lap,cH] at zA;have GX:=jz OW sC;have xD:∃(cs:List Str)(Sd Sb:Option V),[aF R,y1,y2,aF D,aF En,aF M,some x,aF Em,aF Al,y9,yp,aF Cm,some (.str nm),Gz]=[aF R,y1,y2,aF D,aF En,aF M,some x,aF Em,aF Al,y9,yp,aF Cm,Sd,Sb]/\Kp HB/\HB Al=some (.lst (as.map V.ref))/\J2 HB as aZ/\HB Cm=some (.lst (cs.map V.str))/\cs.length<=32 * i+(j+1)/\NJ aa aZ cs:=⟨cs,_,_,rfl,GX,sC _ _ Nx,Paired.di Ow λa pr z=>sC.tup z,sC _ _ Nw,∅,RO⟩;refine⟨D2,_,rfl,aK.of eC,_,rfl,?_⟩;refine cu (λc2=>?_) (λc2=>?_)
   .refine⟨_,rfl,_,rfl,Cm,_,rfl,.inl (aK.of (sC _ _ Nw)),rfl,bO _,_,rfl,?_⟩;refine cu (λc1=>?_) (λc1=>?_)
    .have Vw:=sC _ _ Nw;have nc:nm∉cs:=λh=>by
      have Ze:(!Ly (V.str nm) (cs.map V.str))=true:=c1;rw [de,cC h] at Ze;cases Ze
     refine⟨_,rfl,.inl ⟨rfl,_,aK.of Vw⟩,_,rfl,Cm,_,_,rfl,rfl,Vw,br (by rw [ax];omega),?_⟩;exact⟨cs++[nm],_,_,rfl,OU GX,by rw [ak nCA];exact sC _ _ Nx,Paired.di Ow λa pr z=>aP Vw (sC.tup z),by rw [ae,bB];rfl,by rw [bU];simp;omega,RO.add nc (cE enm) λz hz=>zA c2 (nm,z) hz rfl⟩
    exact xD
   refine gW ?_;exact xD
  rintro σ HA ⟨cs,Hf,Gz,rfl,OW,Nx,Ow,Nw,Xo,RO⟩;rw [ax,Bl] at Xo;exact⟨cs,_,_,_,_,_,_,_,rfl,OW,Nx,Ow,Nw,∅,RO⟩
 rintro σ H9 ⟨cs,y1,y2,y6,y9,yp,Hf,Gz,rfl,GY,Y1,W3,Vx,lC9,MA⟩;refine⟨_,rfl,D,rfl,⟨_,aK.of GY.2.1⟩,λD3 LX=>ph (zs:=hm aa) [aF En,aF M,aF Cm] (λz=>decide (z∈cI true aa) && (decide (z∈ms) && decide (z∈cs))) rfl (aK.of GY.2.1) ∅ LX (λz _ H5 Qy s5 hq=>?_) λHC sC eC=>?_⟩
 .refine⟨_,rfl,_,rfl,En,_,rfl,.inl (aK.of (s5 _ _ GY.2.2.1)),rfl,bO _,_,rfl,?_⟩;rw [de];show if decide (z∈cI true aa)=true then _ else _;refine cu (λc=>?_) (λc=>?_)
  .rw [c,mf] at hq;refine⟨_,rfl,_,rfl,M,_,rfl,.inl (aK.of (s5 _ _ GY.2.2.2.1)),rfl,bO _,_,rfl,?_⟩;rw [de];show if decide (z∈ms)=true then _ else _;refine cu (λc=>?_) (λc=>?_)
   .rw [c,mf] at hq;refine⟨_,rfl,_,rfl,Cm,_,rfl,.inl (aK.of (s5 _ _ Vx)),rfl,bO _,?_⟩;rw [de];exact hq
   have c':decide (z∈ms)=false:=by simpa using c
   rw [c',nV] at hq;exact hq
  have c':decide (z∈cI true aa)=false:=by simpa using c
  rw [c',nV] at hq;exact hq
 refine⟨D3,_,rfl,aK.of eC,?_⟩;rw [all_map];refine⟨_,rfl,_,rfl,?_⟩;have GX:=jz GY sC;have Zb:Zs aa cs:=λi h e ru gp er j z lo=>MA.co i h e z (er ▸ aO ru gp j z lo);refine cu (λhb=>?_) (λhb=>q _ _ GX.1 λh=>(by cases h));have al:=λz hz=>iZ.mp (dN.mp hb z hz);have ca:∀z∈hm aa,z∈cs:=λz hz=>cS (iZ.mp (al z hz).2).2;refine⟨_,rfl,_,rfl,R,Em,rs,aa,cI false aa,rfl,GX.1.seq hR,cV.same GX.1,o9,GX.2.2.2.2,∅,λb HF sF hv=>?_⟩;refine q _ _ (GX.1.trans sF) λIu=>⟨ms,cs,?_⟩;obtain⟨v1,v2⟩:=hv Iu;have ahd:MU aa (cI false aa) cs:=λru gp hp=>by
  have hc:=ca _ (iC gp);refine⟨hc,λp jA=>?_⟩;obtain⟨j,ej⟩:=fU jA;exact j9 cs p _ (Zb _ _ (lR cs ru.1 hc) ru gp rfl j p ⟨ej,(iJ false aa).sub p (hp p jA),λk y _ ey=>hp y (cE ey)⟩)
 have lcs:=iI cs _ MA.cn MA.ch;refine⟨mO,λz hz=>cS (iZ.mp (al z hz).2).1,MA.cn,MA.ch,Zb,ca,v1,_,DK (λx hx=>rO hx) ahd (n:=aa.length) ∅,λh hh=>v2 h (kQ.mpr hh)⟩
end
theorem o5 {α β:Type}{F:α->β->Prop}:∀{xs:List α}{ys:List β}{Df:List α}{NO:List β},Paired F xs ys->Paired F Df NO->Paired F (xs++Df) (ys++NO)
 | _,_,_,_,.nil,h=>h
 | _,_,_,_,.cons a b,h=>.cons a (o5 b h)
def Eb {aa:List aw}{nms ws:List Str}(nd:nms.Nodup)(n9:nms.length<=9)(dj:∀x∈nms,x∉ws)(hl:aa.length=nms.length)
  (hs:∀(j:Nat)(ru:aw),aa[j]?=some ru->nms[j]?=some ru.1/\wA nms ws j ru.2):RW aa nms ws:=by
 refine⟨nd,n9,dj,λgQ e=>(hs 0 gQ e).1,λru h=>?_,λa h e=>?_,λru h=>?_⟩
 .obtain⟨a,e⟩:=fU h;exact cE (hs a ru e).1
 .have la:=(bj.mp e).1;have e2:aa[a]?=some (aa[a]'∅):=cR ∅;obtain⟨x1,x2⟩:=hs a _ e2;rw [e] at x1;refine⟨(aa[a]'∅).2,?_,?_⟩
  .rw [show h=(aa[a]'∅).1 from fQ x1];exact cE e2
  rcases x2 with ⟨n',wx,e3,_,hw,_,jA⟩ | ⟨l,hw,_⟩
  .rcases jA with q | q
   .exact .inl ⟨n',wx,[],e3,q,hw,λ_ h=>(by cases h)⟩
   exact .inl ⟨n',[],wx,e3,q,λ_ h=>(by cases h),hw⟩
  exact .inr ⟨∅,hw⟩
 obtain⟨a,e⟩:=fU h;rcases (hs a ru e).2 with ⟨n',wx,_,QU,hw,_,jA⟩ | ⟨_,hw,_⟩
 .obtain⟨y,hy⟩:=List.exists_mem_of_ne_nil wx QU;refine .inl ⟨y,?_,hw y hy⟩;rcases jA with q | q
  .rw [q];exact dP _ hy
  rw [q];exact bW _ hy
 cases hc:ru.2 with
 | nil=>exact .inr (.inl rfl)
 | cons p r=>exact .inl ⟨p,bK,hw p (by rw [hc];exact bK)⟩
def QM (nms ws:List Str)(aa:List aw):Prop:=∀ru∈aa,ru.1∈nms/\ru.2.length<=6/\∀x∈ru.2,x∈nms++ws
structure IX (c:Int)(aa:List aw):Prop where
 one:1<=aa.length
 most:aa.length<=8
 ins:∃nms,QF c nms/\QM nms (gN c) aa
 good:∃rk b,Good aa rk b
section
def DY (K:ba):Sp:=λvs H Q _=>∃(S:Addr)(ns:List Int) (at_:Nat),vs=[.ref S,.int (at_:Int)]/\aK K H S (ns.map V.int)/\ns.length<=1000 /\
 ∀(c:Int)(R:Addr)(rs:List Addr)(aa:List aw)(H':Hp),c=cellAt ns at_->H R=none->aC H H'->H' R=some (.lst (rs.map V.ref))->bL K H' rs aa->IX c aa->Q (.ref R) H'
def lh:aM ["_law_script","_law_at","_law_cell","_law_names_here","_law_words_here","_law_rules","_law_more_here","_law_free"] ["_law_script","_law_at"] (az Eo):=jl rfl rfl rfl rfl nofun
def HU (F:iM K "_law_grammar" "_law_grammar" Eo f fd)(T:Txt mg)(GC:aG P w K mg base 2 "_law_cell_at" ["_law_script","_law_k"] (oq K))(GN:aG P w K mg base 2 "_law_names" ["_law_cell"] AX)(GW:aG P w K mg base 2 "_law_words" ["_law_cell"] w6)
  (GS:aG P w K mg base 2 "_law_skeleton" ["_law_script","_law_at","_law_names_here","_law_words_here"] (DU K))(GM:aG P w K mg base 2 "_law_more" ["_law_script","_law_at","_law_names_here","_law_many","_law_words_here"] (DW K))(GG:aG P w K mg base 2 "_law_good" ["_law_rules"] (DZ K)) :
  bZ P w K mg base gw 3 f fd ["_law_script","_law_at"] (DY K):=by
 refine F.ok lh (λvs H Q E h=>?_) (λeY A outer s H vs Q E hr h=>?_)
 .obtain⟨S,ns,at_,rfl,_⟩:=h;rfl
 obtain⟨S,ns,at_,rfl,hS,hn,q⟩:=h;refine⟨_,aj (aB (i:=2) lh.nd rfl (bo rfl) (bA GC hr rfl (ab (pv 0) (ab (pv 1) ai))))
  (aj (aB (i:=3) lh.nd rfl (bo rfl) (bA GN hr rfl (ab (pv 2) ai)))
  (aj (aB (i:=4) lh.nd rfl (bo rfl) (bA GW hr rfl (ab (pv 2) ai)))
  (aj (aB (i:=5) lh.nd rfl (bo rfl) (bA GS hr rfl (ab (pv 0) (ab (aN d5 (pv 1) av) (ab (pv 3) (ab (pv 4) ai))))))
  (aj (aB (i:=6) lh.nd rfl (bo rfl) (bA GM hr rfl (ab (pv 0) (ab (aN d5 (pv 1) av) (ab (pv 3) (ab (aN cX (aN dq (pv 2) av) av) (ab (pv 4) ai)))))))
  (aj (fk (b9 (a8 i_ (aN cX (aN dq (pv 2) av) av) av (cg _))
   (aj (aB (i:=7) lh.nd rfl (bo rfl) (bA GM hr rfl (ab (pv 0) (ab (aN d5 (pv 1) av) (ab (pv 3) (ab (aN d5 av (aN cX (aN dq (pv 2) av) av)) (ab (pv 4) ai)))))))
   (ao (b9 (eK (bA GG hr rfl (ab (pv 7) ai))) (ao (bz (pv 7))) aY))) aY))
  (aj (b9 (eK (bA GG hr rfl (ab (aN oC (pv 5) (pv 6)) ai))) (ao (bz (aN oC (pv 5) (pv 6)))) aY)
  (ao (bz (pv 5))))))))),?_⟩
 refine⟨_,rfl,_,rfl,S,ns,at_,rfl,hS,hn,λc hc=>?_⟩;have wl:=rA c;refine⟨_,rfl,c,rfl,λN nms H1 fN s1 eN nk=>?_⟩;have gl:1<=nms.length/\nms.length<=5:=⟨nk.one,nk.PY⟩;refine⟨_,rfl,c,rfl,λW H2 fW s2 eW=>?_⟩;have Ex:=s1.trans s2;have Vr:=s2 _ _ eN;refine⟨_,rfl,_,rfl,_,_,rfl,rfl,_,rfl,_,rfl,S,N,W,ns,at_+1,nms,gN c,(by show [V.ref S,V.int ((at_:Int)+1),V.ref N,V.ref W]=_;congr 3),Ex.seq hS,hn,Vr,eW,∅,∅,∅,∅,λR1 Jk j4 H3 f3 s3 e3 Oj l3 SE=>?_⟩;have BY:=Ex.trans s3;obtain⟨m,Dk⟩:∃m:Nat,c / 9 % 4=(m:Int):=⟨(c / 9 % 4).toNat,∅⟩;refine⟨_,rfl,_,rfl,_,_,rfl,rfl,_,rfl,_,rfl,_,_,rfl,rfl,⟨nofun,nofun⟩,_,_,rfl,rfl,(by show (0:Int) < 4;decide),_,rfl,S,N,W,ns,at_+4,m,nms,gN c,(by show [V.ref S,V.int ((at_:Int)+4),V.ref N,V.int (c / 9 % 4),V.ref W]=_;rw [Dk];congr 3),BY.seq hS,hn,s3 _ _ Vr,s3 _ _ eW,∅,∅,∅,∅,λR2 KQ oz H4 f4 s4 e4 Q7 l4 in4=>?_⟩;have xm:=BY.trans s4;have e34:=s4 _ _ e3;have KR:=Oj.same s4;have O1:=Eb nk.nd ∅ nk.dj l3 SE;have in1:QM nms (gN c) j4:=λru h=>by
  refine⟨O1.z6 ru h,?_,λx hx=>?_⟩
  .obtain⟨a,e⟩:=fU h;rcases (SE a ru e).2 with ⟨n',wx,_,_,_,l2,h | h⟩ | ⟨_,_,l2⟩
   .rw [h,bU];simp;omega
   .rw [h,dG];omega
   omega
  obtain⟨a,e⟩:=fU h;rcases (SE a ru e).2 with ⟨n',wx,en,_,hw,_,jA⟩ | ⟨_,hw,_⟩
  .have cs:x=n'\/x∈wx:=by
    rcases jA with h | h
    .rw [h] at hx;rcases cD.mp hx with q | q
     .exact .inr q
     exact .inl (cO.mp q)
    rw [h] at hx;rcases bR.mp hx with q | q
    .exact .inl q
    exact .inr q
   rcases cs with rfl | q
   .exact dP _ (cE en)
   exact dA _ (hw x q)
  exact dA _ (hw x hx)
 have Oy:∀{aa:List aw}{ms cs:List Str},BO aa ms cs->1<=aa.length->aa.length<=8->QM nms (gN c) aa->IX c aa:=λg a b i=>⟨a,b,⟨nms,nk,i⟩,g.good⟩;have Oc:∀{aa:List aw},1<=aa.length->aa.length<=8->QM nms (gN c) aa->Small aa:=λa b i=>⟨a,∅,λru h=>(i ru h).2.1⟩;refine⟨λσ H5=>∃y7,σ=[aF S,some (.int (at_:Int)),some (.int c),aF N,aF W,aF R1,aF R2,y7]/\aC H4 H5,?_,?_⟩
 .refine⟨_,rfl,_,_,rfl,rfl,⟨nofun,nofun⟩,_,_,rfl,rfl,(by show (0:Int) < 2;decide),rfl,_,rfl,?_⟩;refine cu (λcc=>?_) (λcc=>?_)
  .have Nf:1+c / 9 % 4=((m+1:Nat):Int):=by omega
   refine⟨_,rfl,_,rfl,_,_,rfl,rfl,_,rfl,_,rfl,_,_,rfl,rfl,⟨nofun,nofun⟩,_,_,rfl,rfl,(by show (0:Int) < 4;decide),_,_,rfl,rfl,_,rfl,S,N,W,ns,at_+4,m+1,nms,gN c,(by show [V.ref S,V.int ((at_:Int)+4),V.ref N,V.int (1+c / 9 % 4),V.ref W]=_;rw [Nf];congr 3),xm.seq hS,hn,s4 _ _ (s3 _ _ Vr),s4 _ _ (s3 _ _ eW),∅,∅,∅,∅,λR3 WR EB H5 f5 s5 e5 Oi l5 Xw=>?_⟩;have A5:=xm.trans s5;refine⟨_,rfl,R3,WR,EB,rfl,aK.of e5,Oi,Oc ∅ ∅ Xw,λb H6 s6 hb=>⟨b,rfl,?_⟩⟩;refine cu (λc2=>?_) (λc2=>?_)
   .obtain⟨ms,cs,g⟩:=hb c2;exact⟨_,rfl,q c R3 WR EB H6 hc (xm.free f5) (A5.trans s6) (s6 _ _ e5) (Oi.same s6) (Oy g ∅ ∅ Xw)⟩
   exact⟨_,rfl,s5.trans s6⟩
  exact⟨_,rfl,aC.refl _⟩
 rintro σ H5 ⟨y7,rfl,s5⟩;have A5:=xm.trans s5;have eA:=s5 _ _ e34;have eB:=s5 _ _ e4;have aad:=a0 KR;have aac:=a0 Q7;have Xv:QM nms (gN c) (j4++oz):=λru h=>(cD.mp h).elim (in1 ru) (in4 ru);have GQ:1<=(j4++oz).length/\(j4++oz).length<=8:=by rw [bU];omega
 have WS:bL K H5 (Jk++KQ) (j4++oz):=o5 (KR.same s5) (Q7.same s5);refine⟨_,rfl,_,rfl,R1,R2,_,_,rfl,rfl,eA,eB,fits (by rw [ax,ax];omega),λR4 hR4=>?_⟩;rw [<-bB];have k6:=af hR4 (.lst ((Jk++KQ).map V.ref));have e6:upd H5 R4 (.lst ((Jk++KQ).map V.ref)) R4=some (.lst ((Jk++KQ).map V.ref)):=ae;generalize upd H5 R4 (.lst ((Jk++KQ).map V.ref))=H6 at k6 e6;have Ew:=A5.trans k6;refine⟨R4,Jk++KQ,j4++oz,rfl,aK.of e6,WS.same k6,Oc GQ.1 GQ.2 Xv,λb H7 s7 hb=>⟨b,rfl,?_⟩⟩;have vI:=k6.trans s7;refine cu (λc2=>?_) (λc2=>?_)
 .obtain⟨ms,cs,g⟩:=hb c2;refine⟨_,rfl,_,rfl,R1,R2,_,_,rfl,rfl,vI _ _ eA,vI _ _ eB,fits (by rw [ax,ax];omega),λR5 US=>?_⟩;rw [<-bB];exact q c R5 (Jk++KQ) (j4++oz) _ hc ((Ew.trans s7).free US) ((Ew.trans s7).trans (af US _)) ae ((WS.same vI).same (af US _)) (Oy g GQ.1 GQ.2 Xv)
 exact⟨_,rfl,q c R1 Jk j4 H7 hc (Ex.free f3) (Ew.trans s7) (vI _ _ eA) ((KR.same s5).same vI) ⟨∅,∅,⟨nms,nk,in1⟩,O1.good⟩⟩
end
abbrev Es:Stmt:=top 52
def dS (k:Nat):Str:=toString ((k:Nat):Int)
def eN (k:Nat):Str := "e" ++ dS k
def wN (k:Nat):Str := "w" ++ dS k
def xN (k:Nat):Str := "x" ++ dS k
def wM:List Str:=(List.range 9).map eN
def wI:List Str:=(List.range 8).map wN++((List.range 8).map xN++(["n","(",")"]:List Str))
def F5:∀k:Nat,k < 9->(dS k).length=1:=by decide +kernel
def vR:wM.Nodup:=by decide +kernel
def Fg:∀x∈wM,x∉wI:=by decide +kernel
def lI {k:Nat}(h:k < 9):wM[k]?=some (eN k):=by unfold wM;rw [bq,List.getElem?_range h];rfl
def RJ:("e8":Str)=eN 8:=by decide +kernel
def AD {k:Nat}(h:k < 8):wN k∈wI:=dP _ (bV.mpr ⟨k,iX.mpr h,rfl⟩)
def Dz {k:Nat}(h:k < 8):xN k∈wI:=dA _ (dP _ (bV.mpr ⟨k,iX.mpr h,rfl⟩))
def Bs {k:Nat}(h:k < 9):eN k∈wM:=bV.mpr ⟨k,iX.mpr h,rfl⟩
def IY (md:Nat->Bool) (a:Nat) (ps:List Str):Prop:=ps=[eN (a+1)]\/(md a=true/\ps=[eN a,wN a,eN (a+1)])\/(md a=false/\ps=[eN (a+1),eN (a+1),xN a])
def IY.nr {md:Nat->Bool}{a:Nat}{ps:List Str}(h:IY md a ps):ps.length<=3:=by
 rcases h with rfl | ⟨_,rfl⟩ | ⟨_,rfl⟩
 .show 1<=3;decide
 .show 3<=3;decide
 show 3<=3;decide
def IY.ins {md:Nat->Bool}{a:Nat}{ps:List Str}(h:IY md a ps)(ha:a < 8):∀x∈ps,x∈wM++wI:=by
 have e0:eN a∈wM++wI:=dP _ (Bs ∅);have e1:eN (a+1)∈wM++wI:=dP _ (Bs ∅);have w1:wN a∈wM++wI:=dA _ (AD ha);have x1:xN a∈wM++wI:=dA _ (Dz ha);rcases h with rfl | ⟨_,rfl⟩ | ⟨_,rfl⟩
 .intro x hx;rw [cO.mp hx];exact e1
 .intro x hx;rcases bR.mp hx with rfl | hx
  .exact e0
  rcases bR.mp hx with rfl | hx
  .exact w1
  rw [cO.mp hx];exact e1
 intro x hx;rcases bR.mp hx with rfl | hx
 .exact e1
 rcases bR.mp hx with rfl | hx
 .exact e1
 rw [cO.mp hx];exact x1
def IY.word {md:Nat->Bool}{a:Nat}{ps:List Str}(h:IY md a ps)(ha:a < 8):ps=[eN (a+1)]\/∃p∈ps,p∈wI:=by
 rcases h with h | ⟨_,rfl⟩ | ⟨_,rfl⟩
 .exact .inl h
 .exact .inr ⟨wN a,bW _ bK,AD ha⟩
 exact .inr ⟨xN a,bW _ (bW _ bK),Dz ha⟩
structure Dp (md:Nat->Bool) (k:Nat)(aa:List aw):Prop where
 sh:∀ru∈aa,∃a,a < k/\ru.1=eN a/\IY md a ru.2
 on:∀a,a < k->(eN a,[eN (a+1)])∈aa
 first:∀gQ,aa[0]?=some gQ->gQ.1=eN 0
 nr:aa.length<=3 * k
def ur {aa:List aw}{ru:aw}(h:∀gQ,aa[0]?=some gQ->gQ.1=eN 0)(e:aa=[]->ru.1=eN 0):∀gQ,(aa++[ru])[0]?=some gQ->gQ.1=eN 0:=λgQ hr=>by
 cases aa with
 | nil=>cases hr;exact e rfl
 | cons a r=>exact h gQ hr
def Dp.next {md:Nat->Bool}{k:Nat}{aa:List aw}(d:Dp md k aa):Dp md (k+1) (aa++[(eN k,[eN (k+1)])]):=by
 refine⟨λru h=>?_,λa ha=>?_,ur d.first λh=>?_,by have:=d.nr;rw [bU,ic];omega⟩
 .rcases cD.mp h with h | h
  .obtain⟨a,la,z⟩:=d.sh ru h;exact⟨a,∅,z⟩
  rw [cO.mp h];exact⟨k,∅,rfl,.inl rfl⟩
 .by_cases c:a < k
  .exact dP _ (d.on a c)
  have:a=k:=by omega
  subst this;exact dA _ bK
 cases k with
 | zero=>rfl
 | succ n=>have:=d.on 0 (Nat.succ_pos _);rw [h] at this;cases this
def Dp.more {md:Nat->Bool}{k:Nat}{aa:List aw}{ps:List Str}(d:Dp md (k+1) aa)(hs:IY md k ps)(nr:aa.length+1<=3 * (k+1)):Dp md (k+1) (aa++[(eN k,ps)]):=by
 refine⟨λru h=>?_,λa ha=>dP _ (d.on a ha),ur d.first λh=>?_,by rw [bU,ic];omega⟩
 .rcases cD.mp h with h | h
  .exact d.sh ru h
  rw [cO.mp h];exact⟨k,∅,rfl,hs⟩
 have:=d.on 0 (Nat.succ_pos _);rw [h] at this;cases this
structure wG (aa:List aw):Prop where
 one:1<=aa.length
 most:aa.length<=26
 three:∀ru∈aa,ru.1∈wM/\ru.2.length<=3/\∀x∈ru.2,x∈wM++wI
 good:∃rk b,Good aa rk b
 z6:∀a,a < 9->eN a∈hm aa
 Q4:∃md:Nat->Bool,∀ru∈aa,∃a,ru.1=eN a/\((a < 8/\IY md a ru.2)\/(a=8/\(ru.2=[]\/ru.2=(["n"]:List Str)\/ru.2=(["(","e0",")"]:List Str))))
def IH {md:Nat->Bool}{aa more:List aw}{ps:List Str}(d:Dp md 8 aa)(hp:ps=[]\/ps=(["n"]:List Str))(hm:more=[]\/more=([(("e8":Str),(["(","e0",")"]:List Str))]:List aw)):wG (aa++(("e8":Str),ps)::more):=by
 have T6:∀ru∈(("e8":Str),ps)::more,ru.1=eN 8/\ru.2.length<=3/\(∀x∈ru.2,x∈wM++wI)/\(ru.2=[]\/∃p∈ru.2,p∈wI):=λru h=>by
  rcases bR.mp h with h | h
  .subst h;refine⟨RJ,?_⟩;rcases hp with rfl | rfl
   .exact⟨nofun,λ_ h=>(by cases h),.inl rfl⟩
   exact⟨nofun,nofun,.inr ⟨"n",nofun,nofun⟩⟩
  rcases hm with rfl | rfl
  .cases h
  rw [cO.mp h];exact⟨RJ,nofun,nofun,.inr ⟨"(",nofun,nofun⟩⟩
 have Ng:∀ru∈aa++(("e8":Str),ps)::more,ru.1∈wM/\ru.2.length<=3/\∀x∈ru.2,x∈wM++wI:=λru h=>by
  rcases cD.mp h with h | h
  .obtain⟨a,la,e,ds⟩:=d.sh ru h;exact⟨e ▸ Bs ∅,ds.nr,ds.ins la⟩
  obtain⟨e,l3,i3,_⟩:=T6 ru h;exact⟨e ▸ Bs nofun,l3,i3⟩
 have lm:more.length<=1:=by rcases hm with rfl | rfl <;> decide
 have:=d.nr;refine⟨by rw [bU,dG];omega,by rw [bU,dG];omega,Ng,(RW.good (nms:=wM) (ws:=wI) ⟨vR,nofun,Fg,λgQ e=>?_,λru h=>(Ng ru h).1,λa h e=>?_,λru h=>?_⟩),λa ha=>?_,⟨md,λru h=>?_⟩⟩
 .have h0:=d.on 0 nofun;cases aa with
  | nil=>cases h0
  | cons r rs=>rw [lI nofun,d.first gQ e]
 .have la:=(bj.mp e).1;have l9:wM.length=9:=by decide
  rw [lI ∅] at e;cases e;by_cases c:a < 8
  .exact⟨[eN (a+1)],dP _ (d.on a c),.inl ⟨eN (a+1),[],[],lI ∅,rfl,λ_ h=>(by cases h),λ_ h=>(by cases h)⟩⟩
  have:a=8:=by omega
  subst this;refine⟨ps,dA _ (by rw [<-RJ];exact bK),.inr ⟨l9,λp h=>?_⟩⟩;rcases hp with rfl | rfl
  .cases h
  rw [cO.mp h];decide +kernel
 .rcases cD.mp h with h | h
  .obtain⟨a,la,e,ds⟩:=d.sh ru h;rcases ds.word la with q | q
   .refine .inr (.inr ⟨eN (a+1),?_,q⟩);rw [e,oM vR (lI ∅)];exact lI ∅
   exact .inl q
  obtain⟨_,_,_,q⟩:=T6 ru h;exact q.elim (λz=>.inr (.inl z)) .inl
 .by_cases c:a < 8
  .exact bV.mpr ⟨_,dP _ (d.on a c),rfl⟩
  have:a=8:=by omega
  subst this;exact bV.mpr ⟨_,dA _ bK,RJ⟩
 rcases cD.mp h with h | h
 .obtain⟨a,la,e,ds⟩:=d.sh ru h;exact⟨a,e,.inl ⟨la,ds⟩⟩
 refine⟨8,(T6 ru h).1,.inr ⟨rfl,?_⟩⟩;rcases bR.mp h with h | h
 .subst h;exact hp.imp id .inl
 rcases hm with rfl | rfl
 .cases h
 rw [cO.mp h];exact .inr (.inr rfl)
structure Gq (K:ba)(H H5:Hp)(L:Addr)(rs:List Addr)(aa:List aw):Prop where
 sm:aC H H5
 eL:H5 L=some (.lst (rs.map V.ref))
 rl:bL K H5 rs aa
theorem Gq.same {K:ba}{H H5 H6:Hp}{L:Addr}{rs:List Addr}{aa:List aw}(h:Gq K H H5 L rs aa)(s:aC H5 H6):Gq K H H6 L rs aa:=⟨h.sm.trans s,s _ _ h.eL,h.rl.same s⟩
def Gq.app {K:ba}{H H5:Hp}{L r p:Addr}{rs:List Addr}{aa:List aw}{x:Str}{ps:List Str}(h:Gq K H H5 L rs aa)(fL:H L=none)(v1:aS K H5 r [.str x,.ref p])(v2:aS K H5 p (ps.map V.str)) :
  Gq K H (upd H5 L (.lst (rs.map V.ref++[.ref r]))) L (rs++[r]) (aa++[(x,ps)]) :=
 ⟨λb o hb=>by rw [ak (λz=>by rw [z,fL] at hb;cases hb)];exact h.sm b o hb,by rw [ae,bB];rfl,
  fO (Paired.di h.rl λ_ _ ⟨q,a,b⟩=>⟨q,aP h.eL a,aP h.eL b⟩) ⟨p,aP h.eL v1,aP h.eL v2⟩⟩
section
def Ea (K:ba):Sp:=λvs H Q _=>∃(S:Addr)(ns:List Int),vs=[.ref S]/\aK K H S (ns.map V.int)/\ns.length<=1000 /\
 ∀(R:Addr)(rs:List Addr)(aa:List aw)(H':Hp),H R=none->aC H H'->H' R=some (.lst (rs.map V.ref))->bL K H' rs aa->wG aa->Q (.ref R) H'
def ot:aM ["_law_script","_law_rules","_law_k","_law_cell","_law_behind"] ["_law_script"] (az Es):=jl rfl rfl rfl rfl nofun
def uc:∀k:Nat,k < 10->((k:Nat):Int).natAbs.log2 < 1920:=by decide +kernel
def HX (F:iM K "_law_deep" "_law_deep" Es f fd)(T:Txt mg)(GC:aG P w K mg base 1 "_law_cell_at" ["_law_script","_law_k"] (oq K)):bZ P w K mg base gw 2 f fd ["_law_script"] (Ea K):=by
 refine F.ok ot (λvs H Q E h=>?_) (λeY A outer s H vs Q E hr h=>?_)
 .obtain⟨S,ns,rfl,_⟩:=h;rfl
 obtain⟨S,ns,rfl,hS,hn,q⟩:=h;refine⟨_,aj (aB (i:=1) ot.nd rfl (bo rfl) (bY ai))
  (aj (bS cf rfl (ix rfl T.EC (ab av ai)) (aq (i:=2) ot.nd rfl (bo rfl))
   (aj (aB (i:=3) ot.nd rfl (bo rfl) (bA GC hr rfl (ab (pv 0) (ab (aN d5 av (pv 2)) ai))))
   (aj (aB (i:=4) ot.nd rfl (bo rfl) (aN fh bI (bc d6 rfl T.str iL (ab (aN d5 (pv 2) av) ai))))
   (aj (fk (b_ (f_ fV fX fY bE (pv 1) (ab (bC (ab (aN fh bI (bc d6 rfl T.str iL (ab (pv 2) ai))) (ab (bC (ab (pv 4) ai)) ai))) ai))))
   (aj (fk (b9 (a8 i_ (aN cX (pv 3) av) av (cg _))
    (ao (b_ (f_ fV fX fY bE (pv 1) (ab (bC (ab (aN fh bI (bc d6 rfl T.str iL (ab (pv 2) ai))) (ab (bC (ab (aN fh bI (bc d6 rfl T.str iL (ab (pv 2) ai))) (ab (aN fh bI (bc d6 rfl T.str iL (ab (pv 2) ai))) (ab (pv 4) ai)))) ai))) ai)))) aY))
   (ao (b9 (a8 i_ (aN cX (pv 3) av) av (cg _))
    (ao (b_ (f_ fV fX fY bE (pv 1) (ab (bC (ab (aN fh bI (bc d6 rfl T.str iL (ab (pv 2) ai))) (ab (bC (ab (pv 4) (ab (pv 4) (ab (aN fh bI (bc d6 rfl T.str iL (ab (pv 2) ai))) ai)))) ai))) ai)))) aY)))))))
  (aj (aB (i:=3) ot.nd rfl (bo rfl) (bA GC hr rfl (ab (pv 0) (ab av ai))))
  (aj (fk (b_ (f_ fV fX fY bE (pv 1) (ab (bC (ab bI (ab (bD cZ (bY (ab (bC (ab bI ai)) (ab (bC ai) ai))) (aN cX (pv 3) av) (λ_ _=>rfl)) ai))) ai))))
  (aj (fk (b9 (a8 i_ (aN cX (aN dq (pv 3) av) av) av (cg _))
   (ao (b_ (f_ fV fX fY bE (pv 1) (ab (bC (ab bI (ab (bC (ab bI (ab bI (ab bI ai)))) ai))) ai)))) aY))
  (ao (bz (pv 1))))))),?_⟩
 refine⟨tI,λL hL=>?_⟩;have k1:=af hL (.lst []);have e1:upd H L (.lst []) L=some (.lst []):=ae;generalize upd H L (.lst [])=H1 at k1 e1;refine⟨8,rfl,nofun,nofun,?_⟩;have md:∃md:Nat->Bool,md=λk=>decide (cellAt ns (1+k) % 3=1):=⟨_,rfl⟩;obtain⟨md,XU⟩:=md;refine iz (n:=8) (λk σ H5=>∃(rs:List Addr)(aa:List aw)(y2 y3 y4:Option V),σ=[aF S,aF L,y2,y3,y4]/\Gq K H H5 L rs aa/\Dp md k aa) ⟨[],[],none,none,none,rfl,⟨k1,e1,.nil⟩,⟨λ_ h=>(by cases h),λ_ h=>absurd h (nX _),λ_ h=>(by cases h),nofun⟩⟩ ?_ ?_
 .rintro k σ H5 hk ⟨rs,aa,y2,y3,y4,rfl,S5,D5⟩;have lS:=F5 k ∅;have lS1:=F5 (k+1) ∅;have lg:=uc k ∅;have lg1:=uc (k+1) ∅;have l1:∀z:Str,(z = "e" \/ z = "w" \/ z = "x")->z.length=1:=by
   rintro z (rfl | rfl | rfl) <;> decide +kernel
  have hz:(0:Int)+(k:Int)=((k:Nat):Int):=me _;have hz1:((k:Nat):Int)+1=((k+1:Nat):Int):=rfl;rw [hz];refine goN ?_;refine⟨_,rfl,_,rfl,_,_,rfl,rfl,?_⟩;refine⟨S,ns,1+k,(by show [V.ref S,V.int (1+((k:Nat):Int))]=_;congr 3),S5.sm.seq hS,hn,λc PB=>?_⟩;refine⟨_,rfl,_,_,rfl,rfl,?_⟩;refine⟨_,rfl,(by show (((k:Nat):Int)+1).natAbs.log2 < 1920;exact lg1),?_⟩;refine⟨_,_,rfl,rfl,fits (by show ("e":Str).length+(dS (k+1)).length<=_;rw [l1 _ (.inl rfl)];omega),?_⟩;have U5:=D5.nr;have ll5:=a0 S5.rl;have ez:∀z:Str,(z = "e" \/ z = "w" \/ z = "x")->z.length+(dS k).length<=sizeLine:=λz h=>fits (by rw [l1 z h];omega);refine⟨λσ H6=>∃(rs:List Addr)(aa:List aw),σ=[aF S,aF L,some (.int ((k:Nat):Int)),some (.int c),some (.str (eN (k+1)))]/\Gq K H H6 L rs aa/\Dp md (k+1) aa/\aa.length<=3 * k+1,?_,?_⟩
  .refine⟨_,rfl,.inl ⟨rfl,_,aK.of S5.eL⟩,_,rfl,_,rfl,lg,_,_,rfl,rfl,ez "e" (.inl rfl),_,rfl,I9,λp hp=>?_⟩;have kA:=af hp (.tup [V.str (eN (k+1))]);have eA:aS K (upd H5 p (.tup [V.str (eN (k+1))])) p ([eN (k+1)].map V.str):=aS.of ae;refine⟨kN,λr uj=>?_⟩;have kB:=kA.trans (af uj (.tup [V.str (eN k),V.ref p]));have G8:=(af uj (.tup [V.str (eN k),V.ref p])).tup eA;have eB:aS K (upd (upd H5 p (.tup [V.str (eN (k+1))])) r (.tup [V.str (eN k),V.ref p])) r [V.str (eN k),V.ref p]:=aS.of ae;have SB:=S5.same kB;refine⟨L,_,_,rfl,rfl,SB.eL,br (by rw [ax];omega),?_⟩;exact⟨rs++[r],_,rfl,SB.app hL eB G8,D5.next,by rw [bU,ic];omega⟩
  rintro σ H6 ⟨KP,KN,rfl,S6,D6,aan⟩;have Xl:=a0 S6.rl;refine⟨λσ H7=>∃(rs:List Addr)(aa:List aw),σ=[aF S,aF L,some (.int ((k:Nat):Int)),some (.int c),some (.str (eN (k+1)))]/\Gq K H H7 L rs aa/\Dp md (k+1) aa/\aa.length<=3 * k+2,?_,?_⟩
  .refine⟨_,rfl,_,_,rfl,rfl,(by show (0:Int) < 3;decide),rfl,_,rfl,?_⟩;refine cu (λcc=>?_) (λ_=>?_)
   .refine⟨_,rfl,.inl ⟨rfl,_,aK.of S6.eL⟩,_,rfl,_,rfl,lg,_,_,rfl,rfl,ez "e" (.inl rfl),_,rfl,_,rfl,lg,_,_,rfl,rfl,ez "e" (.inl rfl),_,rfl,_,rfl,lg,_,_,rfl,rfl,ez "w" (.inr (.inl rfl)),_,rfl,I8,λp hp=>?_⟩;have kA:=af hp (.tup [V.str (eN k),V.str (wN k),V.str (eN (k+1))]);have eA:aS K (upd H6 p (.tup [V.str (eN k),V.str (wN k),V.str (eN (k+1))])) p ([eN k,wN k,eN (k+1)].map V.str):=aS.of ae;refine⟨kN,λr uj=>?_⟩;have kB:=kA.trans (af uj (.tup [V.str (eN k),V.ref p]));have G8:=(af uj (.tup [V.str (eN k),V.ref p])).tup eA;have eB:aS K (upd (upd H6 p (.tup [V.str (eN k),V.str (wN k),V.str (eN (k+1))])) r (.tup [V.str (eN k),V.ref p])) r [V.str (eN k),V.ref p]:=aS.of ae;have SB:=S6.same kB;refine⟨L,_,_,rfl,rfl,SB.eL,br (by rw [ax];omega),?_⟩;have c3:c % 3=1:=by
     have z:=cS cc;injection z
    exact⟨KP++[r],_,rfl,SB.app hL eB G8,D6.more (.inr (.inl ⟨by rw [XU];show decide (cellAt ns (1+k) % 3=1)=true;rw [<-PB];exact cC c3,rfl⟩)) ∅,by rw [bU,ic];omega⟩
   exact⟨KP,KN,rfl,S6,D6,∅⟩
  rintro σ H7 ⟨M4,KL,rfl,S7,D7,aam⟩;have ll7:=a0 S7.rl;refine⟨_,rfl,_,_,rfl,rfl,(by show (0:Int) < 9;decide),rfl,_,rfl,?_⟩;refine cu (λcc=>?_) (λ_=>?_)
  .refine⟨_,rfl,.inl ⟨rfl,_,aK.of S7.eL⟩,_,rfl,_,rfl,lg,_,_,rfl,rfl,ez "e" (.inl rfl),_,rfl,_,rfl,_,rfl,_,rfl,lg,_,_,rfl,rfl,ez "x" (.inr (.inr rfl)),I8,λp hp=>?_⟩;have kA:=af hp (.tup [V.str (eN (k+1)),V.str (eN (k+1)),V.str (xN k)]);have eA:aS K (upd H7 p (.tup [V.str (eN (k+1)),V.str (eN (k+1)),V.str (xN k)])) p ([eN (k+1),eN (k+1),xN k].map V.str):=aS.of ae;refine⟨kN,λr uj=>?_⟩;have kB:=kA.trans (af uj (.tup [V.str (eN k),V.ref p]));have G8:=(af uj (.tup [V.str (eN k),V.ref p])).tup eA;have eB:aS K (upd (upd H7 p (.tup [V.str (eN (k+1)),V.str (eN (k+1)),V.str (xN k)])) r (.tup [V.str (eN k),V.ref p])) r [V.str (eN k),V.ref p]:=aS.of ae;have SB:=S7.same kB;refine⟨L,_,_,rfl,rfl,SB.eL,br (by rw [ax];omega),?_⟩;have c9:c % 9=5:=by
    have z:=cS cc;injection z
   exact⟨M4++[r],_,_,_,_,rfl,SB.app hL eB G8,D7.more (.inr (.inr ⟨by rw [XU];show decide (cellAt ns (1+k) % 3=1)=false;rw [<-PB];exact fA ∅,rfl⟩)) ∅⟩
  exact⟨M4,KL,_,_,_,rfl,S7,D7⟩
 rintro σ H5 ⟨rs,aa,y2,y3,y4,rfl,S5,D5⟩;have U5:=D5.nr;have ll5:=a0 S5.rl;refine⟨_,rfl,S,ns,9,rfl,S5.sm.seq hS,hn,λc _=>?_⟩;refine⟨λσ H6=>∃(KP:List Addr) (ps:List Str),σ=[aF S,aF L,y2,some (.int c),y4]/\Gq K H H6 L KP (aa++[(("e8":Str),ps)])/\(ps=[]\/ps=(["n"]:List Str)),?_,?_⟩
 .refine⟨_,rfl,.inl ⟨rfl,_,aK.of S5.eL⟩,I9,λt1 h1=>⟨tI,λt2 h2=>⟨kN,λLL PL=>?_⟩⟩⟩;have kA:=af h1 (.tup [V.str "n"]);have e1:aS K (upd H5 t1 (.tup [V.str "n"])) t1 ((["n"]:List Str).map V.str):=aS.of ae;have kB:=af h2 (.tup []);have e2:aS K (upd (upd H5 t1 (.tup [V.str "n"])) t2 (.tup [])) t2 (([]:List Str).map V.str):=aS.of ae;have kC:=af PL (.lst [V.ref t1,V.ref t2]);have e3:upd (upd (upd H5 t1 (.tup [V.str "n"])) t2 (.tup [])) LL (.lst [V.ref t1,V.ref t2]) LL=some (.lst [V.ref t1,V.ref t2]):=ae;generalize upd (upd (upd H5 t1 (.tup [V.str "n"])) t2 (.tup [])) LL (.lst [V.ref t1,V.ref t2])=HC at kC e3;have KD:=(kA.trans kB).trans kC;have e1C:=(kB.trans kC).tup e1;have e2C:=kC.tup e2;obtain⟨i,pi,ps,ei,X_,vp,Im⟩:∃(i:Int)(pi:Addr) (ps:List Str),c % 2=i/\r_ [V.ref t1,V.ref t2] i=some (.ref pi)/\aS K HC pi (ps.map V.str)/\(ps=[]\/ps=(["n"]:List Str)):=by
   obtain h | h:c % 2=0\/c % 2=1:=by omega
   .exact⟨0,t1,["n"],h,rfl,e1C,.inr rfl⟩
   exact⟨1,t2,[],h,rfl,e2C,.inl rfl⟩
  refine⟨_,rfl,_,_,rfl,rfl,(by show (0:Int) < 2;decide),?_⟩;refine⟨LL,_,i,.ref pi,rfl,congrArg V.int ei,aK.of e3,X_,?_⟩;refine⟨kN,λr uj=>?_⟩;have kD:=af uj (.tup [V.str "e8",V.ref pi]);have eD:aS K (upd HC r (.tup [V.str "e8",V.ref pi])) r [V.str "e8",V.ref pi]:=aS.of ae;have SD:=S5.same (KD.trans kD);refine⟨L,_,_,rfl,rfl,SD.eL,br (by rw [ax];omega),?_⟩;exact⟨rs++[r],ps,rfl,SD.app hL eD (kD.tup vp),Im⟩
 rintro σ H6 ⟨KP,ps,rfl,S6,Im⟩;have Xl:=a0 S6.rl;rw [bU,ic] at Xl;refine⟨λσ H7=>∃(M4:List Addr)(more:List aw)(y3:Option V),σ=[aF S,aF L,y2,y3,y4]/\Gq K H H7 L M4 (aa++(("e8":Str),ps)::more)/\(more=[]\/more=([(("e8":Str),(["(","e0",")"]:List Str))]:List aw)),?_,?_⟩
 .refine⟨_,rfl,_,_,rfl,rfl,⟨nofun,nofun⟩,_,_,rfl,rfl,(by show (0:Int) < 2;decide),rfl,_,rfl,?_⟩;refine cu (λ_=>?_) (λ_=>?_)
  .refine⟨_,rfl,.inl ⟨rfl,_,aK.of S6.eL⟩,I8,λp hp=>?_⟩;have kA:=af hp (.tup [V.str "(",V.str "e0",V.str ")"]);have eA:aS K (upd H6 p (.tup [V.str "(",V.str "e0",V.str ")"])) p ((["(","e0",")"]:List Str).map V.str):=aS.of ae;refine⟨kN,λr uj=>?_⟩;have kB:=kA.trans (af uj (.tup [V.str "e8",V.ref p]));have G8:=(af uj (.tup [V.str "e8",V.ref p])).tup eA;have eB:aS K (upd (upd H6 p (.tup [V.str "(",V.str "e0",V.str ")"])) r (.tup [V.str "e8",V.ref p])) r [V.str "e8",V.ref p]:=aS.of ae;have SB:=S6.same kB;refine⟨L,_,_,rfl,rfl,SB.eL,br (by rw [ax];omega),?_⟩;have SC:=SB.app hL eB G8;rw [jD] at SC;exact⟨KP++[r],_,_,rfl,SC,.inr rfl⟩
  exact⟨KP,[],_,rfl,S6,.inl rfl⟩
 rintro σ H7 ⟨M4,more,y3,rfl,S7,hmo⟩;exact⟨_,rfl,q L M4 _ H7 hL S7.sm S7.eL S7.rl (IH D5 Im hmo)⟩
end
end h_
namespace L2
open PySem PySem.Spec PyProof.Rows
def Mj:List V->List V->Bool
 | [],[]=>true
 | x::xs,y::ys=>uw x y && Mj xs ys
 | _,_=>false
theorem ux:∀(xs ys:List V),((List.range (min xs.length ys.length)).all (λj=>uw (xs.getD j .fc) (ys.getD j .fc)) && (xs.length == ys.length))=Mj xs ys
 | [],[]=>rfl
 | [],y::ys=>by simp [Mj]
 | x::xs,[]=>by simp [Mj]
 | x::xs,y::ys=>by
  have ih:=ux xs ys;show _=(uw x y && Mj xs ys);rw [<-ih,dG,dG,Nat.succ_min_succ,List.range_succ_eq_map,List.all_cons,List.all_map];simp only [Function.comp_def,List.getD_cons_zero,List.getD_cons_succ,Nat.succ_eq_add_one];rw [Bool.and_assoc]
  congr 2
  simp
def Ab {A:Around}{s:Shared}{xs ys:List V}{aT eU:List Value}(r:a_ xs aT)(r2:a_ ys eU)(fx:xs.all jk=true)(fy:ys.all jk=true) (j:Nat)(h1:j < aT.toArray.size)(h2:j < eU.toArray.size) :
  SeqAt.EqAt A s aT.toArray[j] eU.toArray[j] (uw (xs.getD j .fc) (ys.getD j .fc)):=by
 have l1:=r.length;have l2:=r2.length;have k1:j < aT.length:=by simpa using h1
 have k2:j < eU.length:=by simpa using h2
 have g1:xs[j]?=some (xs[j]'∅):=cR ∅;have g2:ys[j]?=some (ys[j]'∅):=cR ∅;obtain⟨u1,e1,q1⟩:=r.get g1;obtain⟨u2,e2,q2⟩:=r2.get g2;have f1:aT.toArray[j]=u1:=by
  have:=(bj.mp e1).2;simpa using this
 have f2:eU.toArray[j]=u2:=by
  have:=(bj.mp e2).2;simpa using this
 rw [f1,f2];have d1:xs.getD j .fc=xs[j]'∅:=by rw [tF,g1];rfl
 have d2:ys.getD j .fc=ys[j]'∅:=by rw [tF,g2];rfl
 rw [d1,d2];exact Ad q1 q2 (dN.mp fx _ (uN _)) (dN.mp fy _ (uN _))
def kS:Value->Str
 | .str z _=>z
 | _ => ""
def BJ (P:Program)(w:World)(h:Heap)(a:Addr)(led:Bool) (ds:List Str):Prop:=∃(o:Obj)(es:Array (Int×Value)) (ep:Nat)(t:SetTable),h.get? a=some o/\o.ExactSet/\o.data=.set es ep t/\ElemsOf (strKind P w) es.toList/\(∀e∈es.toList,∃z k,e.2=.str z k)/\(es.toList.map λe=>kS e.2).Perm ds/\t.fits es.size=true/\t.led=led/\(0 < es.size->t.plain=false)
theorem BJ.size {es:Array (Int×Value)}{ds:List Str}(h:(es.toList.map λe=>kS e.2).Perm ds):es.size=ds.length:=by
 rw [<-h.length_eq,ax,oY]
def BJ.at {P:Program}{w:World}{h h':Heap}{a:Addr}{led:Bool}{ds:List Str}(T:BJ P w h a led ds)(k:∀o,h.get? a=some o->h'.get? a=some o):BJ P w h' a led ds:=by
 obtain⟨o,es,ep,t,ho,r⟩:=T;exact⟨o,es,ep,t,k _ ho,r⟩
section
variable {P:Program}{w:World}{A:Around}{E:Value->Shared->Prop}{s:Shared}
end
section
variable {P:Program}{w:World}{A:Around}{R:Result->Shared->Prop}{I:Addr}{fp wr:List Addr}{G:Array GenState->Array GenState->Prop}{n:Nat}{Pv:Nat->Value->Prop}{St:Nat->Shared->Prop}
end
section
variable {P:Program}{w:World}{A:Around}{E:Value->Shared->Prop}{s:Shared}
end
theorem rL {α:Type}:∀(l:List α) (i:Nat)(x:α),l[i]?=some x->(x::l.eraseIdx i).Perm l
 | [],i,x,h=>by cases h
 | a::r,0,x,h=>by cases h;exact List.Perm.refl _
 | a::r,i+1,x,h=>by
  have ih:=rL r i x h;show (x::a::r.eraseIdx i).Perm (a::r);exact(List.Perm.swap a x _).trans (ih.cons a)
theorem A_ {α:Type}(next:Nat->Nat):∀(f k:Nat)(left:List α)(out:Array α),left.length=f->(pickOrder.go next f k left out).toList.Perm (out.toList++left)
 | 0,k,left,out,h=>by
  rw [List.length_eq_zero_iff.mp h,gG];exact List.Perm.refl _
 | f+1,k,left,out,h=>by
  have lt:next k % left.length < left.length:=Nat.mod_lt _ ∅;have e:left[next k % left.length]?=some (left[next k % left.length]):=cR lt;unfold pickOrder.go;rw [e];have ih:=A_ next f (k+1) (left.eraseIdx (next k % left.length)) (out.push left[next k % left.length]) (by rw [List.length_eraseIdx];rw [ar lt];omega);refine ih.trans ?_;rw [Array.toList_push,jD];exact(rL _ _ _ e).append_left _
def B5 {α:Type}(next:Nat->Nat)(xs:Array α):(pickOrder next xs).toList.Perm xs.toList:=by
 have:=A_ next xs.size 0 xs.toList #[] oY;exact this
section
variable {M:Model}{A:Around}{E:Value->Shared->Prop}
end
def QL (h:Heap)(I S:Addr)(fst:Value) (i n ep:Nat):Prop:=∃o,h.get? I=some o/\o.cls=.type "set_iterator" /\ o.data=.fields #[fst,.int i 0,.ref S,.int n 0,.int ep 0]
abbrev VN (w:World):Bool:=w.params.followText "set-order"
def Gn (w:World)(h:Heap)(S:Addr)(es:Array (Int×Value)) (ep:Nat)(t:SetTable)(vals:List Value)(fst:Value) (i:Nat):Prop :=
 (VN w=true/\fst=.int 0 0/\vals=(pickOrder (w.params.setOrder S ep) es).toList.map (·.2)) \/
 (VN w=false/\∃(Pt:Addr)(ps:List Nat)(o:Obj) (n:Nat),fst=.ref Pt/\h.get? Pt=some o/\o.data=.seq (ps.map λp:Nat=>Value.int p 0).toArray n/\ps.Perm (List.range es.size)/\vals=ps.map λp=>(es.toList.getD p (0,.none)).2) \/
 (VN w=false/\es.size<=1/\(!t.plain && decide (1 < es.size))=false/\(!t.led && !es.isEmpty)=false/\∃k:Nat,fst=.int k 0/\vals=es.toList.map (·.2)/\(i=0->k=0)/\(i=1->∃j,t.place[0]?=some j/\k=j+1))
def range_getD (l:List (Int×Value)):((List.range l.length).map λp=>(l.getD p (0,Value.none)).2)=l.map (·.2):=by
 refine List.ext_getElem (by simp) λi h1 h2=>?_;simp at h1 h2;simp [tF,h1]
def Gn.perm {w:World}{h:Heap}{S:Addr}{es:Array (Int×Value)}{ep:Nat}{t:SetTable}{vals:List Value}{fst:Value}{i:Nat}(m:Gn w h S es ep t vals fst i):vals.Perm (es.toList.map (·.2)):=by
 rcases m with ⟨_,_,rfl⟩ | ⟨_,Pt,ps,o,n,_,_,_,p,rfl⟩ | ⟨_,_,_,_,k,_,rfl,_⟩
 .exact(B5 _ _).map _
 .have:=p.map λp=>(es.toList.getD p (0,Value.none)).2;rw [<-oY,range_getD] at this;exact this
 exact List.Perm.refl _
section
variable {P:Program}{w:World}{A:Around}{E:Value->Shared->Prop}{s:Shared}
end
structure yA (w:World)(I S:Addr)(o:Obj)(es:Array (Int×Value)) (ep:Nat)(t:SetTable)(vals:List Value)(fp:List Addr) (i:Nat)(h:Heap)(fst:Value):Prop where
 it:QL h I S fst i es.size ep
 ho:h.get? S=some o
 md:Gn w h S es ep t vals fst i
 pt:∀Pt,fst=.ref Pt->Pt∈fp/\Pt≠I
def yA.at {w:World}{I S:Addr}{o:Obj}{es:Array (Int×Value)}{ep:Nat}{t:SetTable}{vals:List Value}{fp:List Addr}{i:Nat}{h h':Heap}{fst:Value}(x:yA w I S o es ep t vals fp i h fst)(hI:I∈fp)(hS:S∈fp)(k:∀b∈fp,∀o,h.get? b=some o->h'.get? b=some o):yA w I S o es ep t vals fp i h' fst:=by
 obtain⟨⟨oi,a,b⟩,ho,md,pt⟩:=x;refine⟨⟨oi,k I hI _ a,b⟩,k S hS _ ho,?_,pt⟩;rcases md with m | ⟨bt,Pt,ps,po,pn,e,hpt,r⟩ | m
 .exact .inl m
 .exact .inr (.inl ⟨bt,Pt,ps,po,pn,e,k Pt (pt Pt e).1 _ hpt,r⟩)
 exact .inr (.inr m)
section
variable {P:Program}{w:World}{A:Around}{E:Value->Shared->Prop}{s:Shared}
end
theorem Inv.drawn {X:Cx}{ag:List (Addr×Obj)}{σ:List (Option V)}{H:Hp}{s:Shared}(d:Drawn)(I:Inv X ag σ H s):Inv X ag σ H { s with drawn:=d }:=⟨I.ok,I.os,I.bare,I.base,I.loc,I.cell,I.free,I.j_,I.pin,I.b8,I.len⟩
def Mi (q pr:Str×Str):Mj [V.str q.1,V.str q.2] [V.str pr.1,V.str pr.2]=decide (q=pr):=by
 obtain⟨a,b⟩:=q;obtain⟨c,d⟩:=pr;show (uw (.str a) (.str c) && (uw (.str b) (.str d) && true))=_;have h:∀x y:Str,uw (.str x) (.str y)=decide (x=y):=λx y=>by
  show (x == y)=_;rw [iY,beq_iff_eq,decide_eq_true_iff]
 rw [h,h,Bool.and_true];by_cases e1:a=c
 .by_cases e2:b=d
  .rw [e1,e2];simp
  simp [e1,e2]
 simp [e1]
def A8 {X:Cx}{ag:List (Addr×Obj)}{σ:St}{H:Hp}{s:Shared}(A:Around)(hu:A.units < cLine)(I:Inv X ag σ H s){t a:Addr}{q pr:Str×Str}(ht:aS X.K H t [.str q.1,.str q.2])(ha:aS X.K H a [.str pr.1,.str pr.2]):SeqAt.EqAt A s (.ref t) (.ref a) (decide (q=pr)):=by
 by_cases e:t=a
 .subst e;have:=I.iu ht ha;injection this with h1 h2;injection h2 with h2 _;injection h1 with h1;injection h2 with h2;rw [cC (iD h1 h2)];exact SeqAt.EqAt.same _
 obtain⟨aT,r,pl,hz⟩:=I.tuple ht;obtain⟨eU,r2,zw,Xy⟩:=I.tuple ha;have l1:=r.length;have l2:=r2.length;refine .of_refs e ?_;rw [<-Mi];have h:=SeqAt.RcAt.tuples (A:=A) (e:=λj=>uw ([V.str q.1,V.str q.2].getD j .fc) ([V.str pr.1,V.str pr.2].getD j .fc)) pl zw hu (λj h1 h2=>Ab r r2 rfl rfl j h1 h2);have e2:((List.range (min aT.toArray.size eU.toArray.size)).all (λj=>uw ([V.str q.1,V.str q.2].getD j .fc) ([V.str pr.1,V.str pr.2].getD j .fc)) && aT.toArray.size == eU.toArray.size)=Mj [V.str q.1,V.str q.2] [V.str pr.1,V.str pr.2]:=by
  rw [<-ux];simp only [cP,<-l1,<-l2]
 rw [e2] at h;exact h
open Classical in
theorem vN {X:Cx}{ag:List (Addr×Obj)}{σ:St}{H:Hp}{s:Shared}(I:Inv X ag σ H s){pr:Str×Str}:∀{ts:List Addr}{aZ:List (Str×Str)}{aT:List Value},a_ (ts.map V.ref) aT->Paired (λt (q:Str×Str)=>aS X.K H t [.str q.1,.str q.2]) ts aZ ->
  (∀y∈aT,∃(t:Addr)(q:Str×Str),y=.ref t/\aS X.K H t [.str q.1,.str q.2])/\(aT.any λy=>match y with | .ref t=>decide (aS X.K H t [.str pr.1,.str pr.2]) | _=>false)=decide (pr∈aZ)
 | [],_,aT,r,p=>by
  cases p;cases r;exact⟨λy h=>(by cases h),by simp⟩
 | t::ts,_,aT,r,p=>by
  cases p with
  | @cons _ q _ aZ h p2 =>
  cases r with
  | @cons _ u _ us hu r2 =>
  obtain⟨i1,i2⟩:=vN I r2 p2;cases (show u=Value.ref t from hu);refine⟨λy hy=>?_,?_⟩
  .rcases bR.mp hy with e | e
   .exact⟨t,q,e,h⟩
   exact i1 y e
  rw [nR,i2];show (decide (aS X.K H t [.str pr.1,.str pr.2]) || decide (pr∈aZ))=decide (pr∈q::aZ)
  have e:aS X.K H t [.str pr.1,.str pr.2]↔pr=q:=⟨λz=>by
   have:=I.iu z h;injection this with h1 h2;injection h2 with h2 _;injection h1 with h1;injection h2 with h2;exact iD h1 h2,λz=>by rw [z];exact h⟩
  rw [iY,Bool.or_eq_true_iff,decide_eq_true_iff,decide_eq_true_iff,decide_eq_true_iff,bR,e]
def KU (K:ba)(neg:Bool):R2:=λx y H Q=>∃(a p:Addr)(pr:Str×Str)(ts:List Addr)(aZ:List (Str×Str)),x=.ref a/\y=.ref p/\aS K H a [.str pr.1,.str pr.2]/\aK K H p (ts.map V.ref)/\Paired (λt (q:Str×Str)=>aS K H t [.str q.1,.str q.2]) ts aZ/\Q (.bl (if neg then !decide (pr∈aZ) else decide (pr∈aZ))) H
open Classical in
def t_ {X:Cx}(hu:X.A.units+1 < cLine):jM X (compareOp .NotIn) (KU X.K true):=by
 intro ag s σ H x y v u Q I rx ry h;obtain⟨a,p,pr,ts,aZ,rfl,rfl,ha,hp,LF,q⟩:=h;cases rx;cases ry;obtain⟨aT,r,pl,hz⟩:=I.list hp;obtain⟨i1,i2⟩:=vN I (pr:=pr) r LF;refine SeqAt.notIn_listAt (λy=>match y with | .ref t=>decide (aS X.K H t [.str pr.1,.str pr.2]) | _=>false) pl.isList (λy hy=>?_) ⟨.bl _,H,I,rfl,?_⟩
 .obtain⟨t,q2,rfl,ht⟩:=i1 y (by simpa using hy);have:=A8 X.A.in1 (by rw [qd];exact hu) I ht ha;have e:decide (q2=pr)=decide (aS X.K H t [.str pr.1,.str pr.2]):=by
   rw [iY,decide_eq_true_iff,decide_eq_true_iff];refine⟨λz=>by rw [<-z];exact ht,λz=>?_⟩;have:=I.iu ht z;injection this with h1 h2;injection h2 with h2 _;injection h1 with h1;injection h2 with h2;exact iD h1 h2
  rw [e] at this;exact this
 rw [show aT.toArray.any (λy=>match y with | .ref t=>decide (aS X.K H t [.str pr.1,.str pr.2]) | _=>false)=aT.any (λy=>match y with | .ref t=>decide (aS X.K H t [.str pr.1,.str pr.2]) | _=>false) by simp,i2]
 exact q
open Classical in
def K6 {X:Cx}(hu:X.A.units+1 < cLine):jM X (compareOp .In) (KU X.K false):=by
 intro ag s σ H x y v u Q I rx ry h;obtain⟨a,p,pr,ts,aZ,rfl,rfl,ha,hp,LF,q⟩:=h;cases rx;cases ry;obtain⟨aT,r,pl,hz⟩:=I.list hp;obtain⟨i1,i2⟩:=vN I (pr:=pr) r LF;refine SeqAt.in_listAt (λy=>match y with | .ref t=>decide (aS X.K H t [.str pr.1,.str pr.2]) | _=>false) pl.isList (λy hy=>?_) ⟨.bl _,H,I,rfl,?_⟩
 .obtain⟨t,q2,rfl,ht⟩:=i1 y (by simpa using hy);have:=A8 X.A.in1 (by rw [qd];exact hu) I ht ha;have e:decide (q2=pr)=decide (aS X.K H t [.str pr.1,.str pr.2]):=by
   rw [iY,decide_eq_true_iff,decide_eq_true_iff];refine⟨λz=>by rw [<-z];exact ht,λz=>?_⟩;have:=I.iu ht z;injection this with h1 h2;injection h2 with h2 _;injection h1 with h1;injection h2 with h2;exact iD h1 h2
  rw [e] at this;exact this
 rw [show aT.toArray.any (λy=>match y with | .ref t=>decide (aS X.K H t [.str pr.1,.str pr.2]) | _=>false)=aT.any (λy=>match y with | .ref t=>decide (aS X.K H t [.str pr.1,.str pr.2]) | _=>false) by simp,i2]
 exact q
section
variable {prog:Program}{w:World}{A:Around}{E:Value->Shared->Prop}{s:Shared}
def yR {a:Addr}{vs:List Value}{n:Nat}{P:Fin->Shared->Prop}(ho:s.heap.get? a=some (seqObj "list" vs.toArray n))(h1:vs.length < 2)
  (h:P (.done (.ret .none)) { s with heap:=sortedHeap s.heap a vs ((pairsOf vs).map (·.2)) }) :
  wpAny (model prog w) A (Builtin.«list.sort» ⟨[.ref a],[]⟩) P E s:=by
 rw [list_sort_plain];have ha:a < s.heap.objs.size:=bJ ho;refine aD (listItems_at ho rfl ?_);refine aD (listUpdate_at ho rfl ?_);obtain⟨e1,JE⟩:∃e1,(s.heap.update a (Obj.mapSeq λ_=>#[])).get? a=some (seqObj "list" #[] e1):=⟨_,get?_update_seq ho (λ_=>#[])⟩;refine aD (seqEpoch_at JE rfl ?_);refine aD (wpAny_newTuple ?_);refine aD (wpAny_newList ?_);refine kJ ?_;have XQ:(((s.heap.update a (Obj.mapSeq λ_=>#[])).push (seqObj "tuple" vs.toArray 0)).push (seqObj "list" #[] 0)).get? a=some (seqObj "list" #[] e1):=by
  rw [Heap.get?_push_ne _ _ _ (by rw [size_push',Heap.size_update];exact bX (qx ha)),Heap.get?_push_ne _ _ _ (by rw [Heap.size_update];exact bX ha)];exact JE
 show wpAny (model prog w) A _ P E { s with heap:=((s.heap.update a (Obj.mapSeq λ_=>#[])).push (seqObj "tuple" vs.toArray 0)).push (seqObj "list" #[] 0) };dsimp only;have h2:vs.toArray.size < 2:=by simpa using h1
 rw [ar h2,ar h2];refine aD (aR ?_);rw [StateT.run_pure];refine aD (aR ?_);dsimp only;refine aD (seqEpoch_at XQ rfl ?_);refine aD (listUpdate_at XQ rfl ?_ (hsz2:=by rw [Array.size_map];show (pairsOf vs).size<=_;rw [pairsOf_size,sizeLine_eq];omega));simp only [bne_self_eq_false,Bool.false_eq_true,if_false];exact aR h
def vi {l:Addr}{vs:List Value}{Q:Value->Shared->Prop}(hl:s.heap.IsList l vs.toArray)(h1:vs.length < 2)
  (h:Q (.ref (s.heap.objs.size+1)) { s with heap:=sortedAll s.heap vs ((pairsOf vs).map (·.2)) }) :
  wpAny (model prog w) A (call (.builtin "sorted") [.ref l]) Q E s:=by
 refine Calls.call_function_entry kind_sorted plain_sorted entry_sorted (args_sorted1 _) ?_;unfold Builtin.«sorted»;refine aD (m:=checkCount "sorted" 1 1 _) (aR ?_);refine aD (collect_list hl ?_);refine aD (wpAny_newList ?_);have hsz:((s.heap.push (seqObj "list" #[] 0)).update s.heap.objs.size (Obj.mapSeq (·++vs.toArray))).objs.size=s.heap.objs.size+1:=by
  rw [Heap.size_update,size_push']
 have Rn:(((s.heap.push (seqObj "list" #[] 0)).update s.heap.objs.size (Obj.mapSeq (·++vs.toArray))).push (seqObj "list" vs.toArray 0)).get? (s.heap.objs.size+1)=some (seqObj "list" vs.toArray 0):=by
  rw [<-hsz];exact dH _ rfl
 show wpAny _ _ _ _ _ { s with heap:=((s.heap.push (seqObj "list" #[] 0)).update s.heap.objs.size (Obj.mapSeq (·++vs.toArray))).push (seqObj "list" vs.toArray 0) };rw [hsz];refine aD (kJ (qf slot_list_sort ⟨_,Rn,rfl⟩ entry_list_sort (yR Rn h1 ⟨_,rfl,?_⟩) (args_list_sort _)));exact aR ⟨_,rfl,h⟩
end
def B7:∀(vs:List Value),((pairsOf vs).map (·.2))=vs.toArray:=λvs=>by
 apply Array.toList_inj.mp;rw [Array.toList_map,pairsOf_toList,List.map_snd_zip (aE _)]
def lX {X:Cx}:fC X (.builtin "sorted") (λxs H Q=>∃a ts aZ,xs=[.ref a]/\aK X.K H a (ts.map V.ref)/\tU X H ts aZ/\ts.length < 64/\∀l I_ zq,H l=none->tU X H I_ zq->zq.Perm aZ->C6 zq->Q (.ref l) (upd H l (.lst (I_.map V.ref)))):=by
 intro ag s σ H xs us Q I r h;obtain⟨a,ts,aZ,rfl,hq,hr,PR,q⟩:=h;by_cases h2:2<=ts.length
 .exact yf ag s σ H _ us Q I r ⟨a,ts,aZ,rfl,hq,hr,h2,PR,q⟩
 obtain⟨u,rfl,rx⟩:=vals1 r;cases (show u=Value.ref a from rx);obtain⟨aT,r',pl,hz⟩:=I.list hq;have ei:=oA r';subst ei;have lp:=a0 hr;refine vi pl.isList (by rw [ax];omega) ?_;rw [B7];obtain⟨e,he⟩:=sortedAll_at s.heap (ts.map Value.ref) (ts.map Value.ref).toArray;have ZV:C6 aZ:=by
  match aZ,lp with
  | [],_=>exact .nil
  | [_],_=>exact List.pairwise_singleton _ _
  | _::_::_,z=>simp at z;omega
 refine⟨.ref (s.heap.objs.size+1),_,I.laid (t':=s.toks) (λb o hb=>sortedAll_old hb) (jS _) (show cJ X.prog X.w _ _ _ (.lst (ts.map V.ref)) from ⟨hz,ts.map Value.ref,e,r',by rw [he]⟩),rfl,q _ ts aZ (I.b8.fresh (jS _)) hr (List.Perm.refl _) ZV⟩
def xu {X:Cx}(n:Nat)(hu:X.A.units+(n+1) < cLine):jM X (compareOp .Eq) (Jm X.K true n):=by
 intro ag s σ H x y v u Q I rx ry h;obtain⟨a,b,xs,ys,rfl,rfl,ha,hb,p,q⟩:=h;cases rx;cases ry;obtain⟨aT,r,pl,hz⟩:=I.list ha;obtain⟨eU,r2,zw,Xy⟩:=I.list hb;have l1:=r.length;have l2:=r2.length;have lp:=a0 p;refine SeqAt.RcAt.lists (e:=λ_=>true) pl.isList zw.isList (by simp only [cP];omega) ∅ (λj h1 h2=>kr r r2 p (λx y u v d r1 r2=>wj I n X.A.in1 x y u v d r1 r2 (by rw [qd];omega)) j h1 h2) X.prog X.w X.xe _ ?_;have e:((List.range aT.toArray.size).all λ_=>true)=true:=by simp
 rw [e];exact⟨.bl true,H,I,rfl,q⟩
end L2
namespace Wd
theorem lG {α:Type} [DecidableEq α]:∀(l m:List α),l.Nodup->(∀z∈l,z∈m)->l.length<=m.length
 | [],m,_,_=>g9 _
 | a::l,m,hn,h=>by
  have hm:=h a bK;have:=lG l (m.erase a) (iB.mp hn).2 λx hx=>(List.mem_erase_of_ne (λz:x=a=>(iB.mp hn).1 (by rw [<-z];exact hx))).mpr (h x (bW _ hx));rw [yG hm] at this;have:=yC hm;rw [dG];omega
end Wd
namespace L2
open PySem
def zB {X:Cx}(K:ba)(hu:X.A.units+1 < cLine)(hK:X.K=K:=by rfl):jM X (compareOp .NotIn) (KU K true):=by
 subst hK;exact t_ hu
end L2
namespace h_
open PySem L2 M11
abbrev vH:Stmt:=top 51
def Hd (ns:List Str)(ru:aw) (pl:Nat):Prop:=∀x∈ru.2.take pl,x∈ns
inductive ib (aa:List aw) (ns:List Str)(w:Str):Str->Prop
 | word {ru:aw}{pl:Nat}:ru∈aa->Hd ns ru pl->ru.2[pl]?=some w->w∉hm aa->ib aa ns w ru.1
 | name {ru:aw}{pl:Nat}{p:Str}:ru∈aa->Hd ns ru pl->ru.2[pl]?=some p->ib aa ns w p->ib aa ns w ru.1
def ib.head {aa:List aw}{ns:List Str}{w h:Str}(b:ib aa ns w h):h∈hm aa:=by
 cases b with
 | word hr _ _ _=>exact bV.mpr ⟨_,hr,rfl⟩
 | name hr _ _ _=>exact bV.mpr ⟨_,hr,rfl⟩
def ib.text {aa:List aw}{ns:List Str}{w h:Str}(b:ib aa ns w h):w∉hm aa/\∃ru∈aa,w∈ru.2:=by
 induction b with
 | word hr _ e n=>exact⟨n,_,hr,cE e⟩
 | name _ _ _ _ ih=>exact ih
def ib.congr {aa:List aw}{ns ms:List Str}{w h:Str}(c:∀x,x∈ns->x∈ms)(b:ib aa ns w h):ib aa ms w h:=by
 induction b with
 | word hr o e n=>exact .word hr (λx hx=>c x (o x hx)) e n
 | name hr o e _ ih=>exact .name hr (λx hx=>c x (o x hx)) e ih
def QT (aa:List aw) (ns:List Str)(P:List (Str×Str)):Prop:=∀ru∈aa,∀pl p,ru.2[pl]?=some p->Hd ns ru pl->(p∉hm aa->(ru.1,p)∈P)/\(p∈hm aa->∀w,(p,w)∈P->(ru.1,w)∈P)
def ib.Xu {aa:List aw}{ns:List Str}{P:List (Str×Str)}(c:QT aa ns P){w h:Str}(b:ib aa ns w h):(h,w)∈P:=by
 induction b with
 | word hr o e n=>exact(c _ hr _ _ e o).1 n
 | name hr o e b ih=>exact(c _ hr _ _ e o).2 b.head _ ih
def QT.of {aa:List aw}{ns:List Str}{P:List (Str×Str)}(h:∀a w,(a,w)∈P↔ib aa ns w a):QT aa ns P:=λru hr pl p e o=>⟨λn=>(h _ _).mpr (.word hr o e n),λ_ w hw=>(h _ _).mpr (.name hr o e ((h _ _).mp hw))⟩
def Gy (aa:List aw) (ns:List Str)(ru:aw)(P P':List (Str×Str)):Prop:=∀pl p,ru.2[pl]?=some p->Hd ns ru pl->(p∉hm aa->(ru.1,p)∈P')/\(p∈hm aa->∀w,(p,w)∈P->(ru.1,w)∈P')
def Gy.mono {aa:List aw}{ns:List Str}{ru:aw}{P0 P P' P2:List (Str×Str)}(d:Gy aa ns ru P P')(h1:∀x∈P0,x∈P)(h2:∀x∈P',x∈P2):Gy aa ns ru P0 P2:=λpl p e o=>⟨λn=>h2 _ ((d pl p e o).1 n),λm w hw=>h2 _ ((d pl p e o).2 m w (h1 _ hw))⟩
def QS (aa:List aw) (ns:List Str)(ru:aw)(P P':List (Str×Str)) (n:Nat):Prop:=∀pl p,pl < n->ru.2[pl]?=some p->Hd ns ru pl->(p∉hm aa->(ru.1,p)∈P')/\(p∈hm aa->∀w,(p,w)∈P->(ru.1,w)∈P')
def Gr (K:ba)(H:Hp)(t:Addr)(p:Str×Str):Prop:=aS K H t [.str p.1,.str p.2]
theorem Paired.Qu {α β:Type}{F:α->β->Prop}:∀{xs:List α}{ys:List β}{Df:List α}{NO:List β},Paired F xs ys->Paired F Df NO->Paired F (xs++Df) (ys++NO)
 | _,_,_,_,.nil,h=>h
 | _,_,_,_,.cons a r,h=>.cons a (Paired.Qu r h)
def oZ {α:Type}(p:α->Bool){l:List α}{m:Nat}{q:α}(e:l[m]?=some q):(l.take (m+1)).filter p=(l.take m).filter p++if p q=true then [q] else []:=by
 rw [cQ,e,qi]
 congr 1
 by_cases cz:p q=true
 .rw [ar cz];show List.filter _ [q]=[q];rw [nZ,ar cz];rfl
 rw [au cz];show List.filter _ [q]=[];rw [nZ,au cz];rfl
def j5 (aZ:List (Str×Str))(h:Str) (n_:List Str):List (Str×Str):=(n_.filter λx=>!decide ((h,x)∈aZ)).map λx=>(h,x)
def qZ {aZ:List (Str×Str)}{h:Str}{n_:List Str}{x:Str×Str}:x∈j5 aZ h n_↔x.1=h/\x.2∈n_/\x∉aZ:=by
 unfold j5;rw [bV];constructor
 .rintro⟨y,hy,rfl⟩;obtain⟨a,b⟩:=gO.mp hy;exact⟨rfl,a,by simpa using b⟩
 rintro⟨e,a,b⟩;have ex:x=(h,x.2):=by rw [<-e]
 exact⟨x.2,gO.mpr ⟨a,by rw [<-ex,fA b];rfl⟩,ex.symm⟩
def Ib {aZ:List (Str×Str)}{h:Str}{n_:List Str}(n:aZ.Nodup)(n2:n_.Nodup):(aZ++j5 aZ h n_).Nodup:=by
 refine jE.mpr ⟨n,?_,λa ha b hb z=>(qZ.mp hb).2.2 (z ▸ ha)⟩;unfold j5;have:(n_.filter λx=>!decide ((h,x)∈aZ)).Nodup:=List.Nodup.sublist List.filter_sublist n2;exact List.Pairwise.map _ (λa b (c:a≠b) z=>c (by injection z)) this
def Lg {aZ:List (Str×Str)}(pt:Str)(n:aZ.Nodup):((aZ.filter λq=>decide (q.1=pt)).map (·.2)).Nodup:=by
 have h:(aZ.filter λq=>decide (q.1=pt)).Nodup:=List.Nodup.sublist List.filter_sublist n;have h2:∀q∈aZ.filter (λq=>decide (q.1=pt)),q.1=pt:=λq hq=>cS (gO.mp hq).2;generalize aZ.filter (λq=>decide (q.1=pt))=l at h h2
 induction l with
 | nil=>exact iN
 | cons a l ih =>
  obtain⟨n1,n3⟩:=iB.mp h;refine iB.mpr ⟨λz=>?_,ih n3 λq hq=>h2 q (.tail _ hq)⟩;obtain⟨b,hb,eb⟩:=bV.mp z;have e1:=h2 a (.head _);have e2:=h2 b (.tail _ hb);exact n1 ((iD (e1.trans e2.symm) eb.symm:a=b) ▸ hb)
structure Ka (K:ba)(aa:List aw) (ns:List Str)(H H5:Hp)(Dh De Lp:Addr)(us:List Addr)(aZ:List (Str×Str)):Prop where
 sm:aC H H5
 eH:H5 Dh=some (.lst ((hm aa).map V.str))
 eE:H5 De=some (.lst (ns.map V.str))
 eP:H5 Lp=some (.lst (us.map V.ref))
 fP:H Lp=none
 pP:Paired (Gr K H5) us aZ
 nd:aZ.Nodup
 bg:∀x∈aZ,ib aa ns x.2 x.1
def Gr.same {K:ba}{H H':Hp}{t:Addr}{p:Str×Str}(s:aC H H')(h:Gr K H t p):Gr K H' t p:=s.tup h
theorem Ka.same {K:ba}{aa:List aw}{ns:List Str}{H H5 H6:Hp}{Dh De Lp:Addr}{us:List Addr}{aZ:List (Str×Str)}(h:Ka K aa ns H H5 Dh De Lp us aZ)(s:aC H5 H6):Ka K aa ns H H6 Dh De Lp us aZ :=
 ⟨h.sm.trans s,s _ _ h.eH,s _ _ h.eE,s _ _ h.eP,h.fP,Paired.di h.pP λ_ _ z=>z.same s,h.nd,h.bg⟩
section
def xf (K:ba):Sp:=λvs H Q _=>∃(R:Addr)(rs:List Addr)(aa:List aw),vs=[.ref R]/\aK K H R (rs.map V.ref)/\bL K H rs aa/\Small aa/\(∀aZ:List (Str×Str),aZ.Nodup->(∀x∈aZ,ib aa (cI false aa) x.2 x.1)->aZ.length<=63) /\
 ∀(D:Addr)(us:List Addr)(aZ:List (Str×Str))(H':Hp),H D=none->aC H H'->H' D=some (.lst (us.map V.ref))->Paired (Gr K H') us aZ->aZ.Nodup->(∀x,x∈aZ↔ib aa (cI false aa) x.2 x.1)->Q (.ref D) H'
abbrev NBg:List Str:=["_law_rules","_law_heads","_law_empty","_law_pairs","_law_many","_law_head","_law_parts","_law_k","_law_words_here"]
def eh:aM NBg ["_law_rules"] (az vH):=jl rfl rfl rfl rfl nofun
def Cf (F:iM K "_law_begins" "_law_begins" vH f fd)(T:Txt mg)(GE:aG P w K mg base 1 "_law_ended" ["_law_rules","_law_words_here"] (pT K)):bZ P w K mg base gw 2 f fd ["_law_rules"] (xf K):=by
 refine F.ok eh (λvs H Q E h=>?_) (λeY A outer s H vs Q E hr h=>?_)
 .obtain⟨R,rs,aa,rfl,_⟩:=h;rfl
 obtain⟨R,rs,aa,rfl,hR,cV,o9,nr,q⟩:=h;have hu:=gM hr;refine⟨_,aj (ij (iy:=1) ["_law_head","_law_parts"] [] eh.nd rfl rfl rfl (aQ (pv 0)) (aU rfl rfl) nofun rfl nofun
   (λ_ _ _ _ _=>dC (n:=2) K rfl (aA (aq (i:=0) (show (["_law_head","_law_parts"]:List Str).Nodup by decide +kernel) rfl (bo rfl)) (aA (aq (i:=1) (show (["_law_head","_law_parts"]:List Str).Nodup by decide +kernel) rfl (bo rfl)) bH))) (λ_ _ _ _ _=>bw) (λ_ _ _ _ _=>pv 0))
  (aj (aB (i:=2) eh.nd rfl (Or.inr rfl) (bA GE hr rfl (ab (pv 0) (ab eX ai))))
  (aj (aB (i:=3) eh.nd rfl (Or.inr rfl) (bY ai))
  (aj (aB (i:=4) eh.nd rfl (bo rfl) (xq qI av))
  (aj (i8 cf (a8 mT (pv 4) (aI a9 rfl T.len fw (ab (pv 3) ai)) (cg _))
   (aj (aB (i:=4) eh.nd rfl (bo rfl) (aI a9 rfl T.len fw (ab (pv 3) ai)))
   (ao (bS cf rfl (aQ (pv 0)) (fJ rfl (aA (aq (i:=5) eh.nd rfl (Or.inr rfl)) (aA (aq (i:=6) eh.nd rfl (Or.inr rfl)) bH)))
    (ao (bS cf rfl (ix rfl T.EC (ab (aI a9 rfl T.len fw (ab (pv 6) ai)) ai)) (aq (i:=7) eh.nd rfl (Or.inr rfl))
     (ao (b9 (eK (aI (dU rfl) rfl T.all boot_all (ab (aV ["_law_part"] [(2,"_law_empty")] rfl (eQ (eG ie (pv 6) gk (gi (pv 7)))) (aU rfl rfl) nofun rfl nofun
       (λ_ _ _ _ _=>aq (i:=0) (show (["_law_part","_law_empty"]:List Str).Nodup by decide +kernel) rfl (bo rfl)) (λ_ _ _ _ _=>bw) (λ_ _ _ _ _=>dM (dF K) (pv 0) (pv 1) rfl)) ai)))
      (aj (aB (i:=8) eh.nd rfl (bo rfl) (bY (ab (bD bT (pv 6) (pv 7) (λ_ _=>rfl)) ai)))
      (aj (fk (b9 (a8 i9 (bD bT (pv 6) (pv 7) (λ_ _=>rfl)) (pv 1) rfl)
       (ao (ij (iy:=8) ["_law_name","_law_word"] [(6,"_law_parts"),(7,"_law_k")] eh.nd rfl rfl rfl (aQ (pv 3)) (aU rfl rfl) nofun rfl nofun
        (λ_ _ _ _ _=>dC (n:=2) K rfl (aA (aq (i:=0) (show (["_law_name","_law_word","_law_parts","_law_k"]:List Str).Nodup by decide +kernel) rfl (bo rfl)) (aA (aq (i:=1) (show (["_law_name","_law_word","_law_parts","_law_k"]:List Str).Nodup by decide +kernel) rfl (bo rfl)) bH)))
        (λ_ _ _ _ _=>gK (a8 i_ (pv 0) (bD (Ik K) (pv 2) (pv 3) (λ_ _=>rfl)) (cg _))) (λ_ _ _ _ _=>pv 1))) aY))
      (ao (aB (i:=3) eh.nd rfl (Or.inr rfl) (aN oC (pv 3) (aV ["_law_word"] [(5,"_law_head"),(3,"_law_pairs")] rfl (aQ (pv 8)) (aU rfl rfl) nofun rfl nofun
       (λ_ _ _ _ _=>aq (i:=0) (show (["_law_word","_law_head","_law_pairs"]:List Str).Nodup by decide +kernel) rfl (bo rfl)) (λ_ _ _ _ _=>gK (a8 (zB K hu) (bC (ab (pv 1) (ab (pv 0) ai))) (pv 2) rfl)) (λ_ _ _ _ _=>bC (ab (pv 1) (ab (pv 0) ai))))))))) aY))))))))
  (ao (bz (pv 3))))))),?_⟩
 have ll:=a0 cV;have XT:=o9.one;have hn8:=o9.most;refine⟨_,rfl,R,rfl,⟨_,hR⟩,λDh UT=>iK hR cV ∅ UT λH1 s1 RL=>?_⟩;refine goN ?_;refine⟨_,rfl,R,rs,aa,false,rfl,s1.seq hR,cV.same s1,o9,λDe H2 hDe s2 e2 l2=>?_⟩;have Bt:=s2 _ _ RL;generalize o_:cI false aa=ns at *;refine⟨tI,λL0 Yd=>?_⟩;have k3:=af Yd (.lst []);have e3:upd H2 L0 (.lst []) L0=some (.lst []):=ae;have fL0:H L0=none:=(s1.trans s2).free Yd;generalize upd H2 L0 (.lst [])=H3 at k3 e3;have S0:Ka K aa ns H H3 Dh De L0 [] []:=⟨(s1.trans s2).trans k3,k3 _ _ Bt,k3 _ _ e2,e3,fL0,.nil,iN,λ_ h=>by cases h⟩;refine⟨1,rfl,?_⟩;refine⟨λm σ H5=>∃(Lp:Addr)(us:List Addr)(aZ:List (Str×Str)) (many:Int)(y5 y6 y7 y8:Option V),σ=[aF R,aF Dh,aF De,aF Lp,some (.int many),y5,y6,y7,y8]/\Ka K aa ns H H5 Dh De Lp us aZ/\-1<=many/\many<=aZ.length/\(many=aZ.length->QT aa ns aZ)/\(m:Int)=65 - many,
  ⟨66,L0,[],[],-1,none,none,none,none,rfl,S0,∅,by simp,by simp,by simp⟩,?_⟩
 rintro m σ H5 ⟨Lp,us,aZ,many,y5,y6,y7,y8,rfl,S,b1,b2,cl,em⟩;have Rf:=a0 S.pP;refine⟨_,rfl,_,rfl,Lp,_,rfl,.inl (aK.of S.eP),_,_,rfl,rfl,_,rfl,?_⟩;refine cu (λc=>?_) (λc=>?_)
 .have c':=cS c;rw [ax,Rf] at c';refine⟨λσ H6=>∃(Lp:Addr)(pE:List Addr)(ext:List (Str×Str))(y5 y6 y7 y8:Option V),σ=[aF R,aF Dh,aF De,aF Lp,some (.int (aZ.length:Int)),y5,y6,y7,y8]/\Ka K aa ns H H6 Dh De Lp pE (aZ++ext)/\∀ru∈aa,Gy aa ns ru aZ (aZ++ext),?_,?_⟩
  .rintro σ H6 ⟨NF,pE,ext,y5,y6,y7,y8,rfl,S2,dd⟩;have f2:=nr _ S2.nd S2.bg;rw [bU] at f2;refine⟨(65 - aZ.length:Int).toNat,∅,NF,pE,aZ++ext,_,_,_,_,_,rfl,S2,∅,by rw [bU];omega,λz=>?_,∅⟩;rw [bU] at z;have:ext=[]:=List.eq_nil_of_length_eq_zero ∅;subst this;rw [gG] at dd ⊢;exact λru gp pl p e o=>dd ru gp pl p e o
  refine⟨_,rfl,Lp,_,rfl,.inl (aK.of S.eP),?_⟩;rw [ax,Rf];refine⟨_,rfl,R,rfl,⟨_,S.sm.seq hR⟩,?_⟩;refine cv (xs:=rs.map V.ref) (λi σ H6=>∃(Lp:Addr)(pE:List Addr)(ext:List (Str×Str))(y5 y6 y7 y8:Option V),σ=[aF R,aF Dh,aF De,aF Lp,some (.int (aZ.length:Int)),y5,y6,y7,y8]/\Ka K aa ns H H6 Dh De Lp pE (aZ++ext)/\∀ru∈aa.take i,Gy aa ns ru aZ (aZ++ext))
   ⟨Lp,us,[],_,_,_,_,rfl,by rw [gG];exact S,λru gp=>by simp at gp⟩ ?_ ?_ ?_
  .rintro i σ H6 _ ⟨NF,pE,ext,y5,y6,y7,y8,rfl,S2,_⟩;exact S2.sm.seq hR
  .rintro i x σ H6 ex ⟨NF,pE,ext,y5,y6,y7,y8,rfl,S6,dd⟩;rw [bq] at ex;obtain⟨r,er,rfl⟩:=cq.mp ex;obtain⟨ru,e1,p,v1,v2⟩:=cV.get er;have gp:=cE e1;have LZ:=o9.nr ru gp;have tk:aa.take (i+1)=aa.take i++[ru]:=by rw [cQ,e1];rfl
   refine⟨r,_,rfl,S6.sm.tup v1,rfl,_,_,rfl,_,_,rfl,rfl,?_⟩;refine⟨_,rfl,p,_,rfl,.inr (S6.sm.tup v2),_,rfl,by rw [ax];omega,by rw [ax];omega,?_⟩;rw [ax,jQ];refine iz (n:=ru.2.length) (λj σ H7=>∃(Lp:Addr)(pE:List Addr)(jm:List (Str×Str))(y7 y8:Option V),σ=[aF R,aF Dh,aF De,aF Lp,some (.int (aZ.length:Int)),some (.str ru.1),aF p,y7,y8]/\Ka K aa ns H H7 Dh De Lp pE (aZ++(ext++jm))/\QS aa ns ru aZ (aZ++(ext++jm)) j) ⟨NF,pE,[],_,_,rfl,by rw [gG];exact S6,λpl pp l=>absurd l (nX _)⟩ ?_ ?_
   .rintro j σ H7 hj ⟨J3,wX,jm,y7,y8,rfl,S7,RM⟩;have Sx:∀x∈aZ,x∈aZ++(ext++jm):=λx hx=>dP _ hx;generalize LF:aZ++(ext++jm)=qW at *;obtain⟨pt,RC⟩:∃pt,ru.2[j]?=some pt:=⟨_,cR hj⟩;have V0:r_ (ru.2.map V.str) (0+(j:Int))=some (.str pt):=by
     rw [me];exact dD (by rw [bq,RC];rfl)
    have cut:ip (ru.2.map V.str) none (some (0+(j:Int)))=(ru.2.take j).map V.str:=by
     rw [me];unfold ip;rw [show HT.fI (ru.2.map V.str).length 0 none=0 from rfl,HT.pV,qp,Nat.sub_zero,ql,<-List.take_eq_take_min]
    refine goN ?_;refine⟨_,rfl,_,rfl,_,rfl,p,_,rfl,S7.sm.tup v2,λp2 H8 s8 IA=>?_⟩;rw [cut] at IA;refine⟨p2,rfl,⟨_,IA⟩,λD9 wO=>gA (zs:=ru.2.take j) [aF De] (λz=>decide (z∈ns)) rfl IA (by rw [dO];omega) wO (λz _ HA Qy sA hq=>?_) λH9 s9 e9=>?_⟩
    .refine⟨_,rfl,_,rfl,De,_,rfl,.inl (aK.of (sA _ _ (s8 _ _ S7.eE))),rfl,bO _,?_⟩;rw [de];exact hq
    have S9:=S7.same (s8.trans s9);refine⟨D9,_,rfl,aK.of e9,_,rfl,?_⟩;rw [all_map];cases ca:(ru.2.take j).all λx=>decide (x∈ns) with
    | false =>
     refine gW ?_;refine⟨J3,wX,jm,_,_,rfl,by rw [LF];exact S9,?_⟩;rw [LF];intro pl pp l e o;by_cases cj:pl < j
     .exact RM pl pp cj e o
     have:pl=j:=by omega
     subst this;rw [dN.mpr λx hx=>cC (o x hx)] at ca;cases ca
    | true =>
     have W5:Hd ns ru j:=λx hx=>cS (dN.mp ca x hx);refine zT ?_;refine⟨_,rfl,_,rfl,p,_,_,_,rfl,rfl,S9.sm.tup v2,V0,I9,λDw hDw=>?_⟩;have kA:=af hDw (.lst [V.str pt]);have eA:upd H9 Dw (.lst [V.str pt]) Dw=some (.lst [V.str pt]):=ae;generalize upd H9 Dw (.lst [V.str pt])=HA at kA eA;have SA:=S9.same kA;have lf:=nr qW SA.nd SA.bg;have TF:=a0 SA.pP;refine⟨λσ HB=>∃(Dv:Addr) (n_:List Str),σ=[aF R,aF Dh,aF De,aF J3,some (.int (aZ.length:Int)),some (.str ru.1),aF p,some (.int (0+(j:Int))),aF Dv]/\aC HA HB/\HB Dv=some (.lst (n_.map V.str))/\n_.Nodup/\n_.length<=64/\(pt∉hm aa->n_=[pt])/\(pt∈hm aa->∀x,x∈n_↔(pt,x)∈qW),?_,?_⟩
     .refine⟨_,rfl,_,rfl,p,_,_,_,rfl,rfl,SA.sm.tup v2,V0,_,rfl,Dh,_,rfl,.inl (aK.of SA.eH),rfl,bO _,_,rfl,?_⟩;rw [de];refine cu (λcc=>?_) (λcc=>?_)
      .have Ng:pt∈hm aa:=cS cc;refine⟨_,rfl,J3,rfl,⟨_,aK.of SA.eP⟩,λDA JI=>b0 (xs:=wX.map V.ref) (λm ys σ2 HC=>ys=(((qW.take m).filter λq=>decide (q.1=pt)).map λq=>V.str q.2)/\(∃y0 y1,σ2=[y0,y1,aF p,some (.int (0+(j:Int)))])/\aC HA HC/\HC DA=some (.lst ys)) ⟨rfl,⟨none,none,rfl⟩,af JI _,ae⟩ (λm ys σ2 HC _ h=>?_) (λm x ys σ2 HC ex h=>?_) (λys σ2 HC h=>?_)⟩
       .obtain⟨_,_,sm,_⟩:=h;exact aK.of (sm _ _ SA.eP)
       .obtain⟨rfl,⟨y0,y1,rfl⟩,sm,eD⟩:=h;rw [bq] at ex;obtain⟨u,eu,rfl⟩:=cq.mp ex;have lm:=(bj.mp eu).1;obtain⟨qq,YA⟩:∃qq,qW[m]?=some qq:=⟨_,cR ∅⟩;obtain⟨u',Yq,vu⟩:=Paired.at_ SA.pP m qq YA;rw [eu] at Yq;cases Yq;have Wx:=oZ (λq:Str×Str=>decide (q.1=pt)) YA;have lfq:((qW.take m).filter λq=>decide (q.1=pt)).length<=64:=ff (mn _ _) (by rw [dO];omega);refine⟨u,_,rfl,sm.tup vu,rfl,_,_,rfl,_,_,rfl,rfl,?_⟩;refine⟨_,rfl,_,rfl,_,rfl,p,_,_,_,rfl,rfl,(SA.sm.trans sm).tup v2,V0,rfl,_,rfl,?_⟩;have dv:decide (V.str qq.1=V.str pt)=decide (qq.1=pt):=by
         by_cases c:qq.1=pt
         .rw [c,cC rfl,cC rfl]
         rw [fA c,fA (λz=>c (by injection z))]
        rw [dv];refine cu (λc3=>?_) (λc3=>?_)
        .refine⟨_,rfl,eD,br (by rw [ax];omega),?_,⟨_,_,rfl⟩,λb o hb=>?_,ae⟩
         .rw [Wx,ar c3,bB];rfl
         rw [ak (λz=>by rw [z,JI] at hb;cases hb)];exact sm b o hb
        exact⟨by rw [Wx,au c3,gG],⟨_,_,rfl⟩,sm,eD⟩
       obtain⟨rfl,_,sm,eD⟩:=h;rw [ax,TF,cH] at eD;refine goN ?_;refine⟨DA,(qW.filter λq=>decide (q.1=pt)).map (·.2),rfl,sm,by rw [eD,iA];rfl,Lg pt SA.nd,by rw [ax];exact ff (mn _ _) (Nat.le_succ_of_le lf),λh=>absurd Ng h,λ_ x=>?_⟩;rw [bV];constructor
       .rintro⟨q2,Up,rfl⟩;obtain⟨a1,a2⟩:=gO.mp Up;rw [<-cS a2];exact a1
       exact λhx=>⟨(pt,x),gO.mpr ⟨hx,cC rfl⟩,rfl⟩
      have Tn:pt∉hm aa:=λz=>cc (cC z);exact⟨Dw,[pt],rfl,aC.refl _,eA,by simp,by simp,λ_=>rfl,λh=>absurd h Tn⟩
     rintro σ HB ⟨Dv,n_,rfl,sB,eB,nw,lw,w1,w2⟩;have SB:=SA.same sB;refine⟨_,rfl,_,rfl,Dv,rfl,⟨_,aK.of eB⟩,λDC Nj=>b0 (xs:=n_.map V.str) (λm ys σ2 HC=>(∃vs:List Addr,ys=vs.map V.ref/\Paired (Gr K HC) vs (j5 qW ru.1 (n_.take m)))/\(∃y0,σ2=[y0,some (.str ru.1),aF J3])/\aC HB HC/\HC DC=some (.lst ys)) ⟨⟨[],rfl,.nil⟩,⟨none,rfl⟩,af Nj _,ae⟩ (λm ys σ2 HC _ h=>?_) (λm x ys σ2 HC ex h=>?_) (λys σ2 HC h=>?_)⟩
     .obtain⟨_,_,sm,_⟩:=h;exact aK.of (sm _ _ eB)
     .obtain⟨⟨vs,rfl,pv⟩,⟨y0,rfl⟩,sm,eD⟩:=h;rw [bq] at ex;obtain⟨wd,ewd,rfl⟩:=cq.mp ex;have Xj:=a0 pv;have lnp:(j5 qW ru.1 (n_.take m)).length<=64:=by
       unfold j5;rw [ax];exact ff (mn _ _) (by rw [dO];omega)
      have Ww:j5 qW ru.1 (n_.take (m+1))=j5 qW ru.1 (n_.take m)++if (!decide ((ru.1,wd)∈qW))=true then [(ru.1,wd)] else []:=by
       unfold j5;rw [oZ _ ewd,bB]
       congr 1
       split <;> rfl
      refine goN ?_;refine⟨_,rfl,_,rfl,kN,λu1 M_=>?_⟩;have kD:=af M_ (.tup [V.str ru.1,V.str wd]);have P5:aS K (upd HC u1 (.tup [V.str ru.1,V.str wd])) u1 [.str ru.1,.str wd]:=aS.of ae;generalize upd HC u1 (.tup [V.str ru.1,V.str wd])=HD at kD P5;have SD:=SB.same (sm.trans kD);have Nu:=kD _ _ eD;refine⟨_,rfl,u1,J3,(ru.1,wd),wX,qW,rfl,rfl,P5,aK.of SD.eP,SD.pP,_,rfl,?_⟩;show if (!decide ((ru.1,wd)∈qW))=true then _ else _;refine cu (λcc=>?_) (λcc=>?_)
      .refine⟨_,rfl,_,rfl,kN,λu2 Rk=>?_⟩;have kE:=af Rk (.tup [V.str ru.1,V.str wd]);have Yp:aS K (upd HD u2 (.tup [V.str ru.1,V.str wd])) u2 [.str ru.1,.str wd]:=aS.of ae;generalize upd HD u2 (.tup [V.str ru.1,V.str wd])=HE at kE Yp;have Vv:=kE _ _ Nu;refine⟨Vv,br (by rw [ax];omega),⟨vs++[u2],by rw [bB];rfl,?_⟩,⟨_,rfl⟩,λb o hb=>?_,ae⟩
       .rw [Ww,ar cc];exact fO (Paired.di pv λa b z=>aP Vv ((kD.trans kE).tup z)) (aP Vv Yp)
       rw [ak (λz=>by rw [z,Nj] at hb;cases hb)];exact kE _ _ (kD _ _ (sm b o hb))
      exact⟨⟨vs,rfl,by rw [Ww,au cc,gG];exact Paired.di pv λa b z=>kD.tup z⟩,⟨_,rfl⟩,sm.trans kD,Nu⟩
     obtain⟨⟨vs,rfl,pv⟩,_,sm,eD⟩:=h;rw [ax,cH] at pv;have SC:=SB.same sm;have Xj:=a0 pv;have lnp:(j5 qW ru.1 n_).length<=64:=by
      unfold j5;rw [ax];exact ff (mn _ _) lw
     refine⟨J3,DC,wX.map V.ref,vs.map V.ref,rfl,rfl,SC.eP,eD,fits (by rw [ax,ax];omega),λL4 Yc=>?_⟩;have kF:=af Yc (.lst (wX.map V.ref++vs.map V.ref));have eF:upd HC L4 (.lst (wX.map V.ref++vs.map V.ref)) L4=some (.lst ((wX++vs).map V.ref)):=by rw [ae,bB]
     generalize upd HC L4 (.lst (wX.map V.ref++vs.map V.ref))=HF at kF eF;have SF:=SC.same kF;have bgn:∀x∈qW++j5 qW ru.1 n_,ib aa ns x.2 x.1:=λx hx=>by
      rcases cD.mp hx with h | h
      .exact SF.bg x h
      obtain⟨z1,z2,_⟩:=qZ.mp h;rw [z1];by_cases hp:pt∈hm aa
      .exact .name gp W5 RC (SF.bg _ ((w2 hp x.2).mp z2))
      have h1:=w1 hp;rw [h1] at z2;rw [cO.mp z2];exact .word gp W5 RC hp
     have fK:∀x∈n_,(ru.1,x)∈qW++j5 qW ru.1 n_:=λx hx=>by
      by_cases hc:(ru.1,x)∈qW
      .exact dP _ hc
      exact dA _ (qZ.mpr ⟨rfl,hx,hc⟩)
     have YK:aZ++(ext++(jm++j5 qW ru.1 n_))=qW++j5 qW ru.1 n_:=by rw [<-LF];simp only [jD]
     refine⟨L4,wX++vs,jm++j5 qW ru.1 n_,_,_,rfl,?_,?_⟩
     .rw [YK];exact⟨SF.sm,SF.eH,SF.eE,eF,SC.sm.free Yc,Paired.Qu SF.pP (Paired.di pv λ_ _ z=>kF.tup z),Ib SF.nd nw,bgn⟩
     rw [YK];intro pl pp l e o;by_cases cj:pl < j
     .obtain⟨a1,a2⟩:=RM pl pp cj e o;exact⟨λn=>dP _ (a1 n),λh w hw=>dP _ (a2 h w hw)⟩
     have:pl=j:=by omega
     subst this;rw [RC] at e;cases e;refine⟨λn=>fK pt ?_,λh w hw=>fK w ((w2 h w).mpr (Sx _ hw))⟩;rw [w1 n];exact cO.mpr rfl
   rintro σ H7 ⟨J3,wX,jm,y7,y8,rfl,S7,RM⟩;refine⟨J3,wX,ext++jm,_,_,_,_,rfl,S7,λzk rj=>?_⟩;rw [tk] at rj;rcases cD.mp rj with h | h
   .exact(dd zk h).mono (λ_ z=>z) λx hx=>by rw [<-jD];exact dP _ hx
   rw [cO.mp h];exact λpl pp e o=>RM pl pp (bj.mp e).1 e o
  rintro σ H6 ⟨NF,pE,ext,y5,y6,y7,y8,rfl,S6,dd⟩;refine⟨NF,pE,ext,_,_,_,_,rfl,S6,λru gp=>dd ru ?_⟩;rw [ax,ll,cH];exact gp
 have c':¬(many < (us.map V.ref).length):=λz=>c (cC z);rw [ax,Rf] at c';have mY:=cl ∅;exact⟨_,rfl,q Lp us aZ H5 S.fP S.sm S.eP S.pP S.nd (λx=>⟨λh=>S.bg x h,λb=>ib.Xu mY b⟩)⟩
end
theorem FQ (b:Str->Bool):∀(zs:List Str) (j:Nat),j < xQ b zs↔j < zs.length/\∀x∈zs.take j,b x=true
 | [],j=>⟨λh=>absurd h (nX _),λh=>absurd h.1 (nX _)⟩
 | z::r,0=>⟨λ_=>⟨Nat.succ_pos _,λ_ h=>(by cases h)⟩,λ_=>by unfold xQ;split <;> omega⟩
 | z::r,j+1=>by
  have ih:=FQ b r j;unfold xQ;by_cases c:b z=true
  .rw [ar c,qA,dG];constructor
   .intro h;obtain⟨h1,h2⟩:=ih.mp ∅;refine⟨∅,λx hx=>?_⟩;rcases bR.mp hx with e | e
    .rw [e];exact c
    exact h2 x e
   intro h;have:=ih.mpr ⟨∅,λx hx=>h.2 x (bW _ hx)⟩;omega
  rw [au c,qA];exact⟨λh=>by omega,λh=>absurd (h.2 z bK) c⟩
def EW {ns:List Str}{ru:aw}{j:Nat}{z:Str}(e:ru.2[j]?=some z):j < xQ (λx=>decide (x∈ns)) ru.2↔Hd ns ru j:=by
 rw [FQ];exact⟨λh x hx=>cS (h.2 x hx),λh=>⟨(bj.mp e).1,λx hx=>cC (h x hx)⟩⟩
section
variable {aa:List aw}{ns:List Str}{bh:List Be}
def CZ (h:sI aa (hd aa) (λz=>decide (z∈ns)) bh):∀x∈aZ bh,ib aa ns x.2 x.1:=by
 induction h with
 | nil=>intro x h;cases h
 | @snoc bh k j ru z w h e1 e2 lj hw n ih =>
  intro x hx;unfold aZ at hx;rw [bB] at hx;rcases cD.mp hx with q | q
  .exact ih x q
  rw [cO.mp q];have o:=(EW e2).mp lj;have hr:=cE e1;unfold kZ at hw;by_cases c:z∈hd aa
  .rw [ar c] at hw;exact .name hr o e2 (ih (z,w) (oP.mp hw))
  rw [au c] at hw;have:=cO.mp hw;subst this;exact .word hr o e2 λy=>c (kQ.mp y)
def C0 (c:Ax aa (hd aa) (λz=>decide (z∈ns)) aa.length bh):QT aa ns (aZ bh):=λru hr pl p e o=>by
 obtain⟨k,ek⟩:=fU hr;have lk:=(bj.mp ek).1;have cc:=c k ru lk ek pl p ((EW e).mpr o) e;unfold kZ at cc;constructor
 .intro n;rw [au (λy=>n (kQ.mpr y))] at cc;exact cc p (cO.mpr rfl)
 intro m w hw;rw [ar (kQ.mp m)] at cc;exact cc w (oP.mpr hw)
def MH (h:sI aa (hd aa) (λz=>decide (z∈ns)) bh):∀(i:Nat)(b:Be),bh[i]?=some b->∃ru z,aa[b.2.2.1]?=some ru/\ru.1=b.1/\ru.2[b.2.2.2]?=some z/\Hd ns ru b.2.2.2/\(b.1,b.2.1)∉aZ (bh.take i)/\((z∈hm aa/\(z,b.2.1)∈aZ (bh.take i))\/(z∉hm aa/\z=b.2.1)):=by
 induction h with
 | nil=>intro i b h;cases h
 | @snoc bh k j ru z w h e1 e2 lj hw n ih =>
  intro i x hx;by_cases l:i < bh.length
  .rw [mr l] at hx;rw [mw ∅];exact ih i x hx
  have li:=(bj.mp hx).1;rw [bU,ic] at li;have:i=bh.length:=by omega
  subst this;rw [kM (aE _),nO] at hx;cases hx;rw [mw (aE _),cH];refine⟨ru,z,e1,rfl,e2,(EW e2).mp lj,n,?_⟩;unfold kZ at hw;by_cases c:z∈hd aa
  .rw [ar c] at hw;exact .inl ⟨kQ.mpr c,oP.mp hw⟩
  rw [au c] at hw;exact .inr ⟨λy=>c (kQ.mp y),(cO.mp hw).symm⟩
end
def Mg {aa:List aw}{ns A B:List Str}(hA:∀ru∈aa,ru.1∈A)(hB:∀ru∈aa,∀x∈ru.2,x∈B)(aZ:List (Str×Str))(nd:aZ.Nodup)(b:∀x∈aZ,ib aa ns x.2 x.1):aZ.length<=A.length * B.length:=by
 have h:=Wd.lG aZ (A.flatMap λa=>B.map λw=>(a,w)) nd λx hx=>by
  have bx:=b x hx;obtain⟨_,ru,hr,hw⟩:=bx.text;obtain⟨Ht,uj,e2⟩:=bV.mp bx.head;exact mi.mpr ⟨x.1,e2 ▸ hA Ht uj,bV.mpr ⟨x.2,hB ru hr _ hw,rfl⟩⟩
 have l:∀l:List Str,(l.flatMap λa=>B.map λw=>(a,w)).length=l.length * B.length:=λl=>by
  induction l with
  | nil=>simp
  | cons a r ih=>rw [List.flatMap_cons,bU,ih,ax,dG,Nat.succ_mul,Nat.add_comm]
 rw [l] at h;exact h
def IX.Mh {c:Int}{aa:List aw}(g:IX c aa) (ns:List Str)(aZ:List (Str×Str))(nd:aZ.Nodup)(b:∀x∈aZ,ib aa ns x.2 x.1):aZ.length<=63:=by
 obtain⟨nms,nk,i6⟩:=g.ins;have h1:=Mg (A:=nms) (B:=nms++gN c) (λru h=>(i6 ru h).1) (λru h=>(i6 ru h).2.2) aZ nd b;have gl:=rA c;have n5:=nk.PY;have h2:nms.length * (nms++gN c).length<=5 * 8:=Nat.mul_le_mul n5 (by rw [bU];omega);omega
def MJ (md:Nat->Bool) (a:Nat):List Str:=((List.range 8).filter λk=>decide (a<=k)).map (λk=>if md k=true then wN k else xN k)++(["n","("]:List Str)
def PD (md:Nat->Bool):List (Str×Str):=(List.range 9).flatMap λa=>(MJ md a).map λw=>(eN a,w)
def MP (md:Nat->Bool):(PD md).length=54:=rfl
def Ms {a b:Nat}(ha:a < 9)(hb:b < 9)(e:eN a=eN b):a=b:=by
 have h1:=oM vR (lI ha);have h2:=oM vR (lI hb);rw [e,h2] at h1;exact h1.symm
def so {md:Nat->Bool}{a:Nat}{w:Str}(ha:a < 9)(h:w∈MJ md a):(eN a,w)∈PD md:=mi.mpr ⟨a,iX.mpr ha,bV.mpr ⟨w,h,rfl⟩⟩
def Ar {md:Nat->Bool}{a:Nat}{w:Str}(ha:a < 9)(h:(eN a,w)∈PD md):w∈MJ md a:=by
 obtain⟨b,hb,h2⟩:=mi.mp h;obtain⟨w2,h3,e⟩:=bV.mp h2;have e1:eN b=eN a:=congrArg Prod.fst e;have e2:w2=w:=congrArg Prod.snd e;rw [<-e2,<-Ms (iX.mp hb) ha e1];exact h3
def An {md:Nat->Bool}{a:Nat}{w:Str}(h:w∈MJ md (a+1)):w∈MJ md a:=by
 unfold MJ at h ⊢;rcases cD.mp h with q | q
 .obtain⟨k,hk,e⟩:=bV.mp q;obtain⟨k1,k2⟩:=gO.mp hk;have:=cS k2;exact dP _ (bV.mpr ⟨k,gO.mpr ⟨k1,cC ∅⟩,e⟩)
 exact dA _ q
def BG {md:Nat->Bool}{a:Nat}(ha:a < 8):(if md a=true then wN a else xN a)∈MJ md a :=
 dP _ (bV.mpr ⟨a,gO.mpr ⟨iX.mpr ha,cC (aE _)⟩,rfl⟩)
def NA {a b c x:Str}{pl:Nat}(h:[a,b,c][pl]?=some x):(pl=0/\x=a)\/(pl=1/\x=b)\/(pl=2/\x=c):=by
 match pl,h with
 | 0,h=>exact .inl ⟨rfl,(fQ h).symm⟩
 | 1,h=>exact .inr (.inl ⟨rfl,(fQ h).symm⟩)
 | 2,h=>exact .inr (.inr ⟨rfl,(fQ h).symm⟩)
 | _+3,h=>cases h
def MI {a x:Str}{pl:Nat}(h:[a][pl]?=some x):x=a:=by
 match pl,h with
 | 0,h=>exact(fQ h).symm
 | _+1,h=>cases h
def wG.Mh {aa:List aw}(g:wG aa){ns:List Str}(o_:∀x∈ns,x∈hm aa)(aZ:List (Str×Str))(nd:aZ.Nodup)(b:∀x∈aZ,ib aa ns x.2 x.1):aZ.length<=63:=by
 obtain⟨md,Q4⟩:=g.Q4;have hN:∀x∈hm aa,x∈wM:=λx hx=>by
  obtain⟨ru,hr,e⟩:=bV.mp hx;exact e ▸ (g.three ru hr).1
 have NP:∀x∈wI,x∉hm aa:=λx hx h=>Fg x (hN x h) hx;have nE:∀x∈wI,x∉ns:=λx hx h=>NP x hx (o_ x h);have lp:("(":Str)∈wI:=by decide +kernel
 have ln:("n":Str)∈wI:=by decide +kernel
 have Wy:∀(p q r:Str){ru:aw},ru.2=[p,q,r]->Hd ns ru 1->p∈ns:=λp q r ru e o=>o p (by rw [e];exact bK);have Sj:∀(p q r:Str){ru:aw},ru.2=[p,q,r]->Hd ns ru 2->p∈ns/\q∈ns:=λp q r ru e o=>⟨o p (by rw [e];exact bK),o q (by rw [e];exact bW _ bK)⟩;have key:∀{w h:Str},ib aa ns w h->(h,w)∈PD md:=by
  intro w h bg
  induction bg with
  | @word ru pl hr o e n =>
   obtain⟨a,ea,q⟩:=Q4 ru hr;rw [ea];rcases q with ⟨la,q⟩ | ⟨rfl,q⟩
   .rcases q with q | ⟨Dk,q⟩ | ⟨Dk,q⟩
    .rw [q] at e;exact absurd (g.z6 (a+1) ∅) (MI e ▸ n)
    .rw [q] at e;rcases NA e with ⟨_,rfl⟩ | ⟨_,rfl⟩ | ⟨_,rfl⟩
     .exact absurd (g.z6 a ∅) n
     .have:=BG (md:=md) la;rw [ar Dk] at this;exact so ∅ this
     exact absurd (g.z6 (a+1) ∅) n
    rw [q] at e;rcases NA e with ⟨_,rfl⟩ | ⟨_,rfl⟩ | ⟨_,rfl⟩
    .exact absurd (g.z6 (a+1) ∅) n
    .exact absurd (g.z6 (a+1) ∅) n
    have:=BG (md:=md) la;rw [au (by rw [Dk];decide)] at this;exact so ∅ this
   rcases q with q | q | q
   .rw [q] at e;cases e
   .rw [q] at e;rw [MI e];exact so nofun (dA _ bK)
   have e':=e;rw [q] at e';rcases NA e' with ⟨_,rfl⟩ | ⟨rfl,rfl⟩ | ⟨rfl,rfl⟩
   .exact so nofun (dA _ (bW _ bK))
   .exact absurd (Wy _ _ _ q o) (nE _ lp)
   exact absurd (Sj _ _ _ q o).1 (nE _ lp)
  | @name ru pl p hr o e bp ih =>
   obtain⟨a,ea,q⟩:=Q4 ru hr;have hp:=bp.head;rw [ea];rcases q with ⟨la,q⟩ | ⟨rfl,q⟩
   .rcases q with q | ⟨Dk,q⟩ | ⟨Dk,q⟩
    .rw [q] at e;rw [MI e] at ih;exact so ∅ (An (Ar ∅ ih))
    .have e':=e;rw [q] at e';rcases NA e' with ⟨_,rfl⟩ | ⟨_,rfl⟩ | ⟨rfl,rfl⟩
     .exact ih
     .exact absurd hp (NP _ (AD la))
     exact absurd (Sj _ _ _ q o).2 (nE _ (AD la))
    rw [q] at e;rcases NA e with ⟨_,rfl⟩ | ⟨_,rfl⟩ | ⟨_,rfl⟩
    .exact so ∅ (An (Ar ∅ ih))
    .exact so ∅ (An (Ar ∅ ih))
    exact absurd hp (NP _ (Dz la))
   rcases q with q | q | q
   .rw [q] at e;cases e
   .rw [q] at e;exact absurd (MI e ▸ hp) (NP _ ln)
   have e':=e;rw [q] at e';rcases NA e' with ⟨_,rfl⟩ | ⟨rfl,rfl⟩ | ⟨rfl,rfl⟩
   .exact absurd hp (NP _ lp)
   .exact absurd (Wy _ _ _ q o) (nE _ lp)
   exact absurd (Sj _ _ _ q o).1 (nE _ lp)
 have h:=Wd.lG aZ (PD md) nd λx hx=>key (b x hx);rw [MP] at h;omega
abbrev ow:Stmt:=top 2
abbrev vw:Stmt:=top 53
abbrev vx:Stmt:=top 54
def Mx (a b c d:V):ip [a,b,c,d] none (some 2)=[a,b]:=rfl
def yo (K:ba)(H:Hp)(ts:List Addr)(bh:List Be):Prop:=Paired (λt (b:Be)=>aS K H t [.str b.1,.str b.2.1,.int (b.2.2.1:Int),.int (b.2.2.2:Int)]) ts bh
def yo.keep {K:ba}{H H':Hp}{ts:List Addr}{bh:List Be}(h:yo K H ts bh)(k:∀a xs,aS K H a xs->aS K H' a xs):yo K H' ts bh:=Paired.di h λ_ _ z=>k _ _ z
section
def qP (K:ba)(Cg C:Addr):Sp:=λvs H Q _=>∃(H0:Hp)(g bt:Addr)(rs ss:List Addr)(aa:List aw)(aX:List (Str×Nat))(bh:List Be),vs=[.ref g]/\RU H0 H Cg g rs ss bt/\Dy K C H bt aa aX bh /\
 ∀(L:Addr)(ts:List Addr)(H':Hp),H L=none->aC H H'->H' L=some (.lst (ts.map V.ref))->yo K H' ts bh->Q (.ref L) H'
def yV:aM ["grammar"] ["grammar"] (az ow):=jl rfl rfl rfl rfl nofun
def xy {Cg C:Addr}(F:iM K "begins_of" "begins_of" ow f fd)(T:Txt mg)(G:GC K Cg)(B:BC K C):bZ P w K mg base gw 1 f fd ["grammar"] (qP K Cg C):=by
 refine F.ok yV (λvs H Q E h=>?_) (λeY A outer s H vs Q E hr h=>?_)
 .obtain⟨H0,g,bt,rs,ss,aa,aX,bh,rfl,_⟩:=h;rfl
 obtain⟨H0,g,bt,rs,ss,aa,aX,bh,rfl,⟨gx,fs,R2,S2,eg,l1,l2,l3,l4,_⟩,bv,q⟩:=h;refine⟨_,ao (bz (bc iq rfl T.lst hZ (ab (d0 (d0 (pv 0) rfl) rfl) ai))),?_⟩;obtain⟨dx,JJ,e1,bg,q1,q2,q3,_,⟨t1,q4,q5⟩⟩:=bv.ia;refine⟨_,rfl,g,Cg,gx,fs,_,rfl,eg,G.cls,G.a3,l3,bt,C,dx,JJ,_,rfl,q1,B.cls,B.a3,q3,bg,_,rfl,.inl (aK.of q4),λL hL=>?_⟩;exact q L t1 _ hL (af hL _) ae (yo.keep q5 λ_ _ z=>(af hL _).tup z)
def w_:Sp:=λvs H Q _=>∃(k m:Nat),vs=[.int (k:Int),.int (m:Int)]/\Q (.bl (decide (k < m))) H
def Ef:aM ["_law_found","_law_many"] ["_law_found","_law_many"] (az vw):=jl rfl rfl rfl rfl nofun
def Ca (F:iM K "_law_whole" "_law_whole" vw f fd)(T:Txt mg):bZ P w K mg base gw 1 f fd ["_law_found","_law_many"] w_:=by
 refine F.ok Ef (λvs H Q E h=>?_) (λeY A outer s H vs Q E hr h=>?_)
 .obtain⟨k,m,rfl,_⟩:=h;rfl
 obtain⟨k,m,rfl,q⟩:=h;refine⟨_,ao (bz (lD (aI kb rfl T.Rj Az (ab (pv 0) (ab (pW (v:=.ty "int") rfl T.int PyProof.Rows.boot_int rfl) ai)))
  (lD (K1 (aI kb rfl T.Rj Az (ab (pv 0) (ab (pW (v:=.ty "bool") rfl T.boo PyProof.Rows.boot_bool rfl) ai))))
  (lC (EM EU mT av (pv 0) (pv 1)))))),?_⟩
 refine⟨_,rfl,.int k,"int","int",true,rfl,.int k,rf,true,rfl,?_⟩;refine zT ?_;refine⟨_,rfl,.int k,"int","bool",false,rfl,.int k,Lr,false,rfl,true,rfl,?_⟩;refine zT ?_;refine⟨_,rfl,_,_,rfl,rfl,_,rfl,?_⟩;refine cu (λ_=>?_) (λc=>absurd (cC ∅) c);refine⟨_,rfl,_,_,rfl,rfl,?_⟩;show Q (.bl (decide ((k:Int) < (m:Int)))) H;have e:decide ((k:Int) < (m:Int))=decide (k < m):=by
  by_cases c:k < m
  .rw [cC c,cC ∅]
  rw [fA c,fA ∅]
 rw [e];exact q
def xb (K:ba):Sp:=λvs H Q _=>∃(R L:Addr)(rs ts:List Addr)(aa:List aw) (ns:List Str)(bh:List Be),vs=[.ref R,.ref L]/\aK K H R (rs.map V.ref)/\bL K H rs aa/\Small aa/\aK K H L (ts.map V.ref)/\yo K H ts bh/\sI aa (hd aa) (λz=>decide (z∈ns)) bh/\(∀x,x∈ns->x∈cI false aa)/\bh.length<=1000/\∀H',aC H H'->Q (.bl true) H'
def hU:aM ["_law_rules","_law_told","_law_heads","_law_empty","_law_seen","_law_one","_law_head","_law_parts","_law_part"] ["_law_rules","_law_told"] (az vx):=jl rfl rfl rfl rfl nofun
def Cb (F:iM K "_law_stands" "_law_stands" vx f fd)(T:Txt mg)(GE:aG P w K mg base 1 "_law_ended" ["_law_rules","_law_words_here"] (pT K))(GW:aG P w K mg base 1 "_law_whole" ["_law_found","_law_many"] w_):bZ P w K mg base gw 2 f fd ["_law_rules","_law_told"] (xb K):=by
 refine F.ok hU (λvs H Q E h=>?_) (λeY A outer s H vs Q E hr h=>?_)
 .obtain⟨R,L,rs,ts,aa,ns,bh,rfl,_⟩:=h;rfl
 obtain⟨R,L,rs,ts,aa,ns,bh,rfl,hR,cV,o9,hL,Cu,Ir,o_,hbl,q⟩:=h;have hu:=gM hr;have LA:=o9.most;refine⟨_,aj (ij (iy:=2) ["_law_head","_law_parts"] [] hU.nd rfl rfl rfl (aQ (pv 0)) (aU rfl rfl) nofun rfl nofun
   (λ_ _ _ _ _=>dC (n:=2) K rfl (aA (aq (i:=0) (show (["_law_head","_law_parts"]:List Str).Nodup by decide +kernel) rfl (bo rfl)) (aA (aq (i:=1) (show (["_law_head","_law_parts"]:List Str).Nodup by decide +kernel) rfl (bo rfl)) bH))) (λ_ _ _ _ _=>bw) (λ_ _ _ _ _=>pv 0))
  (aj (aB (i:=3) hU.nd rfl (Or.inr rfl) (bA GE hr rfl (ab (pv 0) (ab eX ai))))
  (aj (aB (i:=4) hU.nd rfl (bo rfl) (bY ai))
  (aj (bS cf rfl (aQ (pv 1)) (aq (i:=5) hU.nd rfl (bo rfl))
   (aj (b9 (PW.pt (qV (lB (eK (aI kb rfl T.Rj Az (ab (pv 5) (ab (pW (v:=.ty "tuple") rfl T.tup u7 rfl) ai)))))
     (qV (a8 ET (aI a9 rfl T.len fw (ab (pv 5) ai)) av (cg _)) (qU (lB (eK (bA GW hr rfl (ab (bD bT (pv 5) av (λ_ _=>rfl)) (ab (aI a9 rfl T.len fw (ab (pv 0) ai)) ai)))))))))
    (ao (bz eX)) aY)
   (aj (KZ (bD cZ (pv 0) (bD bT (pv 5) av (λ_ _=>rfl)) (λ_ _=>rfl)) (fJ rfl (aA (aq (i:=6) hU.nd rfl (bo rfl)) (aA (aq (i:=7) hU.nd rfl (bo rfl)) bH))))
   (aj (b9 (PW.pt (qV (a8 ET (pv 6) (bD bT (pv 5) av (λ_ _=>rfl)) (cg _)) (qV (a8 (K6 hu) (eG ie (pv 5) gk (gi av)) (pv 4) rfl)
     (qU (lB (eK (bA GW hr rfl (ab (bD bT (pv 5) av (λ_ _=>rfl)) (ab (aI a9 rfl T.len fw (ab (pv 7) ai)) ai)))))))))
    (ao (bz eX)) aY)
   (aj (b9 (lB (eK (aI (dU rfl) rfl T.all boot_all (ab (aV ["_law_part"] [(3,"_law_empty")] rfl (eQ (eG ie (pv 7) gk (gi (bD bT (pv 5) av (λ_ _=>rfl))))) (aU rfl rfl) nofun rfl nofun
      (λ_ _ _ _ _=>aq (i:=0) (show (["_law_part","_law_empty"]:List Str).Nodup by decide +kernel) rfl (bo rfl)) (λ_ _ _ _ _=>bw) (λ_ _ _ _ _=>dM (dF K) (pv 0) (pv 1) rfl)) ai))))
    (ao (bz eX)) aY)
   (aj (aB (i:=8) hU.nd rfl (bo rfl) (bD bT (pv 7) (bD bT (pv 5) av (λ_ _=>rfl)) (λ_ _=>rfl)))
   (aj (fk (b9 (PW.pt (qV (PW.pt (jw (a8 i9 (pv 8) (pv 2) rfl) (ig (a8 (t_ hu) (bC (ab (pv 8) (ab (bD bT (pv 5) av (λ_ _=>rfl)) ai))) (pv 4) rfl))))
     (qU (PW.pt (jw (a8 ik (pv 8) (pv 2) rfl) (ig (a8 ET (pv 8) (bD bT (pv 5) av (λ_ _=>rfl)) (cg _))))))))
    (ao (bz eX)) aY))
   (ao (b_ (f_ fV fX fY bE (pv 4) (ab (eG ie (pv 5) gk (gi av)) ai)))))))))))
  (ao (bz eX))))),?_⟩
 have ll:=a0 cV;have lt:=a0 Cu;refine⟨_,rfl,R,rfl,⟨_,hR⟩,λDh UT=>iK hR cV ∅ UT λH1 s1 RL=>?_⟩;refine goN ?_;refine⟨_,rfl,R,rs,aa,false,rfl,s1.seq hR,cV.same s1,o9,λDe H2 hDe s2 e2 l2=>?_⟩;refine⟨tI,λM hM=>?_⟩;have k3:=af hM (.lst []);have e3:upd H2 M (.lst []) M=some (.lst []):=ae;have fM:H M=none:=(s1.trans s2).free hM;have nDM:Dh≠M:=λz=>by rw [<-z,s2 _ _ RL] at hM;cases hM
 have nEM:De≠M:=λz=>by rw [<-z,e2] at hM;cases hM
 generalize upd H2 M (.lst [])=H3 at k3 e3;have s3:=(s1.trans s2).trans k3;have IE:=k3 _ _ (s2 _ _ RL);have Qe:=k3 _ _ e2;refine⟨_,rfl,L,rfl,⟨_,s3.seq hL⟩,?_⟩;refine cv (xs:=ts.map V.ref) (λi σ H5=>∃(us:List Addr)(y5 y6 y7 y8:Option V),σ=[aF R,aF L,aF Dh,aF De,aF M,y5,y6,y7,y8]/\aC H H5/\H5 Dh=some (.lst ((hm aa).map V.str))/\H5 De=some (.lst ((cI false aa).map V.str))/\H5 M=some (.lst (us.map V.ref))/\Paired (Gr K H5) us (aZ (bh.take i))) ⟨[],none,none,none,none,rfl,s3,IE,Qe,e3,.nil⟩ ?_ ?_ ?_
 .rintro i σ H5 _ ⟨us,y5,y6,y7,y8,rfl,s5,_⟩;exact s5.seq hL
 .rintro i x σ H5 ex ⟨us,y5,y6,y7,y8,rfl,s5,eD,eE,eM,pM⟩;rw [bq] at ex;obtain⟨t,et,rfl⟩:=cq.mp ex;have li:=(bj.mp et).1;obtain⟨b,eb⟩:∃b,bh[i]?=some b:=⟨_,cR ∅⟩;obtain⟨t',JP,vt⟩:=Paired.at_ Cu i b eb;rw [et] at JP;cases JP;obtain⟨ru,z,Va,e1n,ez,op,Tn,cs⟩:=MH Ir i b eb;have lk:=(bj.mp Va).1;have lz:=(bj.mp ez).1;obtain⟨r,err,p,v1,v2⟩:=Paired.at_ cV _ ru Va;have h6:=o9.nr ru (cE Va);have VZ:r_ (rs.map V.ref) (b.2.2.1:Int)=some (.ref r):=dD (by rw [bq,err];rfl);have Qr:r_ (ru.2.map V.str) (b.2.2.2:Int)=some (.str z):=dD (by rw [bq,ez];rfl);have Rf:=a0 pM;have lpr:(aZ (bh.take i)).length<=1000:=by unfold aZ;rw [ax,dO];omega
  have Dg:=s5.tup vt;refine goN ?_;refine⟨_,rfl,.ref t,"tuple","tuple",true,rfl,.tup Dg,rf,true,rfl,?_⟩;refine gW ?_;refine⟨_,rfl,t,_,rfl,.inr Dg,rfl,_,rfl,?_⟩;refine cu (λc=>absurd (show (!decide (V.int 4=V.int 4))=true from c) nofun) λ_=>?_;refine⟨_,rfl,t,_,_,_,rfl,rfl,Dg,rfl,_,rfl,R,_,rfl,.inl (s5.seq hR),b.2.2.1,aa.length,(by show [V.int (b.2.2.1:Int),V.int ((rs.map V.ref).length:Int)]=_;rw [ax,ll]),_,rfl,?_⟩;rw [cC lk];refine gW ?_;refine⟨_,rfl,_,rfl,t,_,_,_,rfl,rfl,Dg,rfl,R,_,_,_,rfl,rfl,s5.seq hR,VZ,r,_,rfl,s5.tup v1,rfl,_,_,rfl,_,_,rfl,rfl,?_⟩;refine⟨_,rfl,_,rfl,t,_,_,_,rfl,rfl,Dg,rfl,rfl,_,rfl,?_⟩;rw [e1n,cC rfl];refine gW ?_;refine⟨_,rfl,_,rfl,t,_,rfl,Dg,λt2 H6 s6 Yt=>?_⟩;rw [Mx] at Yt;refine⟨_,rfl,t2,M,(b.1,b.2.1),us,aZ (bh.take i),rfl,rfl,Yt,aK.of (s6 _ _ eM),Paired.di pM λ_ _ z=>s6.tup z,_,rfl,?_⟩;rw [au cU,fA Tn];refine gW ?_;have Ew:=s5.trans s6;refine⟨_,rfl,t,_,_,_,rfl,rfl,s6.tup Dg,rfl,_,rfl,p,_,rfl,.inr (Ew.tup v2),b.2.2.2,ru.2.length,(by show [V.int (b.2.2.2:Int),V.int ((ru.2.map V.str).length:Int)]=_;rw [ax]),_,rfl,?_⟩;rw [cC lz];refine gW ?_;have cut:ip (ru.2.map V.str) none (some (b.2.2.2:Int))=(ru.2.take b.2.2.2).map V.str:=by
   have:=oU ru.2 b.2.2.2;rw [me] at this;exact this
  refine⟨_,rfl,_,rfl,t,_,_,_,rfl,rfl,s6.tup Dg,rfl,_,rfl,p,_,rfl,Ew.tup v2,λp2 H7 s7 IA=>?_⟩;rw [cut] at IA;have vI:=s6.trans s7;refine⟨p2,rfl,⟨_,IA⟩,λD9 wO=>gA (zs:=ru.2.take b.2.2.2) [aF De] (λz=>decide (z∈cI false aa)) rfl IA (by rw [dO];omega) wO (λz _ HA Qy sA hq=>?_) λH9 s9 e9=>?_⟩
  .refine⟨_,rfl,_,rfl,De,_,rfl,.inl (aK.of (sA _ _ (vI _ _ eE))),rfl,bO _,?_⟩;rw [de];exact hq
  refine⟨D9,_,rfl,aK.of e9,_,rfl,?_⟩;rw [all_map,dN.mpr λx hx=>cC (o_ x (op x hx))];refine gW ?_;have Jh:=vI.trans s9;have Z4:=s5.trans Jh;refine⟨_,rfl,_,rfl,t,_,_,_,rfl,rfl,Jh.tup Dg,rfl,p,_,_,_,rfl,rfl,Z4.tup v2,Qr,?_⟩;refine⟨λσ HB=>σ=[aF R,aF L,aF Dh,aF De,aF M,aF t,some (.str b.1),aF p,some (.str z)]/\aC H5 HB,?_,?_⟩
  .refine⟨_,rfl,_,rfl,Dh,_,rfl,.inl (aK.of (Jh _ _ eD)),rfl,bO _,_,rfl,?_⟩;rw [au cU,de];rcases cs with ⟨c1,c2⟩ | ⟨c1,c2⟩
   .rw [cC c1];refine zT ?_;refine⟨_,rfl,_,rfl,t,_,_,_,rfl,rfl,Jh.tup Dg,rfl,kN,λt4 zX=>?_⟩;have kB:=af zX (.tup [V.str z,V.str b.2.1]);have eB:aS K (upd H9 t4 (.tup [V.str z,V.str b.2.1])) t4 [V.str z,V.str b.2.1]:=aS.of ae;generalize upd H9 t4 (.tup [V.str z,V.str b.2.1])=HB at kB eB;have Eu:=Jh.trans kB;refine⟨_,rfl,t4,M,(z,b.2.1),us,aZ (bh.take i),rfl,rfl,eB,aK.of (Eu _ _ eM),Paired.di pM λ_ _ y=>Eu.tup y,_,rfl,?_⟩;rw [ar rfl,cC c2];refine gW ?_;refine⟨_,rfl,_,rfl,Dh,_,rfl,.inl (aK.of (Eu _ _ eD)),rfl,bO _,_,rfl,?_⟩;rw [ar rfl,de,cC c1];refine gW (gW ?_);exact⟨rfl,Eu⟩
   rw [fA c1];refine gW (gW ?_);refine⟨_,rfl,_,rfl,Dh,_,rfl,.inl (aK.of (Jh _ _ eD)),rfl,bO _,_,rfl,?_⟩;rw [ar rfl,de,fA c1];refine zT ?_;refine⟨_,rfl,_,rfl,t,_,_,_,rfl,rfl,Jh.tup Dg,rfl,rfl,_,rfl,?_⟩;rw [c2,cC rfl];refine gW ?_;exact⟨rfl,Jh⟩
  rintro σ HB ⟨rfl,Eu⟩;have s0B:=s5.trans Eu;refine⟨_,rfl,.inl ⟨rfl,_,aK.of (Eu _ _ eM)⟩,_,rfl,_,rfl,t,_,rfl,Eu.tup Dg,λt5 HC sC Ys=>?_⟩;rw [Mx] at Ys;have KD:=Eu.trans sC;have Vs:=KD _ _ eM;refine⟨M,_,_,rfl,rfl,Vs,br (by rw [ax];omega),?_⟩;refine⟨us++[t5],_,_,_,_,rfl,λy o hy=>?_,by rw [ak nDM];exact KD _ _ eD,by rw [ak nEM];exact KD _ _ eE,by rw [ae,bB];rfl,?_⟩
  .rw [ak (λz=>by rw [z,fM] at hy;cases hy)];exact KD _ _ (s5 y o hy)
  have tk:aZ (bh.take (i+1))=aZ (bh.take i)++[(b.1,b.2.1)]:=by unfold aZ;rw [cQ,eb,bB];rfl
  rw [tk];exact fO (Paired.di pM λ_ _ y=>aP Vs (KD.tup y)) (aP Vs Ys)
 rintro σ H5 ⟨us,y5,y6,y7,y8,rfl,s5,_⟩;exact q H5 s5
end
end h_
namespace L2
open PySem
def xg {X:Cx}(K:ba)(hK:X.K=K:=by rfl):IU X (EE K):=by subst hK;exact ie
end L2
namespace h_
open PySem L2 M11
abbrev Kz:Stmt:=top 55
def NQ {A:Around}{k n:Nat}(hr:eZ k A)(h:n<=16 * k+200):A.units+n < cLine:=by have:=hr.un;omega
def CK {aa:List aw}{x:Str}(hx:x∈cI false aa):Em aa x:=by
 have all:∀(n i:Nat)(h:Str),i < n->(cI false aa)[i]?=some h->Em aa h:=by
  intro n
  induction n with
  | zero=>intro i h l;omega
  | succ n ih =>
   intro i h l e;obtain⟨cN,a,b⟩:=(iJ false aa).ord i h e;exact Em.mk (ru:=(h,cN)) a λp hp=>by
    rcases b p hp with q | q
    .obtain⟨j,lj,ej⟩:=mC q;exact ih j p ∅ ej
    cases q.1
 obtain⟨i,e⟩:=fU hx;exact all (i+1) i x ∅ e
def IC {aa:List aw}{aX:List (Str×Nat)}(h:sO aa aX)(c:su aa aa.length aX)(x:Str):x∈aX.map (·.1)↔x∈cI false aa:=by
 constructor
 .exact λhx=>rO (Af h x hx)
 intro hx;have e:=CK hx;clear hx
 induction e with
 | mk hr _ ih=>exact c _ (by rw [cH];exact hr) ih
def PU {H0 H H':Hp}(k:Kp H H'){Cg g bt:Addr}{rs ss:List Addr}(h:RU H0 H Cg g rs ss bt):RU H0 H' Cg g rs ss bt:=by
 obtain⟨gx,fs,R2,S2,q1,q2,q3,q4,q5,q6,q7,q8,q9⟩:=h;exact⟨gx,fs,R2,S2,k _ _ q1 (λ_ z=>by cases z),q2,q3,q4,q5,k.lst q6,k.lst q7,q8,q9⟩
def Lq {H H':Hp}{L:Addr}{o:HO}(s:aC H H')(h:H L=none):Kp H (upd H' L o):=λb x hb _=>by
 rw [ak (λz=>by rw [z,h] at hb;cases hb)];exact s b x hb
theorem vM {K:ba}{H:Hp}:∀{as bs:List Addr}{aZ:List (Str×Str)},Paired (λt (q:Str×Str)=>aS K H t [.str q.1,.str q.2]) as aZ->Paired (λt (q:Str×Str)=>aS K H t [.str q.1,.str q.2]) bs aZ->Paired (J_ K H 1) (as.map V.ref) (bs.map V.ref)
 | _,_,_,.nil,.nil=>.nil
 | _,_,_,.cons a t,.cons b u=>.cons (.inr ⟨_,_,_,_,rfl,rfl,.inr ⟨a,b⟩,.cons (J_.self (.inl rfl) 0) (.cons (J_.self (.inl rfl) 0) .nil)⟩) (vM t u)
structure We (aa:List aw):Prop where
 one:1<=aa.length
 most:aa.length<=32
 six:∀ru∈aa,ru.2.length<=6
 good:∃rk b,Good aa rk b
 nr:∀ns:List Str,(∀x∈ns,x∈hm aa)->∀aZ:List (Str×Str),aZ.Nodup->(∀x∈aZ,ib aa ns x.2 x.1)->aZ.length<=63
def We.small {aa:List aw}(h:We aa):Small aa:=⟨h.one,h.most,h.six⟩
section
def xY {H:Hp}{L D:Addr}{ts:List Addr}{bh:List Be}{σ:St}{Qp:Hp->Prop}(hL:aK K H L (ts.map V.ref))(Cu:yo K H ts bh)(bM:bh.length<=1000)(hD:H D=none)
  (q:∀(vs:List Addr)(H2:Hp),aC H H2->H2 D=some (.lst (vs.map V.ref))->Paired (Gr K H2) vs (aZ bh)->Qp H2) :
  ∃W:Nat->Nat->List V->St->Hp->Prop,(∃m,W 0 m [] (dJ ["_law_one"] [] σ) (upd H D (.lst []))) /\
 ∀i m ys σ' H,W i m ys σ' H->((jn K L).stop i H/\Qp H)\/((jn K L).go i H/\∃m',m' < m/\∀x H',(jn K L).kX i H x H'->dB 0 x σ' H' λσ2 H2=>gP σ2 H2 λb H3 =>
  if b=true then Wz (EE K) (gE 0) AI (Ja (tC (.int 2))) σ2 H3 λy H4=>H4 D=some (.lst ys)/\ys.length < sizeLine/\W (i+1) m' (ys++[y]) σ2 (upd H4 D (.lst (ys++[y]))) else W (i+1) m' ys σ2 H3):=by
 have ll:=a0 Cu;refine b0 (xs:=ts.map V.ref) (λi ys σ2 H2=>(∃vs:List Addr,ys=vs.map V.ref/\Paired (Gr K H2) vs (aZ (bh.take i)))/\(∃y0,σ2=[y0])/\aC H H2/\H2 D=some (.lst ys))
  ⟨⟨[],rfl,.nil⟩,⟨none,rfl⟩,af hD _,ae⟩ (λi ys σ2 H2 _ h=>?_) (λi x ys σ2 H2 ex h=>?_) (λys σ2 H2 h=>?_)
 .obtain⟨_,_,sm,_⟩:=h;exact sm.seq hL
 .obtain⟨⟨vs,rfl,Ot⟩,⟨y0,rfl⟩,sm,Dm⟩:=h;rw [bq] at ex;obtain⟨t,et,rfl⟩:=cq.mp ex;have li:=(bj.mp et).1;obtain⟨b,eb⟩:∃b,bh[i]?=some b:=⟨_,cR ∅⟩;obtain⟨t',JP,vt⟩:=Paired.at_ Cu i b eb;rw [et] at JP;cases JP;have Xj:=a0 Ot;have lpr:(aZ (bh.take i)).length<=1000:=by unfold aZ;rw [ax,dO];omega
  refine goN (wQ ?_);refine⟨_,rfl,_,rfl,t,_,rfl,sm.tup vt,λu1 HD sD P5=>?_⟩;rw [Mx] at P5;have Nu:=sD _ _ Dm;refine⟨Nu,br (by rw [ax];omega),⟨vs++[u1],by rw [bB];rfl,?_⟩,⟨_,rfl⟩,λb o hb=>?_,ae⟩
  .have tk:aZ (bh.take (i+1))=aZ (bh.take i)++[(b.1,b.2.1)]:=by unfold aZ;rw [cQ,eb,bB];rfl
   rw [tk];exact fO (Paired.di Ot λa b z=>aP Nu (sD.tup z)) (aP Nu P5)
  rw [ak (λz=>by rw [z,hD] at hb;cases hb)];exact sD _ _ (sm b o hb)
 obtain⟨⟨vs,rfl,Ot⟩,_,sm,Dm⟩:=h;rw [ax,ll,cH] at Ot;exact q vs H2 sm Dm Ot
def AY (K:ba)(T1 T2 T3:Addr):Sp:=λvs H Q _=>∃(a:Addr)(ns:List Int),vs=[.ref a]/\aK K H a (ns.map V.int)/\ns.length<=63/\BK T1 T2 T3 H/\∀H',Q (.bl true) H'
def tT:aM ["_law_script","_law_rules","_law_grammar_here","_law_told","_law_due"] ["_law_script"] (az Kz):=jl rfl rfl rfl rfl nofun
def La {Cg C T1 T2 T3 fG:Addr}{Yl:FuncData}(F:iM K "law" "law" Kz f fd)(T:Txt mg)(UR:mg "sorted"=none)
  (GG:aG P w K mg base 8 "_law_grammar" ["_law_script","_law_at"] (DY K))(GCc:aG P w K mg base 8 "_law_cell_at" ["_law_script","_law_k"] (oq K))(GD:aG P w K mg base 8 "_law_deep" ["_law_script"] (Ea K))
  (Zw:aG P w K mg base 8 "begins_of" ["grammar"] (qP K Cg C))(GS:aG P w K mg base 8 "_law_stands" ["_law_rules","_law_told"] (xb K))(GB:aG P w K mg base 8 "_law_begins" ["_law_rules"] (xf K))
  (G:GC K Cg)(MG:Mk K Cg fG)(FG:bZ P w K mg base gw 7 fG Yl ["self","rules","strengths"] (A0 K Cg C T1 T2 T3))(B1:Binds K Yl ["self","rules","strengths"] [.none])(mG:mg "Grammar"=some (.ref Cg)):bZ P w K mg base gw 9 f fd ["_law_script"] (AY K T1 T2 T3):=by
 refine F.ok tT (λvs H Q E h=>?_) (λeY A outer s H vs Q E hr h=>?_)
 .obtain⟨a,ns,rfl,_⟩:=h;rfl
 obtain⟨S,ns,rfl,hS,hl,hT,q⟩:=h;have M_:=NQ (n:=1+1) hr nofun;refine⟨_,aj (aB (i:=1) tT.nd rfl (bo rfl) (bA GG hr rfl (ab (pv 0) (ab av ai))))
  (aj (fk (b9 (a8 i_ (aN cX (aN dq (bA GCc hr rfl (ab (pv 0) (ab av ai))) av) av) av (cg _)) (ao (aB (i:=1) tT.nd rfl (bo rfl) (bA GD hr rfl (ab (pv 0) ai)))) aY))
  (aj (aB (i:=2) tT.nd rfl (bo rfl) (vO (dvs:=[.fc]) MG FG hr rfl mG B1 (.cons rfl .nil) tX (ab (bc iq rfl T.lst hZ (ab (pv 1) ai)) ai)))
  (aj (aB (i:=3) tT.nd rfl (bo rfl) (bA Zw hr rfl (ab (pv 2) ai)))
  (aj (b9 (PW.pt (qV (lB (eK (aI wo rfl T.Rj Az (ab (pv 3) (ab (pW (v:=.ty "list") rfl T.lst hZ rfl) ai))))) (qU (lB (eK (bA GS hr rfl (ab (pv 1) (ab (pv 3) ai)))))))) (ao (bz eX)) aY)
  (aj (aB (i:=4) tT.nd rfl (bo rfl) (aI lX rfl UR yH (ab (bA GB hr rfl (ab (pv 1) ai)) ai)))
  (aj (b9 (a8 (zC 1 M_) (aI lX rfl UR yH (ab (aV ["_law_one"] [] rfl (aQ (pv 3)) (aU rfl rfl) nofun rfl nofun
   (λ_ _ _ _ _=>aq (i:=0) (show (["_law_one"]:List Str).Nodup by decide +kernel) rfl (bo rfl)) (λ_ _ _ _ _=>bw) (λ_ _ _ _ _=>eG (xg K) (pv 0) gk (gi av))) ai)) (pv 4) (cg _)) (ao (bz eX)) aY)
  (aj (b_ (f_ fV fX fY bE (pv 3) (ab (bC (ab bI (ab bI (ab av (ab av ai))))) ai)))
  (ao (bz (dM (xu 1 M_) (aI lX rfl UR yH (ab (aV ["_law_one"] [] rfl (aQ (bA Zw hr rfl (ab (pv 2) ai))) (aU rfl rfl) nofun rfl nofun
   (λ_ _ _ _ _=>aq (i:=0) (show (["_law_one"]:List Str).Nodup by decide +kernel) rfl (bo rfl)) (λ_ _ _ _ _=>bw) (λ_ _ _ _ _=>eG (xg K) (pv 0) gk (gi av))) ai)) (pv 4) (cg _))))))))))),?_⟩
 refine⟨_,rfl,S,ns,0,rfl,hS,∅,λc R0 Z6 KO H1 hc f0 s1 YQ WT go=>?_⟩;refine⟨λσ H2=>∃(R:Addr)(rs:List Addr)(aa:List aw),σ=[aF S,aF R,none,none,none]/\aC H H2/\H2 R=some (.lst (rs.map V.ref))/\bL K H2 rs aa/\We aa,?_,?_⟩
 .refine⟨_,rfl,S,ns,0,rfl,s1.seq hS,∅,λc2 _=>?_⟩;refine⟨_,_,rfl,rfl,⟨nofun,nofun⟩,_,_,rfl,rfl,(by show (0:Int) < 16;decide),rfl,_,rfl,?_⟩;refine cu (λ_=>?_) (λ_=>?_)
  .refine⟨_,rfl,S,ns,rfl,s1.seq hS,∅,λR rs aa H2 fR s2 eR rl Qh=>?_⟩;exact⟨R,rs,aa,rfl,s1.trans s2,eR,rl,⟨Qh.one,by have:=Qh.most;omega,λru h=>by have:=(Qh.three ru h).2.1;omega,Qh.good,λms hms=>Qh.Mh hms⟩⟩
  have g8:=go.most;obtain⟨nms,nk,i6⟩:=go.ins;exact⟨R0,Z6,KO,rfl,s1,YQ,WT,⟨go.one,∅,λru h=>(i6 ru h).2.1,go.good,λms _=>go.Mh ms⟩⟩
 rintro σ H2 ⟨R,rs,aa,rfl,s2,eR,rl,lw⟩;clear go WT YQ s1;obtain⟨rk,bb,gd⟩:=lw.good;have l1:=lw.one;have l32:=lw.most;have h8:∀ru∈aa,ru.2.length<=8:=λru h=>by have:=lw.six ru h;omega
 have Dj:aa≠[]:=λz=>by rw [z] at l1;cases l1
 refine⟨_,rfl,R,_,rfl,.inl (aK.of eR),λR3 hR3=>?_⟩;have k3:=af hR3 (.lst (rs.map V.ref));have Vq:upd H2 R3 (.lst (rs.map V.ref)) R3=some (.lst (rs.map V.ref)):=ae;generalize upd H2 R3 (.lst (rs.map V.ref))=H3 at k3 Vq;have t3:=hT.same (s2.trans k3);have Oj:=rl.same k3;have Qc:=k3 _ _ eR;intro g x hg hx nx;refine⟨H3,g,x,R3,.fc,rs,[],aa,[],rk,bb,rfl,(af hx _).trans (af (by rw [ak nx.symm];exact hg) _),hg,ae,aK.of Vq,Oj,∅,h8,Dj,.inl ⟨rfl,rfl,rfl⟩,by simp,λru h=>(by cases h),by simp,gd,t3,λbt H5 s5 t5 gv btv=>⟨rfl,?_⟩⟩;have Xq:=Kp.of3 s5 t3;have Oi:=Xq.aa Oj;have YO:=Xq.lst Qc;clear s5 t5 t3 Oj Qc k3 Vq;obtain⟨aX,bh,bv⟩:=btv;have ID:=IC bv.emp bv.nu;have nsE:∀x∈aX.map (·.1),x∈hm aa:=λx hx=>(iJ false aa).sub x ((ID x).mp hx);have Zf:=CZ bv.IL;have Qn:=bv.IL.nd;have lpb:=lw.nr _ nsE (aZ bh) Qn Zf;have lbe:bh.length<=63:=by have:=lpb;unfold aZ at this;rw [ax] at this;exact this
 have bin:∀y,y∈aZ bh↔ib aa (cI false aa) y.2 y.1:=λy=>⟨λh=>(Zf y h).congr λz hz=>(ID z).mp hz,λh=>ib.Xu (C0 bv.CY) (h.congr λz hz=>(ID z).mpr hz)⟩;refine⟨_,rfl,H3,g,bt,rs,[],aa,aX,bh,rfl,gv,bv,λL ts H6 fL s6 eL pk=>?_⟩;refine⟨_,rfl,L,_,"list",true,rfl,aK.of eL,rf,true,rfl,?_⟩;refine gW ?_;refine⟨_,rfl,_,rfl,R,L,rs,ts,aa,aX.map (·.1),bh,rfl,aK.of (s6 _ _ YO),Oi.same s6,lw.small,aK.of eL,pk,bv.IL,λz hz=>(ID z).mp hz,∅,λH7 s7=>⟨true,rfl,?_⟩⟩;refine gW ?_;have WM:=s6.trans s7;refine⟨_,rfl,R,rs,aa,rfl,aK.of (WM _ _ YO),Oi.same WM,lw.small,lw.nr _ (iJ false aa).sub,λD0 ZG B3 H8 fD0 s8 eD0 WY OE Xx=>?_⟩;have l0:=a0 WY;have lp0:=lw.nr _ (iJ false aa).sub B3 OE λy hy=>(Xx y).mp hy;refine⟨D0,ZG,B3,rfl,aK.of eD0,WY,∅,λD tD pD hD rD WX WG=>?_⟩;have k9:=af hD (.lst (tD.map V.ref));have eD:upd H8 D (.lst (tD.map V.ref)) D=some (.lst (tD.map V.ref)):=ae;generalize upd H8 D (.lst (tD.map V.ref))=H9 at k9 eD;have WV:Paired (Gr K H9) tD pD:=Paired.di rD λ_ _ z=>k9.tup z;have Z3:=s8.trans k9;have SM:=s7.trans Z3;have Vt:=SM _ _ eL;have pk9:yo K H9 ts bh:=pk.keep λ_ _ z=>SM.tup z;have Jn:(aZ bh).Perm B3:=(List.perm_ext_iff_of_nodup Qn OE).mpr λy=>(bin y).trans (Xx y).symm;refine⟨_,rfl,L,rfl,⟨_,aK.of Vt⟩,λDA JI=>xY (aK.of Vt) pk9 ∅ JI λvA HA sA eA pA=>?_⟩;have lvA:=a0 pA;refine⟨DA,vA,aZ bh,rfl,aK.of eA,pA,∅,λDB tB pB hDB rB pmB ZX=>?_⟩;have eBD:pB=pD:=jZ ZX WG (pmB.trans (Jn.trans WX.symm));subst eBD;have kB:=af hDB (.lst (tB.map V.ref));have eB:upd HA DB (.lst (tB.map V.ref)) DB=some (.lst (tB.map V.ref)):=ae;generalize upd HA DB (.lst (tB.map V.ref))=HB at kB eB;have MY:=sA.trans kB;refine⟨_,rfl,DB,D,_,_,rfl,rfl,aK.of eB,aK.of (MY _ _ eD),vM (Paired.di rB λ_ _ z=>kB.tup z) (Paired.di WV λ_ _ z=>MY.tup z),_,rfl,?_⟩;refine gW ?_;have YU:=MY _ _ Vt;have eDB:=MY _ _ eD;have Eu:=(s6.trans SM).trans MY;refine⟨_,rfl,.inl ⟨rfl,_,aK.of YU⟩,Wn,λt ht=>?_⟩;have kC:=af ht (.tup [V.str "x",V.str "x",V.int 0,V.int 0]);generalize upd HB t (.tup [V.str "x",V.str "x",V.int 0,V.int 0])=HC at kC;have Xk:=a0 pk;have YT:=kC _ _ YU;refine⟨L,_,_,rfl,rfl,YT,br (by rw [ax];omega),?_⟩;have kp:=Lq (o:=.lst (ts.map V.ref++[.ref t])) (Eu.trans kC) fL;have nDL:D≠L:=λz=>by
  have e8:=s8 _ _ (s7 _ _ eL);rw [<-z,hD] at e8;cases e8
 have YY:upd HC L (.lst (ts.map V.ref++[.ref t])) D=some (.lst (tD.map V.ref)):=by rw [ak nDL];exact kC _ _ eDB
 have WU:Paired (Gr K (upd HC L (.lst (ts.map V.ref++[.ref t])))) tD pB:=Paired.di WV λ_ _ z=>aP YT ((MY.trans kC).tup z);generalize upd HC L (.lst (ts.map V.ref++[.ref t]))=HD at kp YY WU;refine⟨_,rfl,H3,g,bt,rs,[],aa,aX,bh,rfl,PU kp gv,bv.kp kp,λL2 wK HE fL2 sE YV pk2=>?_⟩;refine⟨L2,rfl,⟨_,aK.of YV⟩,λDF hDF=>xY (aK.of YV) pk2 ∅ hDF λvF HF sF eF pF=>?_⟩;have lvF:=a0 pF;refine⟨DF,vF,aZ bh,rfl,aK.of eF,pF,∅,λDH tH pH hDH rH pmH ZW=>?_⟩;have eHD:pH=pB:=jZ ZW WG (pmH.trans (Jn.trans WX.symm));subst eHD;have kH:=af hDH (.lst (tH.map V.ref));have eH:upd HF DH (.lst (tH.map V.ref)) DH=some (.lst (tH.map V.ref)):=ae;generalize upd HF DH (.lst (tH.map V.ref))=HH at kH eH;have Z2:=sF.trans kH;have WK:=sE.trans Z2;refine⟨_,rfl,DH,D,_,_,rfl,rfl,aK.of eH,aK.of (WK _ _ YY),vM (Paired.di rH λ_ _ z=>kH.tup z) (Paired.di WU λ_ _ z=>WK.tup z),?_⟩;exact q HH
end
end h_
namespace L2
open PySem
def wJ {C:List Value->Prop}(h:∀a,C [a]):∀us:List Value,us.length=1->C us
 | [a],_=>h a
def pE {C:List Value->Prop}(h:∀a b,C [a,b]):∀us:List Value,us.length=2->C us
 | [a,b],_=>h a b
def wX {C:List Value->Prop}(h:∀a b c,C [a,b,c]):∀us:List Value,us.length=3->C us
 | [a,b,c],_=>h a b c
def ZF {C:List Value->Prop}(h:∀a b c d,C [a,b,c,d]):∀us:List Value,us.length=4->C us
 | [a,b,c,d],_=>h a b c d
def ZE {C:List Value->Prop}(h:∀a b c d e,C [a,b,c,d,e]):∀us:List Value,us.length=5->C us
 | [a,b,c,d,e],_=>h a b c d e
def e_ (K:ba)(x:Str)(st:Stmt):Prop:=∃(g:Addr)(oc:Value)(od an:Option Addr)(sl:Array (Option Value))(kV dc pm cd ct:Value),PySem.W.nsIn K mainGlobals x=some (some (.ref g)) /\
 K.lookup g=some ⟨oc,od,.func (PySem.W.fnOf x x (dr st) (cw st) (az st) .none kV dc pm an cd ct),sl⟩/\PySem.W.codeIn K cd x=true/\PySem.W.keepIn K (.ref g)=true
def e_.get {K:ba}{h:Heap}{mg:Str->Option Value}{x:Str}{st:Stmt}(X:K.In h)(G:h.Ns mainGlobals mg)(H:e_ K x st):∃g gd,iM K x x st g gd/\mg x=some (.ref g):=by
 obtain⟨g,oc,od,an,sl,kV,dc,pm,cd,ct,a,l,c,k⟩:=H;exact⟨g,_,FO (st:=st) l c k,nU X G a⟩
def C_ (K:ba)(x:Str)(st:Stmt)(T:Addr):Prop:=∃(g:Addr)(oc:Value)(od an:Option Addr)(sl:Array (Option Value))(kV dc pm:Value)(c:Addr)(ct:Value),PySem.W.nsIn K mainGlobals x=some (some (.ref g)) /\
 K.lookup g=some ⟨oc,od,.func (PySem.W.fnOf x x (dr st) (cw st) (az st) .none kV dc pm an (.ref c) ct),sl⟩/\PySem.W.codeIn K (.ref c) x=true/\PySem.W.codeHdIn K c T=true/\PySem.W.keepIn K (.ref g)=true
def C_.get {K:ba}{h:Heap}{mg:Str->Option Value}{x:Str}{st:Stmt}{T:Addr}(X:K.In h)(G:h.Ns mainGlobals mg)(H:C_ K x st T):∃g gd,yl K x x st g gd T/\mg x=some (.ref g):=by
 obtain⟨g,oc,od,an,sl,kV,dc,pm,c,ct,a,l,d,e,k⟩:=H;exact⟨g,_,⟨⟨oc,od,kV,dc,pm,an,c,ct,sl,rfl,l,d,e⟩,k⟩,nU X G a⟩
def yl.binds {K:ba}{x qual:Str}{st:Stmt}{f T:Addr}{fd:FuncData}{ps:List Str}(F:yl K x qual st f fd T)
  (h:∀(kV doc pm:Value)(an:Option Addr)(eY ct:Value)(us:List Value),us.length=ps.length->bindArgs (PySem.W.fnOf x qual (dr st) (cw st) (az st) .none kV doc pm an eY ct) ⟨us,[]⟩=pure (ps.zip us)):Binds K fd ps []:=by
 obtain⟨oc,od,kV,doc,pm,an,c,ct,xt,rfl,lk,v8,_⟩:=F.ex;exact .all (h kV doc pm an (.ref c) ct)
def Av (K:ba)(C:Addr)(m qual:Str)(st:Stmt):Prop:=∃(g:Addr)(oc:Value)(od an:Option Addr)(sl:Array (Option Value))(kV dc pm cd ct:Value),PySem.W.findIn K (.ref C) m=some (some (.ref g)) /\
 K.lookup g=some ⟨oc,od,.func (PySem.W.fnOf m qual (dr st) (cw st) (az st) .none kV dc pm an cd ct),sl⟩/\PySem.W.codeIn K cd qual=true/\PySem.W.keepIn K (.ref g)=true/\PySem.W.isFn K (.ref g)=true
def Av.get {K:ba}{C:Addr}{m qual:Str}{st:Stmt}(H:Av K C m qual st):∃g gd,iM K m qual st g gd/\Meth K C m g:=by
 obtain⟨g,oc,od,an,sl,kV,dc,pm,cd,ct,a,l,c,k,i⟩:=H;exact⟨g,_,FO (st:=st) l c k,⟨a,i,k⟩⟩
def e_.c {K:ba}{h:Heap}{mg:Str->Option Value}{x:Str}{st:Stmt}{P:Program}{w:World}{base:Heap}{k:Nat}{ps:List Str}{sp:Sp}(H:e_ K x st)(X:K.In h)(G:h.Ns mainGlobals mg)
  (b:∀(kV doc pm:Value)(an:Option Addr)(eY ct:Value)(us:List Value),us.length=ps.length->bindArgs (PySem.W.fnOf x x (dr st) (cw st) (az st) .none kV doc pm an eY ct) ⟨us,[]⟩=pure (ps.zip us))
  (o:∀{f:Addr}{fd:FuncData},iM K x x st f fd->mg x=some (.ref f)->Binds K fd ps []->bZ P w K mg base gw k f fd ps sp):aG P w K mg base k x ps sp:=by
 obtain⟨f,fd,F,m⟩:=H.get X G;have B:=F.binds b;exact⟨f,fd,o F m B,B,F.kp,m⟩
def hD {K:ba}{x:Str}{st:Stmt}(g c:Addr)(pm:Value)(h:(PySem.W.nsIn K mainGlobals x,K.lookup g,PySem.W.codeIn K (.ref c) x,PySem.W.keepIn K (.ref g))=(some (some (.ref g)),some ⟨.type "function",none,.func (PySem.W.fnOf x x (dr st) (cw st) (az st) .none .none .none pm none (.ref c) .none),#[]⟩,true,true)):e_ K x st:=by
 simp only [qm] at h;exact⟨g,_,_,_,_,_,_,_,_,_,h.1,h.2.1,h.2.2.1,h.2.2.2⟩
def hC {K:ba}{x:Str}{st:Stmt}{T:Addr}(g c:Addr)(pm:Value)(h:(PySem.W.nsIn K mainGlobals x,K.lookup g,PySem.W.codeIn K (.ref c) x,PySem.W.codeHdIn K c T,PySem.W.keepIn K (.ref g))=(some (some (.ref g)),some ⟨.type "function",none,.func (PySem.W.fnOf x x (dr st) (cw st) (az st) .none .none .none pm none (.ref c) .none),#[]⟩,true,true,true)):C_ K x st T:=by
 simp only [qm] at h;exact⟨g,_,_,_,_,_,_,_,c,_,h.1,h.2.1,h.2.2.1,h.2.2.2.1,h.2.2.2.2⟩
def hM {K:ba}{C:Addr}{m qual:Str}{st:Stmt}(g c:Addr)(pm:Value)(h:(PySem.W.findIn K (.ref C) m,K.lookup g,PySem.W.codeIn K (.ref c) qual,PySem.W.keepIn K (.ref g),PySem.W.isFn K (.ref g))=(some (some (.ref g)),some ⟨.type "function",none,.func (PySem.W.fnOf m qual (dr st) (cw st) (az st) .none .none .none pm none (.ref c) .none),#[]⟩,true,true,true)):Av K C m qual st:=by
 simp only [qm] at h;exact⟨g,_,_,_,_,_,_,_,_,_,h.1,h.2.1,h.2.2.1,h.2.2.2.1,h.2.2.2.2⟩
end L2
namespace h_
open PySem L2 M11
def MR (K:ba)(C:Addr)(m qual:Str)(st:Stmt):Prop:=∃(g:Addr)(oc:Value)(od an:Option Addr)(sl:Array (Option Value))(kV dc pm cd ct:Value)(T:Addr)(o:Obj) (n:Nat),PySem.W.findIn K (.ref C) m=some (some (.ref g)) /\
 K.lookup g=some ⟨oc,od,.func (PySem.W.fnOf m qual (dr st) (cw st) (az st) (.ref T) kV dc pm an cd ct),sl⟩/\PySem.W.codeIn K cd qual=true/\K.lookup T=some o/\o.data=.seq #[.none] n/\PySem.W.keepIn K (.ref g)=true/\PySem.W.isFn K (.ref g)=true
def MR.get {K:ba}{C:Addr}{m qual:Str}{st:Stmt}(H:MR K C m qual st):∃g gd,Gw K m qual st g gd/\PySem.W.findIn K (.ref C) m=some (some (.ref g))/\PySem.W.isFn K (.ref g)=true:=by
 obtain⟨g,oc,od,an,sl,kV,dc,pm,cd,ct,T,o,n,a,l,c,t,d,k,i⟩:=H;exact⟨g,_,⟨⟨oc,od,kV,dc,pm,an,cd,ct,sl,T,o,n,rfl,l,c,t,d⟩,k⟩,a,i⟩
structure Top (K:ba)(C Cg C3 T1 T2 T3:Addr)(tm:Tok):Prop where
 nB:PySem.W.nsIn K mainGlobals "BeginTable"=some (some (.ref C))
 nG:PySem.W.nsIn K mainGlobals "Grammar"=some (some (.ref Cg))
 nL:PySem.W.nsIn K mainGlobals "LeastTrees"=some (some (.ref C3))
 nM:PySem.W.nsIn K mainGlobals "MOST_RULES"=some (some (.int 60 tm))
 AA:PySem.W.nsIn K mainGlobals "sorted"=some none
 h0:e_ K "heads_of" zd
 h1:e_ K "numbers_by_name" Ei
 h2:e_ K "standings_by_part" Kx
 h3:e_ K "rule_size" ou
 h4:e_ K "empty_by_name" qS
 h5:e_ K "words_in" yW
 h6:e_ K "found_empties" qT
 h7:e_ K "first_places" vB
 h8:e_ K "way_back" Kw
 h9:e_ K "steps_with_like_rows" yY
 h10:e_ K "find_loop" Ek
 h11:e_ K "refuse_twice" yX
 h12:e_ K "names_met" Ky
 h13:e_ K "_law_cell_at" Et
 h14:e_ K "_law_digits" vG
 U2:e_ K "_law_names" y_
 h16:e_ K "_law_words" vv
 h17:e_ K "_law_more" Ej
 h18:e_ K "_law_skeleton" Eh
 h19:e_ K "_law_ended" ze
 h20:e_ K "_law_not_vast" Eg
 h21:e_ K "_law_good" Ep
 h22:e_ K "_law_grammar" Eo
 h23:e_ K "_law_deep" Es
 h24:e_ K "_law_begins" vH
 h25:e_ K "begins_of" ow
 h26:e_ K "_law_whole" vw
 h27:e_ K "_law_stands" vx
 Uw:e_ K "law" Kz
 Uh:e_ K "settled_sizes" mK
 Uo:e_ K "refuse_faults" vy
 hL:C_ K "least_sizes" qR T1
 hG:C_ K "greatest_empty_sizes" vC T2
 hLB:C_ K "least_by_part" mM T3
 mL1:Av K C3 "__init__" "LeastTrees.__init__" zc
 mB1:Av K C "__init__" "BeginTable.__init__" zg
 mB2:Av K C "find_begins" "BeginTable.find_begins" Er
 mB3:Av K C "words_of_part" "BeginTable.words_of_part" yZ
 mG1:MR K Cg "__init__" "Grammar.__init__" vE
 pgB:PySem.W.plainGet K C Str.empty=true
 hdB:PySem.W.hasDictIn K C=true
 poB:PySem.W.plainOver K C=true
 Z0:PySem.W.findIn K (.ref C) "__setattr__"=some (some (.builtin "object.__setattr__"))
 mkB:PySem.W.makesIn K C=true
 Jx:PySem.W.keepIn K (.ref C)=true
 pgG:PySem.W.plainGet K Cg Str.empty=true
 hdG:PySem.W.hasDictIn K Cg=true
 poG:PySem.W.plainOver K Cg=true
 ZZ:PySem.W.findIn K (.ref Cg) "__setattr__"=some (some (.builtin "object.__setattr__"))
 mkG:PySem.W.makesIn K Cg=true
 kpG:PySem.W.keepIn K (.ref Cg)=true
 pgL:PySem.W.plainGet K C3 Str.empty=true
 hdL:PySem.W.hasDictIn K C3=true
 Z_:PySem.W.plainOver K C3=true
 ZY:PySem.W.findIn K (.ref C3) "__setattr__"=some (some (.builtin "object.__setattr__"))
 mkL:PySem.W.makesIn K C3=true
 kpL:PySem.W.keepIn K (.ref C3)=true
 Ap:PySem.W.findIn K (.ref C) "empties"=some none
 Gk:PySem.W.findIn K (.ref C) "empty"=some none
 C5:PySem.W.findIn K (.ref C) "begins"=some none
 C4:PySem.W.findIn K (.ref C) "firsts"=some none
 Gg:PySem.W.findIn K (.ref C3) "rules"=some none
 Gi:PySem.W.findIn K (.ref C3) "empty"=some none
 Gh:PySem.W.findIn K (.ref C3) "least"=some none
 C2:PySem.W.findIn K (.ref C3) "hollow"=some none
 sZ:PySem.W.findIn K (.ref C3) "beginnings"=some none
 Gj:PySem.W.findIn K (.ref Cg) "rules"=some none
 wy:PySem.W.findIn K (.ref Cg) "strengths"=some none
 si:PySem.W.findIn K (.ref Cg) "begin_table"=some none
 wz:PySem.W.findIn K (.ref Cg) "standings"=some none
 sf:PySem.W.findIn K (.ref Cg) "small_trees"=some none
 R7:PySem.W.nsIn K mainGlobals "len"=some none
 Kd:PySem.W.nsIn K mainGlobals "range"=some none
 wU:PySem.W.nsIn K mainGlobals "isinstance"=some none
 Kb:PySem.W.nsIn K mainGlobals "tuple"=some none
 NK:PySem.W.nsIn K mainGlobals "list"=some none
 NL:PySem.W.nsIn K mainGlobals "dict"=some none
 Sa:PySem.W.nsIn K mainGlobals "all"=some none
 R_:PySem.W.nsIn K mainGlobals "any"=some none
 RY:PySem.W.nsIn K mainGlobals "str"=some none
 R9:PySem.W.nsIn K mainGlobals "int"=some none
 NM:PySem.W.nsIn K mainGlobals "bool"=some none
 yK:PySem.W.nsIn K mainGlobals "enumerate"=some none
 RX:PySem.W.nsIn K mainGlobals "sum"=some none
 R6:PySem.W.nsIn K mainGlobals "max"=some none
 RZ:PySem.W.nsIn K mainGlobals "min"=some none
def all_mk {l:PySem.W.OpenLaw}{w:World}{K:ba}{h:Heap}{mg:Str->Option Value}{fa C Cg C3 T1 T2 T3:Addr}{tm:Tok}(X:K.In h)(G:h.Ns mainGlobals mg)(hfa:mg "law"=some (.ref fa))(tp:Top K C Cg C3 T1 T2 T3 tm) :
  ∃fd:FuncData,(∀(s:Shared)(v:Value),BindsTo s fd ⟨[v],[]⟩ [("_law_script",v)])/\∀base:Heap,K.In base->base.Ns mainGlobals mg->sH mg base->bZ l.prog w K mg base gw 9 fa fd ["_law_script"] (AY K T1 T2 T3):=by
 have T:Txt mg:=⟨g_ X G tp.R7,g_ X G tp.Kd,g_ X G tp.wU,g_ X G tp.Kb,g_ X G tp.NK,g_ X G tp.NL,g_ X G tp.Sa,g_ X G tp.R_,g_ X G tp.RY,g_ X G tp.R9,g_ X G tp.NM,g_ X G tp.yK,g_ X G tp.RX,g_ X G tp.R6,g_ X G tp.RZ⟩;obtain⟨JN,JT,ym,Jt⟩:=tp.Uh.get X G;have JX:=ym.binds (ps:=["rules","sizes","better"]) λ_ _ _ _ _ _=>by exact wX λ_ _ _=>rfl
 obtain⟨PZ,Qi,Gx,OH⟩:=tp.Uo.get X G;have Qq:=Gx.binds (ps:=["rules","strengths"]) λ_ _ _ _ _ _=>by exact pE λ_ _=>rfl
 obtain⟨f_L,d_L,Wi,m_L⟩:=tp.hL.get X G;have b_L:=Wi.binds (ps:=["rules"]) λ_ _ _ _ _ _=>by exact wJ λ_=>rfl
 obtain⟨f_G,d_G,Wj,m_G⟩:=tp.hG.get X G;have b_G:=Wj.binds (ps:=["rules"]) λ_ _ _ _ _ _=>by exact wJ λ_=>rfl
 obtain⟨U6,VD,MS,Tx⟩:=tp.hLB.get X G;have VS:=MS.binds (ps:=["rules"]) λ_ _ _ _ _ _=>by exact wJ λ_=>rfl
 obtain⟨U9,aav,QR,OJ⟩:=tp.mB1.get;have VX:=QR.binds (ps:=["self","rules"]) λ_ _ _ _ _ _=>by exact pE λ_ _=>rfl
 obtain⟨aap,aau,QQ,TC⟩:=tp.mB2.get;have VW:=QQ.binds (ps:=["self","number","rule"]) λ_ _ _ _ _ _=>by exact wX λ_ _ _=>rfl
 obtain⟨aao,aat,QP,TB⟩:=tp.mB3.get;have VU:=QP.binds (ps:=["self","part"]) λ_ _ _ _ _ _=>by exact pE λ_ _=>rfl
 obtain⟨U7,aar,QN,OI⟩:=tp.mL1.get;have VT:=QN.binds (ps:=["self","rules","begin_table"]) λ_ _ _ _ _ _=>by exact wX λ_ _ _=>rfl
 obtain⟨U8,aas,QO,Tz,T7⟩:=tp.mG1.get;have cB:BC K C:=⟨⟨tp.pgB,tp.hdB,tp.poB,tp.Z0⟩,tp.Ap,tp.Gk,tp.C5,tp.C4⟩;have cG:GC K Cg:=⟨⟨tp.pgG,tp.hdG,tp.poG,tp.ZZ⟩,tp.Gj,tp.wy,tp.si,tp.wz,tp.sf⟩;have cL:LC K C3:=⟨⟨tp.pgL,tp.hdL,tp.Z_,tp.ZY⟩,tp.Gg,tp.Gi,tp.Gh,tp.C2,tp.sZ⟩;have kL:Mk K C3 U7:=⟨tp.mkL,OI.at_,OI.fn,tp.kpL⟩;have kB:Mk K C U9:=⟨tp.mkB,OJ.at_,OJ.fn,tp.Jx⟩;have kG:Mk K Cg U8:=⟨tp.mkG,Tz,T7,tp.kpG⟩;obtain⟨f9,d9,F9,m9⟩:=tp.Uw.get X G;have e:=hfa.symm.trans m9;cases e;obtain⟨oc,od,kV,doc,pm,an,eY,ct,xt,eL,lk,v8⟩:=F9.ex;refine⟨d9,λs v=>?_,λbase _ _ PN=>?_⟩
 .rw [eL];exact .of_eq rfl
 have c0:=tp.h0.c (P:=l.prog) (w:=w) (base:=base) X G (λ_ _ _ _ _ _=>by exact wJ λ_=>rfl) λF m B=>E6 F T;have c1:=tp.h1.c (P:=l.prog) (w:=w) (base:=base) X G (λ_ _ _ _ _ _=>by exact wJ λ_=>rfl) λF m B=>HQ F T c0;have c2:=tp.h2.c (P:=l.prog) (w:=w) (base:=base) X G (λ_ _ _ _ _ _=>by exact wJ λ_=>rfl) λF m B=>K9 F T;have c3:=tp.h3.c (P:=l.prog) (w:=w) (base:=base) X G (λ_ _ _ _ _ _=>by exact pE λ_ _=>rfl) λF m B=>xx F T;have c4:=tp.h4.c (P:=l.prog) (w:=w) (base:=base) X G (λ_ _ _ _ _ _=>by exact pE λ_ _=>rfl) λF m B=>zG F T;have c5:=tp.h5.c (P:=l.prog) (w:=w) (base:=base) X G (λ_ _ _ _ _ _=>by exact wJ λ_=>rfl) λF m B=>EX F T;have c6:=tp.h6.c (P:=l.prog) (w:=w) (base:=base) X G (λ_ _ _ _ _ _=>by exact wJ λ_=>rfl) λF m B=>zH F T;have c7:=tp.h7.c (P:=l.prog) (w:=w) (base:=base) X G (λ_ _ _ _ _ _=>by exact pE λ_ _=>rfl) λF m B=>Cd F T;have c8:=tp.h8.c (P:=l.prog) (w:=w) (base:=base) X G (λ_ _ _ _ _ _=>by exact wX λ_ _ _=>rfl) λF m B=>K8 F T;have c9:=tp.h9.c (P:=l.prog) (w:=w) (base:=base) X G (λ_ _ _ _ _ _=>by exact wJ λ_=>rfl) λF m B=>EZ F T c6 c0;have c10:=tp.h10.c (P:=l.prog) (w:=w) (base:=base) X G (λ_ _ _ _ _ _=>by exact wJ λ_=>rfl) λF m B=>HS F T c9 c8;have c11:=tp.h11.c (P:=l.prog) (w:=w) (base:=base) X G (λ_ _ _ _ _ _=>by exact wJ λ_=>rfl) λF m B=>EY F T;have c12:=tp.h12.c (P:=l.prog) (w:=w) (base:=base) X G (λ_ _ _ _ _ _=>by exact wJ λ_=>rfl) λF m B=>K_ F T;have Dq:=tp.h13.c (P:=l.prog) (w:=w) (base:=base) X G (λ_ _ _ _ _ _=>by exact pE λ_ _=>rfl) λF m B=>HY F T;have Zd:=tp.h14.c (P:=l.prog) (w:=w) (base:=base) X G (λ_ _ _ _ _ _=>by exact wX λ_ _ _=>rfl) λF m B=>Ce F T;have VM:=tp.U2.c (P:=l.prog) (w:=w) (base:=base) X G (λ_ _ _ _ _ _=>by exact wJ λ_=>rfl) λF m B=>E3 F T;have c16:=tp.h16.c (P:=l.prog) (w:=w) (base:=base) X G (λ_ _ _ _ _ _=>by exact wJ λ_=>rfl) λF m B=>B_ F T;have c17:=tp.h17.c (P:=l.prog) (w:=w) (base:=base) X G (λ_ _ _ _ _ _=>by exact ZE λ_ _ _ _ _=>rfl) λF m B=>HR F T (Dq.mono nofun) (Zd.mono nofun);have c18:=tp.h18.c (P:=l.prog) (w:=w) (base:=base) X G (λ_ _ _ _ _ _=>by exact ZF λ_ _ _ _=>rfl) λF m B=>HP F T (Dq.mono nofun) (Zd.mono nofun);have VL:=tp.h19.c (P:=l.prog) (w:=w) (base:=base) X G (λ_ _ _ _ _ _=>by exact pE λ_ _=>rfl) λF m B=>E9 F T;have c20:=tp.h20.c (P:=l.prog) (w:=w) (base:=base) X G (λ_ _ _ _ _ _=>by exact pE λ_ _=>rfl) λF m B=>HN F T;have c21:=tp.h21.c (P:=l.prog) (w:=w) (base:=base) X G (λ_ _ _ _ _ _=>by exact wJ λ_=>rfl) λF m B=>HV F T (VL.mono nofun) (c20.mono nofun);have c22:=tp.h22.c (P:=l.prog) (w:=w) (base:=base) X G (λ_ _ _ _ _ _=>by exact pE λ_ _=>rfl) λF m B=>HU F T (Dq.mono nofun) (VM.mono nofun) (c16.mono nofun) (c18.mono nofun) (c17.mono nofun) (c21.mono nofun);have c23:=tp.h23.c (P:=l.prog) (w:=w) (base:=base) X G (λ_ _ _ _ _ _=>by exact wJ λ_=>rfl) λF m B=>HX F T (Dq.mono nofun);have c24:=tp.h24.c (P:=l.prog) (w:=w) (base:=base) X G (λ_ _ _ _ _ _=>by exact wJ λ_=>rfl) λF m B=>Cf F T (VL.mono nofun);have c25:=tp.h25.c (P:=l.prog) (w:=w) (base:=base) X G (λ_ _ _ _ _ _=>by exact wJ λ_=>rfl) λF m B=>xy F T cG cB;have c26:=tp.h26.c (P:=l.prog) (w:=w) (base:=base) X G (λ_ _ _ _ _ _=>by exact pE λ_ _=>rfl) λF m B=>Ca F T;have c27:=tp.h27.c (P:=l.prog) (w:=w) (base:=base) X G (λ_ _ _ _ _ _=>by exact pE λ_ _=>rfl) λF m B=>Cb F T (VL.mono nofun) (c26.mono nofun);have VH:aG l.prog w K mg base 2 "settled_sizes" ["rules","sizes","better"] (iE K yr q0.1 q0.2.1 q0.2.2.1 M11.bl):=⟨JN,JT,zD ym T,JX,ym.kp,Jt⟩;have VI:aG l.prog w K mg base 2 "settled_sizes" ["rules","sizes","better"] (iE K Ju zP.1 zP.2.1 zP.2.2.1 M11.bg):=⟨JN,JT,zE ym T,JX,ym.kp,Jt⟩;have Zc:aG l.prog w K mg base 3 "least_sizes" ["rules"] (pS K T1):=⟨f_L,d_L,E5 Wi T PN c5 VH,b_L,Wi.kp,m_L⟩;have c_G:aG l.prog w K mg base 3 "greatest_empty_sizes" ["rules"] (vh K T2):=⟨f_G,d_G,E7 Wj PN VI,b_G,Wj.kp,m_G⟩;have Ql:aG l.prog w K mg base 4 "refuse_faults" ["rules","strengths"] (qN K T1 T2):=⟨PZ,Qi,Cc Gx T (nU X G tp.nM) c11 Zc c0 c12 c10 c_G,Qq,Gx.kp,OH⟩;have VJ:aG l.prog w K mg base 4 "least_by_part" ["rules"] (om K T1 T3):=⟨U6,VD,zF MS T PN (g_ X G tp.AA) (c0.mono nofun) Zc (c1.mono nofun) (c3.mono nofun),VS,MS.kp,Tx⟩;have Ta:=E2 (P:=l.prog) (w:=w) (base:=base) QP T cB;have Tb:=HW QQ T cB c7 Ta TB VU;have Tc:=E_ QR T cB c6 c0 Tb TC VW;have SY:=E4 QN T cB cL VJ (c4.mono nofun);have S_:=E8 QO T cG (Ql.mono nofun) (c2.mono nofun) (Tc.mono nofun) kB VX (nU X G tp.nB) SY kL VT (nU X G tp.nL);exact La F9 T (g_ X G tp.AA) (c22.mono nofun) (Dq.mono nofun) (c23.mono nofun) (c25.mono nofun) (c27.mono nofun) (c24.mono nofun) cG kG (S_.mono nofun) (FJ QO) (nU X G tp.nG)
def walk {l:PySem.W.OpenLaw}{q:Program}{loose:List Str}{XP:(Str->Option Value)->Heap->Prop}{YP:World->Heap->Prop}{d:DefRec}{K:Params->ba}(T1 T2 T3 c1 c2 c3:Addr)(Jr:T1≠T2)(Jq:T1≠T3)(Jp:T2≠T3)(hn:l.most=some 63)(LQ:d.params.defaults=[])
  (hY:∀(w:World)(h:Heap),YP w h->(K w.params).In h/\∀T∈[T3,T2,T1],h.get? T=some (PySem.W.tabObj #[]))
  (hK1:∀w:World,(K w.params).lookup T1=none)(hK2:∀w:World,(K w.params).lookup T2=none)(hK3:∀w:World,(K w.params).lookup T3=none)(hC1:∀w:World,PySem.W.codeHdIn (K w.params) c1 T1=true)(hC2:∀w:World,PySem.W.codeHdIn (K w.params) c2 T2=true)(hC3:∀w:World,PySem.W.codeHdIn (K w.params) c3 T3=true)
  (F:∀(w:World)(mg:Str->Option Value)(fa:Addr)(h:Heap),(K w.params).In h->h.Ns mainGlobals mg->mg d.name=some (.ref fa) ->
   ∃fd:FuncData,(∀(s:Shared)(u:Value),BindsTo s fd ⟨[u],[]⟩ [("_law_script",u)])/\∀base:Heap,(K w.params).In base->base.Ns mainGlobals mg->sH mg base->bZ l.prog w (K w.params) mg base gw 9 fa fd ["_law_script"] (AY (K w.params) T1 T2 T3)) :
  PySem.W.WalkO q loose XP YP l.row.toRowW d [] (λf vs=>PySem.call f vs) :=
 L2.DG (n:=63) (k:=9) (x := "_law_script") (CX:=λ_=>gw) (sp:=λw=>AY (K w.params) T1 T2 T3) hn nofun LQ ⟨rfl,nofun,nofun⟩ hY (λw T hT=>by
  rcases bR.mp hT with e | hT
  .subst e;exact⟨hK3 w,c3,hC3 w⟩
  rcases bR.mp hT with e | hT
  .subst e;exact⟨hK2 w,c2,hC2 w⟩
  rw [cO.mp hT];exact⟨hK1 w,c1,hC1 w⟩) F (λ_ H a ns hl _ hT hS=>⟨a,ns,rfl,hS,hl,⟨⟨#[],hT T1 (by simp),by trivial,.inl rfl⟩,⟨#[],hT T2 (by simp),by trivial,.inl rfl⟩,⟨#[],hT T3 (by simp),by trivial,.inl rfl⟩,Jr,Jq,Jp⟩,λ_=>rfl⟩) λ_ _ _ _ _ z=>z
end h_
set_option maxHeartbeats 0
end
namespace HD
open PySem PySem.W L2
def Si (P:Params):h_.Top (K P) 112 374 345 255 260 289 543:=⟨nofun,nofun,nofun,nofun,nofun,
 hD 33 32 HD.m2 (nofun),
 hD 43 42 HD.m2 (nofun),
 hD 50 49 HD.m2 (nofun),
 hD 297 296 HD.m8 (nofun),
 hD 302 301 HD.m8 (nofun),
 hD 38 37 HD.m2 (nofun),
 hD 55 54 HD.m3 (nofun),
 hD 62 61 HD.m3 (nofun),
 hD 253 252 HD.m5 (nofun),
 hD 246 245 HD.m5 (nofun),
 hD 241 240 HD.m5 (nofun),
 hD 282 281 HD.m7 (nofun),
 hD 287 286 HD.m7 (nofun),
 hD 385 384 HD.l8 (nofun),
 hD 404 403 HD.l8 (nofun),
 hD 390 389 HD.l8 (nofun),
 hD 397 396 HD.l8 (nofun),
 hD 418 417 HD.l8 (nofun),
 hD 411 410 HD.l8 (nofun),
 hD 423 422 HD.l8 (nofun),
 hD 428 427 HD.l8 (nofun),
 hD 433 432 HD.l8 (nofun),
 hD 440 439 HD.l8 (nofun),
 hD 452 451 HD.l8 (nofun),
 hD 445 444 HD.l8 (nofun),
 hD 28 27 HD.m1 (nofun),
 hD 459 458 HD.l8 (nofun),
 hD 464 463 HD.l8 (nofun),
 hD 469 468 HD.l8 (nofun),
 hD 270 269 HD.m6 (nofun),
 hD 275 274 HD.m7 (nofun),
 hC 258 257 HD.m6 (nofun),
 hC 265 264 HD.m6 (nofun),
 hC 292 291 HD.m8 (nofun),
 hM 314 313 HD.m8 (nofun),
 hM 74 73 HD.m3 (nofun),
 hM 81 80 HD.m3 (nofun),
 hM 88 87 HD.m3 (nofun),
 ⟨364,.type "function",none,none,#[],.none,.none,.str "wright.grammars" 654,.ref 363,.none,357,⟨.type "tuple",none,.seq #[.none] 0,#[]⟩,0,nofun,nofun,nofun,nofun,rfl,nofun,nofun⟩,nofun,nofun,nofun,nofun,nofun,nofun,nofun,nofun,nofun,nofun,nofun,nofun,nofun,nofun,nofun,nofun,nofun,nofun,nofun,nofun,nofun,nofun,nofun,nofun,nofun,nofun,nofun,nofun,nofun,nofun,nofun,nofun,nofun,nofun,nofun,nofun,nofun,nofun,nofun,nofun,nofun,nofun,nofun,nofun,nofun,nofun,nofun⟩
end HD
theorem PySem.Challenge.cw_wright_k21_what_can_begin_holds : PySem.Challenge.rw_wright_k21_what_can_begin.Holds := by
 refine HD.hold ?_ ?hw
 case hw=>w_witness2
 refine h_.walk (l:=PySem.Challenge.rw_wright_k21_what_can_begin) (K:=HD.K) 255 260 289 257 264 291 nofun nofun nofun rfl HD.ok5 (λw h Y=>⟨PySem.W.km_in_of Y,PySem.W.km_tabs_of Y⟩) (λw=>by kernel_rfl) (λw=>by kernel_rfl) (λw=>by kernel_rfl) (λw=>by kernel_rfl) (λw=>by kernel_rfl) (λw=>by kernel_rfl) ?F;intro w mg fa h KX G LI;exact h_.all_mk KX G LI (HD.Si w.params)
