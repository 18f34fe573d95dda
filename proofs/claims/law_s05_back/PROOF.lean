import PyProof.Rows.All
import Wide.All
import OpenK.AllK
import Wide.FinOn
import PyProof.EqAt
import PyProof.EqKinds
import PyProof.TupleCall
import KE.BitLaws
import Open.SpecLaws
import KE.OsHead
import KE.OsGo
import KE.KDictSum
import PyProof.Rows.SortShellAny
import KE.KSortTupUse
import PySem.Challenge.RW_poolday_s05_back
local macro_rules|`(⋯)=>`(by decide)
local macro_rules|`(())=>`(by omega)
local macro_rules|`(∅)=>`(by simp)
local macro_rules|`(‹$x›)=>`(by simpa using $x)
set_option linter.all false
set_option Elab.async false
set_option maxHeartbeats 3200000
set_option maxRecDepth 100000
local macro_rules | `(tactic| omega) => `(tactic| first | lia | omega (config := {}))
set_option hygiene false
local macro_rules | `(tactic| obtain $p := $e) => `(tactic| (refine Classical.byContradiction λnG9 => ?_; obtain $p : _ := $e <;> (refine nG9 ?_; clear nG9)))
set_option hygiene true
variable {α β:Type} {w:PySem.World} {K:PySem.W.Frag} {s:PySem.Shared} {P prog:PySem.Program} {a NC f b Cp l z NB D i1 i2 it l1 l2 dx Ca:PySem.Addr} {pos apos Dj:PySem.Pos} {A:PySem.Around} {mg:PySem.Str->Option PySem.Value} {base h h':PySem.Heap} {i j ep t' c kk:Nat} {x qual name:PySem.Str} {t:PySem.SetTable} {pins:List (PySem.Addr×PySem.Obj)} {e tg iter elt:PySem.Expr} {E Q:PySem.Value->PySem.Shared->Prop} {u pm ct:PySem.Value} {us vs:List PySem.Value} {ps N:List PySem.Str} {scope:PySem.Scope} {rs ks:List (List Int)} {es:Array (Int×PySem.Value)} {fd:PySem.FuncData} {st:PySem.Stmt} {r row codes:List Nat} {ns ms:List Int} {ys items:Array PySem.Value} {M:PySem.Model} {op:PySem.CmpOp} {ch:List PySem.Addr} {T:String} {own:List (PySem.Str×Nat)} {an:Option PySem.Addr} {ifs elts:List PySem.Expr}
open List
set_option bootstrap.genMatcherCode false
set_option genSizeOf false
def aj:=@PySem.wpAny_bind
def af:=@if_neg
def ag:=@if_pos
def bI:=@Bool.and_eq_true
def ay:=@PySem.wpAny_pure
def az:=@List.length_map
def bt:=@List.getElem?_eq_getElem
def bR:=@PySem.Heap.get?_push_of_some
def jh:=@decide_eq_true_eq
def aL:=@Nat.le_refl
def bw:=@PySem.Heap.get?_push_size
def aN:=@PySem.Heap.lt_size
def bh:=@List.mem_of_getElem?
def aZ:=@List.length_cons
def aX:=@Nat.le_trans
def cg:=@Bool.false_ne_true
def a_:=@List.getElem?_map
def cU:=@List.getD_eq_getElem?_getD
def bJ:=@List.mem_cons_of_mem
def aJ:=@List.map_cons
def cM:=@Array.length_toList
def dv:=@Array.getElem?_toList
def bO:=@PySem.boot_len
def bB:=@Nat.ne_of_lt
def bP:=@PySem.W.mg_of
def c9:=@List.length_append
def b9:=@List.mem_cons_self
def dS:=@Nat.lt_of_lt_of_le
def cV:=@decide_eq_false
def cN:=@List.size_toArray
def iX:=@Array.getElem?_eq_getElem
def jF:=@PyProof.Rows.callWith_type1
def cj:=@Nat.zero_le
def fS:=@PySem.mem_of_lookup
def gk:=@Int.toNat_natCast
def dy:=@List.all_eq_true
def dU:=@PySem.Heap.size_push
def cE:=@PySem.sizeLine_eq
def cW:=@List.length_take
def kK:=@PySem.Heap.get?_update_other
def g_:=@List.append_assoc
def Dk:=@Bool.or_eq_true
def fE:=@List.map_congr_left
def iY:=@PySem.W.mg_none_of
def hG:=@PySem.wpAny_call_entry
def b_:=@congrArg
def dW:=@List.length_drop
def da:=@PySem.wpAny_mono
def jG:=@PySem.wpAny_Call_Name_kw
def jH:=@PySem.Obj.data_mapFields
def mr:=@PySem.Heap.get?_update_self
def kL:=@PySem.Heap.SameBut.update
def bQ:=@List.map_map
def hU:=@PySem.PassesOwn.never
def kM:=@beq_iff_eq
def hX:=@decide_eq_true
def jI:=@PySem.wpAny_newObj_type
def jJ:=@PySem.wpAny_setState_of
def mv:=@List.drop_eq_getElem_cons
def OS:=@Bool.false_eq_true
def jK:=@List.length_replicate
def gm:=@PySem.wpAny_holding
def eQ:=@List.take_length
def oq:=@PySem.Obj.isFreed_of_fields
def yd:=@Array.getD_eq_getD_getElem?
def qY:=@PySem.wpAny_callSpecial?_slot
def mw:=@PySem.Calls.spliced_cons
def fF:=@PySem.wpAny_field
def ed:=@List.map_append
def jL:=@Bool.eq_iff_iff
def kO:=@Nat.lt_succ_self
def qZ:=@Array.getElem?_eq_none
def kP:=@Nat.le_add_right
def mx:=@PySem.wpAny_truthy_bool
def my:=@Nat.lt_succ_of_lt
def iZ:=@Nat.lt_irrefl
def jM:=@List.filterMap_cons
def Dl:=@Option.map_some
def kR:=@PySem.codeAny_builtin
def hZ:=@List.append_nil
def fG:=@List.foldl_cons
def mz:=@List.mem_append_right
def ur:=@PySem.Calls.callWith_builtin
def q_:=@List.take_of_length_le
def Dm:=@PySem.F.slot_tuple_iterator_next
def rg:=@List.length_erase_of_mem
def ot:=@List.getElem?_eq_none
def ou:=@List.length_filter_le
def ow:=@Nat.min_le_right
def jN:=@Nat.zero_add
def kS:=@List.flatMap_cons
def mB:=@PySem.wpAny_setField
def mC:=@List.takeWhile_cons
def uv:=@List.getElem?_zip_eq_some
def uw:=@List.Pairwise.filter
def rh:=@PySem.Calls.spliced_nil
def ye:=@PySem.F.plainAttrs_list
def ox:=@List.mem_of_mem_drop
def eU:=@List.all_cons
def iA:=@Nat.le_of_lt
def ki:=@List.replicate_succ
def sk:=@List.mem_cons
def sq:=@List.getElem?_append_right
def sr:=@PySem.F.slot_dict_get
def su:=@List.Pairwise.sublist
def mD:=@Nat.not_lt_zero
def pJ:=@PySem.wpAny_loadPart'
def c6:=@Ne.symm
def jn:=@Nat.ne_of_gt
def jo:=@PySem.codeAny_mono
def sv:=@List.getElem?_append_left
def sx:=@PySem.Calls.evalArgs_plain
def sy:=@Nat.mul_le_mul_right
def sA:=@Nat.pow_le_pow_right
def jq:=@Nat.succ_pos
def pK:=@Nat.lt_trichotomy
def kj:=@List.zip_cons_cons
def sC:=@Int.toNat_of_nonneg
def mE:=@List.dropWhile_cons
def mF:=@PySem.wpAny_seqItems
def mG:=@List.getElem_of_mem
def wD:=@PySem.W.cellsFrom_some
def iB:=@PySem.call_meets
def pL:=@List.length_nil
def km:=@Nat.pow_succ
def sE:=@List.length_range
def pM:=@Nat.min_eq_left
def sF:=@Bool.true_and
def wF:=@PySem.F.slot_zip_next
def wG:=@List.nodup_iff_pairwise_ne
def Dn:=@if_false
def kn:=@PySem.Paired.snoc
def jr:=@List.mem_append
def mH:=@List.flatten_cons
def mI:=@Nat.mul_comm
def sG:=@List.take_append_drop
def mJ:=@List.pairwise_map
def wH:=@List.eq_of_mem_replicate
def KC:=@Bool.false_or
def pN:=@List.getElem?_drop
def pO:=@PySem.plainId_quiet
def sH:=@PySem.wpAny_passesOwn
def sI:=@Int.natCast_mul
def pP:=@List.nil_append
def KG:=@List.find?_cons
def wI:=@PySem.tupleKind_room_in1
def wJ:=@Nat.lt_of_le_of_lt
def wK:=@Array.forIn_toList
def kq:=@Nat.mod_lt
def wL:=@Nat.eq_zero_or_pos
def Tf:=@List.lookup_cons
def wM:=@PySem.Value.isInt_shape
def wN:=@Nat.le_of_succ_le
def wO:=@PySem.wpAny_pyIter_enum
def wQ:=@Nat.add_zero
def sJ:=@List.toList_toArray
def wR:=@PySem.Obj.cls_mapFields
def pQ:=@List.nodup_append
def pR:=@List.set_set
def wU:=@List.drop_of_length_le
def pS:=@Int.zero_add
def wV:=@List.length_pos_of_mem
def pU:=@List.ext_getElem?
def wW:=@PySem.wpAny_storeSet_of
def pV:=@List.filter_congr
def mK:=@PySem.typeIs_str
def mL:=@List.of_mem_zip
def wX:=@PySem.wpAny_isInstance
def wY:=@PySem.F.slot_str_split
def mM:=@List.length_zip
def wZ:=@List.getElem?_toArray
def w6:=@Array.toList_map
def sL:=@PySem.wpAny_attempt
def sN:=@Nat.mul_assoc
def sO:=@List.mem_singleton
def pW:=@Nat.le_succ
def pX:=@List.any_eq_true
def pY:=@List.getElem_mem
def w8:=@List.mem_append_left
def w9:=@PySem.wpAny_execs_nil
def w_:=@PySem.pushCells_keeps
def xa:=@List.mem_erase_of_ne
def sP:=@Nat.le_of_eq
def sQ:=@Nat.add_comm
def sR:=@List.foldl_append
def Dq:=@Nat.sub_self
def sS:=@PySem.wpAny_typeOf
def pZ:=@List.filter_map
def xc:=@List.getElem?_range
def p6:=@PySem.intKind_is
def Dr:=@List.map_nil
def sU:=@PySem.wpAny_throw
def sV:=@List.drop_length
def xf:=@List.filter_cons
def xg:=@Int.mul_assoc
def xi:=@List.filter_append
def xj:=@PySem.wpAny_newList
def xl:=@Bool.and_true
def xo:=@List.filter_filter
def xq:=@Nat.lt_trans
def xx:=@Nat.mul_one
def xA:=@Nat.one_mul
def xB:=@Int.add_mul
namespace L2
open PySem PySem.Spec PyProof.Rows
abbrev Key:=Sum Int Str
noncomputable def gY:Key->Value->Bool
 |.inl k,v=>Value.isInt k v|.inr x,v=>Value.isStrOf x v
noncomputable def n_(w:World):Key->Int
 |.inl k=>hashInt k|.inr x=>hashStr w x
def cQ:∀{k}{v},gY k v=true->(∃i t,k=Sum.inl i/\v=Value.int i t)\/(∃x t,k=Sum.inr x/\v=Value.str x t)
 |.inl i,v,h=>by
  obtain⟨t,e⟩:=wM (v:=v) h;exact .inl ⟨i,t,rfl,e⟩
 |.inr x,v,h=>by
  obtain⟨t,e⟩:=Value.isStrOf_shape (v:=v) h;exact .inr ⟨x,t,rfl,e⟩
def BE i t:gY (.inl i) (.int i t)=true:=by simp[gY,Value.isInt]
def MM x t:gY (.inr x) (.str x t)=true:=by simp[gY,Value.isStrOf]
def Wy a b:decide ((Sum.inl a:Key)=Sum.inl b)=(a==b):=by
 by_cases e:a=b
 .subst e;simp
 .have h:¬(Sum.inl a:Key)=Sum.inl b:=λq=>e (Sum.inl.inj q);rw[cV h];exact(beq_eq_false_iff_ne.mpr e).symm
def Wz a b:decide ((Sum.inr a:Key)=Sum.inr b)=decide (a=b):=by
 by_cases e:a=b
 .subst e;simp
 .have h:¬(Sum.inr a:Key)=Sum.inr b:=λq=>e (Sum.inr.inj q);rw[cV h,cV e]
def WB a b:decide ((Sum.inl a:Key)=Sum.inr b)=false:=cV (λq=>nomatch q)
def WC a b:decide ((Sum.inr a:Key)=Sum.inl b)=false:=cV (λq=>nomatch q)
noncomputable def bM(prog:Program)(w:World):PySem.KeyKind prog w Key where
 is:=gY
 hash:=n_ w
 inj:=λv a b ha hb=>by
  obtain⟨i,t,rfl,rfl⟩|⟨x,t,rfl,rfl⟩:=cQ ha
  .obtain⟨j,u,rfl,e⟩|⟨y,u,rfl,e⟩:=cQ hb
   .injection e with e1 _;rw[e1]
   .exact nomatch e
  .obtain⟨j,u,rfl,e⟩|⟨y,u,rfl,e⟩:=cQ hb
   .exact nomatch e
   .injection e with e1 _;rw[e1]
 byValue:=λk v h=>by
  obtain⟨i,t,rfl,rfl⟩|⟨x,t,rfl,rfl⟩:=cQ h<;>rfl
 pyHash:=λhv h=>by
  obtain⟨i,t,rfl,rfl⟩|⟨x,t,rfl,rfl⟩:=cQ hv
  .exact wpAny_pyHash_int h
  .exact wpAny_pyHash_str h
 eqBool:=λhu hv h=>by
  obtain⟨i,t,rfl,rfl⟩|⟨x,t,rfl,rfl⟩:=cQ hu
  .obtain⟨j,u,rfl,rfl⟩|⟨y,u,rfl,rfl⟩:=cQ hv
   .rw[Wy]at h;exact wpAny_eqBool_int h
   .rw[WB]at h;exact SeqAt.EqAt.int_str i t y u _ _ _ _ h
  .obtain⟨j,u,rfl,rfl⟩|⟨y,u,rfl,rfl⟩:=cQ hv
   .rw[WC]at h;exact SeqAt.EqAt.str_int x t j u _ _ _ _ h
   .rw[Wz]at h;exact wpAny_eqBool_str h
 «strs»:=λk x t v h=>by
  obtain⟨i,u,rfl,e⟩|⟨y,u,rfl,e⟩:=cQ h
  .exact nomatch e
  .injection e with e1 _;subst e1;cases v<;>rfl
def FJ prog w i t:(bM prog w).is (.inl i) (.int i t)=true:=BE i t
def FK prog w x t:(bM prog w).is (.inr x) (.str x t)=true:=MM x t
inductive V where
 |cT|bl (b:Bool)|int (i:Int)|str (x:Str)|Ic (b:Array UInt8)|flt (b:UInt64)|ref (a:Addr)|ty (n:String)
 deriving DecidableEq
variable {v y:L2.V} {xs:List L2.V} {kvs:List (L2.Key×L2.V)}
def RelV:V->Value->Prop
 |.cT,u=>u=Value.none|.bl b,u=>u=Value.bool b
 |.int i,u=>∃t,u=Value.int i t|.str x,u=>∃t,u=Value.str x t
 |.Ic b,u=>∃t,u=Value.bytes b t|.flt b,u=>∃t,u=Value.float b t
 |.ref a,u=>u=Value.ref a|.ty n,u=>u=Value.type n
abbrev Vals:List V->List Value->Prop:=Paired RelV
theorem Vals.length(r:Vals xs us):xs.length=us.length:=Paired.length r
def Paired.at'{F:α->β->Prop}:∀{l}{m}{i:Nat}{x},Paired F l m->l[i]?=some x->∃y,m[i]?=some y/\F x y:=by
 intro l m i x h
 induction h generalizing i with
 |nil=>intro e;simp at e
 |cons r t ih=>
  cases i with
  |zero=>intro e;cases e;exact⟨_,rfl,r⟩
  |succ i=>intro e;exact ih e
def Paired.KH{F:α->β->Prop}:∀{l}{m}{i:Nat}{y},Paired F l m->m[i]?=some y->∃x,l[i]?=some x/\F x y:=by
 intro l m i x h
 induction h generalizing i with
 |nil=>intro e;simp at e
 |cons r t ih=>
  cases i with
  |zero=>intro e;cases e;exact⟨_,rfl,r⟩
  |succ i=>intro e;exact ih e
def Paired.drop'{F:α->β->Prop}:∀{l}{m} n,Paired F l m->Paired F (l.drop n) (m.drop n):=by
 intro l m n h
 induction h generalizing n with
 |nil=>cases n<;>exact .nil
 |cons r t ih=>
  cases n with
  |zero=>exact .cons r t|succ n=>exact ih n
def Paired.take'{F:α->β->Prop}:∀{l}{m} n,Paired F l m->Paired F (l.take n) (m.take n):=by
 intro l m n h
 induction h generalizing n with
 |nil=>cases n<;>exact .nil
 |cons r t ih=>
  cases n with
  |zero=>exact .nil|succ n=>exact .cons r (ih n)
def yf{F:α->β->Prop}:∀{l l2}{m m2},Paired F l m->Paired F l2 m2->Paired F (l++l2) (m++m2):=by
 intro l l2 m m2 h k
 induction h with
 |nil=>exact k|cons r t ih=>exact .cons r ih
def Paired.eM{F:α->β->Prop}:∀{l}{m},Paired F l m->l.length=m.length:=by
 intro l m h
 induction h with
 |nil=>rfl|cons _ _ ih=>exact b_ Nat.succ ih
def Vals.get{x}(h:Vals xs us)(e:xs[i]?=some x):∃u,us[i]?=some u/\RelV x u:=Paired.at' h e
def Vals.append{ys:List V}{ws:List Value}(h:Vals xs us)(k:Vals ys ws):Vals (xs++ys) (us++ws):=yf h k
theorem Vals.take n (h:Vals xs us):Vals (xs.take n) (us.take n):=Paired.take' n h
theorem Vals.drop n (h:Vals xs us):Vals (xs.drop n) (us.drop n):=Paired.drop' n h
def rj:Option V->Option Value->Prop
 |some v,some u=>RelV v u|none,none=>True
 |_,_=>False
def KV{κ:Type}:List (κ×V)->List (κ×Value)->Prop:=Paired λ(p:κ×V)(q:κ×Value)=>p.1=q.1/\RelV p.2 q.2
noncomputable def kV:Key->V
 |.inl i=>.int i|.inr x=>.str x
inductive HO where
 |lst (xs:List V)
 |tup (xs:List V)
 |dK (kvs:List (Key×V))|dT (kvs:List (List Key×V))
 |set (S:Int->Bool) (n:Nat)
 |ins (C dx:Addr) (fs:List (Str×V))
 |own (x:Addr)
 |xd (fs:List (Str×V))
 |met (f x:Addr)
 |rng (lo hi:Int)
 |AZ (o:Obj) (u:HO)
 |Sy (ps:Array Value)
 |ext(φ:Heap->Prop)
variable {o:L2.HO}
abbrev Hp:=Addr->Option HO
variable {H H' H1:L2.Hp} {Qd:L2.Hp->Prop}
noncomputable def upd(H:Hp)(a:Addr)(o:HO):Hp:=λb=>if b=a then some o else H b
def ak:upd H a o a=some o:=by unfold upd;rw[ag rfl]
def aB(h:b≠a):upd H a o b=H b:=by unfold upd;rw[af h]
def iC{u:HO}:upd (upd H a o) a u=upd H a u:=by
 funext b;unfold upd;split<;>rfl
def ZK{u:HO}(h:H a=some o)(h':H b=some u)(d:o≠u):a≠b:=by
 intro e;subst e;rw[h]at h';exact d (Option.some.inj h')
def bG(h:H a=some o)(h':H b=none):a≠b:=by
 intro e;subst e;rw[h]at h';cases h'
section
variable (P:Program) (w:World)
noncomputable def dF(H:Hp)(h:Heap)(a:Addr):HO->Prop
 |.lst xs=>xs.length<=sizeLine/\∃(aR:List Value) (n:Nat),Vals xs aR/\h.get? a=some {cls:=.type "list",data:=.seq aR.toArray n}|.tup xs=>xs.length<=sizeLine/\∃aR:List Value,Vals xs aR/\IsTup h a aR.toArray
 |.dK kvs=>kvs.length<=sizeLine/\(a==sysModules)=false/\∃vs,KV kvs vs/\h.DictOf (bM P w) a vs
 |.dT kvs=>kvs.length<=sizeLine/\(a==sysModules)=false/\∃xs:List (List Key×Addr×Value),
   Paired (λ(p:List Key×V)(q:List Key×Addr×Value)=>p.1=q.1/\H q.2.1=some (.tup (p.1.map kV))/\RelV p.2 q.2.2) kvs xs/\
   ∃o es ep,h.get? a=some o/\o.ExactDict/\o.data=.dict es ep/\es.toList=xs.map (entryOfKey (tupleKind (bM P w)))/\(xs.map (·.1)).Nodup
 |.set S n=>h.SetOf (intKind P w) a S n
 |.ins C dx fs=>H dx=some (.own a)/\fs.length<=1000/\dx≠a/\h.get? a=some (PySem.W.instObj C dx)/\
   ∃mA,h.Ns1 dx mA/\(∀f,rj (fs.lookup f) (mA f))/\PySem.Within mA (fs.map (·.1))
 |.own _=>∃o,h.get? a=some o|.xd fs=>∃mA,h.Ns1 a mA/\∀f,rj (fs.lookup f) (mA f)
 |.rng lo hi=>∃t u v,h.get? a=some {cls:=.type "range",data:=.fields #[.int lo t,.int hi u,.int 1 v]}|.AZ o u=>h.get? a=some o/\dF H h a u
 |.Sy ps=>h.get? a=some {cls:=.none,data:=.fields ps}|.met f x=>h.get? a=some (PySem.W.methodObj (.ref f) (.ref x))
 |.ext φ=>φ h/\(∃o,h.get? a=some o)/\∀h1 h2:Heap,φ h1->(∀o,h1.get? a=some o->h2.get? a=some o)->φ h2
def mO(H:Hp)(h:Heap):Prop:=∀a o,H a=some o->dF P w H h a o
end
section
theorem dF.lt(x:dF P w H h a o):a<h.objs.size:=by
 cases o with
 |lst xs=>obtain⟨_,_,_,_,e⟩:=x;exact aN e
 |tup xs=>obtain⟨_,_,_,p⟩:=x;exact p.lt
 |dK kvs=>obtain⟨_,_,_,_,o,_,_,e,_⟩:=x;exact aN e
 |dT kvs=>obtain⟨_,_,_,_,o,_,_,e,_⟩:=x;exact aN e
 |set S n=>obtain⟨o,_,_,_,e,_⟩:=x;exact aN e
 |ins C dx fs=>obtain⟨_,_,_,e,_⟩:=x;exact aN e
 |own y=>obtain⟨_,e⟩:=x;exact aN e
 |xd fs=>obtain⟨_,⟨_,_,_,e,_⟩,_⟩:=x;exact aN e
 |rng lo hi=>obtain⟨_,_,_,e⟩:=x;exact aN e
 |AZ ob u=>obtain⟨e,_⟩:=x;exact aN e
 |Sy ps=>exact aN (show h.get? a=some _ from x)
 |met f y=>exact aN (show h.get? a=some _ from x)
 |ext φ=>obtain⟨_,⟨_,e⟩,_⟩:=x;exact aN e
def Paired.fT{F G:α->β->Prop}:∀{l₁}{l₂},Paired F l₁ l₂->(∀a b,F a b->G a b)->Paired G l₁ l₂:=by
 intro l₁ l₂ h f
 induction h with
 |nil=>exact .nil|cons r t ih=>exact .cons (f _ _ r) ih
def dF.FL(x:dF P w H h a o)(k:∀b u,(b=a\/H b=some (.own a))->h.get? b=some u->h'.get? b=some u)(ho:∀b,H b=some (.own a)->H' b=some (.own a))(ht:∀b xs,H b=some (.tup xs)->H' b=some (.tup xs)):dF P w H' h' a o:=by
 induction o with
 |lst xs=>obtain⟨z,aR,n,r,e⟩:=x;exact⟨z,aR,n,r,k _ _ (.inl rfl) e⟩
 |tup xs=>obtain⟨z,aR,r,ob,e,c⟩:=x;exact⟨z,aR,r,ob,k _ _ (.inl rfl) e,c⟩
 |dK kvs=>obtain⟨z,y,vs,r,ob,es,ep,e,c⟩:=x;exact⟨z,y,vs,r,ob,es,ep,k _ _ (.inl rfl) e,c⟩
 |dT kvs=>
  obtain⟨z,y,xs,r,ob,es,ep,e,c⟩:=x;exact⟨z,y,xs,Paired.fT r λp q z=>⟨z.1,ht _ _ z.2.1,z.2.2⟩,ob,es,ep,k _ _ (.inl rfl) e,c⟩
 |set S n=>obtain⟨ob,es,ep,t,e,c⟩:=x;exact⟨ob,es,ep,t,k _ _ (.inl rfl) e,c⟩
 |ins C dx fs=>
  obtain⟨d,z,ne,e,mA,⟨od,es,ep,e2,c⟩,r⟩:=x;exact⟨ho _ d,z,ne,k _ _ (.inl rfl) e,mA,⟨od,es,ep,k _ _ (.inr d) e2,c⟩,r⟩
 |own y=>obtain⟨ob,e⟩:=x;exact⟨ob,k _ _ (.inl rfl) e⟩
 |xd fs=>obtain⟨mA,⟨od,es,ep,e,c⟩,r⟩:=x;exact⟨mA,⟨od,es,ep,k _ _ (.inl rfl) e,c⟩,r⟩
 |rng lo hi=>obtain⟨t,u,v,e⟩:=x;exact⟨t,u,v,k _ _ (.inl rfl) e⟩
 |AZ ob u ih=>obtain⟨e,q⟩:=x;exact⟨k _ _ (.inl rfl) e,ih q⟩
 |Sy ps=>
  have e:=x;exact k a _ (.inl rfl) e
 |met f y=>
  have e:=x;exact k a _ (.inl rfl) e
 |ext φ=>obtain⟨p,⟨o,e⟩,st⟩:=x;exact⟨st _ _ p λo q=>k _ _ (.inl rfl) q,⟨o,k _ _ (.inl rfl) e⟩,st⟩
theorem mO.lt(x:mO P w H h)(e:H a=some o):a<h.objs.size:=(x a o e).lt
def mO.fresh(x:mO P w H h)(e:h.objs.size<=a):H a=none:=by
 cases q:H a with
 |none=>rfl|some u=>exact absurd (dS (x.lt q) e) (iZ _)
def mO.kept(x:mO P w H h)(k:∀b u,h.get? b=some u->h'.get? b=some u):mO P w H h':=λa o e=>
 (x a o e).FL (λb u _ q=>k b u q) (λ_ q=>q) λ_ _ q=>q
theorem mO.laid(x:mO P w H h)(k:∀b u,h.get? b=some u->h'.get? b=some u)(hp:h.objs.size<=a)(new:dF P w (upd H a o) h' a o):mO P w (upd H a o) h':=λb u e=>by
 have hn:=x.fresh hp;by_cases hb:b=a
 .subst hb;rw[ak]at e;cases e;exact new
 .rw[aB hb]at e;exact(x b u e).FL (λc v _ q=>k c v q) (λc q=>by rw[aB (bG q hn)];exact q) λc xs q=>by rw[aB (bG q hn)];exact q
end
def Rd(H:Hp)(a:Addr)(u:HO):Prop:=H a=some u\/∃o,H a=some (.AZ o u)
theorem Rd.ok{u:HO}(r:Rd H a u)(x:mO P w H h):dF P w H h a u:=by
 obtain r|⟨o,r⟩:=r
 .exact x a u r
 .obtain⟨_,q⟩:=x a _ r;exact q
def ZL:Option HO->Prop
 |some (.lst _)=>True|some (.dK _)=>True
 |some (.dT _)=>True|some (.set _ _)=>True
 |some (.ins _ _ _)=>True|some (.ext _)=>True
 |_=>False
section
variable {x e:Addr} {o':HO}
def mO.write(ok:mO P w H h)(mu:ZL (H x))(he:e=x\/H e=some (.own x))(k:∀b u,b≠e->h.get? b=some u->h'.get? b=some u)(Y5:∃u,h'.get? e=some u)(new:dF P w (upd H x o') h' x o'):mO P w (upd H x o') h':=λb u q=>by
 have ZM:∀c y,H c=some (.own y)->c≠x:=λc y r z=>by subst z;rw[r]at mu;exact mu
 have acA:∀c xs,H c=some (.tup xs)->c≠x:=λc xs r z=>by subst z;rw[r]at mu;exact mu
 by_cases hb:b=x
 .subst hb;rw[ak]at q;cases q;exact new
 .rw[aB hb]at q;by_cases WD:b=e
  .have q':H b=some (.own x):=by
    obtain z|z:=he
    .exact absurd (WD.trans z) hb
    .rw[WD];exact z
   rw[q]at q';cases q';obtain⟨v,hv⟩:=Y5;exact⟨v,by rw[WD];exact hv⟩
  .refine(ok b u q).FL (λc v hc r=>k c v ?_ r) (λc r=>by rw[aB (ZM c b r)];exact r) λc xs r=>by rw[aB (acA c xs r)];exact r
   obtain rfl|hc:=hc
   .exact WD
   .rintro rfl;obtain z|z:=he
    .exact ZM c b hc z
    .rw[hc]at z;cases z;exact hb rfl
end
structure Un(fs ex:List Addr)(H H':Hp)(h h':Heap):Prop where
 keep:∀b o,h.get? b=some o->H b=none->b∉fs->b∉ex->h'.get? b=some o
 slot:∀b o,h.get? b=some o->H b=none->b∈fs->b∉ex->∃sl,h'.get? b=some {o with slots:=sl}
 free:∀b o,h.get? b=some o->H b=none->b∉ex->H' b=none
 there:∀b o,h.get? b=some o->b∉ex->∃o',h'.get? b=some o'
 yh:∀b xs,H b=some (.tup xs)->H' b=some (.tup xs)
 vV:∀b o u,H b=some (.AZ o u)->H' b=some (.AZ o u)
 yi:∀b ps,H b=some (.Sy ps)->∃more,H' b=some (.Sy (ps++more))
section
variable {fs Y6 ex ex':List Addr} {H2:Hp} {h1 h2:Heap} {x e:Addr}
def Un.any(u:Un fs ex H H1 h h1)(q:h.get? b=some ob)(n:H b=none)(hx:b∉ex):∃sl,h1.get? b=some {ob with slots:=sl} :=by
 by_cases hb:b∈fs
 .exact u.slot b ob q n hb hx
 .exact⟨ob.slots,u.keep b ob q n hb hx⟩
def Un.kept(k:∀b u,h.get? b=some u->h'.get? b=some u):Un fs ex H H h h':=
 ⟨λb ob q _ _ _=>k b ob q,λb ob q _ _ _=>⟨ob.slots,k b ob q⟩,λ_ _ _ n _=>n,λb ob q _=>⟨ob,k b ob q⟩,λ_ _ q=>q,λ_ _ _ q=>q,λ_ ps q=>⟨#[],by rw[q];simp⟩⟩
def Un.refl:Un fs ex H H h h:=Un.kept λ_ _ q=>q
theorem Un.laid(k:∀b u,h.get? b=some u->h'.get? b=some u)(hp:h.objs.size<=a)(hn:H a=none):Un fs ex H (upd H a o) h h' where
 keep:=λb u q _ _ _=>k b u q
 slot:=λb u q _ _ _=>⟨u.slots,k b u q⟩
 free:=λb u q n _=>by rw[aB (bB (dS (aN q) hp))];exact n
 there:=λb u q _=>⟨u,k b u q⟩
 yh:=λb xs q=>by rw[aB (bG q hn)];exact q
 vV:=λb u xs q=>by rw[aB (bG q hn)];exact q
 yi:=λb ps q=>⟨#[],by rw[aB (bG q hn),q];simp⟩
def Un.write(mu:ZL (H x))(he:e=x\/H e=some (.own x))(k:∀b u,b≠e->h.get? b=some u->h'.get? b=some u)(Y5:∃u,h'.get? e=some u):Un fs ex H (upd H x o) h h':=by
 have hx:∀b,H b=none->b≠x:=λb n z=>by subst z;rw[n]at mu;exact mu
 have hb:∀b,H b=none->b≠e:=λb n z=>by
  subst z;obtain r|r:=he
  .exact hx b n r
  .rw[n]at r;cases r
 have hm:∀b u,H b=some u->¬ZL (some u)->b≠x:=λb u q nm z=>by subst z;rw[q]at mu;exact nm mu
 refine⟨λb u q n _ _=>k b u (hb b n) q,λb u q n _ _=>⟨u.slots,k b u (hb b n) q⟩,λb u q n _=>by rw[aB (hx b n)];exact n,λb u q _=>?_,
  λb xs q=>by rw[aB (hm b _ q λz=>z)];exact q,λb u xs q=>by rw[aB (hm b _ q λz=>z)];exact q,λb ps q=>⟨#[],by rw[aB (hm b _ q λz=>z),q];simp⟩⟩
 by_cases WD:b=e
 .subst WD;exact Y5
 .exact⟨u,k b u WD q⟩
end
noncomputable def trk(h:Heap)(H:Hp):List Addr:=(List.range h.objs.size).filter λa=>(H a).isSome
noncomputable def FN(h:Heap)(H:Hp):Heap:=PySem.W.hideAll h (trk h H)
def MN h H:(FN h H).objs.size=h.objs.size:=PySem.W.hideAll_size _ _
def OT{o:Obj}(e:h.get? b=some o)(n:H b=none):(FN h H).get? b=some o:=
 PySem.W.hideAll_get _ e λhm=>by
  have q:=(mem_filter.mp hm).2;rw[n]at q;simp at q
def Ti{o:Obj}(e:(FN h H).get? b=some o):h.get? b=some o/\H b=none:=by
 have e':=PySem.W.of_hideAll (trk h H) e;refine⟨e',?_⟩;cases q:H b with
 |none=>rfl
 |some x=>
  have hm:b∈trk h H:=mem_filter.mpr ⟨mem_range.mpr (aN e'),by simp[q]⟩;have z:(FN h H).get? b=none:=PySem.W.hideAll_none (trk h H) hm;rw[z]at e;cases e
noncomputable def Tj(g h:Heap)(L:Addr):List (Addr×Obj):=(List.range h.objs.size).filterMap λa=>if a=L\/(g.get? a).isSome=true then none else(h.get? a).map λo=>(a,o)
noncomputable def rest(g h:Heap)(L d:Addr):List (Addr×Obj):=(Tj g h L).filter λp=>decide (p.1≠d)
structure Mod(K:PySem.W.Frag)(mg:Str->Option Value)(base:Heap):Prop where
 Tn:K.In base
 glob:base.Ns mainGlobals mg
 blt:∃mb,base.Ns builtinsNs mb/\∀x:Str,x≠"__name__"->mb x=bootBuiltins x
 nolimit:base.NoLimit
set_option genInjectivity false in
structure Cx where
 prog:Program
 w:World
 K:PySem.W.Frag
 mg:Str->Option Value
 base:Heap
 A:Around
 N:List Str
 xC:Shared
 ZN:Hp
 env:Env
 outer:List Env
 stack:List Env
 ex:List Addr
 fn:Str->Bool
 calm:Bool
 pn:List (Addr×Obj)
 xe:Value->Shared->Prop
variable {X:L2.Cx}
noncomputable def FA(l:List Env):List Addr:=l.filterMap (·.frame)
noncomputable abbrev Cx.fs(X:Cx):List Addr:=FA X.outer
def ZO(sc:Scope)(x:Str):Prop:=sc.names.lookup x=some .local\/sc.names.lookup x=some .cell\/sc.names.lookup x=some .free
def Loc(sc:Scope)(x:Str):Prop:=sc.names.lookup x=some .local\/sc.names.lookup x=some .cell
def Look(env:Env)(h:Heap)(m:Str->Option Value)(x:Str)(u:Value):Prop:=
 (env.kindOf x=some .local/\m x=some u)\/((env.kindOf x=some .cell\/env.kindOf x=some .free)/\∃c,env.cells.lookup x=some c/\h.IsCell c (some u))
structure Cx.Ok(X:Cx):Prop where
 mod:Mod X.K X.mg X.base
 kind:X.env.scope.kind=.function
 glob:X.env.globals=mainGlobals
 blt:X.env.builtins=builtinsNs
 above:X.xC.heap.objs.size<=X.env.locals
 inj:∀x y c,X.env.cells.lookup x=some c->X.env.cells.lookup y=some c->x=y
 has:∀x,(X.env.kindOf x=some .cell\/X.env.kindOf x=some .free)->∃c,X.env.cells.lookup x=some c
 WG:∀x c,X.fn x=true->X.env.cells.lookup x=some c->X.xC.heap.objs.size<=c
 hd:X.calm=true->X.A.handled=none
 frames:X.A.frames=some X.stack
 Y7:X.stack=X.outer\/(X.stack=X.env::X.outer/\X.env.frame=some X.env.locals)
 Y8:∀b∈X.ex,b≠X.env.locals/\∀x c,X.env.cells.lookup x=some c->c≠b
 bs:∀b o,X.base.get? b=some o->X.xC.heap.get? b=some o/\X.ZN b=none
 MO:X.base.objs.size<=X.xC.heap.objs.size
 Io:∀b o,X.base.get? b=some o->b∉X.ex
 Ip:∀b∈X.ex,b∉X.fs
 rk:X.xC.heap.FunFrames X.base X.outer
 Sz:∀b∈X.fs,X.ZN b=none
structure Inv(X:Cx)(pins:List (Addr×Obj))(σ:List (Option V))(H:Hp)(s:Shared):Prop where
 ok:X.Ok
 os:s.os=X.xC.os
 bare:AllBare s.gens
 base:Un X.fs X.ex X.ZN H X.xC.heap s.heap
 loc:∃m,s.heap.Ns X.env.locals m/\∀(i:Nat)(x:Str)(v:V),X.N[i]?=some x->σ[i]?=some (some v)->ZO X.env.scope x->∃u,RelV v u/\Look X.env s.heap m x u
 cell:∀x c,X.env.cells.lookup x=some c->∃v,s.heap.IsCell c v
 free:H X.env.locals=none
 iM:∀x c,X.env.cells.lookup x=some c->H c=none
 pin:∀p∈X.pn++pins,s.heap.get? p.1=some p.2/\H p.1=none/\p.1≠X.env.locals/\p.1∉X.fs/\∀v,p.2.data≠ .cell v
 bL:mO X.prog X.w H s.heap
 len:σ.length=X.N.length
section
variable {σ:List (Option V)}
def Cx.Ok.acB(ok:X.Ok){o:Obj}(e:X.base.get? b=some o):b∉X.fs:=λhb=>by
 have:=(ok.rk.mem hb).1;rw[e]at this;cases this
theorem Inv.bs(I:Inv X pins σ H s):∀b o,X.base.get? b=some o->s.heap.get? b=some o/\H b=none:=λb o e=>
 ⟨I.base.keep b o (I.ok.bs b o e).1 (I.ok.bs b o e).2 (I.ok.acB e) (I.ok.Io b o e),I.base.free b o (I.ok.bs b o e).1 (I.ok.bs b o e).2 (I.ok.Io b o e)⟩
def Inv.bk(I:Inv X pins σ H s):∀b o,X.base.get? b=some o->s.heap.get? b=some o:=λb o e=>(I.bs b o e).1
theorem Inv.mod(I:Inv X pins σ H s):Mod X.K X.mg X.base:=I.ok.mod
def Inv.FC(I:Inv X pins σ H s):X.K.In s.heap:=I.ok.mod.Tn.keeps I.bk
def Inv.fr(I:Inv X pins σ H s):∃m,Fr X.base X.env.locals s.heap m:=
 let⟨m,hn,_⟩:=I.loc
 ⟨m,hn,I.bk,aX I.ok.MO I.ok.above⟩
theorem Inv.lt(I:Inv X pins σ H s):X.env.locals<s.heap.objs.size:=let⟨_,hn,_⟩:=I.loc;hn.lt
def Inv.sz(I:Inv X pins σ H s):X.xC.heap.objs.size<=s.heap.objs.size:=aX I.ok.above (iA I.lt)
def Inv.acC(I:Inv X pins σ H s)(h:s.heap.objs.size<=a):a∉X.fs:=λhb=>by
 obtain⟨_,o,ho,_⟩:=I.ok.rk.mem hb;exact absurd (dS (aN ho) (aX I.sz h)) (iZ _)
def Inv.To(I:Inv X pins σ H s):∀x c,X.env.cells.lookup x=some c->c≠X.env.locals:=λx c e z=>by
 obtain⟨v,o,ho,hd⟩:=I.cell x c e;obtain⟨m,⟨o',es,ep,xD,Iq,_⟩,_⟩:=I.loc;rw[z,xD]at ho;cases ho;rw[Iq]at hd;cases hd
theorem Inv.rk(I:Inv X pins σ H s):s.heap.FunFrames X.base X.outer:=by
 have all:∀(l:List Env),(∀b∈FA l,b∈X.fs)->X.xC.heap.FunFrames X.base l->s.heap.FunFrames X.base l:=by
  intro l
  induction l with
  |nil=>intro _ _;trivial
  |cons env r ih=>
   intro hs hl;obtain⟨hk,⟨L,o,hf,hn,ho,hd⟩,hr⟩:=hl;have hL:=hs L (by unfold FA;rw[jM,hf];exact b9);obtain⟨sl,e⟩:=I.base.slot L o ho (I.ok.Sz L hL) hL λz=>I.ok.Ip L z hL;exact⟨hk,⟨L,_,hf,hn,e,hd⟩,ih (λb hb=>hs b (by unfold FA;rw[jM,hf];exact bJ _ hb)) hr⟩
 exact all X.outer (λ_ hb=>hb) I.ok.rk
theorem Inv.stack(I:Inv X pins σ H s):s.heap.FunFrames X.base X.stack:=by
 obtain e|⟨e,hf⟩:=I.ok.Y7
 .rw[e];exact I.rk
 .rw[e];obtain⟨m,hn,_⟩:=I.loc;refine .cons (by rw[I.ok.kind];decide) hf hn ?_ I.rk;exact Heap.get?_none_of_le (aX I.ok.MO I.ok.above)
def Inv.Ds(I:Inv X pins σ H s):∀b∈FA X.stack,b∈X.env.locals::X.fs:=λb hb=>by
 obtain e|⟨e,hf⟩:=I.ok.Y7
 .rw[e]at hb;exact bJ _ hb
 .rw[e]at hb;unfold FA at hb;rw[jM,hf]at hb;exact hb
def Inv.Dt(I:Inv X pins σ H s):∀b∈FA X.stack,H b=none:=λb hb=>by
 obtain e|hb:=mem_cons.mp (I.Ds b hb)
 .rw[e];exact I.free
 .obtain⟨_,o,ho,_⟩:=I.ok.rk.mem hb;exact I.base.free b o ho (I.ok.Sz b hb) λz=>I.ok.Ip b z hb
def Inv.step(I:Inv X pins σ H s)(A6:∀b∈ch,(b∈X.ex\/X.xC.heap.objs.size<=b)/\b≠X.env.locals/\(∀x c,X.env.cells.lookup x=some c->c≠b)/\∀p∈X.pn++pins,p.1≠b)(keep:∀b o,b≠X.env.locals->b∉X.fs->b∉ch->s.heap.get? b=some o->H b=none->h'.get? b=some o)(slot:∀b o,b≠X.env.locals->b∈X.fs->b∉ch->s.heap.get? b=some o->H b=none->∃sl,h'.get? b=some {o with slots:=sl})(free:∀b o,b∉ch->s.heap.get? b=some o->H b=none->H' b=none)(there:∀b o,b∉ch->s.heap.get? b=some o->∃o',h'.get? b=some o')(yh:∀b xs,H b=some (.tup xs)->H' b=some (.tup xs))(vV:∀b o u,H b=some (.AZ o u)->H' b=some (.AZ o u))(yi:∀b ps,H b=some (.Sy ps)->∃more,H' b=some (.Sy (ps++more)))(ns:∀m,s.heap.Ns X.env.locals m->h'.Ns X.env.locals m)(bL:mO X.prog X.w H' h')(hg:AllBare g'):
  Inv X pins σ H' {s with heap:=h',gens:=g',drawn:=d',toks:=t'} :=by
 have ZP:∀b o,X.xC.heap.get? b=some o->b≠X.env.locals:=λb o e=>bB (dS (aN e) I.ok.above);have Tp:∀b o,X.xC.heap.get? b=some o->b∉X.ex->b∉ch:=λb o e hx hb=>by
  obtain z|z:=(A6 b hb).1
  .exact hx z
  .exact absurd (dS (aN e) z) (iZ _)
 have cellK:∀x c,X.env.cells.lookup x=some c->∀v,s.heap.IsCell c v->h'.IsCell c v:=λx c e v ⟨o,ho,hd⟩=>by
  have OU:=λz=>(A6 c z).2.2.1 x c e rfl;by_cases hc:c∈X.fs
  .obtain⟨sl,q⟩:=slot c o (I.To x c e) hc OU ho (I.iM x c e);exact⟨_,q,hd⟩
  .exact⟨o,keep c o (I.To x c e) hc OU ho (I.iM x c e),hd⟩
 refine⟨I.ok,I.os,hg,⟨λb o e n hb hx=>?_,λb o e n hb hx=>?_,λb o e n hx=>?_,λb o e hx=>?_,λb xs e=>yh b xs (I.base.yh b xs e),λb o xs e=>vV b o xs (I.base.vV b o xs e),λb ps e=>?_⟩,?_,λx c e=>?_,?_,λx c e=>?_,λp hp=>?_,bL,I.len⟩
 .exact keep b o (ZP b o e) hb (Tp b o e hx) (I.base.keep b o e n hb hx) (I.base.free b o e n hx)
 .obtain⟨sl,e1⟩:=I.base.slot b o e n hb hx;obtain⟨sl',e2⟩:=slot b _ (ZP b o e) hb (Tp b o e hx) e1 (I.base.free b o e n hx);exact⟨sl',e2⟩
 .obtain⟨o',e1⟩:=I.base.there b o e hx;exact free b o' (Tp b o e hx) e1 (I.base.free b o e n hx)
 .obtain⟨o',e1⟩:=I.base.there b o e hx;exact there b o' (Tp b o e hx) e1
 .obtain⟨m1,e1⟩:=I.base.yi b ps e;obtain⟨m2,e2⟩:=yi b _ e1;exact⟨m1++m2,by rw[e2,Array.append_assoc]⟩
 .obtain⟨m,hn,hl⟩:=I.loc;refine⟨m,ns m hn,λi x v e1 e2 e3=>?_⟩;obtain⟨u,r,l⟩:=hl i x v e1 e2 e3;refine⟨u,r,?_⟩;obtain l|⟨k,c,e,z⟩:=l
  .exact .inl l
  .exact .inr ⟨k,c,e,cellK x c e _ z⟩
 .obtain⟨v,z⟩:=I.cell x c e;exact⟨v,cellK x c e v z⟩
 .obtain⟨m,⟨o,_,_,ho,_⟩,_⟩:=I.loc;exact free _ o (λz=>(A6 _ z).2.1 rfl) ho I.free
 .obtain⟨v,o,ho,hd⟩:=I.cell x c e;exact free c o (λz=>(A6 c z).2.2.1 x c e rfl) ho (I.iM x c e)
 .obtain⟨e,n,ne,nf,d⟩:=I.pin p hp;have OU:=λz=>(A6 p.1 z).2.2.2 p hp rfl;exact⟨keep p.1 p.2 ne nf OU e n,free p.1 p.2 OU e n,ne,nf,d⟩
def Inv.un(I:Inv X pins σ H s)(u:Un X.fs [] H H' s.heap h')(bL:mO X.prog X.w H' h'):Inv X pins σ H' {s with heap:=h',toks:=t'} :=by
 obtain⟨m,⟨o,es,ep,ho,r⟩,_⟩:=id I.loc;obtain⟨sl,hL⟩:=u.any ho I.free ∅;exact I.step (g':=s.gens) (ch:=[]) (λ_ z=>nomatch z) (λb o _ hb _ e n=>u.keep b o e n hb ∅) (λb o _ hb _ e n=>u.slot b o e n hb ∅) (λb o _ e n=>u.free b o e n ∅) (λb o _ e=>u.there b o e ∅) u.yh u.vV u.yi (λm' hm=>by
  obtain⟨o',A2,MQ,xD,r'⟩:=hm;rw[ho]at xD;cases xD;exact⟨_,A2,MQ,hL,r'⟩) bL I.bare
def Inv.call(I:Inv X pins σ H s)(u:Un (FA X.stack) ch H H' s.heap h')(bL:mO X.prog X.w H' h')(hg:AllBare g')(A6:∀b∈ch,(b∈X.ex\/X.xC.heap.objs.size<=b)/\b≠X.env.locals/\(∀x c,X.env.cells.lookup x=some c->c≠b)/\∀p∈X.pn++pins,p.1≠b):
  Inv X pins σ H' {s with heap:=h',gens:=g',drawn:=d',toks:=t'} :=by
 obtain⟨m,⟨o,es,ep,ho,r⟩,_⟩:=id I.loc;obtain⟨sl,hL⟩:=u.any ho I.free λz=>(A6 _ z).2.1 rfl;exact I.step A6 (λb o hL hb hc e n=>u.keep b o e n (λz=>(mem_cons.mp (I.Ds b z)).elim hL hb) hc) (λb o _ _ hc e n=>u.any e n hc) (λb o hc e n=>u.free b o e n hc) (λb o hc e=>u.there b o e hc) u.yh u.vV u.yi (λm' hm=>by
  obtain⟨o',A2,MQ,xD,r'⟩:=hm;rw[ho]at xD;cases xD;exact⟨_,A2,MQ,hL,r'⟩) bL hg
def Inv.turned(I:Inv X pins σ H s)(k:∀b o,b≠it->s.heap.get? b=some o->h'.get? b=some o)(hn:H it=none)(hL:it≠X.env.locals)(h1:it∈X.ex\/X.xC.heap.objs.size<=it)(h2:∀x c,X.env.cells.lookup x=some c->c≠it)(h3:∀p∈X.pn++pins,p.1≠it):Inv X pins σ H {s with heap:=h',toks:=t'} :=by
 have VF:∀b u,H b=some u->b≠it:=λb u e z=>by rw[z,hn]at e;cases e
 refine I.step (g':=s.gens) (ch:=[it]) (λb hb=>?_) (λb o _ _ hc e _=>k b o (λz=>hc (by simp[z])) e) (λb o _ _ hc e _=>⟨o.slots,k b o (λz=>hc (by simp[z])) e⟩) (λ_ _ _ _ n=>n)
  (λb o hc e=>⟨o,k b o (λz=>hc (by simp[z])) e⟩) (λ_ _ e=>e) (λ_ _ _ e=>e) (λb ps e=>⟨#[],by rw[e];simp⟩) (λm hm=>?_) (λb u e=>?_) I.bare
 .have e:b=it:=by simpa using hb
  subst e;exact⟨h1,hL,h2,h3⟩
 .obtain⟨o,es,ep,ho,r⟩:=hm;exact⟨o,es,ep,k _ o (c6 hL) ho,r⟩
 .refine(I.bL b u e).FL (λc v hc q=>k c v ?_ q) (λ_ q=>q) λ_ _ q=>q;obtain z|z:=hc
  .rw[z];exact VF b u e
  .exact VF c _ z
def Inv.tok(I:Inv X pins σ H s) t:Inv X pins σ H {s with toks:=t} :=I.un (h':=s.heap) (t':=t) Un.refl I.bL
theorem Inv.kept(I:Inv X pins σ H s)(k:∀b u,s.heap.get? b=some u->h'.get? b=some u):Inv X pins σ H {s with heap:=h',toks:=t'} :=I.un (Un.kept k) (I.bL.kept k)
theorem Inv.laid(I:Inv X pins σ H s)(k:∀b u,s.heap.get? b=some u->h'.get? b=some u)(hp:s.heap.objs.size<=a)(new:dF X.prog X.w (upd H a o) h' a o):
  Inv X pins σ (upd H a o) {s with heap:=h',toks:=t'} :=I.un (Un.laid k hp (I.bL.fresh hp)) (I.bL.laid k hp new)
theorem Inv.write{x e:Addr}(I:Inv X pins σ H s)(mu:ZL (H x))(he:e=x\/H e=some (.own x))(k:∀b u,b≠e->s.heap.get? b=some u->h'.get? b=some u)(Y5:∃u,h'.get? e=some u)(new:dF X.prog X.w (upd H x o) h' x o):Inv X pins σ (upd H x o) {s with heap:=h',toks:=t'} :=I.un (Un.write mu he k Y5) (I.bL.write mu he k Y5 new)
def Inv.weak(I:Inv X pins σ H s)(hl:σ'.length=σ.length)(w:∀(i:Nat) v,σ'[i]?=some (some v)->σ[i]?=some (some v)):Inv X pins σ' H s:=
 ⟨I.ok,I.os,I.bare,I.base,let⟨m,hn,FO⟩:=I.loc;⟨m,hn,λi x v e1 e2 e3=>FO i x v e1 (w i v e2) e3⟩,I.cell,I.free,I.iM,I.pin,I.bL,hl.trans I.len⟩
def Inv.mP(I:Inv X pins σ H s)(h:∀p∈ZQ,s.heap.get? p.1=some p.2/\H p.1=none/\p.1≠X.env.locals/\p.1∉X.fs/\∀v,p.2.data≠ .cell v):Inv X ZQ σ H s:=
 ⟨I.ok,I.os,I.bare,I.base,I.loc,I.cell,I.free,I.iM,λp hp=>(mem_append.mp hp).elim (λz=>I.pin p (w8 _ z)) (h p),I.bL,I.len⟩
def yj(hN:N.Nodup)(a:N[i]?=some x)(b:N[j]?=some x):i=j:=by
 obtain⟨h1,e1⟩:=List.getElem?_eq_some_iff.mp a;obtain⟨h2,e2⟩:=List.getElem?_eq_some_iff.mp b;exact(getElem_inj hN).mp (e1.trans e2.symm)
def BF{Q:Unit->Shared->Prop}(I:Inv X pins σ H s)(hN:X.N.Nodup)(hi:X.N[i]?=some x)(hx:Loc X.env.scope x)(r:RelV v u)(h:∀s',Inv X pins (σ.set i (some v)) H s'->(∃a,Heap.SameBut a s.heap s'.heap/\(a=X.env.locals\/X.env.cells.lookup x=some a))->Q Unit.unit s')(hf:X.fn x=true\/X.env.scope.names.lookup x=some .local):wpAny M A (storeName X.env x u) Q E s:=by
 obtain⟨m,hn,hl⟩:=id I.loc;have acD:(X.env.scope.kind==.class||(X.env.scope.kind==.module&&X.env.locals !=X.env.globals))=false:=by rw[I.ok.kind];rfl
 have hiσ:i<σ.length:=by rw[I.len];exact(List.getElem?_eq_some_iff.mp hi).1
 have To:=I.To;have tracked:∀{a:Addr}{h':Heap},(∃o,s.heap.get? a=some o/\H a=none)->Heap.SameBut a s.heap h'->mO X.prog X.w H h':=λ{a h'} ha hs b ob e=>by
  obtain⟨_,_,vk⟩:=ha;refine(I.bL b ob e).FL (λc w' hc q=>(hs.2 c ?_).trans q) (λ_ q=>q) λ_ _ q=>q;rintro rfl;obtain rfl|hc:=hc
  .rw[vk]at e;cases e
  .rw[vk]at hc;cases hc
 obtain hk|hk:=hx
 .refine wpAny_storeName_local hk hn (λh' hn' hs=>?_) acD;obtain⟨oL,_,_,OC,_⟩:=id hn;refine h _ ⟨I.ok,I.os,I.bare,⟨λb o e n hb hx=>?_,λb o e n hb hx=>?_,I.base.free,λb o e hx=>?_,I.base.yh,I.base.vV,I.base.yi⟩,⟨_,hn',λj y v' e1 e2 e3=>?_⟩,λy c e=>?_,I.free,I.iM,λp hp=>?_,tracked ⟨oL,OC,I.free⟩ hs,‹I.len›⟩ ⟨_,hs,.inl rfl⟩
  .exact(hs.2 b (bB (dS (aN e) I.ok.above))).trans (I.base.keep b o e n hb hx)
  .obtain⟨sl,e1⟩:=I.base.slot b o e n hb hx;exact⟨sl,(hs.2 b (bB (dS (aN e) I.ok.above))).trans e1⟩
  .obtain⟨o',e1⟩:=I.base.there b o e hx;exact⟨o',(hs.2 b (bB (dS (aN e) I.ok.above))).trans e1⟩
  .by_cases hj:j=i
   .subst hj;rw[hi]at e1;cases e1;rw[getElem?_set_self hiσ]at e2;cases e2;exact⟨u,r,.inl ⟨hk,by simp⟩⟩
   .rw[getElem?_set_ne (c6 hj)]at e2;obtain⟨u',r',q⟩:=hl j y v' e1 e2 e3;refine⟨u',r',?_⟩;obtain⟨k,e⟩|⟨k,c,e,z⟩:=q
    .refine .inl ⟨k,?_⟩;have:y≠x:=λe=>hj (yj hN e1 (e▸hi));simp[this,e]
    .exact .inr ⟨k,c,e,z.sameBut hs (To y c e)⟩
  .obtain⟨w',z⟩:=I.cell y c e;exact⟨w',z.sameBut hs (To y c e)⟩
  .obtain⟨e,n,ne,nf,d⟩:=I.pin p hp;exact⟨(hs.2 p.1 ne).trans e,n,ne,nf,d⟩
 .have hfn:X.fn x=true:=by
   obtain z|z:=hf
   .exact z
   .rw[z]at hk;cases hk
  obtain⟨c,hc⟩:=I.ok.has x (.inl hk);obtain⟨w',z⟩:=I.cell x c hc;refine wpAny_storeName_cell I.ok.kind hk hc z (λh' VG hs=>?_);obtain⟨oc,hoc,acE⟩:=id z;refine h {s with heap:=h'} ⟨I.ok,I.os,I.bare,⟨λb o e n hb hx=>?_,λb o e n hb hx=>?_,I.base.free,λb o e hx=>?_,I.base.yh,I.base.vV,I.base.yi⟩,⟨m,hn.sameBut hs (c6 (To x c hc)),λj y v' e1 e2 e3=>?_⟩,λy c' e=>?_,I.free,I.iM,λp hp=>?_,tracked ⟨oc,hoc,I.iM x c hc⟩ hs,‹I.len›⟩ ⟨c,hs,.inr hc⟩
  .exact(hs.2 b (bB (dS (aN e) (I.ok.WG x c hfn hc)))).trans (I.base.keep b o e n hb hx)
  .obtain⟨sl,e1⟩:=I.base.slot b o e n hb hx;exact⟨sl,(hs.2 b (bB (dS (aN e) (I.ok.WG x c hfn hc)))).trans e1⟩
  .obtain⟨o',e1⟩:=I.base.there b o e hx;exact⟨o',(hs.2 b (bB (dS (aN e) (I.ok.WG x c hfn hc)))).trans e1⟩
  .by_cases hj:j=i
   .subst hj;rw[hi]at e1;cases e1;rw[getElem?_set_self hiσ]at e2;cases e2;exact⟨u,r,.inr ⟨.inl hk,c,hc,VG⟩⟩
   .rw[getElem?_set_ne (c6 hj)]at e2;obtain⟨u',r',q⟩:=hl j y v' e1 e2 e3;refine⟨u',r',?_⟩;obtain q|⟨k,c',e,z'⟩:=q
    .exact .inl q
    .refine .inr ⟨k,c',e,z'.sameBut hs ?_⟩;rintro rfl;exact hj (yj hN e1 (I.ok.inj _ _ _ e hc▸hi))
  .by_cases hcc:c'=c
   .subst hcc;exact⟨_,VG⟩
   .obtain⟨w2,z2⟩:=I.cell y c' e;exact⟨w2,z2.sameBut hs hcc⟩
  .obtain⟨e,n,ne,nf,d⟩:=I.pin p hp;refine⟨(hs.2 p.1 ?_).trans e,n,ne,nf,d⟩;intro q;rw[q,hoc]at e;have q':=Option.some.inj e;exact d w' (by rw[<-q'];exact acE)
def yk{Q:Unit->Shared->Prop}(I:Inv X pins σ H s)(hN:X.N.Nodup)(hi:X.N[i]?=some x)(hx:Loc X.env.scope x)(r:RelV v u)(h:∀s',Inv X pins (σ.set i (some v)) H s'->Q Unit.unit s')(hf:X.fn x=true\/X.env.scope.names.lookup x=some .local):wpAny M A (storeName X.env x u) Q E s:=
 BF I hN hi hx r (λs' I' _=>h s' I') hf
def Inv.OV(I:Inv X pins σ H s)(ho:s'.os=s.os)(u:Un (FA X.stack) ch H H' s.heap s'.heap)(bL:mO X.prog X.w H' s'.heap)(hg:AllBare s'.gens)(A6:∀b∈ch,(b∈X.ex\/X.xC.heap.objs.size<=b)/\b≠X.env.locals/\(∀x c,X.env.cells.lookup x=some c->c≠b)/\∀p∈X.pn++pins,p.1≠b):Inv X pins σ H' s':=by
 obtain⟨h',g',d',t',o'⟩:=s';have e:=ho;subst e;exact I.call (t':=t') (d':=d') u bL hg A6
end
abbrev XK:=Value->Option Addr->Hp->Prop
abbrev St:=List (Option V)
variable {σ:L2.St}
abbrev VK:=V->Hp->Prop
abbrev TE:=St->Hp->VK->Prop
variable {te ta:L2.TE}
abbrev TT:=St->Hp->(Bool->Hp->Prop)->Prop
variable {tt:L2.TT}
abbrev TA:=St->Hp->(List V->Hp->Prop)->Prop
structure Ends where
 nx:St->Hp->Prop
 rt:VK
 bk:St->Hp->Prop:=λ_ _=>False
 ct:St->Hp->Prop:=λ_ _=>False
abbrev TS:=Ends->St->Hp->Prop
variable {tb:L2.TS}
def EP(X:Cx)(pins:List (Addr×Obj))(σ:St)(Q:VK)(u:Value)(s':Shared):Prop:=∃v H',Inv X pins σ H' s'/\RelV v u/\Q v H'
def TP(X:Cx)(pins:List (Addr×Obj))(σ:St)(Q:Bool->Hp->Prop)(b:Bool)(s':Shared):Prop:=∃H',Inv X pins σ H' s'/\Q b H'
def AP(X:Cx)(pins:List (Addr×Obj))(σ:St)(Q:List V->Hp->Prop)(us:List Value)(s':Shared):Prop:=∃vs H',Inv X pins σ H' s'/\Vals vs us/\Q vs H'
def SP(X:Cx)(pins:List (Addr×Obj))(D:Ends)(f:Flow)(s':Shared):Prop:=
 match f with
 |.next=>∃σ' H',Inv X pins σ' H' s'/\D.nx σ' H'|.brk=>∃σ' H',Inv X pins σ' H' s'/\D.bk σ' H'
 |.cont=>∃σ' H',Inv X pins σ' H' s'/\D.ct σ' H'|.ret u=>∃v σ' H',Inv X pins σ' H' s'/\RelV v u/\D.rt v H'
def PE(X:Cx)(e:Expr)(t:TE):Prop:=
 ∀(pins:List (Addr×Obj))(s:Shared)(σ:St)(H:Hp)(Q:VK),Inv X pins σ H s->t σ H Q->wpAny (model X.prog X.w) X.A (eval e X.env) (EP X pins σ Q) X.xe s
def PT(X:Cx)(e:Expr)(t:TT):Prop:=
 ∀(pins:List (Addr×Obj))(s:Shared)(σ:St)(H:Hp)(Q:Bool->Hp->Prop),Inv X pins σ H s->t σ H Q->wpAny (model X.prog X.w) X.A (isTrue e X.env (eval e X.env)) (TP X pins σ Q) X.xe s
def PW(X:Cx)(e:Expr)(t:TT):Prop:=
 ∀(whole:Sem Value)(pins:List (Addr×Obj))(s:Shared)(σ:St)(H:Hp)(Q:Bool->Hp->Prop),Inv X pins σ H s->t σ H Q->wpAny (model X.prog X.w) X.A (isTrue e X.env whole) (TP X pins σ Q) X.xe s
def PW.pt{t:TT}(h:PW X e t):PT X e t:=h _
def PA(X:Cx)(es:List Expr)(t:TA):Prop:=
 ∀(pos:Pos)(pins:List (Addr×Obj))(s:Shared)(σ:St)(H:Hp)(Q:List V->Hp->Prop),Inv X pins σ H s->t σ H Q->wpAny (model X.prog X.w) X.A (spliced (backTo pos (starEach es X.env))) (AP X pins σ Q) X.xe s
def PS(X:Cx)(st:Stmt)(t:TS):Prop:=
 ∀(pins:List (Addr×Obj))(s:Shared)(σ:St)(H:Hp)(D:Ends),Inv X pins σ H s->t D σ H->wpAny (model X.prog X.w) X.A (exec st X.env) (SP X pins D) X.xe s
def vW(X:Cx)(st:List Stmt)(t:TS):Prop:=
 ∀(pins:List (Addr×Obj))(s:Shared)(σ:St)(H:Hp)(D:Ends),Inv X pins σ H s->t D σ H->wpAny (model X.prog X.w) X.A (execs st X.env) (SP X pins D) X.xe s
def cI{t:Sem α}{Q Q':α->Shared->Prop}(h:wpAny M A t Q E s)(hQ:∀a s,Q a s->Q' a s):wpAny M A t Q' E s:=da h hQ λ_ _ x=>x
section
def eV(o:Option (Option V))(Q:V->Prop):Prop:=match o with|some (some v)=>Q v|_=>False
theorem Tq{Q:V->Prop}:eV (some (some v)) Q=Q v:=rfl
theorem yl{o:Option (Option V)}{Q:V->Prop}:eV o Q↔∃v,o=some (some v)/\Q v:=by
 refine⟨λh=>?_,λh=>?_⟩
 .obtain _|_|v:=o
  .exact False.elim h
  .exact False.elim h
  .exact⟨v,rfl,h⟩
 .obtain⟨v,rfl,h⟩:=h;exact h
def eI(x:V)(Q:Int->Prop):Prop:=match x with|.int i=>Q i|_=>False
theorem WH{i:Int}{Q:Int->Prop}:eI (.int i) Q=Q i:=rfl
theorem fH{x:V}{Q:Int->Prop}:eI x Q↔∃i,x=.int i/\Q i:=by
 refine⟨λh=>?_,λh=>?_⟩
 .cases x with
  |int i=>exact⟨i,rfl,h⟩|_=>exact False.elim h
 .obtain⟨i,rfl,h⟩:=h;exact h
def eB(x:V)(Q:Bool->Prop):Prop:=match x with|.bl i=>Q i|_=>False
theorem FP{i:Bool}{Q:Bool->Prop}:eB (.bl i) Q=Q i:=rfl
theorem kU{x:V}{Q:Bool->Prop}:eB x Q↔∃i,x=.bl i/\Q i:=by
 refine⟨λh=>?_,λh=>?_⟩
 .cases x with
  |bl i=>exact⟨i,rfl,h⟩|_=>exact False.elim h
 .obtain⟨i,rfl,h⟩:=h;exact h
def eD(vs:List V)(Q:Bool->Prop):Prop:=match vs with| [.bl i]=>Q i|_=>False
theorem OW{i:Bool}{Q:Bool->Prop}:eD [.bl i] Q=Q i:=rfl
theorem ym{vs:List V}{Q:Bool->Prop}:eD vs Q↔∃i,vs=[.bl i]/\Q i:=by
 refine⟨λh=>?_,λh=>?_⟩
 .unfold eD at h;split at h
  .exact⟨_,rfl,h⟩
  .exact False.elim h
 .obtain⟨i,rfl,h⟩:=h;exact h
def bT(b:Bool)(p:Prop):Prop:=match b with|true=>p|false=>False
theorem p_:bT true p=p:=rfl
theorem Ir{b:Bool}:bT b p↔b=true/\p:=by
 cases b with
 |true=>exact⟨λh=>⟨rfl,h⟩,λh=>h.2⟩|false=>exact⟨False.elim,λh=>nomatch h.1⟩
noncomputable def eR(x:V)(Q:Addr->Prop):Prop:=match x with|.ref i=>Q i|_=>False
theorem WK{i:Addr}{Q:Addr->Prop}:eR (.ref i) Q=Q i:=rfl
theorem jO{x:V}{Q:Addr->Prop}:eR x Q↔∃i,x=.ref i/\Q i:=by
 refine⟨λh=>?_,λh=>?_⟩
 .cases x with
  |ref i=>exact⟨i,rfl,h⟩|_=>exact False.elim h
 .obtain⟨i,rfl,h⟩:=h;exact h
noncomputable def eS(x:V)(Q:Str->Prop):Prop:=match x with|.str i=>Q i|_=>False
theorem WL{i:Str}{Q:Str->Prop}:eS (.str i) Q=Q i:=rfl
theorem Iu{x:V}{Q:Str->Prop}:eS x Q↔∃i,x=.str i/\Q i:=by
 refine⟨λh=>?_,λh=>?_⟩
 .cases x with
  |str i=>exact⟨i,rfl,h⟩|_=>exact False.elim h
 .obtain⟨i,rfl,h⟩:=h;exact h
noncomputable def eL(vs:List V)(Q:Addr->Prop):Prop:=match vs with| [.ref i]=>Q i|_=>False
theorem WM{i:Addr}{Q:Addr->Prop}:eL [.ref i] Q=Q i:=rfl
theorem rm{vs:List V}{Q:Addr->Prop}:eL vs Q↔∃i,vs=[.ref i]/\Q i:=by
 refine⟨λh=>?_,λh=>?_⟩
 .unfold eL at h;split at h
  .exact⟨_,rfl,h⟩
  .exact False.elim h
 .obtain⟨i,rfl,h⟩:=h;exact h
noncomputable def eT(vs:List V)(Q:Str->Prop):Prop:=match vs with| [.str i]=>Q i|_=>False
theorem WN{i:Str}{Q:Str->Prop}:eT [.str i] Q=Q i:=rfl
theorem Du{vs:List V}{Q:Str->Prop}:eT vs Q↔∃i,vs=[.str i]/\Q i:=by
 refine⟨λh=>?_,λh=>?_⟩
 .unfold eT at h;split at h
  .exact⟨_,rfl,h⟩
  .exact False.elim h
 .obtain⟨i,rfl,h⟩:=h;exact h
def yn(i:Nat):TE:=λσ H Q=>eV σ[i]? λv=>Q v H
def tC(v:V):TE:=λ_ H Q=>Q v H
def WO{pos:Pos}(hN:X.N[i]?=some x)(hv:ZO X.env.scope x)(hd:(x==("__debug__":Str))=false:=by decide)(vm:(x==("__classdict__":Str))=false:=by decide):PE X (.Name x pos) (yn i):=by
 intro pins s σ H Q I h;obtain⟨v,e,h⟩:=yl.mp h;obtain⟨m,hn,hl⟩:=I.loc;obtain⟨u,r,l⟩:=hl i x v hN e hv;have fin:EP X pins σ Q u s:=⟨v,H,I,r,h⟩;obtain⟨hk,hm⟩|⟨hk,c,hc,KI⟩:=l
 .exact wpAny_Name (wpAny_loadName_local I.ok.kind hk hn hm fin) hd
 .obtain hk|hk:=hk
  .exact wpAny_Name (wpAny_loadName_cell I.ok.kind hk hc KI fin) hd
  .exact wpAny_Name (wpAny_loadName_free I.ok.kind hk hc KI fin vm) hd
def aq{i j pos}:PE X (.Constant (.int i) j pos) (tC (.int i)):=λ_ _ _ H _ I h=>wpAny_Constant_int ⟨.int i,H,I.tok _,⟨_,rfl⟩,h⟩
def vq{b j pos}:PE X (.Constant (.bool b) j pos) (tC (.bl b)):=λ_ _ _ H _ I h=>Constant_bool ⟨.bl b,H,I,rfl,h⟩
def ro{j pos}:PE X (.Constant .none j pos) (tC .cT):=λ_ _ _ H _ I h=>Constant_none ⟨.cT,H,I,rfl,h⟩
def bu{x j pos}:PE X (.Constant (.str x) j pos) (tC (.str x)):=λ_ _ _ H _ I h=>Calls.Constant_str ⟨.str x,H,I.tok _,⟨_,rfl⟩,h⟩
def Gl(X:Cx)(x:Str):Prop:=X.env.kindOf x=some .globalImplicit
def qd{E:Value->Shared->Prop}{pos:Pos}(I:Inv X pins σ H s)(hg:Gl X x)(hm:X.mg x=some u)(h:Q u s)(hd:(x==("__debug__":Str))=false:=by decide):wpAny (model X.prog X.w) X.A (eval (.Name x pos) X.env) Q E s:=
 Calls.Name_function_global I.ok.kind hg (Calls.loadGlobal_global (by rw[I.ok.glob];exact I.mod.glob.keeps I.bk) hm h) hd
def gn{E:Value->Shared->Prop}{pos:Pos}(I:Inv X pins σ H s)(hg:Gl X x)(hm:X.mg x=none)(hv:bootBuiltins x=some u)(h:Q u s)(hn:x≠"__name__":=by decide)(hd:(x==("__debug__":Str))=false:=by decide):wpAny (model X.prog X.w) X.A (eval (.Name x pos) X.env) Q E s:=by
 obtain⟨mb,h1,h2⟩:=I.mod.blt;exact Calls.Name_function_global I.ok.kind hg (Calls.loadGlobal_builtin (by rw[I.ok.glob];exact I.mod.glob.keeps I.bk) hm (by rw[I.ok.blt];exact h1.keeps I.bk) ((h2 x hn).trans hv) h) hd
def Dv{pos:Pos}(hg:Gl X x)(hm:X.mg x=some u)(r:RelV v u)(hd:(x==("__debug__":Str))=false:=by decide):PE X (.Name x pos) (tC v):=
 λ_ _ _ H _ I h=>qd I hg hm ⟨v,H,I,r,h⟩ hd
variable {a b:Expr} {tb:TE}
def PC(X:Cx)(op:CmpOp)(a b:Expr)(t:TE):Prop:=
 ∀(pins:List (Addr×Obj))(s:Shared)(σ:St)(H:Hp)(Q:VK),Inv X pins σ H s->t σ H Q->
  wpAny (model X.prog X.w) X.A (eval a X.env) (λv s₁=>wpAny (model X.prog X.w) X.A (eval b X.env) (λu s₂=>wpAny (model X.prog X.w) X.A (compareOp op v u) (EP X pins σ Q) X.xe s₂) X.xe s₁) X.xe s
def yo b (h:op≠ .In) (h2:op≠ .NotIn):behindInMarks op b=false:=by
 have e1:(op==CmpOp.In)=false:=by cases op<;>first|rfl|exact absurd rfl h
 have e2:(op==CmpOp.NotIn)=false:=by cases op<;>first|rfl|exact absurd rfl h2
 cases b
 case Set elts k p=>
  show((k==0&&(op==.In||op==.NotIn))&&_)=false;rw[e1,e2];cases k==0<;>rfl
 all_goals rfl
def tB(t:TE):TT:=λσ H Q=>t σ H λx H1=>eB x λc=>Q c H1
def yp{t:TE}(h:PC X op a b t)(h1:behindInMarks op b=false:=by first|exact yo _ ⋯ ⋯|rfl):PE X (.Compare a [op] [b] pos) t:=λpins s σ H Q I hw=>wpAny_Compare1 (h pins s σ H Q I hw) h1
def WQ{t:TE}(h:PC X op a b t)(h1:behindInMarks op b=false:=by first|exact yo _ ⋯ ⋯|rfl):PT X (.Compare a [op] [b] pos) (tB t):=by
 intro pins s σ H Q I hw;refine wpAny_isTrue_Compare1 (cI (h pins s σ H _ I hw) λv s1 h1=>cI h1 λu s2 h2=>cI h2 λc s3 zq5=>?_) h1;obtain⟨x,H1,I1,r1,q1⟩:=zq5;obtain⟨d,rfl,q⟩:=kU.mp q1;cases r1;exact mx ⟨H1,I1,q⟩
def yq{t:TE}(h:PE X e t)(he:∀whole,isTrue e X.env whole=(do let v<-whole;standAt e.pos;holding [v] (truthy v)):=by intro _;rfl):PT X e (tB t):=by
 intro pins s σ H Q I hw;refine isTrue_plain (cI (h pins s σ H _ I hw) λv s1 zq6=>?_) (he _);obtain⟨x,H1,I1,r1,q1⟩:=zq6;obtain⟨d,rfl,q⟩:=kU.mp q1;cases r1;exact mx ⟨H1,I1,q⟩
variable {tA tB':TT} {rest:List Expr}
def WR(t u:TT):TT:=λσ H Q=>t σ H λc H1=>if c=true then u σ H1 Q else Q false H1
def tOr(t u:TT):TT:=λσ H Q=>t σ H λc H1=>if c=true then Q true H1 else u σ H1 Q
def WT(t:TT):TT:=λσ H Q=>t σ H λc H1=>Q (!c) H1
def Tr(ha:PT X a tA):PW X (.BoolOp .And [a] pos) tA:=by
 intro wh pins s σ H Q I h;refine isTrue_and (cI (ha pins s σ H Q I h) λc s1 e=>?_);cases c with
 |true=>exact isTrue_and_nil e|false=>exact e
def OX(ha:PT X a tA):PW X (.BoolOp .Or [a] pos) tA:=by
 intro wh pins s σ H Q I h;refine isTrue_or (cI (ha pins s σ H Q I h) λc s1 e=>?_);cases c with
 |false=>exact isTrue_or_nil e|true=>exact e
def WU(ha:PT X a tA)(hb:PW X (.BoolOp .And (b::rest) pos) tB'):PW X (.BoolOp .And (a::b::rest) pos) (WR tA tB'):=by
 intro wh pins s σ H Q I h;refine isTrue_and (cI (ha pins s σ H _ I h) λc s1 zq7=>?_);obtain⟨H1,I1,q1⟩:=zq7;cases c with
 |true=>exact hb wh pins s1 σ H1 Q I1 q1|false=>exact⟨H1,I1,q1⟩
def VH(ha:PT X a tA)(hb:PW X (.BoolOp .Or (b::rest) pos) tB'):PW X (.BoolOp .Or (a::b::rest) pos) (tOr tA tB'):=by
 intro wh pins s σ H Q I h;refine isTrue_or (cI (ha pins s σ H _ I h) λc s1 zq8=>?_);obtain⟨H1,I1,q1⟩:=zq8;cases c with
 |true=>exact⟨H1,I1,q1⟩|false=>exact hb wh pins s1 σ H1 Q I1 q1
def yr(ha:PT X a tA):PT X (.UnaryOp .Not a pos) (WT tA):=by
 intro pins s σ H Q I h;exact isTrue_not (ha pins s σ H (λc H1=>Q (!c) H1) I h)
def OY(ta tb:TE):TE:=λσ H Q=>ta σ H λx H1=>eB x λc=>if c=true then tb σ H1 Q else Q (.bl false) H1
def WV(ta tb:TE):TE:=λσ H Q=>ta σ H λx H1=>eB x λc=>if c=true then Q (.bl true) H1 else tb σ H1 Q
def VI(ta:TE):TE:=λσ H Q=>ta σ H λx H1=>∃c,x=.bl c/\Q (.bl (!c)) H1
def i5{op}{t:TE}(h:PE X a t):PE X (.BoolOp op [a] pos) t:=λpins s σ H Q I hw=>BoolOp_one (h pins s σ H Q I hw)
def kW(ha:PE X a ta)(hb:PE X (.BoolOp .And (b::rest) pos) tb):PE X (.BoolOp .And (a::b::rest) pos) (OY ta tb):=by
 intro pins s σ H Q I h;refine BoolOp_and (cI (ha pins s σ H _ I h) λv s1 zq9=>?_);obtain⟨x,H1,I1,r1,q1⟩:=zq9;obtain⟨c,rfl,q1⟩:=kU.mp q1;cases r1;refine mx ?_;cases c with
 |true=>exact hb pins s1 σ H1 Q I1 q1|false=>exact⟨.bl false,H1,I1,rfl,q1⟩
def KJ(ha:PE X a ta)(hb:PE X (.BoolOp .Or (b::rest) pos) tb):PE X (.BoolOp .Or (a::b::rest) pos) (WV ta tb):=by
 intro pins s σ H Q I h;refine BoolOp_or (cI (ha pins s σ H _ I h) λv s1 WW=>?_);obtain⟨x,H1,I1,r1,q1⟩:=WW;obtain⟨c,rfl,q1⟩:=kU.mp q1;cases r1;refine mx ?_;cases c with
 |false=>exact hb pins s1 σ H1 Q I1 q1|true=>exact⟨.bl true,H1,I1,rfl,q1⟩
def ZR(t:TT)(ta tb:TE):TE:=λσ H Q=>t σ H λc H1=>if c=true then ta σ H1 Q else tb σ H1 Q
def yt{c:Expr}(hc:PT X c tA)(ha:PE X a ta)(hb:PE X b tb):PE X (.IfExp c a b pos) (ZR tA ta tb):=by
 intro pins s σ H Q I h;refine wpAny_IfExp (cI (hc pins s σ H _ I h) λd s1 WX=>?_);obtain⟨H1,I1,q1⟩:=WX;cases d with
 |true=>exact ha pins s1 σ H1 Q I1 q1|false=>exact hb pins s1 σ H1 Q I1 q1
end
def aM(K:PySem.W.Frag)(H:Hp)(a:Addr)(xs:List V):Prop:=
 Rd H a (.lst xs)\/
  ∃(o:Obj) (aR:Array Value) (n:Nat),K.lookup a=some o/\o.cls=.type "list"/\o.dict=none/\o.data=.seq aR n/\aR.size<=sizeLine/\Vals xs aR.toList
def jP(K:PySem.W.Frag)(H:Hp)(a:Addr)(xs:List V):Prop:=
 Rd H a (.tup xs)\/
  ∃(o:Obj) (aR:Array Value) (n:Nat),K.lookup a=some o/\o.cls=.type "tuple"/\o.data=.seq aR n/\aR.size<=sizeLine/\Vals xs aR.toList
noncomputable def acF:Value->Option V
 |.none=>some .cT|.bool b=>some (.bl b)
 |.int i _=>some (.int i)|.str x _=>some (.str x)
 |.bytes b _=>some (.Ic b)|.float b _=>some (.flt b)
 |.ref a=>some (.ref a)|.type n=>some (.ty n)
 |_=>none
def RelV.abs{x:V}(r:RelV x u):acF u=some x:=by
 cases x with
 |cT=>cases r;rfl
 |bl _=>cases r;rfl
 |int _=>obtain⟨t,rfl⟩:=r;rfl
 |str _=>obtain⟨t,rfl⟩:=r;rfl
 |Ic _=>obtain⟨t,rfl⟩:=r;rfl
 |flt _=>obtain⟨t,rfl⟩:=r;rfl
 |ref _=>cases r;rfl
 |ty _=>cases r;rfl
theorem RelV.inj{x:V}(r:RelV x u)(q:RelV y u):x=y:=Option.some.inj (r.abs.symm.trans q.abs)
theorem Vals.inj:∀{xs ys}{us},Vals xs us->Vals ys us->xs=ys:=by
 intro xs ys us h
 induction h generalizing ys with
 |nil=>intro q;cases q;rfl
 |cons r t ih=>
  intro q;cases q with
  |cons r' t'=>rw[r.inj r',ih t']
section
variable {ys:List V}
def aM.of(h:H a=some (.lst xs)):aM K H a xs:=.inl (.inl h)
def Inv.list(I:Inv X pins σ H s)(h:aM X.K H a xs):∃aR:List Value,Vals xs aR/\PlainL s.heap a aR.toArray/\xs.length<=sizeLine:=by
 obtain h|⟨o,aR,n,hk,hc,hd,hs,hz,r⟩:=h
 .obtain⟨z,aR,n,r,e⟩:=h.ok I.bL;exact⟨aR,r,⟨_,n,e,rfl,rfl,rfl⟩,z⟩
 .refine⟨aR.toList,r,⟨o,n,I.FC a o hk,hc,hd,‹hs›⟩,?_⟩;have e:=r.length;simp only[Array.length_toList]at e;omega
def Inv.tuple(I:Inv X pins σ H s)(h:jP X.K H a xs):∃aR:List Value,Vals xs aR/\IsTup s.heap a aR.toArray/\xs.length<=sizeLine:=by
 obtain h|⟨o,aR,n,hk,hc,hs,hz,r⟩:=h
 .obtain⟨z,aR,r,p⟩:=h.ok I.bL;exact⟨aR,r,p,z⟩
 .refine⟨aR.toList,r,⟨o,I.FC a o hk,hc,n,‹hs›⟩,?_⟩;have e:=r.length;simp only[Array.length_toList]at e;omega
def Inv.sW(I:Inv X pins σ H s)(h:aM X.K H a xs)(h':aM X.K H a ys):xs=ys:=by
 obtain⟨aR,r,⟨o,n,e,_,_,d⟩,_⟩:=I.list h;obtain⟨Iv,r',⟨o',n',e',_,_,d'⟩,_⟩:=I.list h';rw[e]at e';cases e';rw[d]at d';injection d' with d1 _;have:aR=Iv:=‹b_ Array.toList d1›
 subst this;exact r.inj r'
def Inv.MR(I:Inv X pins σ H s)(h:jP X.K H a xs)(h':jP X.K H a ys):xs=ys:=by
 obtain⟨aR,r,⟨o,e,_,n,d⟩,_⟩:=I.tuple h;obtain⟨Iv,r',⟨o',e',_,n',d'⟩,_⟩:=I.tuple h';rw[e]at e';cases e';rw[d]at d';injection d' with d1 _;have:aR=Iv:=‹b_ Array.toList d1›
 subst this;exact r.inj r'
end
noncomputable abbrev Cx.qI(X:Cx)(E:Value->Shared->Prop):Cx:= {X with xe:=E}
noncomputable abbrev Cx.OD(X:Cx):Cx:=X.qI λ_ _=>False
theorem Cx.Ok.qI(ok:X.Ok) E:(X.qI E).Ok:=
 ⟨ok.mod,ok.kind,ok.glob,ok.blt,ok.above,ok.inj,ok.has,ok.WG,ok.hd,ok.frames,ok.Y7,ok.Y8,ok.bs,ok.MO,ok.Io,ok.Ip,ok.rk,ok.Sz⟩
def Cx.Ok.eX(ok:(X.qI E).Ok):X.Ok:=
 ⟨ok.mod,ok.kind,ok.glob,ok.blt,ok.above,ok.inj,ok.has,ok.WG,ok.hd,ok.frames,ok.Y7,ok.Y8,ok.bs,ok.MO,ok.Io,ok.Ip,ok.rk,ok.Sz⟩
section
theorem Inv.qI(I:Inv X pins σ H s) E:Inv (X.qI E) pins σ H s:=⟨I.ok.qI E,I.os,I.bare,I.base,I.loc,I.cell,I.free,I.iM,I.pin,I.bL,I.len⟩
theorem Inv.eX(I:Inv (X.qI E) pins σ H s):Inv X pins σ H s:=⟨I.ok.eX,I.os,I.bare,I.base,I.loc,I.cell,I.free,I.iM,I.pin,I.bL,I.len⟩
theorem SP.eX{D:Ends}{f:Flow}(h:SP (X.qI E) pins D f s'):SP X pins D f s':=by
 cases f with
 |next=>obtain⟨σ',H',I,q⟩:=h;exact⟨σ',H',I.eX,q⟩
 |brk=>obtain⟨σ',H',I,q⟩:=h;exact⟨σ',H',I.eX,q⟩
 |cont=>obtain⟨σ',H',I,q⟩:=h;exact⟨σ',H',I.eX,q⟩
 |ret u=>obtain⟨v,σ',H',I,r,q⟩:=h;exact⟨v,σ',H',I.eX,r,q⟩
theorem vW.OD{st:List Stmt}{t:TS}(h:vW X.OD st t):vW X st t:=λpins s σ H D I hw=>
 da (h pins s σ H D (I.qI _) hw) (λ_ _ q=>q.eX) λ_ _ z=>False.elim z
end
section
variable {rest:List Stmt} {t u:TS}
def cb:TS:=λD σ H=>D.nx σ H
def Ts(t u:TS):TS:=λD σ H=>t {D with nx:=u D} σ H
def bx:vW X [] cb:=λ_ _ σ H _ I h=>w9 ⟨σ,H,I,h⟩
def ah(h1:PS X st t)(h2:vW X rest u):vW X (st::rest) (Ts t u):=by
 intro pins s σ H D I h;refine wpAny_execs_cons (cI (h1 pins s σ H {D with nx:=u D} I h) λf s1 q=>?_);cases f with
 |next=>
  obtain⟨σ',H',I',q⟩:=q;exact h2 pins s1 σ' H' D I' q
 |ret v=>exact q|brk=>exact q
 |cont=>exact q
def au(h1:PS X st t):vW X [st] t:=by
 intro pins s σ H D I h;refine wpAny_execs_cons (cI (h1 pins s σ H D I h) λf s1 q=>?_);cases f with
 |next=>exact w9 q|ret v=>exact q
 |brk=>exact q|cont=>exact q
def Iw:TS:=λD σ H=>D.bk σ H
def OZ:PS X (.Break pos) Iw:=λ_ _ σ H _ I h=>wpAny_Break ⟨σ,H,I,h⟩
def Inv.quiet(I:Inv X pins σ H s):interactive X.env=false:=by simp[interactive,I.ok.kind]
def O0(te:TE):TS:=λD σ H=>te σ H λ_ H1=>D.nx σ H1
def aQ(he:PE X e te)(hs:swapsWith e none pos.line X.env=pure false:=by rfl):PS X (.Expr e pos) (O0 te):=by
 intro pins s σ H D I h;refine wpAny_Expr_any (cI (he pins s σ H _ I h) λv s1 WY=>?_) I.quiet hs;obtain⟨x,H1,I1,r1,q1⟩:=WY;exact⟨σ,H1,I1,q1⟩
def WZ(te:TE):TS:=λD σ H=>te σ H D.rt
def aI(he:PE X e te):PS X (.Return (some e) pos) (WZ te):=by
 intro pins s σ H D I h;refine wpAny_Return_some (cI (he pins s σ H _ I h) λv s1 W0=>?_);obtain⟨x,H1,I1,r1,q1⟩:=W0;exact⟨x,σ,H1,I1,r1,q1⟩
def VJ:TS:=λD _ H=>D.rt .cT H
def W2(c:TT)(t u:TS):TS:=λD σ H=>c σ H λb H1=>if b=true then t D σ H1 else u D σ H1
def cR{c:Expr}{a b:List Stmt}(hc:PT X c tc)(ha:vW X a t)(hb:vW X b u):PS X (.If c a b pos) (W2 tc t u):=by
 intro pins s σ H D I h;refine wpAny_If (cI (hc pins s σ H _ I h) λd s1 W3=>?_);obtain⟨H1,I1,q1⟩:=W3;cases d with
 |true=>exact ha pins s1 σ H1 D I1 q1|false=>exact hb pins s1 σ H1 D I1 q1
end
abbrev TG:=V->St->Hp->(St->Hp->Prop)->Prop
variable {g:L2.TG}
abbrev VL:=List V->St->Hp->(St->Hp->Prop)->Prop
def PG(X:Cx)(target:Expr)(t:TG):Prop:=
 ∀(pins:List (Addr×Obj))(s:Shared)(σ:St)(H:Hp)(v:V)(u:Value)(Q:St->Hp->Prop),Inv X pins σ H s->RelV v u->t v σ H Q->
  wpAny (model X.prog X.w) X.A (assign target X.env u) (λ_ s'=>∃σ' H',Inv X pins σ' H' s'/\Q σ' H') X.xe s
def ZS(X:Cx)(ts:List Expr)(t:VL):Prop:=
 ∀(pins:List (Addr×Obj))(s:Shared)(σ:St)(H:Hp)(vs:List V)(us:List Value)(Q:St->Hp->Prop),Inv X pins σ H s->Vals vs us->t vs σ H Q->
  wpAny (model X.prog X.w) X.A (assignInOrder ((assignEach ts X.env).map (·.2)) us) (λ_ s'=>∃σ' H',Inv X pins σ' H' s'/\Q σ' H') X.xe s
abbrev ZT:=V->V->Hp->VK->Prop
def PIp(X:Cx)(op:Operator)(t:ZT):Prop:=
 ∀(pins:List (Addr×Obj))(s:Shared)(σ:St)(H:Hp)(x y:V)(v u:Value)(Q:VK),Inv X pins σ H s->RelV x v->RelV y u->t x y H Q->
  wpAny (model X.prog X.w) X.A (inplaceOp op v u) (EP X pins σ Q) X.xe s
section
def oy(i:Nat):TG:=λv σ H Q=>Q (σ.set i (some v)) H
def aT(hN:X.N.Nodup)(hi:X.N[i]?=some x)(hx:Loc X.env.scope x)(hf:X.fn x=true\/X.env.scope.names.lookup x=some .local:=by first|exact .inl rfl|exact .inr rfl|assumption):PG X (.Name x pos) (oy i):=by
 intro pins s σ H v u Q I r h;exact wpAny_assign_Name (yk I hN hi hx r (λs' I'=>⟨_,H,I',h⟩) hf)
def ZU:VL:=λvs σ H Q=>vs=[]/\Q σ H
def O1(t:TG)(u:VL):VL:=λvs σ H Q=>∃v r,vs=v::r/\t v σ H λσ' H'=>u r σ' H' Q
def kr:ZS X [] ZU:=by
 intro pins s σ H vs us Q I r h;obtain⟨e,h⟩:=h;subst e;exact assignInOrder_nil ⟨σ,H,I,h⟩
def cJ{es:List Expr}{t:TG}{u:VL}(h1:PG X e t)(h2:ZS X es u)(hs:(assignEach (e::es) X.env).map (·.2)=assign e X.env::(assignEach es X.env).map (·.2):=by rfl):ZS X (e::es) (O1 t u):=by
 intro pins s σ H vs us Q I r h;obtain⟨v,vr,e1,h⟩:=h;subst e1;cases r with
 |cons r rr=>
  rw[hs];refine assignInOrder_cons (cI (h1 pins s σ H _ _ _ I r h) λ_ s1 W4=>?_);obtain⟨σ1,H1,I1,q1⟩:=W4;exact h2 pins s1 σ1 H1 _ _ Q I1 rr q1
def W5(K:PySem.W.Frag)(n:Nat)(t:VL):TG:=λv σ H Q=>∃a xs,v=.ref a/\jP K H a xs/\xs.length=n/\t xs σ H Q
def yu{es:List Expr}{k:Nat}{t:VL}{n:Nat}(hc:X.calm=true)(h:ZS X es t)(hn:(assignEach es X.env).length=n:=by rfl)(qe:(assignEach es X.env).findIdx? (·.1)=none:=by rfl):PG X (.Tuple es k pos) (W5 X.K n t):=by
 intro pins s σ H v u Q I r hw;obtain⟨a,xs,e1,hq,hl,hw⟩:=hw;subst e1;cases r;obtain⟨aR,rv,ht,hz⟩:=I.tuple hq;refine assign_Tuple_tuple (I.ok.hd hc) ht (by simp[hn,<-hl,rv.length]) qe λh' hx=>?_;have I1:=I.kept (t':=s.toks) λb o e=>hx b o (bB (aN e)) e;exact h pins _ σ H xs _ Q I1 ‹rv› hw
def O2(te:TE)(g:TG):TS:=λD σ H=>te σ H λx H1=>g x σ H1 D.nx
def aO{pos':Pos}(hN:X.N.Nodup)(hi:X.N[i]?=some x)(hx:Loc X.env.scope x)(he:PE X e te)(hs:swapsWith e (some (.Name x pos')) pos.line X.env=pure false:=by rfl)(hf:X.fn x=true\/X.env.scope.names.lookup x=some .local:=by first|exact .inl rfl|exact .inr rfl|assumption):
  PS X (.Assign [.Name x pos'] e pos) (O2 te (oy i)):=by
 intro pins s σ H D I h;refine wpAny_Assign_Name (cI (he pins s σ H _ I h) λv s1 W6=>?_) hs;obtain⟨y,H1,I1,r1,q1⟩:=W6;exact yk I1 hN hi hx r1 (λs2 I2=>⟨_,H1,I2,q1⟩) hf
def W7(i:Nat)(te:TE)(ti:ZT):TS:=λD σ H=>eV σ[i]? λx=>te σ H λy H1=>ti x y H1 λz H2=>D.nx (σ.set i (some z)) H2
def Dx{op:Operator}{ti:ZT}{pos':Pos}(hN:X.N.Nodup)(hi:X.N[i]?=some x)(hx:Loc X.env.scope x)(he:PE X e te)(ho:PIp X op ti)(hf:X.fn x=true\/X.env.scope.names.lookup x=some .local:=by first|exact .inl rfl|exact .inr rfl|assumption):
  PS X (.AugAssign (.Name x pos') op e pos) (W7 i te ti):=by
 intro pins s σ H D I h;obtain⟨v,e1,h⟩:=yl.mp h;obtain⟨m,hn,hl⟩:=I.loc;have vis:ZO X.env.scope x:=by rcases hx with k|k;exact .inl k;exact .inr (.inl k)
 obtain⟨u,r,l⟩:=hl i x v hi e1 vis;refine wpAny_AugAssign_Name ?_;have go:wpAny (model X.prog X.w) X.A (eval e X.env) (λw s₂=>wpAny (model X.prog X.w) X.A (inplaceOp op u w) (λr s₃=>wpAny (model X.prog X.w) X.A (storeName X.env x r) (λ_=>SP X pins D .next) X.xe s₃) X.xe s₂) X.xe s:=by
  refine cI (he pins s σ H _ I h) λw s1 W8=>?_;obtain⟨y,H1,I1,r1,q1⟩:=W8;refine cI (ho pins s1 σ H1 v y u w _ I1 r r1 q1) λz s2 W9=>?_;obtain⟨zv,H2,I2,r2,q2⟩:=W9;exact yk I2 hN hi hx r2 (λs3 I3=>⟨_,H2,I3,q2⟩) hf
 obtain⟨hk,hm⟩|⟨hk,c,hc,KI⟩:=l
 .exact wpAny_loadName_local I.ok.kind hk hn hm go
 .obtain hk|hk:=hk
  .exact wpAny_loadName_cell I.ok.kind hk hc KI go
  .obtain k|k:=hx
   .have:X.env.scope.names.lookup x=some .free:=hk;rw[k]at this;cases this
   .have:X.env.scope.names.lookup x=some .free:=hk;rw[k]at this;cases this
def ipI(f:Int->Int->Int):ZT:=λx y H Q=>eI x λi=>eI y λj=>Q (.int (f i j)) H
def O3:PIp X .Add (ipI λi j=>i+j):=by
 intro pins s σ H x y v u Q I r1 r2 h;obtain⟨i,e1,h⟩:=fH.mp h;obtain⟨j,e2,q⟩:=fH.mp h;subst e1;subst e2;obtain⟨t,rfl⟩:=r1;obtain⟨t',rfl⟩:=r2;exact iadd_int ⟨.int _,H,I.tok _,⟨_,rfl⟩,q⟩
end
structure It where
 go:Nat->Hp->Prop
 FD:Nat->Hp->V->Hp->Prop
 stop:Nat->Hp->Prop
def vX(X:Cx)(pins:List (Addr×Obj))(H:Hp)(b:Addr):Prop:=
 H b=none/\b≠X.env.locals/\b∉X.fs/\(b∈X.ex\/X.xC.heap.objs.size<=b)/\(∀x c,X.env.cells.lookup x=some c->c≠b)/\∀p∈X.pn++pins,p.1≠b
def Inv.Dy(I:Inv X pins σ H s)(hb:s.heap.objs.size<=b)(hn:H' b=none):vX X pins H' b:=by
 refine⟨hn,jn (dS I.lt hb),I.acC hb,.inr (aX I.sz hb),λx c e z=>?_,λp hp z=>?_⟩
 .obtain⟨v,q⟩:=I.cell x c e;exact absurd (dS q.lt (by rw[z];exact hb)) (iZ _)
 .exact absurd (dS (aN (I.pin p hp).1) (by rw[z];exact hb)) (iZ _)
structure Turn(P:Program)(w:World)(K:PySem.W.Frag)(tg:Expr)(J:It)(fp:List Addr)(it:Addr)(tn:Nat->Heap->Prop):Prop where
 mem:it∈fp
 obj:∀i h,tn i h->∀b∈fp,∃o,h.get? b=some o/\∀v,o.data≠ .cell v
 keep:∀i h h',tn i h->(∀b∈fp,∀o,h.get? b=some o->h'.get? b=some o)->tn i h'
 item:∀(X:Cx),X.prog=P->X.w=w->X.K=K->X.calm=true->∀(i:Nat)(pins:List (Addr×Obj))(s:Shared)(σ:St)(H:Hp)(E:Value->Shared->Prop),Inv X pins σ H s->(∀b∈fp,vX X pins H b)->tn i s.heap->J.go i H->
  wpAny (model P w) X.A (pyNext (.ref it)) (λr s1=>∃u,r=some u/\
   wpAny (model P w) X.A (letOwnedTupleGo tg (.ref it) u) (λ_ s2=>∃x H',Inv X pins σ H' s2/\RelV x u/\J.FD i H x H'/\tn (i+1) s2.heap/\∀b∈fp,H' b=none) E s1) E s
 done:∀(X:Cx),X.prog=P->X.w=w->X.K=K->X.calm=true->∀(i:Nat)(pins:List (Addr×Obj))(s:Shared)(σ:St)(H:Hp)(E:Value->Shared->Prop),Inv X pins σ H s->(∀b∈fp,vX X pins H b)->tn i s.heap->J.stop i H->
  wpAny (model P w) X.A (pyNext (.ref it)) (λr s1=>r=none/\Inv X pins σ H s1) E s
 self:∀(A:Around)(i:Nat)(s:Shared)(Q:Value->Shared->Prop)(E:Value->Shared->Prop),tn i s.heap->Q (.ref it) s->wpAny (model P w) A (pyIter (.ref it)) Q E s
abbrev TI:=St->Hp->(It->Hp->Prop)->Prop
variable {wi:L2.TI}
def PIE(X:Cx)(pins:List (Addr×Obj))(σ:St)(tg:Expr)(R:It->Hp->Prop)(itv:Value)(s2:Shared):Prop:=
 ∃(it:Addr) (fp:List Addr) (tn:Nat->Heap->Prop) (J:It) (H':Hp),itv=.ref it/\Inv X pins σ H' s2/\Turn X.prog X.w X.K tg J fp it tn/\tn 0 s2.heap/\(∀b∈fp,vX X pins H' b)/\R J H'
def PI(X:Cx)(tg iter:Expr)(wi:TI):Prop:=
 ∀(pins:List (Addr×Obj))(s:Shared)(σ:St)(H:Hp)(R:It->Hp->Prop),Inv X pins σ H s->wi σ H R->
  wpAny (model X.prog X.w) X.A (eval iter X.env) (λv s1=>wpAny (model X.prog X.w) X.A (pyIter v) (PIE X pins σ tg R) X.xe s1) X.xe s
def FQ{o:Obj}{vs:Array Value}{Q:Unit->Shared->Prop}(ho:s.heap.get? it=some o)(hc:o.cls=.type n)(hd:o.data=.fields vs)(hn:["enumerate","zip","dict_itemiterator","dict_reverseitemiterator","odict_iterator","itertools.zip_longest","itertools.pairwise"].contains n=false)(hQ:Q Unit.unit s):wpAny M A (letOwnedTupleGo tg (.ref it) u) Q E s:=by
 cases tg<;>first
  |exact ay hQ
  |(cases u<;>first
    |exact ay hQ
    |(refine aj (wpAny_load ho ?_)
      rw[hc,hd];show wpAny M A (if(["enumerate","zip","dict_itemiterator","dict_reverseitemiterator","odict_iterator","itertools.zip_longest","itertools.pairwise"].contains n&&vs[0]?==some (rawInt _))=true then _ else _) Q E s;rw[af (by intro h;rw[hn,Bool.false_and]at h;cases h)];exact ay hQ))
noncomputable def O4(K:PySem.W.Frag)(a:Addr):It:=
 ⟨λi H=>∃xs x,aM K H a xs/\xs[i]?=some x,λi H x H'=>H'=H/\∀xs,aM K H a xs->xs[i]?=some x,λi H=>∃xs,aM K H a xs/\xs.length<=i⟩
noncomputable def SA(lo:Int)(n:Nat):It:=⟨λi _=>i<n,λi H x H'=>H'=H/\x=.int (lo+i),λi _=>n<=i⟩
def MS a it:Turn P w K tg (O4 K a) [it] it (λi h=>h.IsListIter it a i)where
 mem:=by simp
 obj:=λi h st b hb=>by
  have e:b=it:=‹hb›
  subst e;obtain⟨o,e,c,d⟩:=st;exact⟨o,e,λv z=>by rw[d]at z;cases z⟩
 keep:=λi h h' st k=>st.at λo e=>k it ∅ o e
 item:=by
  intro X hP hw hK hc i pins s σ H E I hf st hg;subst hP hw hK;obtain⟨xs,x,hq,hx⟩:=hg;obtain⟨aR,rv,p,hz⟩:=I.list hq;obtain⟨u,hu,ru⟩:=rv.get hx;obtain⟨f0,f1,f2,f3,f4,f5⟩:=hf it ∅;refine wpAny_pyNext_list_item st p.isList ‹hu› λh' BG sb=>?_;have I1:=I.turned (t':=s.toks) (λb o hb e=>(sb.2 b hb).trans e) f0 f1 f3 f4 f5;obtain⟨o,e,c,d⟩:=id BG;exact⟨u,rfl,FQ e c d ⋯ ⟨x,H,I1,ru,⟨rfl,λys hy=>by rw[I.sW hy hq];exact hx⟩,BG,λb hb=>(hf b hb).1⟩⟩
 done:=by
  intro X hP hw hK hc i pins s σ H E I hf st hg;subst hP hw hK;obtain⟨xs,hq,hx⟩:=hg;obtain⟨aR,rv,p,hz⟩:=I.list hq;obtain⟨f0,f1,f2,f3,f4,f5⟩:=hf it ∅;have hl:=rv.length;exact wpAny_pyNext_list_end (I.ok.hd hc) st p.isList (by simp;omega) λh' eb=>⟨rfl,I.turned (λb o hb e=>eb b o hb e) f0 f1 f3 f4 f5⟩
 self:=λ_ _ _ _ _ st h=>wpAny_pyIter_listiter st h
def Iy it lo n:Turn P w K tg (SA lo n) [it] it (λi h=>IsRangeIter h it (lo+(i:Nat)*1) ((n:Int)-(i:Nat)) 1)where
 mem:=by simp
 obj:=λi h st b hb=>by
  have e:b=it:=‹hb›
  subst e;exact⟨_,st,λv z=>by
   have z':=z;cases z'⟩
 keep:=λi h h' st k=>k it ∅ _ st
 item:=by
  intro X hP hw hK hc i pins s σ H E I hf st hg;subst hP hw hK;obtain⟨f0,f1,f2,f3,f4,f5⟩:=hf it ∅;have W:=Walks.range (prog:=X.prog) (w:=X.w) (I.ok.hd hc) it lo 1 n;refine W.item i s _ _ hg st λv h' tk hv BG kk=>?_;obtain⟨t,rfl⟩:=hv;have I1:Inv X pins σ H {s with heap:=h',toks:=tk} :=I.turned (λb o hb e=>kk b o ‹hb› e) f0 f1 f3 f4 f5;refine⟨_,rfl,FQ (n:="range_iterator") BG rfl rfl ⋯ ⟨.int (lo+i),H,I1,⟨t,?_⟩,⟨rfl,rfl⟩,BG,λb hb=>(hf b hb).1⟩⟩;rw[Int.mul_one]
 done:=by
  intro X hP hw hK hc i pins s σ H E I hf st hg;obtain⟨f0,f1,f2,f3,f4,f5⟩:=hf it ∅;exact wpAny_pyNext_range_end (I.ok.hd hc) st (by have:n<=i:=hg;omega) λh' eb=>⟨rfl,I.turned (λb o hb e=>eb b o hb e) f0 f1 f3 f4 f5⟩
 self:=λ_ _ _ _ _ st h=>wpAny_pyIter_rangeiter st h
section
def ZV(K:PySem.W.Frag)(tl:TE):TI:=λσ H R=>tl σ H λx H1=>∃a,x=.ref a/\(∃xs,aM K H1 a xs)/\R (O4 K a) H1
def b8{l:Expr}(hl:PE X l tl):PI X tg l (ZV X.K tl):=by
 intro pins s σ H R I h;refine cI (hl pins s σ H _ I h) λv s1 acG=>?_;obtain⟨x,H1,I1,r1,q1⟩:=acG;obtain⟨a,e,⟨xs,hq⟩,q⟩:=q1;subst e;cases r1;obtain⟨aR,rv,p,hz⟩:=I1.list hq;refine wpAny_pyIter_list p.isList ?_;refine⟨s1.heap.objs.size,[s1.heap.objs.size],_,_,H1,rfl,I1.kept λb o e=>bR _ e,MS a _,⟨_,bw _ rfl,rfl,rfl⟩,λb hb=>?_,q⟩;have e:b=s1.heap.objs.size:=‹hb›
 subst e;exact I1.Dy (aL _) (I1.bL.fresh (aL _))
def FR{lo hi:Int}{t u v:Tok}(I:Inv X pins σ H s)(h1: -(2^62)<=lo)(h2:lo<2^62)(h3: -(2^62)<=hi)(h4:hi<2^62)(q:R (SA lo (hi-lo).toNat) H):wpAny (model X.prog X.w) X.A (pyIter (.ref s.heap.objs.size)) (PIE X pins σ tg R) E {s with heap:=s.heap.push {cls:=.type "range",data:=.fields #[.int lo t,.int hi u,.int 1 v]},toks:=tk} :=by
 refine wpAny_pyIter_range (IsRange.new ..) (small_one h1 h2 h3 h4) ?_;have I1:Inv X pins σ H {s with heap:=s.heap.push {cls:=.type "range",data:=.fields #[.int lo t,.int hi u,.int 1 v]},toks:=tk} :=I.kept λb o e=>bR _ e;refine⟨(s.heap.push {cls:=.type "range",data:=.fields #[.int lo t,.int hi u,.int 1 v]}).objs.size,[(s.heap.push {cls:=.type "range",data:=.fields #[.int lo t,.int hi u,.int 1 v]}).objs.size],_,_,H,rfl,
  I1.kept λb o e=>bR _ e,Iy _ lo (hi-lo).toNat,?_,λb hb=>?_,q⟩
 .have e1:lo+((0:Nat):Int)*1=lo:=by simp
  have e2:(((hi-lo).toNat:Nat):Int)-((0:Nat):Int)=Builtin.Range.rangeSize lo hi 1:=by rw[rangeSize_one];split<;>omega
  rw[e1,e2];exact bw _ rfl
 .have e:b=(s.heap.push {cls:=.type "range",data:=.fields #[.int lo t,.int hi u,.int 1 v]}).objs.size:=by simpa using hb
  subst e;exact I1.Dy (aL _) (I1.bL.fresh (aL _))
def ZW(ta:TA):TI:=λσ H R=>ta σ H λvs H1=>∃j:Int,vs=[.int j]/\-(2^62)<=j/\j<2^62/\R (SA 0 j.toNat) H1
def ZX(ta:TA):TI:=λσ H R=>ta σ H λvs H1=>∃i j:Int,vs=[.int i,.int j]/\(-(2^62)<=i/\i<2^62/\-(2^62)<=j/\j<2^62)/\R (SA i (j-i).toNat) H1
def BH{a:Expr}{ta:TA}{p pos:Pos}(hg:Gl X "range")(hm:X.mg "range"=none)(ha:PA X [a] ta)(hs:starEach [a] X.env=[(false,eval a X.env)]:=by rfl):PI X tg (.Call (.Name "range" p) [a] [] pos) (ZW ta):=by
 intro pins s σ H R I h;refine Call_ (gn I hg hm boot_range (jF (cI (ha pos pins s σ H _ I h) λus s1 acH=>?_) hs rfl));obtain⟨vs,H1,I1,r1,q1⟩:=acH;obtain⟨j,e,q1,q2,q⟩:=q1;subst e;cases r1 with
 |cons r rr=>
  cases rr;obtain⟨t,rfl⟩:=r;exact call_range_1 (FR I1 () () q1 q2 ‹q›)
def BI{a b:Expr}{ta:TA}{p pos:Pos}(hg:Gl X "range")(hm:X.mg "range"=none)(ha:PA X [a,b] ta)(hs:starEach [a,b] X.env=[(false,eval a X.env),(false,eval b X.env)]:=by rfl)(Tt:starEach [b] X.env=[(false,eval b X.env)]:=by rfl):
  PI X tg (.Call (.Name "range" p) [a,b] [] pos) (ZX ta):=by
 intro pins s σ H R I h;refine Call_ (gn I hg hm boot_range (jF (cI (ha pos pins s σ H _ I h) λus s1 acI=>?_) (by rw[hs,Tt]) (by rw[Tt];rfl)));obtain⟨vs,H1,I1,r1,q1⟩:=acI;obtain⟨i,j,e,⟨q1,q2,q3,q4⟩,q⟩:=q1;subst e;cases r1 with
 |cons r rr=>
  cases rr with
  |cons r' rr=>
   cases rr;obtain⟨t,rfl⟩:=r;obtain⟨t',rfl⟩:=r';exact call_range_2 (FR I1 q1 q2 q3 q4 q)
def acJ(wi:TI)(g:TG)(tb:TS):TS:=λD σ H=>wi σ H λJ H1=>∃W:Nat->Nat->St->Hp->Prop,(∃m,W 0 m σ H1)/\∀i m σ H,W i m σ H->
 (J.stop i H/\D.nx σ H)\/(J.go i H/\∃N:St->Hp->Prop,(∀σ' H',N σ' H'->∃m',m'<m/\W (i+1) m' σ' H')/\∀x H',J.FD i H x H'->g x σ H' λσ2 H2=>tb {D with nx:=N,ct:=N,bk:=D.nx} σ2 H2)
noncomputable def yw(fp:List Addr)(h:Heap):List (Addr×Obj):=fp.filterMap λb=>(h.get? b).map λo=>(b,o)
def rp{o:Obj}(hb:b∈fp)(e:h.get? b=some o):(b,o)∈yw fp h:=mem_filterMap.mpr ⟨b,hb,by rw[e];rfl⟩
def MT(hp:p∈yw fp h):p.1∈fp/\h.get? p.1=some p.2:=by
 obtain⟨b,hb,e⟩:=mem_filterMap.mp hp;cases q:h.get? b with
 |none=>rw[q]at e;cases e
 |some o=>
  rw[q]at e;have e':=Option.some.inj e;subst e';exact⟨hb,q⟩
def Inv.pinned(I:Inv X pins σ H s)(hf:∀b∈fp,vX X pins H b)(ho:∀b∈fp,∃o,s.heap.get? b=some o/\∀v,o.data≠ .cell v):Inv X (pins++yw fp s.heap) σ H s:=
 I.mP λp hp=>(mem_append.mp hp).elim (λz=>I.pin p (mz _ z)) λz=>by
  obtain⟨hb,e⟩:=MT z;obtain⟨f0,f1,f2,_⟩:=hf p.1 hb;obtain⟨o,e',d⟩:=ho p.1 hb;rw[e]at e';cases e';exact⟨e,f0,f1,f2,d⟩
def Inv.sX(I:Inv X (pins++pl) σ H s):Inv X pins σ H s:=I.mP λp hp=>I.pin p (mz _ (w8 _ hp))
def fI{body:List Stmt}{pos:Pos}(hp:PassesOwn (model X.prog X.w) X.A X.env X.xe)(hc:X.calm=true)(hi:PI X tg iter wi)(hg:PG X tg g)(hb:vW X body tb)(hs:∀x,foldedSetIterable iter X.env x=pure x:=by intro _;rfl):PS X (.For tg iter body [] pos) (acJ wi g tb):=by
 intro pins s σ H D I h;refine wpAny_For (cI (hi pins s σ H _ I h) λv s1 h1=>cI h1 λitv s2 h2=>?_) hs;obtain⟨it,fp,tn,J,H2,e,I2,T,st2,f2,W,⟨m0,w0⟩,turn⟩:=h2;subst e;have stat:∀{H':Hp},(∀b∈fp,H' b=none)->∀b∈fp,vX X pins H' b:=λhn b hb=>⟨hn b hb,(f2 b hb).2⟩;refine codeAny_forLoop_any (λn s'=>∃i σ' H',Inv X pins σ' H' s'/\tn i s'.heap/\(∀b∈fp,H' b=none)/\W i n σ' H') ?_ m0 ⟨0,σ,H2,I2,st2,λb hb=>(f2 b hb).1,w0⟩;rintro n s3 ⟨i,σ3,H3,I3,st3,fr3,w3⟩;obtain⟨stop,qn⟩|⟨go,N,hN,step⟩:=turn i n σ3 H3 w3
 .refine sH hp (cI (T.done X rfl rfl rfl hc i pins s3 σ3 H3 X.xe I3 (stat fr3) st3 stop) λr s4 acK=>?_);obtain⟨hr,I4⟩:=acK;subst hr;exact w9 ⟨σ3,H3,I4,qn⟩
 .refine sH hp (cI (T.item X rfl rfl rfl hc i pins s3 σ3 H3 X.xe I3 (stat fr3) st3 go) λr s4 acL=>?_);obtain⟨u,hr,h4⟩:=acL;subst hr;refine sH hp (cI h4 λ_ s5 acM=>?_);obtain⟨x,H5,I5,r5,y5,Y9,fr5⟩:=acM;have I5':=I5.pinned (stat fr5) (T.obj _ _ Y9);refine sH hp (cI (hg _ s5 σ3 H5 x u _ I5' r5 (step x H5 y5)) λ_ s6 acN=>?_);obtain⟨σ6,H6,I6,q6⟩:=acN;refine sH hp (cI (hb _ s6 σ6 H6 _ I6 q6) λf s7 q7=>?_);have again:∀{σ7:St}{H7:Hp},Inv X (pins++yw fp s5.heap) σ7 H7 s7->N σ7 H7->∃m,m<n/\∃i σ' H',Inv X pins σ' H' s7/\tn i s7.heap/\(∀b∈fp,H' b=none)/\W i m σ' H':=λ{σ7 H7} I7 n7=>by
   obtain⟨m',hm,w7⟩:=hN σ7 H7 n7;refine⟨m',hm,i+1,σ7,H7,I7.sX,T.keep _ _ _ Y9 λb hb o e=>(I7.pin (b,o) (mz _ (mz _ (rp hb e)))).1,λb hb=>?_,w7⟩;obtain⟨o,e,d⟩:=T.obj _ _ Y9 b hb;exact(I7.pin (b,o) (mz _ (mz _ (rp hb e)))).2.1
  cases f with
  |next=>obtain⟨σ7,H7,I7,n7⟩:=q7;exact again I7 n7
  |cont=>obtain⟨σ7,H7,I7,n7⟩:=q7;exact again I7 n7
  |brk=>obtain⟨σ7,H7,I7,q7⟩:=q7;exact⟨σ7,H7,I7.sX,q7⟩
  |ret v=>obtain⟨x7,σ7,H7,I7,r7,q7⟩:=q7;exact⟨x7,σ7,H7,I7.sX,r7,q7⟩
end
def iO{D:Ends}(Pv:Nat->St->Hp->Prop)(h0:Pv 0 σ H)(hl:∀i σ H,i<=xs.length->Pv i σ H->aM K H a xs)(hs:∀i x σ H,xs[i]?=some x->Pv i σ H->g x σ H λσ2 H2=>tb {D with nx:=Pv (i+1),ct:=Pv (i+1),bk:=D.nx} σ2 H2)(hd:∀σ H,Pv xs.length σ H->D.nx σ H):
  ∃W:Nat->Nat->St->Hp->Prop,(∃m,W 0 m σ H)/\∀i m σ H,W i m σ H->
   ((O4 K a).stop i H/\D.nx σ H)\/((O4 K a).go i H/\∃N:St->Hp->Prop,(∀σ' H',N σ' H'->∃m',m'<m/\W (i+1) m' σ' H')/\∀x H',(O4 K a).FD i H x H'->g x σ H' λσ2 H2=>tb {D with nx:=N,ct:=N,bk:=D.nx} σ2 H2):=by
 refine⟨λi m σ H=>m=xs.length-i/\i<=xs.length/\Pv i σ H,⟨xs.length,by simp,cj _,h0⟩,?_⟩;rintro i m σ H ⟨rfl,hi,p⟩;have q:=hl i σ H hi p;by_cases dQ:i<xs.length
 .refine .inr ⟨⟨xs,xs[i],q,by simp[dQ]⟩,Pv (i+1),λσ' H' p'=>⟨xs.length-(i+1),by omega,rfl,dQ,p'⟩,λx H' y=>?_⟩;obtain⟨e,y⟩:=y;subst e;exact hs i x σ _ (y xs q) p
 .have e:i=xs.length:=by omega
  subst e;exact .inl ⟨⟨xs,q,aL _⟩,hd σ H p⟩
def BJ{lo:Int}{D:Ends}(Pv:Nat->St->Hp->Prop)(h0:Pv 0 σ H)(hs:∀i σ H,i<n->Pv i σ H->g (.int (lo+i)) σ H λσ2 H2=>tb {D with nx:=Pv (i+1),ct:=Pv (i+1),bk:=D.nx} σ2 H2)(hd:∀σ H,Pv n σ H->D.nx σ H):
  ∃W:Nat->Nat->St->Hp->Prop,(∃m,W 0 m σ H)/\∀i m σ H,W i m σ H->
   ((SA lo n).stop i H/\D.nx σ H)\/((SA lo n).go i H/\∃N:St->Hp->Prop,(∀σ' H',N σ' H'->∃m',m'<m/\W (i+1) m' σ' H')/\∀x H',(SA lo n).FD i H x H'->g x σ H' λσ2 H2=>tb {D with nx:=N,ct:=N,bk:=D.nx} σ2 H2):=by
 refine⟨λi m σ H=>m=n-i/\i<=n/\Pv i σ H,⟨n,by simp,cj _,h0⟩,?_⟩;rintro i m σ H ⟨rfl,hi,p⟩;by_cases dQ:i<n
 .refine .inr ⟨dQ,Pv (i+1),λσ' H' p'=>⟨n-(i+1),by omega,rfl,dQ,p'⟩,λx H' y=>?_⟩;obtain⟨e,y⟩:=y;subst e y;exact hs i σ _ dQ p
 .have e:i=n:=by omega
  subst e;exact .inl ⟨aL _,hd σ H p⟩
abbrev R2:=V->V->Hp->VK->Prop
def qf(X:Cx)(f:Value->Value->Sem Value)(r:R2):Prop:=
 ∀(pins:List (Addr×Obj))(s:Shared)(σ:St)(H:Hp)(x y:V)(v u:Value)(Q:VK),Inv X pins σ H s->RelV x v->RelV y u->r x y H Q->
  wpAny (model X.prog X.w) X.A (f v u) (EP X pins σ Q) X.xe s
def UnR(X:Cx)(f:Value->Sem Value)(r:V->Hp->VK->Prop):Prop:=
 ∀(pins:List (Addr×Obj))(s:Shared)(σ:St)(H:Hp)(x:V)(v:Value)(Q:VK),Inv X pins σ H s->RelV x v->r x H Q->
  wpAny (model X.prog X.w) X.A (f v) (EP X pins σ Q) X.xe s
def ku(X:Cx)(f:Value)(r:List V->Hp->VK->Prop):Prop:=
 ∀(pins:List (Addr×Obj))(s:Shared)(σ:St)(H:Hp)(xs:List V)(us:List Value)(Q:VK),Inv X pins σ H s->Vals xs us->r xs H Q->
  wpAny (model X.prog X.w) X.A (call f us) (EP X pins σ Q) X.xe s
def Tv(r:R2)(ta tb:TE):TE:=λσ H Q=>ta σ H λx H1=>tb σ H1 λy H2=>r x y H2 Q
def tUn(r:V->Hp->VK->Prop)(ta:TE):TE:=λσ H Q=>ta σ H λx H1=>r x H1 Q
def rI(C:Int->Int->Prop)(g:Int->Int->V):R2:=λx y H Q=>eI x λi=>eI y λj=>C i j/\Q (g i j) H
def O5(g:Int->Int->V):R2:=λx y H Q=>eI x λi=>eI y λj=>Q (g i j) H
def rU(g:Int->V):V->Hp->VK->Prop:=λx H Q=>eI x λi=>Q (g i) H
section
variable {a b c:Expr} {tb tc:TE}
def Tw(ha:PE X a ta)(hb:PE X b tb){R:V->V->Hp->Prop}(I:Inv X pins σ H s)(h:ta σ H λx H1=>tb σ H1 λy H2=>R x y H2){f:Value->Value->Sem Value}(hf:∀v u s2 x y H2,Inv X pins σ H2 s2->RelV x v->RelV y u->R x y H2->wpAny (model X.prog X.w) X.A (f v u) Q X.xe s2):
  wpAny (model X.prog X.w) X.A (eval a X.env) (λv s₁=>wpAny (model X.prog X.w) X.A (eval b X.env) (λu s₂=>wpAny (model X.prog X.w) X.A (f v u) Q X.xe s₂) X.xe s₁) X.xe s:=by
 refine cI (ha pins s σ H _ I h) λv s1 acO=>?_;obtain⟨x,H1,I1,r1,q1⟩:=acO;refine cI (hb pins s1 σ H1 _ I1 q1) λu s2 acP=>?_;obtain⟨y,H2,I2,r2,q2⟩:=acP;exact hf v u s2 x y H2 I2 r1 r2 q2
def bS{op:Operator}{r:R2}(ho:qf X (binaryOp op) r)(ha:PE X a ta)(hb:PE X b tb):PE X (.BinOp a op b pos) (Tv r ta tb):=by
 intro pins s σ H Q I h;exact wpAny_BinOp (Tw ha hb I h λv u s2 x y H2 I2 rx ry q=>ho pins s2 σ H2 x y v u Q I2 rx ry q)
def qN{op:UnaryOp}{r:V->Hp->VK->Prop}(ho:UnR X (unaryOp op) r)(ha:PE X a ta):PE X (.UnaryOp op a pos) (tUn r ta):=by
 intro pins s σ H Q I h;refine UnaryOp_ (cI (ha pins s σ H _ I h) λv s1 acQ=>?_);obtain⟨x,H1,I1,r1,q1⟩:=acQ;exact ho pins s1 σ H1 x v Q I1 r1 q1
def opI{f:Value->Value->Sem Value}{g:Int->Int->Int}(rule:∀i j t u s Q E,C i j->Q (.int (g i j) s.toks) {s with toks:=s.toks+1}->wpAny (model X.prog X.w) X.A (f (.int i t) (.int j u)) Q E s):
  qf X f (rI C λi j=>.int (g i j)):=by
 intro pins s σ H x y v u Q I rx ry h;obtain⟨i,rfl,h1⟩:=fH.mp h;obtain⟨j,rfl,hc,q⟩:=fH.mp h1;obtain⟨t,rfl⟩:=rx;obtain⟨t',rfl⟩:=ry;exact rule i j t t' s _ _ hc ⟨.int (g i j),H,I.tok _,⟨_,rfl⟩,q⟩
def ZY{f:Value->Value->Sem Value}{g:Int->Int->Int}(rule:∀i j t u s Q E,Q (.int (g i j) s.toks) {s with toks:=s.toks+1}->wpAny (model X.prog X.w) X.A (f (.int i t) (.int j u)) Q E s):
  qf X f (O5 λi j=>.int (g i j)):=by
 intro pins s σ H x y v u Q I rx ry h;obtain⟨i,rfl,h1⟩:=fH.mp h;obtain⟨j,rfl,q⟩:=fH.mp h1;obtain⟨t,rfl⟩:=rx;obtain⟨t',rfl⟩:=ry;exact rule i j t t' s _ _ ⟨.int (g i j),H,I.tok _,⟨_,rfl⟩,q⟩
def Tz{f:Value->Value->Sem Value}{g:Int->Int->Bool}(rule:∀i j t u s Q E,Q (.bool (g i j)) s->wpAny (model X.prog X.w) X.A (f (.int i t) (.int j u)) Q E s):
  qf X f (O5 λi j=>.bl (g i j)):=by
 intro pins s σ H x y v u Q I rx ry h;obtain⟨i,rfl,h1⟩:=fH.mp h;obtain⟨j,rfl,q⟩:=fH.mp h1;obtain⟨t,rfl⟩:=rx;obtain⟨t',rfl⟩:=ry;exact rule i j t t' s _ _ ⟨.bl (g i j),H,I,rfl,q⟩
def acR(i j:Int):Prop:=0<j/\j<1073741824
def O6(i j:Int):Prop:=(-(2^64)<i/\i<2^64)\/(-(2^64)<j/\j<2^64)
theorem O6.ok{i j:Int}(h:O6 i j):IntMulOk i j:=by
 obtain⟨h1,h2⟩|⟨h1,h2⟩:=h
 .exact .of_left (intBits_le_64 h1 h2)
 .exact .of_right (intBits_le_64 h1 h2)
def gq:qf X (binaryOp .Add) (O5 λi j=>.int (i+j)):=ZY λ_ _ _ _ _ _ _ q=>add_int q
def gu:qf X (binaryOp .Sub) (O5 λi j=>.int (i-j)):=ZY λ_ _ _ _ _ _ _ q=>sub_int q
def rq:qf X (binaryOp .Mult) (rI O6 λi j=>.int (i*j)):=opI λ_ _ _ _ _ _ _ hc q=>mul_int q hc.ok
def TB:qf X (binaryOp .FloorDiv) (rI acR λi j=>.int (i/j)):=opI λi j _ _ _ _ _ hc q=>by
 have h1:=hc.1;have h2:=hc.2;exact floordiv_int () (by rw[Int.fdiv_eq_ediv_of_nonneg i ()];exact q) (.inl (PyProof.noPylong_small ()))
def O7:qf X (binaryOp .Mod) (rI (λ_ j=>0<j) λi j=>.int (i%j)):=opI λi j _ _ _ _ _ hc q=>by
 have h1:=hc;exact mod_int' () (by rw[Int.fmod_eq_emod_of_nonneg i ()];exact q)
def unI{f:Value->Sem Value}{g:Int->Int}(rule:∀i t s Q E,Q (.int (g i) s.toks) {s with toks:=s.toks+1}->wpAny (model X.prog X.w) X.A (f (.int i t)) Q E s):
  UnR X f (rU λi=>.int (g i)):=by
 intro pins s σ H x v Q I rx h;obtain⟨i,rfl,q⟩:=fH.mp h;obtain⟨t,rfl⟩:=rx;exact rule i t s _ _ ⟨.int (g i),H,I.tok _,⟨_,rfl⟩,q⟩
def kX:UnR X (unaryOp .USub) (rU λi=>.int (-i)):=unI λ_ _ _ _ _ q=>neg_int q
end
noncomputable def Dz:V->V->Bool
 |.cT,.cT=>true|.cT,.int _=>true|.int _,.cT=>true|.cT,.bl _=>true|.bl _,.cT=>true|.cT,.str _=>true|.str _,.cT=>true
 |.int _,.int _=>true|.bl _,.bl _=>true|.str _,.str _=>true|.Ic _,.Ic _=>true
 |.int _,.str _=>true|.str _,.int _=>true|.bl _,.str _=>true|.str _,.bl _=>true
 |_,_=>false
def VM:R2:=λx y H Q=>bT (Dz x y) (Q (.bl (decide (x=y))) H)
def rNe:R2:=λx y H Q=>bT (Dz x y) (Q (.bl (!decide (x=y))) H)
def KL{i j:Int}:decide (V.int i=V.int j)=(i==j):=by
 rw[jL];simp
def O8{i j:Bool}:decide (V.bl i=V.bl j)=(i==j):=by
 rw[jL];simp
def KN{i j:Str}:decide (V.str i=V.str j)=(i==j):=by
 rw[jL];simp
def KO{i j:Array UInt8}:decide (V.Ic i=V.Ic j)=(i.toList==j.toList):=by
 rw[jL];cases i;cases j;simp
section
variable {a b c:Expr} {tb tc:TE}
def bN{Q:VK}(I:Inv X pins σ H s)(q:Q (.bl k) H)(e:k=k'):EP X pins σ Q (.bool k') s:=by
 subst e;exact⟨.bl k,H,I,rfl,q⟩
def cD:qf X (compareOp .Eq) VM:=by
 intro pins s σ H x y v u Q I rx ry h;obtain⟨hs,q⟩:=Ir.mp h;cases x with
 |cT=>
  cases rx;cases y with
  |cT=>cases ry;exact PySem.EqNone.eq_none_none (bN I q ∅)
  |bl j=>cases ry;exact PySem.EqNone.eq_none_bool (bN I q ∅)
  |int j=>obtain⟨t',rfl⟩:=ry;exact PySem.EqNone.eq_none_int (bN I q ∅)
  |str j=>obtain⟨t',rfl⟩:=ry;exact PySem.EqNone.eq_none_str (bN I q ∅)
  |_=>exact absurd (show false=true from hs) cg
 |bl i=>
  cases rx;cases y with
  |cT=>cases ry;exact PySem.EqNone.eq_bool_none (bN I q ∅)
  |bl j=>cases ry;exact eq_bool (bN I q O8)
  |str j=>obtain⟨t',rfl⟩:=ry;exact PySem.EqMixed.eq_bool_str (bN I q ∅)
  |_=>exact absurd (show false=true from hs) cg
 |int i=>
  obtain⟨t,rfl⟩:=rx;cases y with
  |cT=>cases ry;exact PySem.EqNone.eq_int_none (bN I q ∅)
  |int j=>obtain⟨t',rfl⟩:=ry;exact eq_int (bN I q KL)
  |str j=>obtain⟨t',rfl⟩:=ry;exact PySem.EqMixed.eq_int_str (bN I q ∅)
  |_=>exact absurd (show false=true from hs) cg
 |str i=>
  obtain⟨t,rfl⟩:=rx;cases y with
  |cT=>cases ry;exact PySem.EqNone.eq_str_none (bN I q ∅)
  |bl j=>cases ry;exact PySem.EqMixed.eq_str_bool (bN I q ∅)
  |int j=>obtain⟨t',rfl⟩:=ry;exact PySem.EqMixed.eq_str_int (bN I q ∅)
  |str j=>obtain⟨t',rfl⟩:=ry;exact eq_str (bN I q KN)
  |_=>exact absurd (show false=true from hs) cg
 |Ic i=>
  obtain⟨t,rfl⟩:=rx;cases y with
  |Ic j=>obtain⟨t',rfl⟩:=ry;exact PySem.W.eq_bytes (bN I q KO)
  |_=>exact absurd (show false=true from hs) cg
 |_=>cases y<;>exact absurd (show false=true from hs) cg
def BK:qf X (compareOp .NotEq) rNe:=by
 intro pins s σ H x y v u Q I rx ry h;obtain⟨hs,q⟩:=Ir.mp h;cases x with
 |cT=>
  cases rx;cases y with
  |cT=>cases ry;exact PySem.EqNone.ne_none_none (bN I q ∅)
  |bl j=>cases ry;exact PySem.EqNone.ne_none_bool (bN I q ∅)
  |int j=>obtain⟨t',rfl⟩:=ry;exact PySem.EqNone.ne_none_int (bN I q ∅)
  |str j=>obtain⟨t',rfl⟩:=ry;exact PySem.EqNone.ne_none_str (bN I q ∅)
  |_=>exact absurd (show false=true from hs) cg
 |bl i=>
  cases rx;cases y with
  |cT=>cases ry;exact PySem.EqNone.ne_bool_none (bN I q ∅)
  |bl j=>cases ry;exact ne_bool (bN I q (b_ not O8))
  |str j=>obtain⟨t',rfl⟩:=ry;exact PySem.EqMixed.ne_bool_str (bN I q ∅)
  |_=>exact absurd (show false=true from hs) cg
 |int i=>
  obtain⟨t,rfl⟩:=rx;cases y with
  |cT=>cases ry;exact PySem.EqNone.ne_int_none (bN I q ∅)
  |int j=>obtain⟨t',rfl⟩:=ry;exact ne_int (bN I q (b_ not KL))
  |str j=>obtain⟨t',rfl⟩:=ry;exact PySem.EqMixed.ne_int_str (bN I q ∅)
  |_=>exact absurd (show false=true from hs) cg
 |str i=>
  obtain⟨t,rfl⟩:=rx;cases y with
  |cT=>cases ry;exact PySem.EqNone.ne_str_none (bN I q ∅)
  |bl j=>cases ry;exact PySem.EqMixed.ne_str_bool (bN I q ∅)
  |int j=>obtain⟨t',rfl⟩:=ry;exact PySem.EqMixed.ne_str_int (bN I q ∅)
  |str j=>obtain⟨t',rfl⟩:=ry;exact ne_str (bN I q (b_ not KN))
  |_=>exact absurd (show false=true from hs) cg
 |Ic i=>
  obtain⟨t,rfl⟩:=rx;cases y with
  |Ic j=>obtain⟨t',rfl⟩:=ry;exact PySem.W.ne_bytes (bN I q (b_ not KO))
  |_=>exact absurd (show false=true from hs) cg
 |_=>cases y<;>exact absurd (show false=true from hs) cg
def yx:qf X (compareOp .Lt) (O5 λi j=>.bl (decide (i<j))):=Tz λ_ _ _ _ _ _ _ q=>lt_int q
def jQ:qf X (compareOp .LtE) (O5 λi j=>.bl (decide (i<=j))):=Tz λ_ _ _ _ _ _ _ q=>le_int q
def vt:qf X (compareOp .Gt) (O5 λi j=>.bl (decide (j<i))):=Tz λ_ _ _ _ _ _ _ q=>gt_int q
def FT:qf X (compareOp .GtE) (O5 λi j=>.bl (decide (j<=i))):=Tz λ_ _ _ _ _ _ _ q=>ge_int q
def O9:qf X (compareOp .Is) (λx y H Q=>y=.cT/\Q (.bl (decide (x=.cT))) H):=by
 intro pins s σ H x y v u Q I rx ry h;obtain⟨rfl,q⟩:=h;cases ry;refine is_none_gen (bN I q ?_);cases x<;>first
  |(cases rx;rfl)
  |(obtain⟨t,rfl⟩:=rx;rfl)
def KP:qf X (compareOp .IsNot) (λx y H Q=>y=.cT/\Q (.bl (!decide (x=.cT))) H):=by
 intro pins s σ H x y v u Q I rx ry h;obtain⟨rfl,q⟩:=h;cases ry;refine isnot_none_gen (bN I q ?_);cases x<;>first
  |(cases rx;rfl)
  |(obtain⟨t,rfl⟩:=rx;rfl)
def aG(b:Expr)(h:op≠ .In:=by decide)(h2:op≠ .NotIn:=by decide):behindInMarks op b=false:=yo b h h2
def aU{r:R2}(ho:qf X (compareOp op) r)(ha:PE X a ta)(hb:PE X b tb)(hm:behindInMarks op b=false):PE X (.Compare a [op] [b] pos) (Tv r ta tb):=by
 intro pins s σ H Q I h;exact wpAny_Compare1 (Tw ha hb I h λv u s2 x y H2 I2 rx ry q=>ho pins s2 σ H2 x y v u Q I2 rx ry q) hm
def BL(t:TE):TT:=λσ H Q=>t σ H λx H'=>eB x λk=>Q k H'
def bq{r:R2}(ho:qf X (compareOp op) r)(ha:PE X a ta)(hb:PE X b tb)(hm:behindInMarks op b=false):PT X (.Compare a [op] [b] pos) (BL (Tv r ta tb)):=by
 intro pins s σ H Q I h;refine wpAny_isTrue_Compare1 (cI (ha pins s σ H _ I h) λv s1 acS=>?_) hm;obtain⟨x,H1,I1,r1,q1⟩:=acS;refine cI (hb pins s1 σ H1 _ I1 q1) λu s2 acT=>?_;obtain⟨y,H2,I2,r2,q2⟩:=acT;refine cI (ho pins s2 σ H2 x y v u _ I2 r1 r2 q2) λc s3 acU=>?_;obtain⟨z,H3,I3,r3,q3⟩:=acU;obtain⟨k,rfl,q3⟩:=kU.mp q3;cases r3;exact mx ⟨H3,I3,q3⟩
def DA(r r':R2)(ta tb tc:TE):TE:=λσ H Q=>ta σ H λx H1=>tb σ H1 λy H2=>r x y H2 λz H3=>eB z λk=>
 if k=true then tc σ H3 λw' H4=>r' y w' H4 Q else Q (.bl false) H3
def yy{W_:CmpOp}{r r':R2}(ho:qf X (compareOp op) r)(xD:qf X (compareOp W_) r')(ha:PE X a ta)(hb:PE X b tb)(hc:PE X c tc)(hm:lastMarks [op,W_] [b,c]=false:=by with_unfolding_all rfl):PE X (.Compare a [op,W_] [b,c] pos) (DA r r' ta tb tc):=by
 intro pins s σ H Q I h;refine Compare_chain (cI (ha pins s σ H _ I h) λv s1 acV=>?_) hm;obtain⟨x,H1,I1,r1,q1⟩:=acV;refine chain_link (cI (hb pins s1 σ H1 _ I1 q1) λu s2 acW=>?_);obtain⟨y,H2,I2,r2,q2⟩:=acW;refine cI (ho pins s2 σ H2 x y v u _ I2 r1 r2 q2) λd s3 acX=>?_;obtain⟨z,H3,I3,r3,q3⟩:=acX;obtain⟨k,rfl,q3⟩:=kU.mp q3;cases r3;refine mx ?_;cases k with
 |false=>exact ite_ff ⟨.bl false,H3,I3,rfl,q3⟩|true=>exact ite_tt (chain_last (cI (hc pins s3 σ H3 _ I3 q3) λw' s4 ⟨z',H4,I4,r4,q4⟩=>xD pins s4 σ H4 y z' u w' Q I4 r2 r4 q4))
def yz{W_:CmpOp}{r r':R2}(ho:qf X (compareOp op) r)(xD:qf X (compareOp W_) r')(ha:PE X a ta)(hb:PE X b tb)(hc:PE X c tc)(hm:lastMarks [op,W_] [b,c]=false:=by with_unfolding_all rfl):PT X (.Compare a [op,W_] [b,c] pos) (BL (DA r r' ta tb tc)):=by
 intro pins s σ H Q I h;refine isTrue_chain (cI (ha pins s σ H _ I h) λv s1 acY=>?_) hm;obtain⟨x,H1,I1,r1,q1⟩:=acY;refine test_link (cI (hb pins s1 σ H1 _ I1 q1) λu s2 acZ=>?_);obtain⟨y,H2,I2,r2,q2⟩:=acZ;refine cI (ho pins s2 σ H2 x y v u _ I2 r1 r2 q2) λd s3 ac0=>?_;obtain⟨z,H3,I3,r3,q3⟩:=ac0;obtain⟨k,rfl,q3⟩:=kU.mp q3;cases r3;refine mx ?_;cases k with
 |false=>
  exact ite_ff ⟨H3,I3,q3⟩
 |true=>
  refine ite_tt (test_last (cI (hc pins s3 σ H3 _ I3 q3) λw' s4 ac1=>?_));obtain⟨z',H4,I4,r4,q4⟩:=ac1;refine cI (xD pins s4 σ H4 y z' u w' _ I4 r2 r4 q4) λd' s5 ac2=>?_;obtain⟨z2,H5,I5,r5,q5⟩:=ac2;obtain⟨k2,rfl,q5⟩:=kU.mp q5;cases r5;exact mx ⟨H5,I5,q5⟩
def DB:(sizeLine:Nat)<2^63:=by rw[cE];decide
def O_(b:Expr):Prop:=∀o i,subscripted b false o i=operate [o,i] (getItem o i)
def kx(ha:PE X a ta)(hb:PE X b tb)(hs:O_ b):
  PE X (.Subscript a b pos) (Tv (λx y H Q=>∃z i c,x=.str z/\y=.int i/\0<=i/\i<2^63/\i<z.length/\z.cps[i.toNat]?=some c/\Q (.str ⟨#[c]⟩) H) ta tb):=by
 intro pins s σ H Q I h;refine Subscript_ (Tw ha hb I h λv u s2 x y H2 I2 rx ry q=>?_);obtain⟨z,i,c,rfl,rfl,h0,h63,h1,hc,q⟩:=q;obtain⟨t,rfl⟩:=rx;obtain⟨t',rfl⟩:=ry;have e:=PySem.StrLaws.seqIndex_nonneg h0 h1;exact tail_any (mK s2 z t) slot_str_getitem.lookup (getItem_str (by
  have e1:decide (i< -(2^63:Int))=false:=cV ();have e2:decide (i≥2^63)=false:=cV ();rw[e1,e2] <;>rfl) (by rw[e];exact hc) ⟨.str ⟨#[c]⟩,H2,I2.tok _,⟨_,rfl⟩,q⟩) (hs _ _)
def vals1{x:V}(r:Vals [x] us):∃u,us=[u]/\RelV x u:=by
 cases r with
 |cons r1 r2=>cases r2;exact⟨_,rfl,r1⟩
def lM:ku X (.builtin "ord") (λxs H Q=>eT xs λx=>x.length=1/\Q (.int (x.cps.getD 0 0:Nat)) H):=by
 intro pins s σ H xs us Q I r h;obtain⟨x,rfl,hz,q⟩:=Du.mp h;obtain⟨u,rfl,t,rfl⟩:=vals1 r;exact ord_of_one hz ⟨.int _,H,I.tok _,⟨_,rfl⟩,q⟩
end
structure MU(h:Heap)(x dx C:Addr)(mA:Str->Option Value):Prop where
 obj:h.get? x=some (PySem.W.instObj C dx)
 ns:h.Ns1 dx mA
 ne:dx≠x
def MV(n:h.Ns1 dx mA):∃od,h.get? dx=some od/\∀name,PySem.W.lookIn name od=some (mA name):=by
 obtain⟨o,es,ep,ho,hd,hk,_,hm⟩:=n;refine⟨o,ho,λname=>?_⟩;have e:=hm name;unfold nsFind findBy at e;rw[<-Array.find?_toList]at e;unfold PySem.W.lookIn;rw[hd];dsimp only;split
 .rename_i y q;rw[q]at e;exact b_ some e
 .rename_i q;rw[q]at e;have a:es.toList.any (·.refKey)=false:=by
   rw[any_eq_false];intro y hy;obtain⟨z,t,Xa⟩:=hk y (Array.mem_toList_iff.mp hy);simp[DictEntry.refKey,Xa]
  have a':¬es.toList.any (·.refKey)=true:=by rw[a];exact cg
  rw[af a'];exact b_ some e
def MU.look{x C:Addr}(I:MU h x dx C mA):∃od,PySem.W.InstAt h x (PySem.W.instObj C dx) C (some od)/\∀name,PySem.W.lookIn name od=some (mA name):=
 let⟨od,ho,hl⟩:=MV I.ns
 ⟨od,⟨I.obj,rfl,rfl,ho⟩,hl⟩
section
variable {x C:Addr} {mA:Str->Option Value} {v:Value}
def get_map(X:K.In s.heap)(I:MU s.heap x dx C mA)(hg:PySem.W.plainGet K C name=true)(hh:PySem.W.hasDictIn K C=true)(ha:PySem.W.findIn K (.ref C) name=some none)(hv:mA name=some v)(hv':PySem.W.handedIn v=true)(h:Q v {s with toks:=s.toks+1}):
  wpAny (model prog w) A (getAttr (.ref x) name expr) Q E s:=by
 obtain⟨od,J,hl⟩:=I.look;exact PySem.W.get_value X J (PySem.W.plainGet_of hg).1 (PySem.W.findObj_own hh ha rfl (by rw[hl,hv])) hv' h
def TC{ns:List Str}{Q:Unit->Shared->Prop}(X:K.In s.heap)(I:MU s.heap x dx C mA)(hs:PySem.W.findIn K (.ref C) "__setattr__"=some (some (.builtin "object.__setattr__")))(hp:PySem.W.plainOver K C=true)(ht:PySem.W.takerIn K C name=some none)(hh:PySem.W.hasDictIn K C=true)(hw:PySem.Within mA ns)(fY:ns.length<=sizeLine)(h:∀h',MU h' x dx C (λy=>if y=name then some v else mA y)->Heap.SameBut dx s.heap h'->Q Unit.unit {s with heap:=h',toks:=s.toks+2}):
  wpAny (model prog w) A (setAttr (.ref x) name v) Q E s:=by
 obtain⟨od,J,hl⟩:=I.look;refine PySem.W.set_plain X J hs (PySem.W.osa_open (r:=none) X J hp ht λb=>?_);obtain⟨cd,hc,Iq⟩:=PySem.W.any_some hh;have hx:=I.obj;refine aj (ay (aj (aj (wpAny_loadPart hx (aj (PySem.W.Looks.here (PySem.W.looks_clsIn X hc) ?_))))));rw[Iq];refine ay (aj (ay (aj ?_)));refine wpAny_nsSet1 I.ns λh' Y_ Tt=>?_;obtain⟨oD,esD,epD,hoD,hdD,hcD⟩:=Y_.count (PySem.Within.cons name v hw);refine aj (wpAny_lookBehind hoD (by rw[hdD];exact pastItsLine_dict (aX hcD (by rw[aZ];omega))) ?_);exact ay (h _ ⟨(Tt.2 _ (c6 I.ne)).trans I.obj,Y_,I.ne⟩ Tt)
def FU(X:K.In s.heap)(hm:PySem.W.makesIn K C=true)(hi:PySem.W.findIn K (.ref C) "__init__"=some (some (.ref f)))(hf:PySem.W.typeIn K (.ref f)=some (.type "function"))(h:codeAny (model prog w) (A.under (.builtin "type.__call__" ⟨.ref C::vs,kw⟩)) (.call (.ref f) ⟨.ref (s.heap.objs.size+1)::vs,kw⟩) (PySem.W.InitBack (s.heap.objs.size+1) R)
   {s with heap:=(s.heap.push PySem.W.emptyDict).push (PySem.W.instObj C s.heap.objs.size)}):
  codeAny (model prog w) A (.call (.ref C) ⟨vs,kw⟩) R s:=by
 obtain⟨hh,g,d,t,os⟩:=s;exact PySem.W.make_core (PySem.W.makes_of X hm) (PySem.W.looks_findIn X hi) (λself=>PySem.W.bind_fn X self hf) (.inl rfl) h
end
noncomputable def gW(f:Str)(v:V):List (Str×V)->List (Str×V)
 |[]=>[(f,v)]|(g,x)::r=>if g=f then(g,v)::r else(g,x)::gW f v r
theorem vv f g v:∀fs:List (Str×V),(gW f v fs).lookup g=if g=f then some v else fs.lookup g
 |[]=>by
  show List.lookup g [(f,v)]=_;by_cases h:g=f
  .have hb:=beq_iff_eq.mpr h;simp only[List.lookup,hb,if_pos h]
  .have hb:=beq_eq_false_iff_ne.mpr h;simp only[List.lookup,hb,if_neg h]
 |(k,x)::r=>by
  have ih:=vv f g v r;rw[show gW f v ((k,x)::r)=(if k=f then(k,v)::r else(k,x)::gW f v r)from rfl];by_cases hk:k=f
  .rw[ag hk];by_cases h:g=k
   .have hb:=beq_iff_eq.mpr h;simp only[List.lookup,hb,if_pos (h.trans hk)]
   .have hb:=beq_eq_false_iff_ne.mpr h;simp only[List.lookup,hb,if_neg (λe:g=f=>h (e.trans hk.symm))]
  .rw[af hk];by_cases h:g=k
   .have hb:=beq_iff_eq.mpr h;simp only[List.lookup,hb,if_neg (λe:g=f=>hk (h.symm.trans e))]
   .have hb:=beq_eq_false_iff_ne.mpr h;simp only[List.lookup,hb];exact ih
theorem ux f v:∀fs:List (Str×V),f∈(gW f v fs).map (·.1)/\∀g,g∈fs.map (·.1)->g∈(gW f v fs).map (·.1)
 |[]=>⟨by simp[gW],λg h=>by simp at h⟩
 |(k,x)::r=>by
  obtain⟨i1,i2⟩:=ux f v r;rw[show gW f v ((k,x)::r)=(if k=f then(k,v)::r else(k,x)::gW f v r)from rfl];by_cases hk:k=f
  .subst hk;exact⟨by simp,λg h=>‹h›⟩
  .rw[af hk];refine⟨?_,λg h=>?_⟩
   .exact bJ _ i1
   .obtain e|e:=mem_cons.mp h
    .exact mem_cons.mpr (.inl e)
    .exact bJ _ (i2 g e)
theorem vw f v:∀fs:List (Str×V),(gW f v fs).length<=fs.length+1
 |[]=>by simp[gW]
 |(k,x)::r=>by
  have ih:=vw f v r;rw[show gW f v ((k,x)::r)=(if k=f then(k,v)::r else(k,x)::gW f v r)from rfl];by_cases hk:k=f
  .rw[ag hk,aZ,aZ];omega
  .rw[af hk,aZ,aZ];omega
def rj.some_of{o:Option Value}(r:rj (some v) o):∃u,o=some u/\RelV v u:=by
 cases o with
 |none=>exact(show False from r).elim
 |some u=>exact⟨u,rfl,r⟩
def MX(r:RelV v u):PySem.W.handedIn u=true:=by
 cases v with
 |cT=>cases(show u=Value.none from r);rfl
 |bl b=>cases(show u=Value.bool b from r);rfl
 |int i=>obtain⟨t,e⟩:=(show∃t,u=Value.int i t from r);cases e;rfl
 |str x=>obtain⟨t,e⟩:=(show∃t,u=Value.str x t from r);cases e;rfl
 |Ic b=>obtain⟨t,e⟩:=(show∃t,u=Value.bytes b t from r);cases e;rfl
 |flt b=>obtain⟨t,e⟩:=(show∃t,u=Value.float b t from r);cases e;rfl
 |ref a=>cases(show u=Value.ref a from r);rfl
 |ty n=>cases(show u=Value.type n from r);rfl
section
variable {C:Addr} {fs Y6:List (Str×V)}
def KQ(bL:mO P w H h)(e:H a=some (.ins C dx fs)):∃mA,MU h a dx C mA/\(∀f,rj (fs.lookup f) (mA f))/\PySem.Within mA (fs.map (·.1))/\fs.length<=1000/\H dx=some (.own a):=by
 obtain⟨d,z,ne,ob,mA,n,r,q⟩:=(show dF P w H h a (.ins C dx fs)from bL a _ e);exact⟨mA,⟨ob,n,ne⟩,r,q,z,d⟩
end
structure FV(K:PySem.W.Frag)(C:Addr):Prop where
 pg:PySem.W.plainGet K C Str.empty=true
 hd:PySem.W.hasDictIn K C=true
 po:PySem.W.plainOver K C=true
 sa:PySem.W.findIn K (.ref C) "__setattr__"=some (some (.builtin "object.__setattr__"))
def FV.get(c:FV K C) f:PySem.W.plainGet K C f=true:=c.pg
def cG(K:PySem.W.Frag)(C:Addr)(f:Str):Prop:=PySem.W.findIn K (.ref C) f=some none
def cG.ZZ{f:Str}(n:cG K C f):PySem.W.takerIn K C f=some none:=by
 unfold PySem.W.takerIn;rw[show PySem.W.findIn K (.ref C) f=some none from n];rfl
section
variable {C:Addr} {fs:List (Str×V)} {f:Str}
def Iz{b:Bool}(I:Inv X pins σ H s)(e:H a=some (.ins C dx fs))(c:FV X.K C)(n:cG X.K C f)(l:fs.lookup f=some v)(h:∀u s',Inv X pins σ H s'->RelV v u->Q u s'):wpAny (model X.prog X.w) A (getAttr (.ref a) f b) Q E s:=by
 obtain⟨mA,O,r,_,_,_⟩:=KQ I.bL e;obtain⟨u,hu,ru⟩:=rj.some_of (v:=v) (by rw[<-l];exact r f);exact get_map I.FC O (c.get f) c.hd n hu (MX ru) (h u _ (I.tok _) ru)
def IA{Q:Unit->Shared->Prop}(I:Inv X pins σ H s)(e:H a=some (.ins C dx fs))(c:FV X.K C)(n:cG X.K C f)(hl:fs.length<1000)(ry:RelV y u)(h:∀s',Inv X pins σ (upd H a (.ins C dx (gW f y fs))) s'->Q Unit.unit s'):wpAny (model X.prog X.w) A (setAttr (.ref a) f u) Q E s:=by
 obtain⟨mA,O,r,wi,_,ho⟩:=KQ I.bL e;have hz:(fs.map (·.1)).length<=sizeLine:=by rw[az,cE];omega
 refine TC I.FC O c.sa c.po n.ZZ c.hd wi hz λh' O' sb=>h _ ?_;have hd:∃o,h'.get? dx=some o:=let⟨o,_,_,e',_⟩:=O'.ns;⟨o,e'⟩;refine I.write (x:=a) (by rw[e];exact True.intro) (.inr ho) (λb q hb z=>(sb.2 b hb).trans z) hd ?_;refine⟨by rw[aB O.ne];exact ho,?_,O.ne,O'.obj,_,O'.ns,λg=>?_,λg hg=>?_⟩
 .have:=vw f y fs;omega
 .rw[vv];by_cases q:g=f
  .rw[ag q,ag q];exact ry
  .rw[af q,af q];exact r g
 .by_cases q:g=f
  .rw[q];exact(ux f y fs).1
  .refine(ux f y fs).2 g (wi g λz=>hg ?_);show(if g=f then some u else mA g)=none;rw[af q];exact z
def Inv.made(I:Inv X pins σ H s):Inv X pins σ (upd (upd H s.heap.objs.size (.own (s.heap.objs.size+1))) (s.heap.objs.size+1) (.ins C s.heap.objs.size []))
  {s with heap:=(s.heap.push PySem.W.emptyDict).push (PySem.W.instObj C s.heap.objs.size)} :=by
 have e1:(s.heap.push PySem.W.emptyDict).get? s.heap.objs.size=some PySem.W.emptyDict:=bw s.heap rfl;have e2:((s.heap.push PySem.W.emptyDict).push (PySem.W.instObj C s.heap.objs.size)).get? (s.heap.objs.size+1)=some (PySem.W.instObj C s.heap.objs.size):=by
  have:=bw (s.heap.push PySem.W.emptyDict) (o:=PySem.W.instObj C s.heap.objs.size) rfl
  rwa [dU]at this
 have e3:(s.heap.push PySem.W.emptyDict).Ns s.heap.objs.size (λ_=>none):=⟨PySem.W.emptyDict, #[],_,e1,rfl,(λe he=>absurd he ∅),λ_=>rfl⟩;have I1:=I.laid (a:=s.heap.objs.size) (o:=.own (s.heap.objs.size+1)) (t':=s.toks) (λb u q=>bR _ q) (aL _) ⟨_,e1⟩;refine I1.laid (a:=s.heap.objs.size+1) (t':=s.toks) (λb u q=>bR _ q) (sP (dU _ _)) ?_;have ne:s.heap.objs.size≠s.heap.objs.size+1:=bB (kO _);refine⟨by rw[aB ne,ak],cj _,ne,e2,λ_=>none,(Heap.Ns1.of_empty e3).at λo q=>bR _ q,λ_=>True.intro,λy hy=>absurd rfl hy⟩
def TF(hb:attributeBase e f env (eval e env)=eval e env)(h:wpAny (model prog w) A (eval e env) (λo s₁=>wpAny (model prog w) A (getAttr o f true) Q E s₁) E s):wpAny (model prog w) A (eval (.Attribute e f pos) env) Q E s:=
 Attribute_any_ h (by rw[arm_eval_Attribute,hb])
end
def oz(K:PySem.W.Frag)(ta:TE)(f:Str):TE:=λσ H Q=>ta σ H λx H1=>eR x λa=>∃C dx fs,H1 a=some (.ins C dx fs)/\FV K C/\cG K C f/\∃v,fs.lookup f=some v/\Q v H1
def ac3(K:PySem.W.Frag)(ta tv:TE)(f:Str):TS:=λD σ H=>tv σ H λy H1=>ta σ H1 λx H2=>∃a C dx fs,x=.ref a/\H2 a=some (.ins C dx fs)/\FV K C/\cG K C f/\fs.length<1000/\
 D.nx σ (upd H2 a (.ins C dx (gW f y fs)))
section
variable {o value:Expr} {f:Str} {pos':Pos} {tv:TE}
def bC(he:PE X e ta)(hb:attributeBase e f X.env (eval e X.env)=eval e X.env):PE X (.Attribute e f pos) (oz X.K ta f):=by
 intro pins s σ H Q I h;refine TF hb (cI (he pins s σ H _ I h) λu s1 ac4=>?_);obtain⟨x,H1,I1,rx,q0⟩:=ac4;obtain⟨a,ex,C,dx,fs,ea,c,n,v,l,q⟩:=jO.mp q0;subst ex;obtain rfl:u=Value.ref a:=rx;exact Iz I1 ea c n l λu' s2 I2 ru=>⟨v,H1,I2,ru,q⟩
def i6(ha:PE X o ta)(hv:PE X value tv)(hs:swapsWith value (some (.Attribute o f pos')) pos.line X.env=pure false):PS X (.Assign [.Attribute o f pos'] value pos) (ac3 X.K ta tv f):=by
 intro pins s σ H D I h;refine plainObj_wpAny_Assign_Attribute (cI (hv pins s σ H _ I h) λu s1 ac5=>?_) hs;obtain⟨y,H1,I1,ry,q⟩:=ac5;refine cI (ha pins s1 σ H1 _ I1 q) λov s2 ac6=>?_;obtain⟨x,H2,I2,rx,a,C,dx,fs,ex,ea,c,n,l,q2⟩:=ac6;subst ex;obtain rfl:ov=Value.ref a:=rx;exact IA I2 ea c n l ry λs3 I3=>⟨σ,_,I3,q2⟩
end
structure dX(k:Nat)(A:Around):Prop where
 hd:A.handled=none
 dp:A.depth+3*k+5<recursionLimit
 un:A.units+16*k+200<cLine
def dX.mono(r:dX k A)(h:j<=k):dX j A:=⟨r.hd,by have:=r.dp;omega,by have:=r.un;omega⟩
theorem dX.deeper(r:dX (k+1) A) env:dX k (A.deeper env):=
 ⟨r.hd,by have:=r.dp;show A.depth+1+3*k+5<_;omega,by have:=r.un;show A.units+3+16*k+200<_;omega⟩
def yA:(A.under (.builtin "type.__call__" ⟨.ref C::us,kw⟩)).depth=A.depth+1:=by
 first|rfl|simp[Around.under,Code.weight,Code.isCreation,Code.isGuard,Code.isCaller,Code.frames,Code.isFrame,guardIds]
def yB:(A.under (.builtin "type.__call__" ⟨.ref C::us,kw⟩)).units=A.units+1:=by
 first|rfl|simp[Around.under,Code.cUnits,Code.frames,Code.isFrame]
def dX.make(r:dX (k+1) A) C us kw:dX k (A.under (.builtin "type.__call__" ⟨.ref C::us,kw⟩)):=
 ⟨r.hd,by have:=r.dp;rw[yA];omega,by have:=r.un;rw[yB];omega⟩
theorem dX.depth(r:dX k A):A.depth<recursionLimit:=by have:=r.dp;omega
theorem dX.units(r:dX k A):A.units+64<cLine:=by have:=r.un;omega
def IB:TA:=λ_ H Q=>Q [] H
def vx(ta:TE)(tr:TA):TA:=λσ H Q=>ta σ H λx H1=>tr σ H1 λxs H2=>Q (x::xs) H2
section
variable {es:List Expr} {t:TA}
def ai:PA X [] IB:=λ_ _ _ _ H Q I h=>rh ⟨[],H,I,.nil,h⟩
def ae(ha:PE X e te)(hr:PA X es t)(hs:starEach (e::es) X.env=(false,eval e X.env)::starEach es X.env:=by rfl):PA X (e::es) (vx te t):=by
 intro pos pins s σ H Q I h;rw[hs];show wpAny _ _ (spliced ((false,eval e X.env)::backTo pos (starEach es X.env))) _ _ s;refine mw (cI (ha pins s σ H _ I h) λu s1 ac7=>?_);obtain⟨x,H1,I1,r1,q1⟩:=ac7;refine cI (hr pos pins s1 σ H1 _ I1 q1) λus s2 ac8=>?_;obtain⟨xs,H2,I2,r2,q2⟩:=ac8;exact⟨x::xs,H2,I2,.cons r1 r2,q2⟩
def Xb(t:TA):TE:=λσ H Q=>t σ H λxs H1=>xs.length<=sizeLine/\∀p,H1 p=none->Q (.ref p) (upd H1 p (.tup xs))
def oA(t:TA):TE:=λσ H Q=>t σ H λxs H1=>xs.length<=sizeLine/\∀p,H1 p=none->Q (.ref p) (upd H1 p (.lst xs))
def yC{x1}(h:PA X es t):PE X (.Tuple es x1 pos) (Xb t):=by
 intro pins s σ H Q I hq;refine wpAny_Tuple_spliced (cI (h pos pins s σ H _ I hq) λus s1 ⟨xs,H1,I1,r,z,q⟩=>⟨by rw[<-r.length];exact z,?_⟩);have hf:=I1.bL.fresh (aL _);refine⟨.ref s1.heap.objs.size,upd H1 s1.heap.objs.size (.tup xs),I1.laid (λb u e=>bR _ e) (aL _) ?_,rfl,q _ hf⟩;exact⟨z,us,r,⟨_,bw _ rfl,rfl,_,rfl⟩⟩
def gv(h:PA X es t):PE X (.List es pos) (oA t):=by
 intro pins s σ H Q I hq;refine wpAny_List_spliced (cI (h pos pins s σ H _ I hq) λus s1 ⟨xs,H1,I1,r,z,q⟩=>⟨by rw[<-r.length];exact z,?_⟩);have hf:=I1.bL.fresh (aL _);refine⟨.ref s1.heap.objs.size,upd H1 s1.heap.objs.size (.lst xs),I1.laid (λb u e=>bR _ e) (aL _) ?_,rfl,q _ hf⟩;exact⟨z,us,0,r,bw _ rfl⟩
end
abbrev Sp:=List V->Hp->VK->XK->Prop
variable {sp:L2.Sp}
abbrev OG:=List Env->Hp->Shared->XK->Value->Shared->Prop
variable {CX:L2.OG}
structure A7(P:Program)(w:World)(K:PySem.W.Frag)(mg:Str->Option Value)(base:Heap)(A:Around)(outer:List Env)(s:Shared)(H:Hp):Prop where
 frames:A.frames=some outer
 mod:Mod K mg base
 bs:∀b o,base.get? b=some o->s.heap.get? b=some o/\H b=none
 MO:base.objs.size<=s.heap.objs.size
 rk:s.heap.FunFrames base outer
 Sz:∀b∈FA outer,H b=none
 bL:mO P w H s.heap
 bare:AllBare s.gens
def CE(outer:List Env)(P:Program)(w:World)(H:Hp)(s:Shared)(Q:VK)(u:Value)(s':Shared):Prop:=
 ∃v H',s'.os=s.os/\AllBare s'.gens/\Un (FA outer) [] H H' s.heap s'.heap/\mO P w H' s'.heap/\RelV v u/\Q v H'
def CR(CX:OG)(outer:List Env)(P:Program)(w:World)(H:Hp)(s:Shared)(Q:VK)(E:XK)(r:Result)(s':Shared):Prop:=
 match r with
 |.ok (.ret u)=>CE outer P w H s Q u s'|.ok _=>False
 |.error e=>CX outer H s E e s'
structure oa(P:Program)(w:World)(K:PySem.W.Frag)(mg:Str->Option Value)(base:Heap)(CX:OG)(k:Nat)(f:Addr)(fd:FuncData)(ps:List Str)(sp:Sp):Prop where
 len:∀vs H Q E,sp vs H Q E->vs.length=ps.length
 run:∀(A:Around)(outer:List Env)(s:Shared)(H:Hp)(args:Args)(us:List Value)(vs:List V)(Q:VK)(E:XK),dX k A->A7 P w K mg base A outer s H->BindsTo s fd args (ps.zip us)->Vals vs us->sp vs H Q E->
  codeAny (model P w) A (.call (.ref f) args) (CR CX outer P w H s Q E) s
def A7.make(e:A7 P w K mg base A outer s H) C us kw:
  A7 P w K mg base (A.under (.builtin "type.__call__" ⟨.ref C::us,kw⟩)) outer s H:=⟨by first|exact e.frames|(simpa[Around.under,Code.envs,Code.isFrame,pushEnvs]using e.frames),e.mod,e.bs,e.MO,e.rk,e.Sz,e.bL,e.bare⟩
section
variable {s':Shared}
def Inv.DC(I:Inv X pins σ H s):A7 X.prog X.w X.K X.mg X.base X.A X.stack s H:=
 ⟨I.ok.frames,I.ok.mod,I.bs,aX I.ok.MO I.sz,I.stack,I.Dt,I.bL,I.bare⟩
def Inv.after{Q:VK}(I:Inv X pins σ H s)(h:CE X.stack X.prog X.w H s Q u s'):EP X pins σ Q u s':=by
 obtain⟨v,H',os,bare,un,bL,r,q⟩:=h;obtain⟨hh,g,d,t,os'⟩:=s';obtain rfl:os'=s.os:=os;exact⟨v,H',I.call (g':=g) (d':=d) (t':=t) (ch:=[]) un bL bare (λb z=>absurd z ∅),r,q⟩
end
def BM(sp:Sp)(sY:List V)(E:XK)(t:TA):TE:=λσ H Q=>t σ H λvs H1=>sp (vs++sY) H1 Q E
def BO(C:Addr)(sp:Sp)(sY:List V)(E:XK)(t:TA):TE:=λσ H Q=>t σ H λvs H1=>∀x dx,H1 x=none->H1 dx=none->dx≠x->
 sp (.ref x::(vs++sY)) (upd (upd H1 dx (.own x)) x (.ins C dx [])) (λv H2=>v=.cT/\Q (.ref x) H2) E
def Binds(K:PySem.W.Frag)(fd:FuncData)(ps:List Str)(ds:List Value):Prop:=
 ∀(s:Shared)(us:List Value),K.In s.heap->(us++ds).length=ps.length->BindsTo s fd ⟨us,[]⟩ (ps.zip (us++ds))
def Binds.all(h:∀us:List Value,us.length=ps.length->bindArgs fd ⟨us,[]⟩=pure (ps.zip us)):Binds K fd ps []:=λs us _ hl=>by
 rw[hZ]at hl⊢;exact .of_eq (h us hl)
def Passes(CX:OG)(X:Cx)(E:XK):Prop:=∀(pins:List (Addr×Obj))(σ:St)(H:Hp)(s:Shared)(e:Value)(s':Shared),Inv X pins σ H s->CX X.stack H s E e s'->X.xe e s'
section
variable {k:Nat} {C:Addr} {sY:List V} {ds:List Value} {E:XK} {m:Str} {p:Pos} {o:Expr} {es:List Expr} {t:TA}
def Xc{Q:VK}{vs:List V}(F:oa X.prog X.w X.K X.mg X.base CX k f fd ps sp)(hr:dX k X.A)(hb:Binds X.K fd ps ds)(hd:Vals sY ds)(hx:Passes CX X E)(I:Inv X pins σ H s)(r:Vals vs us)(h:sp (vs++sY) H Q E):wpAny (model X.prog X.w) X.A (call (.ref f) us) (EP X pins σ Q) X.xe s:=by
 have r2:=r.append hd;have hl:(us++ds).length=ps.length:=by rw[<-r2.length];exact F.len _ _ _ _ h
 refine wpAny_call (jo (F.run X.A X.stack s H ⟨us,[]⟩ (us++ds) (vs++sY) Q E hr I.DC (hb s us I.FC hl) r2 h) λr s' hq=>?_);cases r with
 |error e=>exact hx pins σ H s e s' I hq
 |ok fl=>
  cases fl with
  |ret u=>exact I.after hq|next=>exact False.elim hq
  |brk=>exact False.elim hq|cont=>exact False.elim hq
def TH(F:oa X.prog X.w X.K X.mg X.base CX k f fd ps sp)(hr:dX k X.A)(hg:Gl X x)(hm:X.mg x=some (.ref f))(hk:PySem.W.keepIn X.K (.ref f)=true)(hb:Binds X.K fd ps ds)(hd:Vals sY ds)(hx:Passes CX X E)(ha:PA X (e::es) t)(DE:(x==("__debug__":Str))=false:=by decide)(he:starEach (e::es) X.env=(false,eval e X.env)::starEach es X.env:=by rfl)(iD:(backTo pos (starEach es X.env)).any (·.1)=false:=by rfl):
  PE X (.Call (.Name x p) (e::es) [] pos) (BM sp sY E t):=by
 intro pins s σ H Q I h;refine jG (qd I hg hm ?_ DE);refine PySem.W.callWith_K I.ok.mod.Tn hk (cI (ha pos pins s σ H _ I h) λus s1 ac9=>?_) he iD;obtain⟨vs,H1,I1,r,q⟩:=ac9;refine⟨I1.FC,?_⟩;exact Xc F hr hb hd hx I1 r q
structure Mk(K:PySem.W.Frag)(C f:Addr):Prop where
 makes:PySem.W.makesIn K C=true
 init:PySem.W.findIn K (.ref C) "__init__"=some (some (.ref f))
 fn:PySem.W.isFn K (.ref f)=true
 kp:PySem.W.keepIn K (.ref C)=true
def Pa{Q:VK}{vs:List V}(M:Mk X.K C f)(F:oa X.prog X.w X.K X.mg X.base CX k f fd ps sp)(hr:dX (k+1) X.A)(hb:Binds X.K fd ps ds)(hd:Vals sY ds)(hx:Passes CX X E)(I:Inv X pins σ H s)(r:Vals vs us)(h:∀x dx,H x=none->H dx=none->dx≠x->sp (.ref x::(vs++sY)) (upd (upd H dx (.own x)) x (.ins C dx [])) (λv H2=>v=.cT/\Q (.ref x) H2) E):
  wpAny (model X.prog X.w) X.A (call (.ref C) us) (EP X pins σ Q) X.xe s:=by
 have hq:=h (s.heap.objs.size+1) s.heap.objs.size (I.bL.fresh (pW _)) (I.bL.fresh (aL _)) (bB (kO _));have I2:=Inv.made (C:=C) I;have r2:Vals (V.ref (s.heap.objs.size+1)::(vs++sY)) (Value.ref (s.heap.objs.size+1)::(us++ds)):=.cons rfl (r.append hd);have hl:(Value.ref (s.heap.objs.size+1)::us++ds).length=ps.length:=by
  have e:=r2.length;rw[F.len _ _ _ _ hq]at e;exact e.symm
 refine wpAny_call (FU I.FC M.makes M.init (beq_iff_eq.mp M.fn) (jo (F.run _ X.stack _ _ ⟨Value.ref (s.heap.objs.size+1)::us,[]⟩ (Value.ref (s.heap.objs.size+1)::(us++ds)) _ _ E (hr.make C us [])
  (I2.DC.make C us []) (hb _ (Value.ref (s.heap.objs.size+1)::us) I2.FC hl) r2 hq) λr s' Pb=>?_))
 cases r with
 |error e=>exact hx pins σ _ _ e s' I2 Pb
 |ok fl=>
  cases fl with
  |ret u=>
   obtain⟨v,H',I3,rv,ev,q3⟩:=I2.after Pb;subst ev;exact⟨rv,⟨V.ref (s.heap.objs.size+1),H',I3,rfl,q3⟩⟩
  |next=>exact False.elim Pb|brk=>exact False.elim Pb
  |cont=>exact False.elim Pb
def TJ(M:Mk X.K C f)(F:oa X.prog X.w X.K X.mg X.base CX k f fd ps sp)(hr:dX (k+1) X.A)(hg:Gl X x)(hm:X.mg x=some (.ref C))(hb:Binds X.K fd ps ds)(hd:Vals sY ds)(hx:Passes CX X E)(ha:PA X (e::es) t)(DE:(x==("__debug__":Str))=false:=by decide)(he:starEach (e::es) X.env=(false,eval e X.env)::starEach es X.env:=by rfl)(iD:(backTo pos (starEach es X.env)).any (·.1)=false:=by rfl):
  PE X (.Call (.Name x p) (e::es) [] pos) (BO C sp sY E t):=by
 intro pins s σ H Q I h;refine jG (qd I hg hm ?_ DE);refine PySem.W.callWith_K I.ok.mod.Tn M.kp (cI (ha pos pins s σ H _ I h) λus s1 ac_=>?_) he iD;obtain⟨vs,H1,I1,r,q⟩:=ac_;refine⟨I1.FC,?_⟩;exact Pa M F hr hb hd hx I1 r q
end
structure aE(N P:List Str)(sc:Scope):Prop where
 kind:sc.kind=.function
 co:sc.isCoroutine=false
 gen:sc.isGenerator=false
 nd:N.Nodup
 pre:N.take P.length=P
 par:∀x∈P,sc.names.lookup x=some .local\/sc.names.lookup x=some .cell
 Xd:∀y∈sc.names,y.2≠ .free
theorem BP{kindOf:Str->Option NameKind}:∀{binds}{m},(∀v,(x,v)∉binds)->bindL kindOf binds m x=m x
 |[],_,_=>rfl
 |(n,v)::r,m,h=>by
  unfold bindL;rw[BP λw hw=>h w (bJ _ hw)];split
  .have:x≠n:=by rintro rfl;exact h v b9
   simp[this]
  .rfl
theorem BQ{kindOf:Str->Option NameKind}:∀{binds}{m},(∀v,(x,v)∉binds)->bindC kindOf binds m x=m x
 |[],_,_=>rfl
 |(n,v)::r,m,h=>by
  unfold bindC;rw[BQ λw hw=>h w (bJ _ hw)];split
  .rfl
  .have:x≠n:=by rintro rfl;exact h v b9
   simp[this]
theorem BR{kindOf:Str->Option NameKind}{v:Value}:∀{P:List Str}{vs}{i:Nat}{m},P.Nodup->P[i]?=some x->vs[i]?=some v->kindOf x=some .local->
  bindL kindOf (P.zip vs) m x=some v
 |[],_,_,_,_,h,_,_=>by simp at h|_::_,[],_,_,_,_,h,_=>by simp at h
 |p::P,w::vs,0,m,nd,h1,h2,hk=>by
  simp at h1 h2;subst h1;subst h2;show bindL kindOf ((p,w)::P.zip vs) m p=_;unfold bindL;rw[BP λv hv=>(nodup_cons.mp nd).1 (mL hv).1,ag hk];simp
 |p::P,w::vs,i+1,m,nd,h1,h2,hk=>by
  show bindL kindOf ((p,w)::P.zip vs) m x=_;unfold bindL;exact BR (i:=i) (nodup_cons.mp nd).2 ‹h1› ‹h2› hk
theorem BU{kindOf:Str->Option NameKind}{v:Value}:∀{P:List Str}{vs}{i:Nat}{m},P.Nodup->P[i]?=some x->vs[i]?=some v->kindOf x≠some .local->
  bindC kindOf (P.zip vs) m x=some v
 |[],_,_,_,_,h,_,_=>by simp at h|_::_,[],_,_,_,_,h,_=>by simp at h
 |p::P,w::vs,0,m,nd,h1,h2,hk=>by
  simp at h1 h2;subst h1;subst h2;show bindC kindOf ((p,w)::P.zip vs) m p=_;unfold bindC;rw[BQ λv hv=>(nodup_cons.mp nd).1 (mL hv).1,af hk];simp
 |p::P,w::vs,i+1,m,nd,h1,h2,hk=>by
  show bindC kindOf ((p,w)::P.zip vs) m x=_;unfold bindC;exact BU (i:=i) (nodup_cons.mp nd).2 ‹h1› ‹h2› hk
noncomputable def start(N:List Str)(vs:List V):St:=vs.map some++List.replicate (N.length-vs.length) none
noncomputable def kg(CX:OG)(P:Program)(w:World)(K:PySem.W.Frag)(mg:Str->Option Value)(base:Heap)(N:List Str)(qual:Str)(scope:Scope)(f:Addr)(cd:Value)(A:Around)(outer:List Env)(s:Shared)(H:Hp)(E:XK):Cx where
 prog:=P
 w:=w
 K:=K
 mg:=mg
 base:=base
 A:=A.deeper (envOfC qual scope s.heap.objs.size f cd)
 N:=N
 xC:=s
 ZN:=H
 env:=envOfC qual scope s.heap.objs.size f cd
 outer:=outer
 stack:=envOfC qual scope s.heap.objs.size f cd::outer
 ex:=[]
 calm:=true
 fn:=λ_=>true
 pn:=[]
 xe:=λe s'=>wpAny (model P w) (A.deeper (envOfC qual scope s.heap.objs.size f cd)) (leaving (envOfC qual scope s.heap.objs.size f cd) e) (λ_ s''=>CX outer H s E e s'') (λe' s''=>CX outer H s E e' s'') s'
def FW{sc:Scope}(h:sc.names.lookup x=some .cell):∃c,(cellsFrom n sc.names []).lookup x=some c:=by
 have q:=wD sc.names n [] (.inl h);exact Option.isSome_iff_exists.mp q
def uz{E:XK}{vs:List V}(S:aE N ps scope)(hd:A.handled=none)(e0:A7 P w K mg base A outer s H)(hl:vs.length=ps.length)(r:Vals vs us)(x:InCallC s s.heap.objs.size (bindL (envOfC qual scope s.heap.objs.size f cd).kindOf (ps.zip us) λ_=>none) (cellsFrom (s.heap.objs.size+1) scope.names []) (bindC (envOfC qual scope s.heap.objs.size f cd).kindOf (ps.zip us) λ_=>none) s1):
  Inv (kg CX P w K mg base N qual scope f cd A outer s H E) [] (start N vs) H s1:=by
 have iD:ps.length<=N.length:=by have:=b_ List.length S.pre;rw[cW]at this;omega
 obtain⟨h1,tk,rfl,hk⟩:=x.done;have Za:∀b:Addr,b∉(kg CX P w K mg base N qual scope f cd A outer s H E).ex:=λb z=>absurd (show b∈([]:List Addr)from z) ∅;refine⟨⟨e0.mod,S.kind,rfl,rfl,aL _,λy z c h1 h2=>?_,λy hy=>?_,λy c _ h=>?_,λ_=>hd,Around.frames_deeper e0.frames,.inr ⟨rfl,rfl⟩,λb z=>absurd z (Za b),e0.bs,e0.MO,λb _ _=>Za b,λb z=>absurd z (Za b),e0.rk,e0.Sz⟩,
  rfl,e0.bare,Un.kept hk,⟨_,x.toInCall.ns,λi y v h1 h2 h3=>?_⟩,λy c h=>⟨_,x.cell y c h⟩,e0.bL.fresh (aL _),λy c h=>?_,λp hp=>absurd (show p∈([]:List (Addr×Obj))from hp) ∅,e0.bL.kept hk,?_⟩
 .exact name_of_addr x.apart (fS h1) (fS h2)
 .obtain hy|hy:=hy
  .exact FW hy
  .exact absurd rfl (S.Xd _ (fS hy))
 .exact iA (x.above y c (fS h))
 .have hi:i<vs.length:=by
   unfold start at h2;by_cases hi:i<vs.length
   .exact hi
   .rw[sq ‹hi›]at h2;rw[getElem?_replicate]at h2;split at h2<;>cases h2
  have ha:vs[i]?=some v:=by
   unfold start at h2;rw[sv ‹hi›,a_]at h2;cases e:vs[i]? with
   |none=>rw[e]at h2;cases h2
   |some a=>rw[e]at h2;cases h2;rfl
  obtain⟨u,hu,rv⟩:=r.get ha;have hp:ps[i]?=some y:=by
   rw[<-S.pre,getElem?_take_of_lt ()];exact h1
  have ndP:ps.Nodup:=by rw[<-S.pre];exact S.nd.sublist (take_sublist _ _)
  refine⟨u,rv,?_⟩;obtain k|k:=S.par y (bh hp)
  .exact .inl ⟨k,BR ndP hp hu k⟩
  .obtain⟨c,e⟩:=FW k;refine .inr ⟨.inl k,c,e,?_⟩;have q:=x.cell y c e;rw[BU ndP hp hu (by show scope.names.lookup y≠_;rw[k];decide)]at q;exact q
 .exact e0.bL.fresh (iA (x.above y c (fS h)))
 .unfold start;show _=N.length;rw[c9,az,jK];omega
def VN{dV kV doc cf oc:Value}(lk:K.lookup f=some ⟨oc,od,.func (PySem.W.fnOf name qual params body scope dV kV doc pm an cf ct),IC⟩)(vm:PySem.W.codeIn K cf qual=true)(S:aE N ps scope)(len:∀vs H Q E,sp vs H Q E->vs.length=ps.length)(gw:∀A outer s H vs Q E,dX k (A.deeper (envOfC qual scope s.heap.objs.size f cf))->sp vs H Q E->
   ∃t,vW (kg CX P w K mg base N qual scope f cf A outer s H E) body t/\t {nx:=λ_ H'=>Q .cT H',rt:=Q} (start N vs) H):
  oa P w K mg base CX (k+1) f (PySem.W.fnOf name qual params body scope dV kV doc pm an cf ct) ps sp:=by
 refine⟨len,λA outer s H args us vs Q E hr e0 hb r A3=>?_⟩;have hl:=len _ _ _ _ A3;have KX:=e0.mod.Tn.keeps λb o e=>(e0.bs b o e).1;have lim:=e0.mod.nolimit.keeps λb o e=>(e0.bs b o e).1;have FX:∀y∈ps.zip us,scope.names.lookup y.1=some .local\/(scope.names.lookup y.1=some .cell/\((cellsFrom (s.heap.objs.size+1) scope.names []).lookup y.1).isSome=true):=λ⟨n,v⟩ hy=>by
  obtain q|q:=S.par n (mL hy).1
  .exact .inl q
  .exact .inr ⟨q,wD _ _ _ (.inl q)⟩
 refine codeAny_call_function hr.depth (KX _ _ lk) rfl S.co S.gen rfl (PySem.W.codeRec_of KX vm) (hb _ _ _ _ ?_);refine wpAny_newFunctionEnv_cells S.kind FX λenv he s1 x=>?_;subst he;refine⟨lim.keeps x.toInCall.keep,codeAny_func ?_⟩;obtain⟨t,ht,hq⟩:=gw A outer s H vs Q E (hr.deeper _) A3;have I:Inv (kg CX P w K mg base N qual scope f cf A outer s H E) [] (start N vs) H s1:=uz S hr.hd e0 hl r x;refine da (ht [] s1 (start N vs) H _ I hq) (λfl s' hs=>?_) λe s' hs=>hs;have fin:∀{σ':St}{H':Hp}{v:V}{u:Value},Inv (kg CX P w K mg base N qual scope f cf A outer s H E) [] σ' H' s'->RelV v u->Q v H'->CE outer P w H s Q u s':=
  λ{σ' H' v u} J rv q=>⟨v,H',J.os,J.bare,J.base,J.bL,rv,q⟩
 cases fl with
 |ret u=>
  obtain⟨v,σ',H',J,rv,q⟩:=hs;exact fin J rv q
 |next=>
  obtain⟨σ',H',J,q⟩:=hs;exact fin (v:=V.cT) J rfl q
 |brk=>
  obtain⟨_,_,_,q⟩:=hs;exact False.elim q
 |cont=>
  obtain⟨_,_,_,q⟩:=hs;exact False.elim q
section
variable {p:Pos} {es:List Expr} {t:TA} {id:String} {r:List V->Hp->VK->Prop}
def tCB(r:List V->Hp->VK->Prop)(t:TA):TE:=λσ H Q=>t σ H λvs H1=>r vs H1 Q
def aC(hc:ku X (.builtin id) r)(hg:Gl X x)(hm:X.mg x=none)(hv:bootBuiltins x=some (.builtin id))(ha:PA X (e::es) t)(hn:x≠"__name__":=by decide)(DE:(x==("__debug__":Str))=false:=by decide)(he:starEach (e::es) X.env=(false,eval e X.env)::starEach es X.env:=by rfl)(iD:(backTo pos (starEach es X.env)).any (·.1)=false:=by rfl):PE X (.Call (.Name x p) (e::es) [] pos) (tCB r t):=by
 intro pins s σ H Q I h;refine jG (gn I hg hm hv ?_ hn DE);refine PyProof.Rows.callWith_builtin1 (cI (ha pos pins s σ H _ I h) λus s1 ada=>?_) he iD;obtain⟨vs,H1,I1,r1,q1⟩:=ada;exact hc pins s1 σ H1 vs us Q I1 r1 q1
def BV(hc:ku X (.type T) r)(hg:Gl X x)(hm:X.mg x=none)(hv:bootBuiltins x=some (.type T))(ha:PA X (e::es) t)(hn:x≠"__name__":=by decide)(DE:(x==("__debug__":Str))=false:=by decide)(he:starEach (e::es) X.env=(false,eval e X.env)::starEach es X.env:=by rfl)(iD:(backTo pos (starEach es X.env)).any (·.1)=false:=by rfl):PE X (.Call (.Name x p) (e::es) [] pos) (tCB r t):=by
 intro pins s σ H Q I h;refine jG (gn I hg hm hv ?_ hn DE);refine jF (cI (ha pos pins s σ H _ I h) λus s1 adb=>?_) he iD;obtain⟨vs,H1,I1,r1,q1⟩:=adb;exact hc pins s1 σ H1 vs us Q I1 r1 q1
end
end L2
variable {v y:L2.V} {xs:List L2.V} {kvs:List (L2.Key×L2.V)} {o:L2.HO} {H H' H1:L2.Hp} {Qd:L2.Hp->Prop} {X:L2.Cx} {σ:L2.St} {te ta:L2.TE} {tt:L2.TT} {tb:L2.TS} {g:L2.TG} {wi:L2.TI} {sp:L2.Sp} {CX:L2.OG}
namespace HT
open PySem PyProof.Rows
noncomputable def lexLt:List Int->List Int->Bool
 |[],[]=>false|[],_::_=>true
 |_::_,[]=>false|x::xs,y::ys=>if x=y then lexLt xs ys else decide (x<y)
def h_ x y xs ys:lexLt (x::xs) (y::ys)=if x=y then lexLt xs ys else decide (x<y):=rfl
section
def TK{t:Addr}(ht:IsTup s.heap t vs.toArray)(hb:IsTup s.heap b ws.toArray)(hv:vs≠ [])(h1:ws=[]->Q (.ref t) s)(h2:ws≠ []->Q (.ref s.heap.objs.size) {s with heap:=s.heap.push {cls:=.type "tuple",data:=.seq (vs++ws).toArray}})(fY:vs.length+ws.length<=sizeLine):wpAny (model prog w) A (binaryOp .Add (.ref t) (.ref b)) Q E s:=by
 obtain⟨⟨cls,dd,data,sl⟩,ho,hc,n,hd⟩:=id ht;obtain⟨⟨ade,Zb,data2,Zc⟩,Xe,hc2,n2,hd2⟩:=id hb;simp only at hc hd hc2 hd2;subst hc hd hc2 hd2;have e:vs.toArray++ws.toArray=(vs++ws).toArray:=by simp
 by_cases hw:ws=[]
 .exact concat_meets ⟨_,ho,rfl⟩ ⟨_,Xe,rfl⟩ noFill_tuple_add seq_tuple_add PySem.F.slot_tuple_add PySem.F.entry_tuple_add (PySem.F.args_tuple_add_2 _ _)
   (tuple_addW1 t b vs.toArray ws.toArray n n2 dd Zb sl Zc ‹hv› (by simp[hw])) ⟨ho,Xe,h1 hw⟩
 .refine concat_meets ⟨_,ho,rfl⟩ ⟨_,Xe,rfl⟩ noFill_tuple_add seq_tuple_add PySem.F.slot_tuple_add PySem.F.entry_tuple_add (PySem.F.args_tuple_add_2 _ _)
   (tuple_addW2 t b vs.toArray ws.toArray n n2 dd Zb sl Zc ‹hv› ‹hw› (by rw[cN,cN];exact fY)) ⟨ho,Xe,?_⟩
  rw[e];exact h2 hw
noncomputable def FY(n d:Nat):Option Int->Nat
 |none=>d|some v=>if v<0 then(v+(n:Int)).toNat else min v.toNat n
def Pg n d:FY n d none=d:=rfl
def DF(n d k:Nat):FY n d (some (k:Int))=min k n:=by
 show(if(k:Int)<0 then((k:Int)+(n:Int)).toNat else min (k:Int).toNat n)=min k n;rw[af (),gk]
end
end HT
namespace L2
open PySem PySem.Spec PyProof.Rows
abbrev TO:=St->Hp->(Option Int->Hp->Prop)->Prop
def PO(X:Cx)(e:Option Expr)(t:TO):Prop:=
 ∀(pins:List (Addr×Obj))(s:Shared)(σ:St)(H:Hp)(Q:Option Int->Hp->Prop),Inv X pins σ H s->t σ H Q->
  wpAny (model X.prog X.w) X.A (evalPart e X.env) (λu s'=>∃o H',Inv X pins σ H' s'/\IsPart u o/\Q o H') X.xe s
def DG:TO:=λ_ H Q=>Q none H
def Ph(t:TE):TO:=λσ H Q=>t σ H λx H1=>eI x λi=>Q (some i) H1
def intsAre_of:∀{us},Vals (ns.map V.int) us->IntsAre us ns:=by
 induction ns with
 |nil=>intro us r;rw[Dr]at r;cases r;exact .nil
 |cons n ns ih=>
  intro us r;cases r with
  |cons r1 r2=>
   obtain⟨t,e⟩:=r1;subst e;exact .cons n t (ih r2)
section
variable {lo hi:Option Expr} {tl th:TO} {p2:Pos}
def qg:PO X none DG:=by
 intro pins s σ H Q I h;exact ay ⟨none,H,I,.none,h⟩
def iE(h:PE X e te):PO X (some e) (Ph te):=by
 intro pins s σ H Q I hw;refine cI (h pins s σ H _ I hw) λu s1 adf=>?_;obtain⟨x,H1,I1,r1,q1⟩:=adf;obtain⟨i,rfl,q⟩:=fH.mp q1;obtain⟨t,rfl⟩:=r1;exact⟨some i,H1,I1,.int i t,q⟩
def SlR(X:Cx)(r:V->Option Int->Option Int->Hp->VK->Prop):Prop:=
 ∀(pins:List (Addr×Obj))(s:Shared)(σ:St)(H:Hp)(x:V)(v vl vu:Value)(lo hi:Option Int)(sl:Addr)(Q:VK),Inv X pins σ H s->RelV x v->s.heap.IsSliceOf sl vl vu .none->IsPart vl lo->IsPart vu hi->r x lo hi H Q->
  ∃T id,typeLookup (.type T) "__getitem__"=pure (some (.builtin id))/\s.TypeIs v T/\wpAny (model X.prog X.w) X.A (getItem v (.ref sl)) (EP X pins σ Q) X.xe s
def tSl(r:V->Option Int->Option Int->Hp->VK->Prop)(te:TE)(tl th:TO):TE:=λσ H Q=>te σ H λx H1=>tl σ H1 λl H2=>th σ H2 λu H3=>r x l u H3 Q
def iP{r:V->Option Int->Option Int->Hp->VK->Prop}(hr:SlR X r)(he:PE X e te)(hl:PO X lo tl)(hu:PO X hi th):PE X (.Subscript e (.Slice lo hi none p2) pos) (tSl r te tl th):=by
 intro pins s σ H Q I h;refine Subscript_ (cI (he pins s σ H _ I h) λv s1 adg=>?_);obtain⟨x,H1,I1,r1,q1⟩:=adg;refine wpAny_Slice (cI (hl pins s1 σ H1 _ I1 q1) λvl s2 adh=>?_);obtain⟨l,H2,I2,pl,q2⟩:=adh;refine cI (hu pins s2 σ H2 _ I2 q2) λvu s3 adi=>?_;obtain⟨u,H3,I3,pu,q3⟩:=adi;refine ay ?_;have I4:Inv X pins σ H3 {s3 with heap:=s3.heap.push {cls:=.type "slice",data:=.fields #[vl,vu,.none]}} :=I3.kept λb ob q=>bR _ q;obtain⟨T,id,hT,ht,hg⟩:=hr pins {s3 with heap:=s3.heap.push {cls:=.type "slice",data:=.fields #[vl,vu,.none]}} σ H3 x v vl vu l u s3.heap.objs.size Q I4 r1 (Heap.IsSliceOf.new ..) pl pu q3;exact tail_any ht hT hg (by with_unfolding_all rfl)
noncomputable def lN(xs:List V)(lo hi:Option Int):List V:=(xs.drop (HT.FY xs.length 0 lo)).take (HT.FY xs.length xs.length hi-HT.FY xs.length 0 lo)
def FZ xs lo hi:(lN xs lo hi).length<=xs.length:=by
 unfold lN;rw[cW,dW];omega
def Z0(K:PySem.W.Frag):R2:=λx y H Q=>∃a b xs ys,x=.ref a/\y=.ref b/\jP K H a xs/\jP K H b ys/\xs≠ []/\xs.length+ys.length<=sizeLine/\
 (ys=[]->Q (.ref a) H)/\(ys≠ []->∀p,H p=none->Q (.ref p) (upd H p (.tup (xs++ys))))
def Vals.DI(r:Vals xs us):us=[]↔xs=[]:=by
 cases r with
 |nil=>simp|cons _ _=>simp
def TN:qf X (binaryOp .Add) (Z0 X.K):=by
 intro pins s σ H x y v u Q I rx ry h;obtain⟨a,b,xs,ys,rfl,rfl,ha,hb,hx,hz,q1,q2⟩:=h;cases rx;cases ry;obtain⟨aR,r1,p1,_⟩:=I.tuple ha;obtain⟨og,r2,p2,_⟩:=I.tuple hb;refine HT.TK p1 p2 (λz=>hx (r1.DI.mp z)) (λz=>⟨.ref a,H,I,rfl,q1 (r2.DI.mp z)⟩) (λz=>?_) (by rw[<-r1.length,<-r2.length];exact hz);refine⟨.ref s.heap.objs.size,_,I.laid (t':=s.toks) (λb ob q=>bR _ q) (aL _) ?_,rfl,q2 (λw=>z (r2.DI.mpr w)) _ (I.bL.fresh (aL _))⟩;exact⟨by rw[c9];exact hz,_,r1.append r2,IsTup.new _ _⟩
end
noncomputable def Zd(n:Nat)(i:Int):Option Nat:=if 0<=i then(if i<n then some i.toNat else none)else if-(n:Int)<=i then some (i+n).toNat else none
noncomputable def OH{α:Type}(xs:List α)(i:Int):Option α:=(Zd xs.length i).bind λj=>xs[j]?
def TQ{i:Int}(h:Zd n i=some j):seqIndex? i n=some j/\j<n/\-(n:Int)<=i/\i<n:=by
 unfold Zd at h;by_cases h0:0<=i
 .rw[ag h0]at h;by_cases h1:i<n
  .rw[ag h1]at h;have e:=Option.some.inj h;exact⟨by rw[seqIndex_of h0 h1,e],by omega,by omega,h1⟩
  .rw[af h1]at h;cases h
 .rw[af h0]at h;by_cases h1: -(n:Int)<=i
  .rw[ag h1]at h;have e:=Option.some.inj h;exact⟨by rw[seqIndex_neg () h1,e],by omega,h1,by omega⟩
  .rw[af h1]at h;cases h
def KR{xs:List α}{i:Int}{v:α}(h:OH xs i=some v):∃j,seqIndex? i xs.length=some j/\xs[j]?=some v/\j<xs.length/\-(xs.length:Int)<=i/\i<xs.length:=by
 unfold OH at h;cases e:Zd xs.length i with
 |none=>rw[e]at h;cases h
 |some j=>
  rw[e]at h;obtain⟨h1,h2,h3,h4⟩:=TQ e;exact⟨j,h1,h,h2,h3,h4⟩
def eC{xs:List α}{v:α}(h:xs[j]?=some v):OH xs (j:Int)=some v:=by
 have hj:=(List.getElem?_eq_some_iff.mp h).1;have e:Zd xs.length (j:Int)=some j:=by
  unfold Zd;rw[ag (),ag ()];simp
 unfold OH;rw[e];exact h
def TU(b:Expr):Prop:=∀o i,subscripted b false o i=operate [o,i] (getItem o i)
def IxR(X:Cx)(r:R2):Prop:=
 ∀(value slice:Expr)(pins:List (Addr×Obj))(s:Shared)(σ:St)(H:Hp)(x y:V)(v u:Value)(Q:VK),Inv X pins σ H s->RelV x v->RelV y u->r x y H Q->
  subscripted slice false v u=operate [v,u] (getItem v u)->wpAny (model X.prog X.w) X.A (subscriptTail value slice v u) (EP X pins σ Q) X.xe s
def Pj(X:Cx)(id:String)(r:V->List V->Hp->VK->Prop):Prop:=
 ∀(pins:List (Addr×Obj))(s:Shared)(σ:St)(H:Hp)(x:V)(xs:List V)(v:Value)(us:List Value)(Q:VK),Inv X pins σ H s->RelV x v->Vals xs us->r x xs H Q->
  wpAny (model X.prog X.w) X.A (call (.builtin id) (v::us)) (EP X pins σ Q) X.xe s
section
variable {a b:Expr} {tb:TE}
def bH{r:R2}(hr:IxR X r)(ha:PE X a ta)(hb:PE X b tb)(hs:TU b):PE X (.Subscript a b pos) (Tv r ta tb):=by
 intro pins s σ H Q I h;exact Subscript_ (Tw ha hb I h λv u s2 x y H2 I2 rx ry q=>hr a b pins s2 σ H2 x y v u Q I2 rx ry q (hs _ _))
def TV(K:PySem.W.Frag):R2:=λx y H Q=>eR x λp=>eI y λi=>∃xs,aM K H p xs/\∃v,OH xs i=some v/\Q v H
def Xf(K:PySem.W.Frag):R2:=λx y H Q=>eR x λp=>eI y λi=>∃xs,jP K H p xs/\∃v,OH xs i=some v/\Q v H
def aP:IxR X (TV X.K):=by
 intro value slice pins s σ H x y v u Q I rx ry h hs;obtain⟨p,rfl,h⟩:=jO.mp h;obtain⟨i,rfl,xs,hq,z,he,q⟩:=fH.mp h;cases rx;obtain⟨t,rfl⟩:=ry;obtain⟨aR,r,pl,hz⟩:=I.list hq;obtain⟨j,h1,h2,h3,h4,h5⟩:=KR he;obtain⟨w,ew,MY⟩:=r.get h2;have hl:=r.length;have hn:=DB;have fin:EP X pins σ Q w s:=⟨z,H,I,MY,q⟩;by_cases h0:0<=i
 .have hj:i.toNat=j:=by
   rw[seqIndex_of h0 h5]at h1;exact Option.some.inj h1
  exact item_listR pl.isList h0 () (by rw[hj];simpa using ew) fin hs
 .have hj:(i+(aR.toArray.size:Int)).toNat=j:=by
   rw[seqIndex_neg () h4]at h1;rw[cN,<-hl];exact Option.some.inj h1
  exact subscriptTail_builtinR pl.isList.typeIs slot_list_getitem.lookup
   (wpAny_getItem_list_neg pl.isList () (by rw[cN] <;>omega) () (by rw[hj];simpa using ew) ⟨rfl,fin⟩) hs
def Pk:IxR X (Xf X.K):=by
 intro value slice pins s σ H x y v u Q I rx ry h hs;obtain⟨p,rfl,h⟩:=jO.mp h;obtain⟨i,rfl,xs,hq,z,he,q⟩:=fH.mp h;cases rx;obtain⟨t,rfl⟩:=ry;obtain⟨aR,r,pl,hz⟩:=I.tuple hq;obtain⟨j,h1,h2,h3,h4,h5⟩:=KR he;obtain⟨w,ew,MY⟩:=r.get h2;have hl:=r.length;have hn:=DB;have fin:EP X pins σ Q w s:=⟨z,H,I,MY,q⟩;exact subscriptTail_builtinR pl.typeIs slot_tuple_getitem.lookup
  (getItem_tuple (j:=j) pl () () (by rw[cN,<-hl];exact h1) ‹ew› ⟨rfl,fin⟩) hs
def DJ lo hi n:(sliceBounds lo hi none n).1=((HT.FY n 0 lo:Nat):Int)/\(sliceBounds lo hi none n).2.1=((HT.FY n n hi:Nat):Int)/\(sliceBounds lo hi none n).2.2=1:=by
 refine⟨?_,?_,rfl⟩
 .cases lo with
  |none=>simp[sliceBounds,HT.FY]
  |some i=>
   simp only[sliceBounds,HT.FY,Option.getD_none,show(1:Int)>0 by decide,if_true];by_cases h:i<0
   .simp only[h,if_true] <;>omega
   .simp only[h,if_false] <;>omega
 .cases hi with
  |none=>simp[sliceBounds,HT.FY]
  |some i=>
   simp only[sliceBounds,HT.FY,Option.getD_none,show(1:Int)>0 by decide,if_true];by_cases h:i<0
   .simp only[h,if_true] <;>omega
   .simp only[h,if_false] <;>omega
def A8(aR:List Value) lo hi:slicePick aR.toArray lo hi none=((aR.drop (HT.FY aR.length 0 lo)).take (HT.FY aR.length aR.length hi-HT.FY aR.length 0 lo)).toArray:=by
 obtain⟨h1,h2,h3⟩:=DJ lo hi aR.toArray.size;unfold slicePick;rw[h1,h2,h3];simp only[sliceRange_one,pick_run,size_toArray] <;>rfl
def Xg(K:PySem.W.Frag):V->Option Int->Option Int->Hp->VK->Prop:=λx lo hi H Q=>eR x λa=>∃xs,aM K H a xs/\∀p,H p=none->Q (.ref p) (upd H p (.lst (lN xs lo hi)))
def kz:SlR X (Xg X.K):=by
 intro pins s σ H x v vl vu lo hi sl Q I rx hs pl pu h;obtain⟨a,rfl,xs,hx,q⟩:=jO.mp h;cases rx;obtain⟨aR,r,ht,hz⟩:=I.list hx;have hlen:=r.length;refine⟨"list",_,slot_list_getitem.lookup,ht.isList.typeIs,?_⟩;refine wpAny_getItem_list_slice ht.isList hs pl pu .none ∅ ?_ (by rw[cN] <;>omega);rw[A8,<-hlen];refine⟨.ref s.heap.objs.size,_,I.laid (t':=s.toks) (λb ob q=>bR _ q) (aL _) ?_,rfl,q _ (I.bL.fresh (aL _))⟩;exact⟨aX (FZ xs lo hi) hz,_,0,(r.drop (HT.FY xs.length 0 lo)).take (HT.FY xs.length xs.length hi-HT.FY xs.length 0 lo),bw _ rfl⟩
noncomputable def gZ:V->Bool
 |.cT=>true|.bl _=>true
 |.int _=>true|.str _=>true
 |_=>false
noncomputable def IE:V->V->Bool
 |.cT,.cT=>true|.bl a,.bl b=>a==b
 |.bl a,.int b=>(if a then 1 else 0)==b
 |.int a,.bl b=>a==(if b then 1 else 0)
 |.int a,.int b=>a==b|.str a,.str b=>a==b
 |_,_=>false
def Xh{x:V}{v:Value}(ry:RelV y u)(rx:RelV x v)(fy:gZ y=true)(fx:gZ x=true):SeqAt.EqAt A s u v (IE y x):=by
 cases y with
 |cT=>
  cases ry;cases x with
  |cT=>cases rx;exact SeqAt.EqAt.same _
  |bl b=>cases rx;exact SeqAt.EqAt.none_bool b
  |int b=>obtain⟨t,rfl⟩:=rx;exact SeqAt.EqAt.none_int b t
  |str b=>obtain⟨t,rfl⟩:=rx;exact SeqAt.EqAt.none_str b t
  |_=>exact absurd (show false=true from fx) cg
 |bl a=>
  cases ry;cases x with
  |cT=>cases rx;exact SeqAt.EqAt.bool_none a
  |bl b=>cases rx;exact SeqAt.EqAt.bool_bool a b
  |int b=>obtain⟨t,rfl⟩:=rx;exact SeqAt.EqAt.bool_int a b t
  |str b=>obtain⟨t,rfl⟩:=rx;exact SeqAt.EqAt.bool_str a b t
  |_=>exact absurd (show false=true from fx) cg
 |int a=>
  obtain⟨t',rfl⟩:=ry;cases x with
  |cT=>cases rx;exact SeqAt.EqAt.int_none a t'
  |bl b=>cases rx;exact SeqAt.EqAt.int_bool a t' b
  |int b=>obtain⟨t,rfl⟩:=rx;exact SeqAt.EqAt.int_int a t' b t
  |str b=>obtain⟨t,rfl⟩:=rx;exact SeqAt.EqAt.int_str a t' b t
  |_=>exact absurd (show false=true from fx) cg
 |str a=>
  obtain⟨t',rfl⟩:=ry;cases x with
  |cT=>cases rx;exact SeqAt.EqAt.str_none a t'
  |bl b=>cases rx;exact SeqAt.EqAt.str_bool a t' b
  |int b=>obtain⟨t,rfl⟩:=rx;exact SeqAt.EqAt.str_int a t' b t
  |str b=>obtain⟨t,rfl⟩:=rx;exact SeqAt.EqAt.str_str a t' b t
  |_=>exact absurd (show false=true from fx) cg
 |_=>exact absurd (show false=true from fy) cg
noncomputable def Ie(x:V)(u:Value):Bool:=match u with
 |.none=>IE .cT x|.bool b=>IE (.bl b) x
 |.int i _=>IE (.int i) x|.str z _=>IE (.str z) x
 |_=>false
def DK{x:V}(r:RelV y u)(f:gZ y=true):Ie x u=IE y x:=by
 cases y with
 |cT=>cases r;rfl
 |bl b=>cases r;rfl
 |int i=>obtain⟨t,rfl⟩:=r;rfl
 |str z=>obtain⟨t,rfl⟩:=r;rfl
 |_=>exact absurd (show false=true from f) cg
theorem sZ{x:V}:∀{xs}{us},Vals xs us->xs.all gZ=true->us.any (Ie x)=xs.any λy=>IE y x
 |_,_,.nil,_=>rfl
 |y::xs,u::us,.cons r t,f=>by
  rw[eU,bI]at f;rw[any_cons,any_cons,DK r f.1,sZ t f.2]
theorem lO{x:V}{v:Value}(rx:RelV x v)(fx:gZ x=true):∀{xs}{us},Vals xs us->xs.all gZ=true->∀u∈us,SeqAt.EqAt A s u v (Ie x u)
 |_,_,.nil,_=>λu hu=>by cases hu
 |y::xs,u::us,.cons r t,f=>λu' hu=>by
  rw[eU,bI]at f;obtain rfl|hu:=mem_cons.mp hu
  .rw[DK r f.1];exact Xh r rx f.1 fx
  .exact lO rx fx t f.2 u' hu
noncomputable def Ze(x:V)(xs:List V):Bool:=xs.any λy=>IE y x
def SD(K:PySem.W.Frag)(neg:Bool):R2:=λx y H Q=>eR y λp=>∃xs,(aM K H p xs\/jP K H p xs)/\gZ x=true/\xs.all gZ=true/\Q (.bl (if neg then !Ze x xs else Ze x xs)) H
def uA:qf X (compareOp .In) (SD X.K false):=by
 intro pins s σ H x y v u Q I rx ry h;obtain⟨p,rfl,xs,hq,fx,fs,q⟩:=jO.mp h;cases ry;obtain hq|hq:=hq
 .obtain⟨aR,r,pl,hz⟩:=I.list hq;refine SeqAt.in_listAt (Ie x) pl.isList (λw hw=>lO rx fx r fs w ‹hw›) ⟨.bl _,H,I,rfl,?_⟩;rw[show aR.toArray.any (Ie x)=aR.any (Ie x) by simp,sZ r fs];exact q
 .obtain⟨aR,r,pl,hz⟩:=I.tuple hq;refine SeqAt.in_tupleAt (Ie x) pl (λw hw=>lO rx fx r fs w ‹hw›) ⟨.bl _,H,I,rfl,?_⟩;rw[show aR.toArray.any (Ie x)=aR.any (Ie x) by simp,sZ r fs];exact q
def DL:qf X (compareOp .NotIn) (SD X.K true):=by
 intro pins s σ H x y v u Q I rx ry h;obtain⟨p,rfl,xs,hq,fx,fs,q⟩:=jO.mp h;cases ry;obtain hq|hq:=hq
 .obtain⟨aR,r,pl,hz⟩:=I.list hq;refine SeqAt.notIn_listAt (Ie x) pl.isList (λw hw=>lO rx fx r fs w ‹hw›) ⟨.bl _,H,I,rfl,?_⟩;rw[show aR.toArray.any (Ie x)=aR.any (Ie x) by simp,sZ r fs];exact q
 .obtain⟨aR,r,pl,hz⟩:=I.tuple hq;refine SeqAt.notIn_tupleAt (Ie x) pl (λw hw=>lO rx fx r fs w ‹hw›) ⟨.bl _,H,I,rfl,?_⟩;rw[show aR.toArray.any (Ie x)=aR.any (Ie x) by simp,sZ r fs];exact q
def aA:ku X (.builtin "len") (λxs H Q=>eL xs λp=>∃ys,(aM X.K H p ys\/jP X.K H p ys)/\Q (.int ys.length) H):=by
 intro pins s σ H xs us Q I r h;obtain⟨p,rfl,ys,hq,q⟩:=rm.mp h;obtain⟨u,rfl,rx⟩:=vals1 r;cases rx;have hn:=DB;obtain hq|hq:=hq
 .obtain⟨aR,r',pl,hz⟩:=I.list hq;have hlen:=r'.length;exact Calls.call_len_list pl.isList (by simp only[size_toArray] <;>omega) ⟨.int ys.length,H,I.tok _,⟨s.toks+1,by rw[cN,hlen]⟩,q⟩
 .obtain⟨aR,r',pl,hz⟩:=I.tuple hq;have hlen:=r'.length;exact len_tuple pl (by simp only[size_toArray] <;>omega) ⟨.int ys.length,H,I.tok _,⟨s.toks+1,by rw[cN,hlen]⟩,q⟩
def tj:ku X (.builtin "len") (λxs H Q=>eT xs λz=>z.length<=sizeLine/\Q (.int z.length) H):=by
 intro pins s σ H xs us Q I r h;obtain⟨z,rfl,hz,q⟩:=Du.mp h;obtain⟨u,rfl,t,rfl⟩:=vals1 r;have hn:=DB;exact len_str () ⟨.int z.length,H,I.tok _,⟨_,rfl⟩,q⟩
def A9:ku X (.type "tuple") (λxs H Q=>eL xs λp=>∃ys,((aM X.K H p ys/\∀l,H l=none->Q (.ref l) (upd H l (.tup ys)))\/(jP X.K H p ys/\Q (.ref p) H))):=by
 intro pins s σ H xs us Q I r h;obtain⟨p,rfl,ys,h⟩:=rm.mp h;obtain⟨u,rfl,rx⟩:=vals1 r;cases rx;obtain⟨hq,q⟩|⟨hq,q⟩:=h
 .obtain⟨aR,r',pl,hz⟩:=I.list hq;have hlen:=r'.length;refine call_tuple_list pl.isList (λh' kp=>?_) (by simp only[size_toArray] <;>omega);have I1:=I.kept (t':=s.toks) kp;have I2:Inv X pins σ (upd H h'.objs.size (.tup ys)) {s with heap:=h'.push {cls:=.type "tuple",data:=.seq aR.toArray}} :=
   I1.laid (λb o e=>bR _ e) (aL _) (show dF X.prog X.w _ _ _ (.tup ys)from⟨hz,aR,r',IsTup.new _ _⟩)
  exact⟨.ref h'.objs.size,_,I2,rfl,q _ (I1.bL.fresh (aL _))⟩
 .obtain⟨aR,r',pl,hz⟩:=I.tuple hq;exact call_tuple_same pl ⟨.ref p,H,I,rfl,q⟩
def Xi(K:PySem.W.Frag)(T:String)(x:V)(H:Hp):Prop:=match x with
 |.str _=>T="str"|.int _=>T="int"
 |.ref p=>(T="list"/\∃xs,aM K H p xs)\/(T="tuple"/\∃o,K.lookup p=some o/\o.cls=.type "tuple"/\o.dict=none)\/
   (T="dict"/\((∃kvs,H p=some (.dK kvs))\/∃kvs,H p=some (.dT kvs)))\/(T="set"/\∃S n,H p=some (.set S n))
 |_=>False
def Pn{x:V}{v:Value}(I:Inv X pins σ H s)(r:RelV x v)(ty:Xi X.K T x H):
  s.TypeIs v T/\∀a,v=.ref a->∃ob,s.heap.get? a=some ob/\ob.dict=none:=by
 cases x with
 |str z=>
  obtain⟨t,rfl⟩:=r;cases(show T="str"from ty);exact⟨mK s z t,λ_ e=>nomatch e⟩
 |int i=>
  obtain⟨t,rfl⟩:=r;cases(show T="int"from ty);exact⟨typeIs_int s i t,λ_ e=>nomatch e⟩
 |ref p=>
  cases r;obtain⟨rfl,xs,hq⟩|⟨rfl,o,hk,hc,hd⟩|⟨rfl,hk⟩|⟨rfl,S,n,hk⟩:=ty
  .obtain⟨aR,_,pl,_⟩:=I.list hq;refine⟨pl.isList.typeIs,λa e=>?_⟩;cases e;obtain⟨o,n,e,c,hd,_⟩:=pl;exact⟨o,e,hd⟩
  .refine⟨⟨o,I.FC p o hk,hc⟩,λa e=>?_⟩;cases e;exact⟨o,I.FC _ o hk,hd⟩
  .have z:∃o,s.heap.get? p=some o/\o.ExactDict:=by
    obtain⟨kvs,hk⟩|⟨kvs,hk⟩:=hk
    .obtain⟨_,_,_,_,o,_,_,e,ex,_⟩:=I.bL p _ hk;exact⟨o,e,ex⟩
    .obtain⟨_,_,_,_,o,_,_,e,ex,_⟩:=I.bL p _ hk;exact⟨o,e,ex⟩
   obtain⟨o,e,ex⟩:=z;refine⟨⟨o,e,ex.1⟩,λa e2=>?_⟩;cases e2;exact⟨o,e,ex.2.1⟩
  .obtain⟨o,_,_,_,e,ex,_⟩:=I.bL p _ hk;refine⟨⟨o,e,ex.1⟩,λa e2=>?_⟩;cases e2;exact⟨o,e,ex.2.1⟩
 |_=>exact False.elim ty
def adk(K:PySem.W.Frag)(T:String)(r:V->List V->Hp->VK->Prop)(to:TE):TE:=λσ H Q=>to σ H λx H1=>Xi K T x H1/\r x [] H1 Q
def Zf(K:PySem.W.Frag)(T:String)(r:V->List V->Hp->VK->Prop)(to:TE)(t:TA):TE:=λσ H Q=>to σ H λx H1=>Xi K T x H1/\t σ H1 λxs H2=>r x xs H2 Q
variable {o:Expr} {es:List Expr} {to:TE} {t:TA} {et:Pos} {id:String} {r:V->List V->Hp->VK->Prop}
def Xj(pa:PlainAttrs T)(slot:Slot T name id)(SE:typeOf (.builtin id)=pure (.type "method_descriptor"))(hm:Pj X id r)(ho:PE X o to)(jR:attributeBase o name X.env (eval o X.env)=eval o X.env:=by rfl)(hline:(apos.endLine==et.line)=true:=by rfl):PE X (.Call (.Attribute o name apos) [] [] et) (adk X.K T r to):=by
 intro pins s σ H Q I h;refine wpAny_Call_method0_late jR hline (cI (ho pins s σ H _ I h) λv s1 adl=>?_);obtain⟨x,H1,I1,r1,ty,q1⟩:=adl;obtain⟨h1,h2⟩:=Pn I1 r1 ty;exact⟨T,id,pa,slot,SE,h1,h2,ur rfl (PySem.evalArgs_none (hm pins s1 σ H1 x [] v [] Q I1 r1 .nil q1))⟩
def KS(pa:PlainAttrs T)(slot:Slot T name id)(SE:typeOf (.builtin id)=pure (.type "method_descriptor"))(hm:Pj X id r)(ho:PE X o to)(ha:PA X (e::es) t)(jR:attributeBase o name X.env (eval o X.env)=eval o X.env:=by rfl)(Xk:((backTo et (starEach (e::es) X.env)).all (λx=>!x.1)&&(backToKw et (keywordEach [] X.env)).all (λx=>x.1.isSome)
   &&decide ((e::es).length+([]:List Keyword).length+(if([]:List Keyword).isEmpty then 0 else 1)<30))=true:=by rfl)(hline:(apos.endLine==et.line)=true:=by rfl)(hs:starEach (e::es) X.env=(false,eval e X.env)::starEach es X.env:=by rfl)(IG:(backTo et (starEach es X.env)).any (·.1)=false:=by rfl):
  PE X (.Call (.Attribute o name apos) (e::es) [] et) (Zf X.K T r to t):=by
 intro pins s σ H Q I h;refine wpAny_Call_method_late jR Xk hline rfl (cI (ho pins s σ H _ I h) λv s1 adn=>?_);obtain⟨x,H1,I1,r1,ty,q1⟩:=adn;obtain⟨h1,h2⟩:=Pn I1 r1 ty;refine⟨T,id,pa,slot,SE,h1,h2,?_⟩;have hA:=ha et pins s1 σ H1 _ I1 q1;rw[hs]at hA⊢;refine ur (by show(false||(backTo et (starEach es X.env)).any (·.1))=false;rw[IG] <;>rfl) (sx ?_);refine cI hA λus s2 ado=>?_;obtain⟨vs,H2,I2,r2,q2⟩:=ado;exact hm pins s2 σ H2 x vs v us Q I2 r1 r2 q2
end
def MtM(X:Cx)(id:String)(r:V->List V->Hp->VK->Prop):Prop:=
 ∀(pins:List (Addr×Obj))(s:Shared)(σ:St)(H:Hp)(x:V)(xs:List V)(v:Value)(us:List Value)(Q:VK),Inv X pins σ H s->RelV x v->Vals xs us->r x xs H Q->
  wpAny (model X.prog X.w) X.A (call (.builtin id) (v::us)) (EP X pins σ Q) X.xe s
def Vals.one{x}(r:Vals [x] us):∃u,us=[u]/\RelV x u:=vals1 r
def Vals.zero:∀{us},Vals [] us->us=[]
 |_,.nil=>rfl
theorem Vals.dropLast(h:Vals xs us):Vals xs.dropLast us.dropLast:=by
 induction h with
 |nil=>exact .nil
 |cons r t ih=>
  cases t with
  |nil=>exact .nil|cons q t'=>exact .cons r ih
theorem Vals.rep(h:Vals xs us):∀k:Nat,Vals (List.replicate k xs).flatten (List.replicate k us).flatten
 |0=>.nil
 |k+1=>by
  exact Vals.append h (Vals.rep h k)
def IH(l:List α):l.eraseIdx (l.length-1)=l.dropLast:=by
 induction l with
 |nil=>rfl
 |cons a r ih=>
  cases r with
  |nil=>rfl
  |cons b r=>
   have e:(a::b::r).length-1=((b::r).length-1)+1:=by
    have h1:(a::b::r).length=r.length+2:=rfl;have h2:(b::r).length=r.length+1:=rfl;omega
   rw[e,eraseIdx_cons_succ,ih]
   all_goals rfl
theorem foldl_rep(aR:List Value):∀k acc,
  List.foldl (λx1 x2=>x1++x2) acc.toArray (List.replicate k aR.toArray)=(acc++(List.replicate k aR).flatten).toArray
 |0,acc=>by simp
 |k+1,acc=>by
  have e:acc.toArray++aR.toArray=(acc++aR).toArray:=by simp
  have e2:(acc++aR)++(List.replicate k aR).flatten=acc++(List.replicate (k+1) aR).flatten:=by
   rw[ki,mH,g_]
  rw[<-e2,<-foldl_rep aR k (acc++aR),<-e,ki,fG]
section
variable {ys zs:List V}
def Inv.Xl{aR Iv:List Value}{f:Array Value->Array Value}(I:Inv X pins σ H s)(hH:H l=some (.lst xs))(e:s.heap.get? l=some {cls:=.type "list",data:=.seq aR.toArray n})(hf:f aR.toArray=Iv.toArray)(hv:Vals ys Iv)(hz:ys.length<=sizeLine):
  Inv X pins σ (upd H l (.lst ys)) {s with heap:=s.heap.update l (Obj.mapSeq f),toks:=t'} :=by
 have q:=PySem.IsL.update e f;rw[hf]at q;refine I.write (e:=l) (by rw[hH];exact trivial) (.inl rfl) (λb' u hb hu=>(kK s.heap (Obj.mapSeq f) (c6 hb)).trans hu) ⟨_,q⟩ ?_;exact⟨hz,Iv,_,hv,q⟩
def Inv.Z3(I:Inv X pins σ H s)(hv:Vals ys aR)(hz:ys.length<=sizeLine):
  Inv X pins σ (upd H s.heap.objs.size (.lst ys)) {s with heap:=s.heap.push {cls:=.type "list",data:=.seq aR.toArray},toks:=t'} :=
 I.laid (λ_ _ q=>bR _ q) (aL _) ⟨hz,aR,0,hv,bw _ rfl⟩
theorem Inv.fresh(I:Inv X pins σ H s):H s.heap.objs.size=none:=I.bL.fresh (aL _)
def Inv.II(I:Inv X pins σ H s)(hH:H l=some (.lst xs)):xs.length<=sizeLine/\∃(aR:List Value) (n:Nat),Vals xs aR/\xs.length=aR.length/\s.heap.get? l=some {cls:=.type "list",data:=.seq aR.toArray n} :=by
 obtain⟨z,aR,n,r,e⟩:=I.bL l _ hH;exact⟨z,aR,n,r,r.length,e⟩
def F0(h:n<=sizeLine):Builtin.List.listTooLong n=false:=by
 unfold Builtin.List.listTooLong;exact cV ()
end
section
def KU:V->List V->Hp->VK->Prop:=λx vs H Q=>∃l xs y,x=.ref l/\vs=[y]/\H l=some (.lst xs)/\xs.length<sizeLine/\Q .cT (upd H l (.lst (xs++ [y])))
def MZ:MtM X "list.append" KU:=by
 intro pins s σ H x vs v us Q I rx rv h;obtain⟨l,xs,y,rfl,rfl,hH,hz,q⟩:=h;cases rx;obtain⟨u,rfl,ru⟩:=rv.one;obtain⟨z,aR,n,r,hl,e⟩:=I.II hH;refine iB F.slot_list_append ⟨_,e,rfl⟩ F.entry_list_append (F.args_list_append_2 _ _) (PySem.list_append l aR.toArray n u (by rw[cN];omega)) ⟨e,?_⟩;refine⟨.cT,_,I.Xl hH e ∅ (r.append (.cons ru .nil)) ?_,rfl,q⟩;rw[c9,length_singleton];omega
def DM:V->List V->Hp->VK->Prop:=λx vs H Q=>∃l b xs zs,x=.ref l/\vs=[.ref b]/\H l=some (.lst xs)/\H b=some (.lst zs)/\xs.length+zs.length<=sizeLine/\Q .cT (upd H l (.lst (xs++zs)))
def BW:MtM X "list.extend" DM:=by
 intro pins s σ H x vs v us Q I rx rv h;obtain⟨l,b,xs,zs,rfl,rfl,hH,hB,hz,q⟩:=h;cases rx;obtain⟨u,rfl,ru⟩:=rv.one;cases ru;obtain⟨z,aR,n,r,hl,e⟩:=I.II hH;obtain⟨z2,og,n2,r2,Zg,e2⟩:=I.II hB;have fY:aR.toArray.size+og.toArray.size<=sizeLine:=by rw[cN,cN];omega
 have Pp:¬(!aR.toArray.isEmpty&&Builtin.List.listTooLong (aR.toArray.size+og.toArray.size))=true:=by
  rw[F0 fY,Bool.and_false];exact cg
 refine iB F.slot_list_extend ⟨_,e,rfl⟩ F.entry_list_extend (F.args_list_extend_2 _ _)
  (AutoSeq1.list_extend_list_list_0 l aR.toArray n b og.toArray n2 Pp (by rw[cN];omega) ()) ⟨e,e2,?_⟩
 refine⟨.cT,_,I.Xl hH e ∅ (r.append r2) ?_,rfl,q⟩;rw[c9];omega
def adp:V->List V->Hp->VK->Prop:=λx vs H Q=>∃l xs y,x=.ref l/\vs=[]/\H l=some (.lst xs)/\xs[xs.length-1]?=some y/\Q y (upd H l (.lst xs.dropLast))
def Xm:MtM X "list.pop" adp:=by
 intro pins s σ H x vs v us Q I rx rv h;obtain⟨l,xs,y,rfl,rfl,hH,hy,q⟩:=h;cases rx;have hus:=rv.zero;subst hus;obtain⟨z,aR,n,r,hl,e⟩:=I.II hH;obtain⟨u,hu,ru⟩:=r.get hy;have M0:aR.toArray[aR.toArray.size-1]?=some u:=by
  show aR.toArray[aR.length-1]?=some u;rw[<-dv,<-hl];exact hu
 refine iB F.slot_list_pop ⟨_,e,rfl⟩ F.entry_list_pop (F.args_list_pop_1 _) (MeetsSeq.list_pop_last l aR.toArray n u M0 (by rw[cN];omega)) ⟨e,?_⟩;refine⟨y,_,I.Xl hH e ?_ r.dropLast ?_,ru,q⟩
 .rw[cN,eraseIdxIfInBounds_toArray,IH]
 .rw[length_dropLast];omega
def adq:R2:=λx y H Q=>∃l b xs zs,x=.ref l/\y=.ref b/\H l=some (.lst xs)/\H b=some (.lst zs)/\xs.length+zs.length<=sizeLine/\∀p,H p=none->Q (.ref p) (upd H p (.lst (xs++zs)))
def Pq:qf X (binaryOp .Add) adq:=by
 intro pins s σ H x y v u Q I rx ry h;obtain⟨l,b,xs,zs,rfl,rfl,hH,hB,hz,q⟩:=h;cases rx;cases ry;obtain⟨z,aR,n,r,hl,e⟩:=I.II hH;obtain⟨z2,og,n2,r2,Zg,e2⟩:=I.II hB;refine PySem.P.add_list e e2 ?_ (by rw[cN,cN];omega);have ea:aR.toArray++og.toArray=(aR++og).toArray:=by simp
 rw[ea];exact⟨.ref _,_,I.Z3 (r.append r2) (by rw[c9];omega),rfl,q _ I.fresh⟩
def adt:R2:=λx y H Q=>∃l k xs,x=.ref l/\y=.int k/\H l=some (.lst xs)/\-(2^63)<=k/\k<2^63/\xs.length*k.toNat<=sizeLine/\
 ∀p,H p=none->Q (.ref p) (upd H p (.lst (List.replicate k.toNat xs).flatten))
def len_rep(xs:List α) k:(List.replicate k xs).flatten.length=k*xs.length:=by
 induction k with
 |zero=>simp|succ k ih=>rw[ki,mH,c9,ih,Nat.succ_mul,sQ]
def IJ:qf X (binaryOp .Mult) adt:=by
 intro pins s σ H x y v u Q I rx ry h;obtain⟨l,k,xs,rfl,rfl,hH,h1,h2,hz,q⟩:=h;cases rx;obtain⟨t,rfl⟩:=ry;obtain⟨z,aR,n,r,hl,e⟩:=I.II hH;have hlen:aR.toArray.size*k.toNat<=sizeLine:=by rw[cN,<-hl];exact hz
 have adu:¬aR.toArray.size*k.toNat>(2^63-1)/8:=by
  have:(sizeLine:Nat)<=(2^63-1)/8:=by decide
  omega
 have TX:¬(!Builtin.List.listFitsIndex k)=true:=by
  rw[fitsIndex_both h1 h2];exact cg
 have Pp:¬Builtin.List.listTooLong (aR.toArray.size*k.toNat)=true:=by
  rw[F0 hlen];exact cg
 have Pr:List.foldl (λx1 x2=>x1++x2) #[] (List.replicate (if aR.toArray.isEmpty=true then 0 else k.toNat) aR.toArray)=(List.replicate k.toNat aR).flatten.toArray:=by
  have f0:=λm=>by
   have:=foldl_rep aR m [];rw[pP]at this;exact this
  rw[f0];cases aR with
  |nil=>simp|cons a r'=>rw[af ∅]
 refine wpAny_binaryOp_repeat_ref (U:="int") ⋯ ⟨_,e,rfl⟩ (λs'=>typeIs_int s' k t) noFill_list_mul F.fills_int_mul F.slot_int_rmul repeat_list F.slot_int_index.lookup
  (iB F.slot_int_rmul (typeIs_int s k t) F.entry_int_rmul (F.args_int_rmul_2 _ _) (int___rmul___int_list k t l aR.toArray n)
   ⟨e,rfl,⟨_,e,rfl⟩,iB F.slot_list_mul ⟨_,e,rfl⟩ F.entry_list_mul (F.args_list_mul_2 _ _) (AutoListH.list___mul___list_int_3 l aR.toArray n k t TX adu Pp) ⟨e,?_⟩⟩)
 rw[Pr];exact⟨.ref _,_,I.Z3 (r.rep k.toNat) (by rw[len_rep,mI];exact hz),rfl,q _ I.fresh⟩
end
theorem Vals.ints:∀{ns}{us},Vals (ns.map V.int) us->IntsAre us ns
 |[],us,h=>by
  cases h;exact IntsAre.nil
 |n::ns,us,h=>by
  cases h with
  |cons r t=>
   obtain⟨k,rfl⟩:=r;exact IntsAre.cons n k (Vals.ints t)
theorem js:∀{us}{ns},IntsAre us ns->Vals (ns.map V.int) us
 |_,_,.nil=>by rw[Dr];exact Paired.nil|_,_,.cons n t h=>by rw[aJ];exact Paired.cons (show RelV (V.int n) (Value.int n t)from⟨t,rfl⟩) (js h)
def Vals.TY(r:Vals [V.ref a] us):us=[Value.ref a]:=by
 cases r with
 |cons r t=>
  cases t;cases r;rfl
section
def IK(K:PySem.W.Frag):V->List V->Hp->VK->Prop:=λx xs H Q=>∃(a:Addr) (ys:List V) (y:V) (j:Nat) (z:V),x=V.ref a/\xs=[y]/\aM K H a ys/\gZ y=true/\ys.all gZ=true/\ys[j]?=some z/\IE z y=true/\
 (∀(m:Nat)(z':V),m<j->ys[m]?=some z'->IE z' y=false)/\Q (.int (j:Nat)) H
def KW{ys:List V}(f:ys.all gZ=true){z:V}(h:ys[j]?=some z):gZ z=true:=all_eq_true.mp f z (bh h)
def Pt:Pj X "list.index" (IK X.K):=by
 intro pins s σ H x xs v us Q I rx rxs h;obtain⟨a,ys,y,j,z,rfl,rfl,hs,fy,fys,hz,hzj,Zh,q⟩:=h;cases rx;cases rxs with
 |cons ry rt=>
  rename_i uy ut;cases rt;obtain⟨aR,rv,⟨⟨cls,dd,data,sl⟩,n,ho,hc,hdn,hd⟩,hlen⟩:=I.list hs;simp only at hc hd;subst hc hd;obtain⟨u,hu,ru⟩:=rv.get hz;obtain⟨hjl,hje⟩:=List.getElem?_eq_some_iff.mp hu;have Xn:=rv.length;have hj:j<aR.toArray.size:=‹hjl›
  have Xo:=cE;refine iB PySem.F.slot_list_index ⟨_,ho,rfl⟩ PySem.F.entry_list_index (PySem.F.args_list_index_2 _ _)
   (SeqAt.list_indexAt a aR.toArray n dd sl uy (Ie y) j hj () ?_ ?_) ⟨ho,λu' KY=>lO ry fy rv fys u' ‹KY›,?_⟩
  .have e1:aR.toArray[j]=u:=by simpa using hje
   rw[e1,DK ru (KW fys hz)];exact hzj
  .intro m hm hmj;have hml:m<aR.length:=by simpa using hm
   have hmy:m<ys.length:=by omega
   have M0:=bt hmy;obtain⟨u2,Z4,ru2⟩:=rv.get M0;obtain⟨_,hme⟩:=List.getElem?_eq_some_iff.mp Z4;have e1:aR.toArray[m]=u2:=‹hme›
   rw[e1,DK ru2 (KW fys M0)];exact Zh m _ hmj M0
  .exact⟨.int (j:Nat),H,I.tok _,⟨_,rfl⟩,q⟩
end
mutual
inductive Dp(K:PySem.W.Frag)(H:Hp):V->PyData->Prop
 |cT:Dp K H .cT .none
 |bl (b:Bool):Dp K H (.bl b) (.bool b)
 |int (i:Int):Dp K H (.int i) (.int i)
 |str (x:Str):Dp K H (.str x) (.str x)
 |lst {a:Addr} {xs:List V} {ds:List PyData} :aM K H a xs->yD K H xs ds->Dp K H (.ref a) (.list ds)
 |tup {a:Addr} {xs:List V} {ds:List PyData} :jP K H a xs->yD K H xs ds->Dp K H (.ref a) (.tuple ds)
inductive yD(K:PySem.W.Frag)(H:Hp):List V->List PyData->Prop
 |nil:yD K H [] []
 |cons {v:V} {vs:List V} {d:PyData} {ds:List PyData} :Dp K H v d->yD K H vs ds->yD K H (v::vs) (d::ds)
end
section
mutual
theorem Dp.reads(I:Inv X pins σ H s):∀(d:PyData)(v:V)(u:Value),Dp X.K H v d->RelV v u->∃as,Reads s.heap u d as
 |.none,_,_,h,r=>by
  cases h;cases r;exact⟨_,Reads.none⟩
 |.bool b,_,_,h,r=>by
  cases h;cases r;exact⟨_,Reads.bool b⟩
 |.int i,_,_,h,r=>by
  cases h;obtain⟨t,rfl⟩:=r;exact⟨_,Reads.int i t⟩
 |.str x,_,_,h,r=>by
  cases h;obtain⟨t,rfl⟩:=r;exact⟨_,Reads.str x t⟩
 |.list ds,_,_,h,r=>by
  cases h with
  |lst hs ha=>
   cases r;obtain⟨aR,rv,⟨o,n,ho,hc,_,hd⟩,_⟩:=I.list hs;obtain⟨as,hr⟩:=Dp.readsAll I ds _ aR ha rv;exact⟨_,Reads.list ho hc hd hr⟩
 |.tuple ds,_,_,h,r=>by
  cases h with
  |tup hs ha=>
   cases r;obtain⟨aR,rv,⟨o,ho,hc,n,hd⟩,_⟩:=I.tuple hs;obtain⟨as,hr⟩:=Dp.readsAll I ds _ aR ha rv;exact⟨_,Reads.tuple ho hc hd hr⟩
 |.dict _,_,_,h,_=>by cases h
theorem Dp.readsAll(I:Inv X pins σ H s):∀(ds:List PyData)(vs:List V)(us:List Value),yD X.K H vs ds->Vals vs us->∃as,ReadsAll s.heap us ds as
 |[],_,_,h,r=>by
  cases h;cases r;exact⟨_,ReadsAll.nil⟩
 |d::ds,_,_,h,r=>by
  cases h with
  |cons h1 h2=>
   cases r with
   |cons r1 r2=>
    obtain⟨as,q1⟩:=Dp.reads I d _ _ h1 r1;obtain⟨bs,q2⟩:=Dp.readsAll I ds _ _ h2 r2;exact⟨_,ReadsAll.cons q1 q2⟩
end
end
section
def Z5(K:PySem.W.Frag):R2:=λx y H Q=>∃d e,Dp K H x d/\Dp K H y e/\SeqAt.shaped d=true/\SeqAt.shaped e=true/\Q (.bl (PyData.eqv d e)) H
def Xp(hu:X.A.units+64<cLine):qf X (compareOp .Eq) (Z5 X.K):=by
 intro pins s σ H x y v u Q I rx ry h;obtain⟨d,e,hd,he,sd,se,q⟩:=h;obtain⟨as,r1⟩:=Dp.reads I d x v hd rx;obtain⟨bs,r2⟩:=Dp.reads I e y u he ry;exact SeqAt.compareEq_shaped r1 r2 sd se hu ⟨.bl _,H,I,rfl,q⟩
end
abbrev Pu(h:Heap)(c:Addr)(v:Option Value):Prop:=h.IsCell c v
noncomputable def adw(scope sc:Scope):Scope:=
 {scope with names:=scope.names.map λ(n,k)=>if(k==.free&&sc.kind==.function&&sc.names.lookup n==some .cell)then(n,.cell)else(n,k)}
noncomputable def cx(cells:List (Str×Addr)):List (Str×NameKind)->List (Str×Addr)->List (Str×Addr)
 |[],acc=>acc|(n,k)::r,acc=>if k==.free then cx cells r ((n,(cells.lookup n).getD 0)::acc)else cx cells r acc
theorem tm env f
  (hf:∀n k c,f (n,k) c=if k==.free then(do let a<-cellOf env n;pure (.yield ((n,a)::c)))else pure (.yield c)):
  ∀names acc,(∀y∈names,y.2=.free->∃c,env.cells.lookup y.1=some c)->forIn names acc f=pure (cx env.cells names acc)
 |[],acc,_=>by rw[forIn_nil];rfl
 |(n,k)::r,acc,h=>by
  rw[forIn_cons,hf];have ih:=λacc=>tm env f hf r acc λy hy=>h y (bJ _ hy);unfold cx;by_cases hk:(k==NameKind.free)=true
  .rw[ag hk,ag hk];obtain⟨c,hc⟩:=h (n,k) b9 ‹hk›;have e:cellOf env n=pure c:=by unfold cellOf;rw[hc]
   rw[e];have e2:(env.cells.lookup n).getD 0=c:=by rw[hc];rfl
   rw[e2];exact ih _
  .rw[af hk,af hk];exact ih _
def IL(h:∀y∈scope.names,y.2=.free->∃c,env.cells.lookup y.1=some c):closureFor scope env=pure (cx env.cells scope.names []):=by
 simp only[closureFor];rw[tm env _ (λn k c=>rfl) scope.names [] h];rfl
theorem mem_lookup:∀{l:List (Str×α)}{n}{c},(n,c)∈l->∃c',l.lookup n=some c'
 |(k,v)::r,n,c,h=>by
  rw[Tf];cases hb:n==k with
  |true=>exact⟨_,rfl⟩
  |false=>
   obtain e|h:=mem_cons.mp h
   .cases e;simp at hb
   .exact mem_lookup h
theorem kC:∀{names}{acc}{n}{c},(n,c)∈cx cells names acc->(n,c)∈acc\/((n,.free)∈names/\c=(cells.lookup n).getD 0)
 |[],_,_,_,h=>.inl h
 |(m,k)::r,acc,n,c,h=>by
  unfold cx at h;split at h
  .rename_i hk;have hk:k=.free:=by simpa using hk
   obtain h|⟨h1,h2⟩:=kC h
   .obtain e|h:=mem_cons.mp h
    .cases e;exact .inr ⟨hk▸b9,rfl⟩
    .exact .inl h
   .exact .inr ⟨bJ _ h1,h2⟩
  .obtain h|⟨h1,h2⟩:=kC h
   .exact .inl h
   .exact .inr ⟨bJ _ h1,h2⟩
theorem oB:∀{names}{acc}{p},p∈acc->p∈cx cells names acc
 |[],_,_,h=>h
 |(m,k)::r,acc,p,h=>by
  unfold cx;split
  .exact oB (bJ _ h)
  .exact oB h
theorem oE:∀{names}{acc}{n},(n,.free)∈names->(n,(cells.lookup n).getD 0)∈cx cells names acc
 |(m,k)::r,acc,n,h=>by
  unfold cx;obtain e|h:=mem_cons.mp h
  .cases e;exact oB b9
  .split
   .exact oE h
   .exact oE h
theorem lP:∀{names}{h:Heap}{acc}{x}{c},(x,c)∈cellsFrom h.objs.size names acc->
  (x,c)∈acc\/((x,.cell)∈names/\h.objs.size<=c/\Pu (pushCells h names) c none)
 |[],_,_,_,_,h=>.inl h
 |(n,k)::r,h,acc,x,c,hm=>by
  unfold cellsFrom at hm;unfold pushCells;split at hm
  .rename_i hk;rw[ag hk];have hk:k=.cell:=by simpa using hk
   rw[<-dU h {cls:=.type "cell",data:=.cell none}]at hm;obtain hm|⟨h1,h2,h3⟩:=lP hm
   .obtain e|hm:=mem_cons.mp hm
    .cases e;exact .inr ⟨hk▸b9,aL _,_,w_ r _ _ _ (bw _ rfl),rfl⟩
    .exact .inl hm
   .rw[dU]at h2;exact .inr ⟨bJ _ h1,wN h2,h3⟩
  .rename_i hk;rw[af hk];obtain hm|⟨h1,h2,h3⟩:=lP hm
   .exact .inl hm
   .exact .inr ⟨bJ _ h1,h2,h3⟩
theorem qh:∀{names}{n}{acc}{p},p∈acc->p∈cellsFrom n names acc
 |[],_,_,_,h=>h
 |(m,k)::r,n,acc,p,h=>by
  unfold cellsFrom;split
  .exact qh (bJ _ h)
  .exact qh h
theorem uB:∀{names}{n}{acc}{x},(x,.cell)∈names->∃c,(x,c)∈cellsFrom n names acc
 |(m,k)::r,n,acc,x,h=>by
  unfold cellsFrom;obtain e|h:=mem_cons.mp h
  .cases e;exact⟨n,qh b9⟩
  .split
   .exact uB h
   .exact uB h
theorem uC:∀{names}{h:Heap}{acc:List (Str×Addr)}{x y}{c},(∀p∈acc,p.2<h.objs.size)->(∀x y c,(x,c)∈acc->(y,c)∈acc->x=y)->
  (x,c)∈cellsFrom h.objs.size names acc->(y,c)∈cellsFrom h.objs.size names acc->x=y
 |[],_,_,_,_,_,_,hi,h1,h2=>hi _ _ _ h1 h2
 |(n,k)::r,h,acc,x,y,c,hl,hi,h1,h2=>by
  unfold cellsFrom at h1 h2;split at h1
  .rename_i hk;rw[ag hk]at h2;rw[<-dU h {cls:=.type "cell",data:=.cell none}]at h1 h2;refine uC (λp hp=>?_) (λx y c a b=>?_) h1 h2
   .rw[dU];obtain rfl|hp:=mem_cons.mp hp
    .exact kO _
    .exact my (hl p hp)
   .obtain e|a:=mem_cons.mp a<;>rcases mem_cons.mp b with e'|b
    .cases e;cases e';rfl
    .cases e;exact absurd (hl _ b) (iZ _)
    .cases e';exact absurd (hl _ a) (iZ _)
    .exact hi _ _ _ a b
  .rename_i hk;rw[af hk]at h2;exact uC hl hi h1 h2
def F5{code:Value}{Q:Env->Shared->Prop}(h:Q (newEnv scope s.heap.objs.size globals (cellsFrom (s.heap.objs.size+1) scope.names closure) qual func code (some around) builtins)
   {s with heap:=pushCells (s.heap.push {cls:=.type "dict",data:=.dict #[]}) scope.names}):
  wpAny M A (newFunctionEnv scope globals closure [] qual func code (some around) builtins) Q E s:=by
 simp only[newFunctionEnv,Option.isSome_some,if_true];refine aj (wpAny_alloc ?_);refine aj (wpAny_layCells _ (λn k c=>rfl) scope.names closure _ _ ?_);rw[show({s with heap:=s.heap.push {cls:=.type "dict",data:=.dict #[]}} :Shared).heap.objs.size=s.heap.objs.size+1 from dU ..];exact aj (ay (ay h))
theorem oF{sc:Scope}:∀{names:List (Str×NameKind)}{x}{k},
  (names.map λ(n,k)=>if(k==NameKind.free&&sc.kind==.function&&sc.names.lookup n==some .cell)then(n,NameKind.cell)else(n,k)).lookup x=some k->
  ∃k',names.lookup x=some k'/\(k=k'\/(k'=.free/\k=.cell))
 |[],_,_,h=>by simp at h
 |(n,k₀)::r,x,k,h=>by
  have ih:= @oF sc r x k;have h':List.lookup x ((if(k₀==NameKind.free&&sc.kind==.function&&sc.names.lookup n==some .cell)=true then(n,NameKind.cell)else(n,k₀))::(r.map _))=some k:=h;cases hx:x==n with
  |true=>
   simp only[lookup_cons,hx];by_cases hc:(k₀==NameKind.free&&sc.kind==.function&&sc.names.lookup n==some .cell)=true
   .rw[ag hc]at h';simp only[lookup_cons,hx]at h';cases h';simp only[Bool.and_eq_true,beq_iff_eq]at hc;exact⟨k₀,rfl,.inr ⟨hc.1.1,rfl⟩⟩
   .rw[af hc]at h';simp only[lookup_cons,hx]at h';cases h';exact⟨_,rfl,.inl rfl⟩
  |false=>
   simp only[lookup_cons,hx];by_cases hc:(k₀==NameKind.free&&sc.kind==.function&&sc.names.lookup n==some .cell)=true
   .rw[ag hc]at h';simp only[lookup_cons,hx]at h';exact ih h'
   .rw[af hc]at h';simp only[lookup_cons,hx]at h';exact ih h'
structure yE(N:List Str)(sc scope:Scope)(own:List (Str×Nat)):Prop where
 kind:scope.kind=.function
 uniq:∀y∈scope.names,scope.names.lookup y.1=some y.2
 ix:∀p∈own,N[p.2]?=some p.1
 free:∀y∈scope.names,y.2=.free->sc.names.lookup y.1=some .cell\/sc.names.lookup y.1=some .free
 own:∀y∈scope.names,y.2=.local\/y.2=.cell->y.1∈own.map (·.1)\/y.1∉N
noncomputable def wipe(σ:St):List Nat->St
 |[]=>σ|v::vs=>(wipe σ vs).set v none
theorem oG σ:∀vs:List Nat,(wipe σ vs).length=σ.length
 |[]=>rfl|v::vs=>by unfold wipe;rw[length_set,oG σ vs]
theorem uD{x:V}:∀{vs},(wipe σ vs)[i]?=some (some x)->σ[i]?=some (some x)/\i∉vs
 |[],h=>⟨h,by simp⟩
 |v::vs,h=>by
  unfold wipe at h;by_cases hi:v=i
  .subst hi;by_cases hv:v<(wipe σ vs).length
   .rw[getElem?_set_self hv]at h;cases h
   .rw[ot ‹hv›]at h;cases h
  .rw[getElem?_set_ne hi]at h;obtain⟨h1,h2⟩:=uD h;exact⟨h1,by simp only[mem_cons,not_or];exact⟨λe=>hi e.symm,h2⟩⟩
noncomputable abbrev Cx.IM(X:Cx)(s:Shared)(H:Hp)(scope:Scope)(gj:Env)(fp:List Addr):Cx:= {X with xC:=s,ZN:=H,env:=gj,outer:=X.stack,ex:=fp,fn:=λx=>scope.names.lookup x==some .cell,pn:=[],xe:=λ_ _=>False}
section
def F6(I:Inv X pins σ H s)(ok:yE X.N X.env.scope scope own)(hN:X.N.Nodup)(Zi:∀b∈fp,vX X pins H b/\b<s.heap.objs.size):
  Inv (X.IM s H scope (compEnvC scope (cellsFrom (s.heap.objs.size+1) scope.names (cx X.env.cells scope.names [])) s.heap.objs.size X.env) fp) [] (wipe σ (own.map (·.2))) H {s with heap:=pushCells (s.heap.push {cls:=.type "dict",data:=.dict #[]}) scope.names} :=by
 have vk:∀y∈scope.names,y.2=.free->∃c,X.env.cells.lookup y.1=some c:=λy hy e=>by
  obtain k|k:=ok.free y hy e
  .exact I.ok.has _ (.inl k)
  .exact I.ok.has _ (.inr k)
 generalize F7:compEnvC scope (cellsFrom (s.heap.objs.size+1) scope.names (cx X.env.cells scope.names [])) s.heap.objs.size X.env=gj;have kp:∀b o,s.heap.get? b=some o->(pushCells (s.heap.push {cls:=.type "dict",data:=.dict #[]}) scope.names).get? b=some o:=λb o e=>w_ _ _ _ _ (bR _ e);have hL:gj.locals=s.heap.objs.size:=by rw[<-F7];rfl
 have A_:gj.cells=cellsFrom (s.heap.objs.size+1) scope.names (cx X.env.cells scope.names []):=by rw[<-F7];rfl
 have hsc:gj.scope=adw scope X.env.scope:=by rw[<-F7];rfl
 rw[<-dU s.heap {cls:=.type "dict",data:=.dict #[]}]at A_;have cm:∀{y c},(y,c)∈cx X.env.cells scope.names []->X.env.cells.lookup y=some c/\c<s.heap.objs.size:=λ{y c} hm=>by
  obtain hm|⟨h1,rfl⟩:=kC hm
  .cases hm
  .obtain⟨c,hc⟩:=vk _ h1 rfl;rw[hc];obtain⟨w,z⟩:=I.cell _ _ hc;exact⟨rfl,z.lt⟩
 have mem:∀{y c},gj.cells.lookup y=some c->(X.env.cells.lookup y=some c/\c<s.heap.objs.size)\/(s.heap.objs.size+1<=c/\Pu (pushCells (s.heap.push {cls:=.type "dict",data:=.dict #[]}) scope.names) c none):=λ{y c} e=>by
  rw[A_]at e;obtain hm|⟨_,h2,h3⟩:=lP (fS e)
  .exact .inl (cm hm)
  .rw[dU]at h2;exact .inr ⟨h2,h3⟩
 have look:∀{y},scope.names.lookup y=some .free->∃c,gj.cells.lookup y=some c/\X.env.cells.lookup y=some c:=λ{y} hl=>by
  have hy:=fS hl;obtain⟨c',e'⟩:=mem_lookup (qh (names:=scope.names) (oE (cells:=X.env.cells) (acc:=[]) hy));rw[<-A_]at e';refine⟨c',e',?_⟩;rw[A_]at e';obtain hm|⟨h1,_,_⟩:=lP (fS e')
  .exact(cm hm).1
  .have:=ok.uniq _ h1;rw[hl]at this;cases this
 have okB:(X.IM s H scope gj fp).Ok:=by
  refine⟨I.ok.mod,by show gj.scope.kind=_;rw[hsc];exact ok.kind,by show gj.globals=_;rw[<-F7];exact I.ok.glob,by show gj.builtins=_;rw[<-F7];exact I.ok.blt,by show s.heap.objs.size<=gj.locals;rw[hL];exact aL _,
   λy z c e1 e2=>?_,λy hy=>?_,λy c z e=>?_,I.ok.hd,I.ok.frames,.inl rfl,λb hb=>⟨?_,λy c e z=>?_⟩,I.bs,aX I.ok.MO I.sz,λb o e hb=>?_,λb hb z=>?_,I.stack,I.Dt⟩
  .have e1:=e1;have e2:=e2;rw[A_]at e1 e2;refine uC (λp hp=>?_) (λy z c a b=>I.ok.inj y z c (cm a).1 (cm b).1) (fS e1) (fS e2);rw[dU];exact my (cm (c:=p.2) hp).2
  .show∃c,gj.cells.lookup y=some c;have key:∀k,gj.kindOf y=some k->(k=.cell\/k=.free)->∃c,gj.cells.lookup y=some c:=λk hk qi=>by
    unfold Env.kindOf at hk;rw[hsc]at hk;obtain⟨k',e,r⟩:=oF hk;have:k'=.cell\/k'=.free:=by
     obtain rfl|⟨rfl,_⟩:=r
     .exact qi
     .exact .inr rfl
    obtain rfl|rfl:=this
    .obtain⟨c,hm⟩:=uB (acc:=cx X.env.cells scope.names []) (fS e);obtain⟨c',e'⟩:=mem_lookup hm;exact⟨c',by rw[A_];exact e'⟩
    .obtain⟨c,h1,_⟩:=look e;exact⟨c,h1⟩
   obtain hy|hy:=hy
   .exact key _ hy (.inl rfl)
   .exact key _ hy (.inr rfl)
  .have z:=z;have z:scope.names.lookup y=some .cell:=by simpa using z
   have e:=e;rw[A_]at e;obtain hm|⟨_,h2,_⟩:=lP (fS e)
   .obtain hm|⟨h1,_⟩:=kC hm
    .cases hm
    .have q:=ok.uniq _ h1;rw[z]at q;cases q
   .rw[dU]at h2;exact wN h2
  .show b≠gj.locals;rw[hL];exact bB (Zi b hb).2
  .have e:=e;obtain⟨h1,_⟩|⟨h1,_⟩:=mem e
   .exact(Zi b hb).1.2.2.2.2.1 y c h1 z
   .have h2:s.heap.objs.size+1<=b:=by rw[<-z];exact h1
    exact absurd (dS (Zi b hb).2 (wN h2)) (iZ _)
  .obtain z|z:=(Zi b hb).1.2.2.2.1
   .exact I.ok.Io b o e z
   .exact absurd (dS (aN e) (aX I.ok.MO z)) (iZ _)
  .obtain z|z:=mem_cons.mp (I.Ds b z)
   .exact(Zi b hb).1.2.1 z
   .exact(Zi b hb).1.2.2.1 z
 refine⟨okB,rfl,I.bare,Un.kept kp,⟨λ_=>none,?_,λi y av e1 e2 e3=>?_⟩,λy c e=>?_,?_,λy c e=>?_,λp hp=>?_,I.bL.kept kp,by rw[oG];exact I.len⟩
 .show Heap.Ns _ gj.locals _;rw[hL];exact Heap.Ns.keeps (Heap.Ns.new ..) λb o e=>w_ _ _ _ _ e
 .obtain⟨e2,iF⟩:=uD e2;have FE:scope.names.lookup y=some .free/\(gj.kindOf y=some .cell\/gj.kindOf y=some .free):=by
   have key:∀k,gj.scope.names.lookup y=some k->k=.local\/k=.cell\/k=.free->scope.names.lookup y=some .free/\(gj.kindOf y=some .cell\/gj.kindOf y=some .free):=λk hk qi=>by
    have hk0:=hk;rw[hsc]at hk;obtain⟨k',e,r⟩:=oF hk;have no:¬(k'=.local\/k'=.cell):=λhh=>by
     obtain e'|e':=ok.own _ (fS e) hh
     .obtain⟨p,hp,SF⟩:=mem_map.mp e';have e3:=ok.ix p hp;have:=SF;rw[this]at e3;exact iF (mem_map.mpr ⟨p,hp,yj hN e3 e1⟩)
     .exact e' (bh e1)
    obtain rfl|⟨rfl,rfl⟩:=r
    .obtain rfl|rfl|rfl:=qi
     .exact absurd (.inl rfl) no
     .exact absurd (.inr rfl) no
     .exact⟨e,.inr hk0⟩
    .exact⟨e,.inl hk0⟩
   have e3:=e3;obtain e3|e3|e3:=e3
   .exact key _ e3 (.inl rfl)
   .exact key _ e3 (.inr (.inl rfl))
   .exact key _ e3 (.inr (.inr rfl))
  obtain⟨m,hn,hl⟩:=I.loc;have adx:ZO X.env.scope y:=(ok.free _ (fS FE.1) rfl).elim (λk=>.inr (.inl k)) (λk=>.inr (.inr k));obtain⟨w,r,q⟩:=hl i y av e1 e2 adx;refine⟨w,r,.inr ⟨FE.2,?_⟩⟩;obtain⟨c,h1,h2⟩:=look FE.1;obtain⟨k,_⟩|⟨_,c',e',z⟩:=q
  .have k:X.env.scope.names.lookup y=some .local:=k;obtain k'|k':=ok.free _ (fS FE.1) rfl<;>rw[show X.env.scope.names.lookup y=_ from k']at k<;>cases k
  .rw[h2]at e';cases e';exact⟨c,h1,z.keeps kp⟩
 .have e:=e;obtain⟨h1,_⟩|⟨_,z⟩:=mem e
  .obtain⟨w,z⟩:=I.cell y c h1;exact⟨w,z.keeps kp⟩
  .exact⟨_,z⟩
 .show H gj.locals=none;rw[hL];exact I.bL.fresh (aL _)
 .have e:=e;obtain⟨h1,_⟩|⟨h1,_⟩:=mem e
  .exact I.iM y c h1
  .exact I.bL.fresh (wN h1)
 .exact absurd (show p∈([]:List (Addr×Obj))++ []from hp) ∅
def Xq{v:Value}(I:Inv X pins σ H s)(hD:H D=some (.lst xs))(hz:xs.length<sizeLine)(r:RelV y v)(h:∀s',Inv X pins σ (upd H D (.lst (xs++ [y]))) s'->Q .none s'):wpAny (model X.prog X.w) X.A (call (.builtin "list.append") [.ref D,v]) Q E s:=by
 obtain⟨FG,aR,n,ri,e⟩:=I.bL D _ hD;have hl:=ri.length;refine append_at e λh' sb xD=>?_;refine h {s with heap:=h'} (I.write (by rw[hD];trivial) (.inl rfl) (λb u hb q=>(sb.2 b hb).trans q) ⟨_,xD⟩ ⟨by rw[c9];exact hz,aR++ [v],n+1,ri.append (.cons r .nil),?_⟩);rw[xD];simp
def Xr(X:Cx)(ifs:List Expr)(t:TT):Prop:=
 ∀(pins:List (Addr×Obj))(s:Shared)(σ:St)(H:Hp)(Q:Bool->Hp->Prop),Inv X pins σ H s->t σ H Q->
  wpAny (model X.prog X.w) X.A (forIn ifs true λc r=>if r=true then do let ok<-isTrue c X.env (eval c X.env);pure (ForInStep.yield ok)else pure (ForInStep.yield r)) (TP X pins σ Q) X.xe s
def F8:TT:=λ_ H Q=>Q true H
def dH:Xr X [] F8:=λ_ _ _ H _ I h=>wpAny_tests_nil ⟨H,I,h⟩
def xE{c:Expr}{t:TT}(h:PT X c t):Xr X [c] t:=λpins s σ H Q I hw=>wpAny_tests_one (h pins s σ H Q I hw)
end
def Xs{t:Sem α}{Q Q':α->Shared->Prop}(h:wpAny M A t Q (λ_ _=>False) s)(hQ:∀a s,Q a s->Q' a s):wpAny M A t Q' E s:=da h hQ λ_ _ z=>False.elim z
def DN{it acc:Value}(I:Nat->Shared->Prop)(turn:∀n s,I n s->wpAny (model prog w) A (pyNext it) (λr s₁=>match r with
   |none=>R (.ok .next) s₁
   |some v=>wpAny (model prog w) A (letOwnedTupleGo target it v) (λ_ s₁'=>wpAny (model prog w) A (assign target env v) (λ_ s₂=>
     wpAny (model prog w) A (forIn ifs true λc r=>if r=true then do let ok<-isTrue c env (eval c env);pure (ForInStep.yield ok)else pure (ForInStep.yield r)) (λok s₃=>
      if ok=true then wpAny (model prog w) A (eval elt env) (λx s₄=>
       wpAny (model prog w) A (call (.builtin "list.append") [acc,x]) (λ_ s₅=>∃m,m<n/\I m s₅) (notedBy (model prog w) A env λe s'=>R (.error e) s') s₄) (notedBy (model prog w) A env λe s'=>R (.error e) s') s₃
      else∃m,m<n/\I m s₃) (notedBy (model prog w) A env λe s'=>R (.error e) s') s₂) (notedBy (model prog w) A env λe s'=>R (.error e) s') s₁') (notedBy (model prog w) A env λe s'=>R (.error e) s') s₁) (notedBy (model prog w) A env λe s'=>R (.error e) s') s)
   n (h:I n s):
  codeAny (model prog w) A (.compLoop (.ListComp elt [⟨target,iter,ifs,0⟩] scope pos) 0 it acc env) R s:=by
 refine codeAny_loop rfl I (λn s hI=>?_) n h;refine wpAny_noted ?_;refine aj (wpAny_standAt (aj (da (turn n s hI) (λr s₁ h₁=>?_) λ_ _ h'=>h')));cases r with
 |none=>exact ay h₁
 |some v=>
  refine aj (da h₁ (λ_ s₁' h₁'=>?_) λ_ _ h'=>h');refine aj (da h₁' (λ_ s₂ h₂=>aj (da h₂ (λok s₃ h₃=>?_) λ_ _ h'=>h')) λ_ _ h'=>h');cases ok with
  |false=>exact ay ⟨rfl,h₃⟩
  |true=>
   exact aj (aj (da h₃ (λx s₄ h₄=>aj (da h₄ (λ_ s₅ h₅=>ay (ay ⟨rfl,h₅⟩)) λ_ _ h'=>h')) λ_ _ h'=>h'))
section
def Zj(wi:TI)(g:TG)(tt:TT)(te:TE)(vs:List Nat):TE:=λσ H Q=>wi σ H λJ H1=>∀D,H1 D=none->∃W:Nat->Nat->Hp->Prop,(∃m,W 0 m (upd H1 D (.lst [])))/\∀i m H,W i m H->
 (J.stop i H/\Q (.ref D) H)\/(J.go i H/\∃Nx:Hp->Prop,(∀H',Nx H'->∃m',m'<m/\W (i+1) m' H')/\∀x H',J.FD i H x H'->g x (wipe σ vs) H' λσ2 H2=>wipe σ2 vs=wipe σ vs/\tt σ2 H2 λb H3=>
  if b=true then te σ2 H3 λy H4=>∃acc,H4 D=some (.lst acc)/\acc.length<sizeLine/\Nx (upd H4 D (.lst (acc++ [y])))else Nx H3)
def tq{y:Str}{l:Nat}(hk:env.scope.kind=.function)(hy:env.scope.names.lookup y=some .local)(hl:(py.line==pos.line)=true)(ha:(scope.names.any λ(n,k)=>n==y&&(k==.local||k==.cell))=false):swapsWith (.ListComp elt gs scope pos) (some (.Name y py)) l env=pure true:=by
 have ky:env.kindOf y=some .local:=hy;have hb:env.blockKind=.function:=by unfold Env.blockKind;rw[hk];rfl
 unfold swapsWith;have hp:(Expr.ListComp elt gs scope pos).pos=pos:=rfl;have hq:(Expr.Name y py).pos=py:=rfl;simp only[hb,ky,ha,hp,hq,hl];rfl
end
def F_{lo:Int}{vs:List Nat}(Pv:Nat->Hp->Prop)(h0:Pv 0 (upd H1 D (.lst [])))(hs:∀i H,i<n->Pv i H->g (.int (lo+i)) (wipe σ vs) H λσ2 H2=>wipe σ2 vs=wipe σ vs/\tt σ2 H2 λb H3=>
   if b=true then te σ2 H3 λy H4=>∃acc,H4 D=some (.lst acc)/\acc.length<sizeLine/\Pv (i+1) (upd H4 D (.lst (acc++ [y])))else Pv (i+1) H3)(hd:∀H,Pv n H->Qd H):
  ∃W:Nat->Nat->Hp->Prop,(∃m,W 0 m (upd H1 D (.lst [])))/\∀i m H,W i m H->
   ((SA lo n).stop i H/\Qd H)\/((SA lo n).go i H/\∃Nx:Hp->Prop,(∀H',Nx H'->∃m',m'<m/\W (i+1) m' H')/\∀x H',(SA lo n).FD i H x H'->g x (wipe σ vs) H' λσ2 H2=>wipe σ2 vs=wipe σ vs/\tt σ2 H2 λb H3=>
    if b=true then te σ2 H3 λy H4=>∃acc,H4 D=some (.lst acc)/\acc.length<sizeLine/\Nx (upd H4 D (.lst (acc++ [y])))else Nx H3):=by
 refine⟨λi m H=>m=n-i/\i<=n/\Pv i H,⟨n,by simp,cj _,h0⟩,?_⟩;rintro i m H ⟨rfl,hi,p⟩;by_cases dQ:i<n
 .refine .inr ⟨dQ,Pv (i+1),λH' p'=>⟨n-(i+1),by omega,rfl,dQ,p'⟩,λx H' y=>?_⟩;obtain⟨e,y⟩:=y;subst e y;exact hs i _ dQ p
 .have e:i=n:=by omega
  subst e;exact .inl ⟨aL _,hd H p⟩
def T1{vs:List Nat}(Pv:Nat->Hp->Prop)(h0:Pv 0 (upd H1 D (.lst [])))(hl:∀i H,i<=xs.length->Pv i H->aM K H a xs)(hs:∀i x H,xs[i]?=some x->Pv i H->g x (wipe σ vs) H λσ2 H2=>wipe σ2 vs=wipe σ vs/\tt σ2 H2 λb H3=>
   if b=true then te σ2 H3 λy H4=>∃acc,H4 D=some (.lst acc)/\acc.length<sizeLine/\Pv (i+1) (upd H4 D (.lst (acc++ [y])))else Pv (i+1) H3)(hd:∀H,Pv xs.length H->Qd H):
  ∃W:Nat->Nat->Hp->Prop,(∃m,W 0 m (upd H1 D (.lst [])))/\∀i m H,W i m H->
   ((O4 K a).stop i H/\Qd H)\/((O4 K a).go i H/\∃Nx:Hp->Prop,(∀H',Nx H'->∃m',m'<m/\W (i+1) m' H')/\∀x H',(O4 K a).FD i H x H'->g x (wipe σ vs) H' λσ2 H2=>wipe σ2 vs=wipe σ vs/\tt σ2 H2 λb H3=>
    if b=true then te σ2 H3 λy H4=>∃acc,H4 D=some (.lst acc)/\acc.length<sizeLine/\Nx (upd H4 D (.lst (acc++ [y])))else Nx H3):=by
 refine⟨λi m H=>m=xs.length-i/\i<=xs.length/\Pv i H,⟨xs.length,by simp,cj _,h0⟩,?_⟩;rintro i m H ⟨rfl,hi,p⟩;have q:=hl i H hi p;by_cases dQ:i<xs.length
 .refine .inr ⟨⟨xs,xs[i],q,by simp[dQ]⟩,Pv (i+1),λH' p'=>⟨xs.length-(i+1),by omega,rfl,dQ,p'⟩,λx H' y=>?_⟩;obtain⟨e,y⟩:=y;subst e;exact hs i x _ (y xs q) p
 .have e:i=xs.length:=by omega
  subst e;exact .inl ⟨⟨xs,q,aL _⟩,hd H p⟩
noncomputable def Z6(N:List Str)(sc scope:Scope)(own:List (Str×Nat)):Bool:=
 (match scope.kind with|.function=>true|_=>false)&&(scope.names.all λy=>decide (scope.names.lookup y.1=some y.2))&&(own.all λp=>decide (N[p.2]?=some p.1))&&
  (scope.names.all λy=>match y.2 with
   |.free=>(match sc.names.lookup y.1 with|some .cell=>true|some .free=>true|_=>false)
   |.local=>decide (y.1∈own.map (·.1))||decide (y.1∉N)
   |.cell=>decide (y.1∈own.map (·.1))||decide (y.1∉N)
   |_=>true)
def bY(h:Z6 N sc scope own=true):yE N sc scope own:=by
 unfold Z6 at h;simp only[Bool.and_eq_true,all_eq_true,decide_eq_true_eq]at h;obtain⟨⟨⟨h1,h2⟩,h3⟩,h4⟩:=h;refine⟨?_,h2,h3,λy hy e=>?_,λy hy e=>?_⟩
 .split at h1
  .assumption
  .cases h1
 .have q:=h4 y hy;simp only[e]at q;split at q<;>first|exact .inl (by assumption)|exact .inr (by assumption)|cases q
 .have q:=h4 y hy;obtain e|e:=e<;>(simp only[e,Bool.or_eq_true,decide_eq_true_eq]at q;exact q)
section
variable {κ:Type} [DecidableEq κ]
noncomputable def eO(kvs:List (κ×V))(k:κ):Option V:=(kvs.find? λkv=>decide (kv.1=k)).map (·.2)
noncomputable def putK(kvs:List (κ×V))(k:κ)(v:V):List (κ×V):=
 if(kvs.any λkv=>decide (kv.1=k))=true then kvs.map (λkv=>if kv.1=k then(kv.1,v)else kv)else kvs++ [(k,v)]
theorem cz{r:List (κ×V)}(e:p.1=k):eO (p::r) k=some p.2:=by simp[eO,find?_cons,e]
def cA{r:List (κ×V)}(e:¬p.1=k):eO (p::r) k=eO r k:=by simp[eO,find?_cons,e]
theorem tu k:∀kvs:List (κ×V),(kvs.any λkv=>decide (kv.1=k))=(eO kvs k).isSome
 |[]=>rfl
 |p::r=>by
  rw[any_cons];by_cases e:p.1=k
  .simp only[cz e,decide_eq_true e,Bool.true_or,Option.isSome_some]
  .rw[cA e,cV e,KC];exact tu k r
theorem Ga k j y:∀kvs:List (κ×V),eO (kvs.map λkv=>if kv.1=k then(kv.1,y)else kv) j=(eO kvs j).map λx=>if j=k then y else x
 |[]=>rfl
 |p::r=>by
  have ih:=Ga k j y r;rw[aJ];by_cases h:p.1=k
  .rw[ag h];by_cases e:p.1=j
   .rw[cz (p:=(p.1,y)) e,cz e,Dl,ag (e.symm.trans h)]
   .rw[cA (p:=(p.1,y)) e,cA e,ih]
  .rw[af h];by_cases e:p.1=j
   .rw[cz e,cz e,Dl,af (λz=>h (e.trans z))]
   .rw[cA e,cA e,ih]
theorem BX k j y:∀kvs:List (κ×V),eO kvs k=none->eO (kvs++ [(k,y)]) j=if j=k then some y else eO kvs j
 |[],_=>by
  by_cases e:k=j
  .rw[ag e.symm];exact cz e
  .rw[af (λz=>e z.symm)];exact cA e
 |p::r,hn=>by
  rw[cons_append];have hk:¬p.1=k:=λz=>by rw[cz z]at hn;cases hn
  rw[cA hk]at hn;have ih:=BX k j y r hn;by_cases e:p.1=j
  .rw[cz e,cz e,af (λz=>hk (e.trans z))]
  .rw[cA e,cA e,ih]
def Gb(kvs:List (κ×V)) k j y:eO (putK kvs k y) j=if j=k then some y else eO kvs j:=by
 unfold putK;by_cases a:(kvs.any λkv=>decide (kv.1=k))=true
 .rw[ag a,Ga];rw[tu]at a;by_cases e:j=k
  .obtain⟨x,hx⟩:=Option.isSome_iff_exists.mp a;rw[ag e,e,hx,Dl,ag rfl]
  .rw[af e];cases eO kvs j with
   |none=>rfl|some x=>rw[Dl,af e]
 .rw[af a];refine BX k j y kvs ?_;rw[tu]at a;cases q:eO kvs k with
  |none=>rfl|some x=>rw[q]at a;exact(a rfl).elim
def oH(kvs:List (κ×V)) k v:(putK kvs k v).length<=kvs.length+1:=by
 unfold putK;split
 .rw[az];omega
 .rw[c9,aZ,pL];omega
def rj.qj{o:Option V}{u:Option Value}(r:rj o u):o.isSome=u.isSome:=by
 cases o with
 |none=>cases u with
  |none=>rfl|some _=>exact(show False from r).elim
 |some _=>cases u with
  |none=>exact(show False from r).elim
  |some _=>rfl
theorem rj.getD{o:Option V}{u:Option Value}(r:rj o u)(rd:RelV d d'):RelV (o.getD d) (u.getD d'):=by
 cases o with
 |none=>cases u with
  |none=>exact rd|some _=>exact(show False from r).elim
 |some _=>cases u with
  |none=>exact(show False from r).elim
  |some _=>exact r
def KV.val{kvs:List (κ×V)}{vs:List (κ×Value)}(r:KV kvs vs) k:rj (eO kvs k) (valueAt vs k):=by
 induction r with
 |nil=>exact True.intro
 |@cons p q ps qs h t ih=>
  obtain⟨h1,h2⟩:=h;by_cases e:p.1=k
  .have e':=h1.symm.trans e;have b:valueAt (q::qs) k=some q.2:=by simp[valueAt,find?_cons,e']
   rw[cz e,b];exact h2
  .have e':¬q.1=k:=λz=>e (h1.trans z);have b:valueAt (q::qs) k=valueAt qs k:=by simp[valueAt,find?_cons,e']
   rw[cA e,b];exact ih
theorem KV.any{kvs:List (κ×V)}{vs:List (κ×Value)}(r:KV kvs vs) k:(kvs.any λkv=>decide (kv.1=k))=vs.any λkv=>decide (kv.1=k):=by
 induction r with
 |nil=>rfl|cons h t ih=>rw[any_cons,any_cons,ih,h.1]
def KV.repl{kvs:List (κ×V)}{vs:List (κ×Value)}(r:KV kvs vs) k (ry:RelV y u):
  KV (kvs.map λkv=>if kv.1=k then(kv.1,y)else kv) (vs.map λkv=>if kv.1=k then(kv.1,u)else kv):=by
 induction r with
 |nil=>exact .nil
 |@cons p q ps qs h t ih=>
  rw[aJ,aJ];refine .cons ?_ ih;obtain⟨h1,h2⟩:=h;by_cases e:p.1=k
  .rw[ag e,ag (h1.symm.trans e)];exact⟨h1,ry⟩
  .rw[af e,af (λz=>e (h1.trans z))];exact⟨h1,h2⟩
theorem KV.put{kvs:List (κ×V)}{vs:List (κ×Value)}(r:KV kvs vs) k (ry:RelV y u):KV (putK kvs k y) (stored vs k u):=by
 unfold putK stored;rw[r.any k];by_cases e:(vs.any λkv=>decide (kv.1=k))=true
 .rw[ag e,ag e];exact r.repl k ry
 .rw[af e,af e];exact kn r ⟨rfl,ry⟩
theorem KV.keys{kvs:List (κ×V)}{vs:List (κ×Value)}(r:KV kvs vs):kvs.map (·.1)=vs.map (·.1):=by
 unfold KV at r
 induction r with
 |nil=>rfl|cons h t ih=>rw[aJ,aJ,ih,h.1]
theorem KV.length{kvs:List (κ×V)}{vs:List (κ×Value)}(r:KV kvs vs):kvs.length=vs.length:=Paired.length r
end
def tD(r:RelV (kV k) u):(bM P w).is k u=true:=by
 cases k with
 |inl i=>obtain⟨t,e⟩:=(show∃t,u=Value.int i t from r);subst e;exact FJ P w i t
 |inr x=>obtain⟨t,e⟩:=(show∃t,u=Value.str x t from r);subst e;exact FK P w x t
theorem BZ:∀{ks}{us},Vals (ks.map kV) us->ItemsAre (bM P w) ks us
 |[],_,r=>by rw[Dr]at r;cases r;exact .nil
 |k::ks,_,r=>by
  cases r with
  |cons h t=>exact .cons (tD h) (BZ t)
abbrev KT(H:Hp):List (List Key×V)->List (List Key×Addr×Value)->Prop:=Paired λp q=>p.1=q.1/\H q.2.1=some (.tup (p.1.map kV))/\RelV p.2 q.2.2
def KT.val{kvs:List (List Key×V)}{xs:List (List Key×Addr×Value)}(r:KT H kvs xs) k:rj (eO kvs k) ((atKey xs k).map (·.2)):=by
 induction r with
 |nil=>exact True.intro
 |@cons p q ps qs h t ih=>
  obtain⟨h1,_,h2⟩:=h;by_cases e:p.1=k
  .have e':=h1.symm.trans e;have b:atKey (q::qs) k=some q.2:=by simp[atKey,find?_cons,e']
   rw[cz e,b];exact h2
  .have e':¬q.1=k:=λz=>e (h1.trans z);have b:atKey (q::qs) k=atKey qs k:=by simp[atKey,find?_cons,e']
   rw[cA e,b];exact ih
def KT.repl{kvs:List (List Key×V)}{xs:List (List Key×Addr×Value)}(r:KT H kvs xs) k (ry:RelV y u):
  KT H (kvs.map λkv=>if kv.1=k then(kv.1,y)else kv) (xs.map (putAt k u)):=by
 induction r with
 |nil=>exact .nil
 |@cons p q ps qs h t ih=>
  rw[aJ,aJ];refine .cons ?_ ih;obtain⟨h1,h2,h3⟩:=h;unfold putAt;by_cases e:p.1=k
  .rw[ag e,ag (h1.symm.trans e)];exact⟨h1,h2,ry⟩
  .rw[af e,af (λz=>e (h1.trans z))];exact⟨h1,h2,h3⟩
theorem KT.put{kvs:List (List Key×V)}{xs:List (List Key×Addr×Value)}(r:KT H kvs xs) k (hb:H b=some (.tup (k.map kV))) (ry:RelV y u):
  KT H (putK kvs k y) (storedH xs k b u):=by
 have e:(kvs.any λkv=>decide (kv.1=k))=(atKey xs k).isSome:=by
  rw[tu,(r.val k).qj,Option.isSome_map]
 unfold putK storedH;rw[e];by_cases q:(atKey xs k).isSome=true
 .rw[ag q,ag q];exact r.repl k ry
 .rw[af q,af q];exact kn r ⟨rfl,hb,ry⟩
def KT.keeps{kvs:List (List Key×V)}{xs:List (List Key×Addr×Value)}(r:KT H kvs xs)(ht:∀b ys,H b=some (.tup ys)->H' b=some (.tup ys)):KT H' kvs xs:=
 Paired.fT r λ_ _ z=>⟨z.1,ht _ _ z.2.1,z.2.2⟩
section
def VO{u:HO}(ok:mO P w H h)(e:Rd H a u):dF P w H h a u:=e.ok ok
def B1(ok:mO P w H h)(e:Rd H a (.dK kvs)):kvs.length<=sizeLine/\(a==sysModules)=false/\∃vs,KV kvs vs/\h.DictOf (bM P w) a vs:=
 show dF P w H h a (.dK kvs)from VO ok e
def VP(ok:mO P w H h)(e:H a=some (.dK kvs)):kvs.length<=sizeLine/\(a==sysModules)=false/\∃vs,KV kvs vs/\h.DictOf (bM P w) a vs:=B1 ok (.inl e)
def yF{ks:List Key}(ok:mO P w H h)(e:H a=some (.tup (ks.map kV))):(tupleKind (bM P w)).is h ks a:=by
 obtain⟨_,aR,r,o,h1,h2,n,h3⟩:=(show dF P w H h a (.tup (ks.map kV))from ok a _ e);exact⟨o,aR.toArray,n,h1,h2,h3,‹BZ r›⟩
def B2{kvs:List (List Key×V)}(ok:mO P w H h)(e:Rd H a (.dT kvs)):kvs.length<=sizeLine/\(a==sysModules)=false/\
  ∃xs,KT H kvs xs/\h.DictOfH (tupleKind (bM P w)) a xs:=by
 obtain⟨z,y,xs,r,o,es,ep,h1,h2,h3,h4,h5⟩:=(show dF P w H h a (.dT kvs)from VO ok e);refine⟨z,y,xs,r,o,es,ep,h1,h2,h3,h4,λx hx=>?_,h5⟩;have all:∀{l:List (List Key×V)}{m:List (List Key×Addr×Value)},KT H l m->∀x∈m,(tupleKind (bM P w)).is h x.1 x.2.1:=by
  intro l m q
  induction q with
  |nil=>intro x hx;exact nomatch hx
  |@cons p q ps qs hq t ih=>
   intro x hx;obtain e|hx:=mem_cons.mp hx
   .subst e;exact yF ok (by rw[<-hq.1];exact hq.2.1)
   .exact ih x hx
 exact all r x hx
def Z7{kvs:List (List Key×V)}(ok:mO P w H h)(e:H a=some (.dT kvs)):kvs.length<=sizeLine/\(a==sysModules)=false/\
  ∃xs,KT H kvs xs/\h.DictOfH (tupleKind (bM P w)) a xs:=B2 ok (.inl e)
end
def oh(H:Hp)(a:Addr)(y:V)(r:Option V):Prop:=
 (∃kvs k,Rd H a (.dK kvs)/\y=kV k/\r=eO kvs k)\/∃kvs k b,Rd H a (.dT kvs)/\y=.ref b/\H b=some (.tup (k.map kV))/\r=eO kvs k
def Gd(H:Hp)(a:Addr)(y v:V)(H':Hp):Prop:=
 (∃kvs k,H a=some (.dK kvs)/\y=kV k/\kvs.length<sizeLine/\H'=upd H a (.dK (putK kvs k v)))\/
 ∃kvs k b,H a=some (.dT kvs)/\y=.ref b/\H b=some (.tup (k.map kV))/\kvs.length<sizeLine/\H'=upd H a (.dT (putK kvs k v))
theorem oh.k{k:Key}(e:H a=some (.dK kvs)):oh H a (kV k) (eO kvs k):=.inl ⟨kvs,k,.inl e,rfl,rfl⟩
theorem Gd.k{k:Key}(e:H a=some (.dK kvs))(hl:kvs.length<sizeLine):Gd H a (kV k) v (upd H a (.dK (putK kvs k v))):=.inl ⟨kvs,k,e,rfl,hl,rfl⟩
section
variable {r:Value} {o:Option V}
def Inv.big(I:Inv X pins σ H s):sysModules<s.heap.objs.size:=by
 have h:=(I.mod.glob.keeps I.bk).lt;exact xq ⋯ h
def M5(hu:A.units+1<cLine)(I:Inv X pins σ H s)(g:oh H a y (some v))(ry:RelV y u)(h:∀w' s',Inv X pins σ H s'->RelV v w'->Q w' s'):
  wpAny (model X.prog X.w) A (getItem (.ref a) u) Q E s:=by
 obtain⟨kvs,k,e,ey,l⟩|⟨kvs,k,b,e,ey,eb,l⟩:=g
 .subst ey;obtain⟨z,hd,vs,rel,dd⟩:=B1 I.bL e;obtain⟨w',hw,MY⟩:=rj.some_of (v:=v) (by rw[l];exact rel.val k);exact wpAny_getItem_of (tD ry) dd.mapOf hw (h w' _ (I.tok _) MY)
 .subst ey;cases(show u=Value.ref b from ry);obtain⟨z,hd,xs,rel,dd⟩:=B2 I.bL e;obtain⟨w',hw,MY⟩:=rj.some_of (v:=v) (by rw[l];exact rel.val k);obtain⟨p,hp,IP⟩:=Option.map_eq_some_iff.mp hw;refine wpAny_getItem_heap (wI hu) (yF I.bL eb) dd hp ?_;rw[IP];exact h w' _ (I.tok _) MY
def T2(hu:A.units+1<cLine)(I:Inv X pins σ H s)(g:oh H a y o)(ry:RelV y u)(h:∀s',Inv X pins σ H s'->Q (.bool (!o.isSome)) s'):
  wpAny (model X.prog X.w) A (compareOp .NotIn u (.ref a)) Q E s:=by
 obtain⟨kvs,k,e,ey,l⟩|⟨kvs,k,b,e,ey,eb,l⟩:=g
 .subst ey;obtain⟨z,hd,vs,rel,dd⟩:=B1 I.bL e;refine wpAny_notIn_of (tD ry) hd dd.mapOf ?_;rw[<-(rel.val k).qj,<-l];exact h _ (I.tok _)
 .subst ey;cases(show u=Value.ref b from ry);obtain⟨z,hd,xs,rel,dd⟩:=B2 I.bL e;refine wpAny_notIn_heap (wI hu) (yF I.bL eb) hd dd ?_;have q:=(rel.val k).qj;rw[Option.isSome_map]at q;rw[<-q,<-l];exact h _ (I.tok _)
def KZ(I:Inv X pins σ H s)(mu:ZL (H a))(hs:Heap.SameBut a s.heap h')(he:∃q,h'.get? a=some q)(new:dF X.prog X.w (upd H a ob) h' a ob):
  Inv X pins σ (upd H a ob) {s with heap:=h',toks:=t'} :=
 I.write (e:=a) mu (.inl rfl) (λb q hb z=>(hs.2 b hb).trans z) he new
def Xt{vs:List (Key×Value)}(z:kvs.length<=sizeLine)(hd:(a==sysModules)=false)(rel:KV kvs vs)(dd:h'.DictOf (bM P w) a vs):
  dF P w H' h' a (.dK kvs):=⟨z,hd,vs,rel,dd⟩
def M6{Q:Unit->Shared->Prop}(hu:A.units+1<cLine)(I:Inv X pins σ H s)(g:Gd H a y v H')(ry:RelV y u)(rv:RelV v r)(h:∀s',Inv X pins σ H' s'->Q Unit.unit s'):
  wpAny (model X.prog X.w) A (setItem (.ref a) u r) Q E s:=by
 obtain⟨kvs,k,e,ey,l,eH⟩|⟨kvs,k,b,e,ey,eb,l,eH⟩:=g
 .subst ey eH;obtain⟨z,hd,vs,rel,dd⟩:=VP I.bL e;have hz:vs.length<=sizeLine:=by rw[<-rel.length];exact z
  have hl:(putK kvs k v).length<=sizeLine:=by have:=oH kvs k v;omega
  refine wpAny_setItem_pairs (tD ry) dd λh' dd' hs=>h _ ?_;have he:∃q,h'.get? a=some q:=let⟨q,_,_,hq,_⟩:=dd';⟨q,hq⟩;exact KZ I (by rw[e];exact True.intro) hs he (Xt hl hd (rel.put k rv) dd')
 .subst ey eH;cases(show u=Value.ref b from ry);obtain⟨z,hd,xs,rel,dd⟩:=Z7 I.bL e;have hz:xs.length<=sizeLine:=by rw[<-Paired.length rel];exact z
  have hl:(putK kvs k v).length<=sizeLine:=by have:=oH kvs k v;omega
  refine wpAny_setItem_heap (wI hu) (yF I.bL eb) dd λh' dd' hs=>h _ ?_;obtain⟨q,es,ep,hq,h2,h3,h4,_,h5⟩:=dd';refine KZ I (by rw[e];exact True.intro) hs ⟨q,hq⟩ ⟨hl,hd,_,(rel.put k eb rv).keeps λc ys ec=>?_,q,es,ep,hq,h2,h3,h4,h5⟩;rw[aB (ZK ec e (λz=>nomatch z))];exact ec
end
def Xu(i:Expr):Prop:=∀ov iv,subscripted i false ov iv=operate [ov,iv] (getItem ov iv)
def K0{id:String}(hl:typeLookup (.type T) "__getitem__"=pure (some (.builtin id)))(hs:Xu slice)(h:wpAny (model prog w) A (eval value env) (λo s₁=>wpAny (model prog w) A (eval slice env) (λi s₂=>s₂.TypeIs o T/\wpAny (model prog w) A (getItem o i) Q E s₂) E s₁) E s):
  wpAny (model prog w) A (eval (.Subscript value slice pos) env) Q E s:=by
 refine Subscript_ (da h (λo s₁ h₁=>da h₁ (λi s₂ h₂=>?_) λ_ _ x=>x) λ_ _ x=>x);obtain⟨hT,h₂⟩:=h₂;unfold subscriptTail;refine aj ?_;rw[getitemInPython_of_ne hT.not_modules];refine aj (wpAny_specialOf hT hl ?_);have fin:wpAny (model prog w) A (subscripted slice false o i) (λr s₃=>wpAny (model prog w) A (letTemporaryGo value o r>>=λ_=>pure r) Q E s₃) E s₂:=by
  rw[hs o i];exact wpAny_operating (da h₂ (λr s₃ h₃=>aj (wpAny_letTemporaryGo (ay h₃))) λ_ _ x=>x)
 first
  |exact ay (aj fin)
  |exact aj (ay (aj fin))
  |exact aj fin
def Ge{o:Option V}(I:Inv X pins σ H s)(g:oh H a y o):s.TypeIs (.ref a) "dict":=by
 obtain⟨kvs,k,e,_,_⟩|⟨kvs,k,b,e,_,_,_⟩:=g
 .obtain⟨_,_,vs,_,dd⟩:=B1 I.bL e;exact dd.typeIs
 .obtain⟨_,_,xs,_,dd⟩:=B2 I.bL e;exact dd.typeIs
def VQ(td ty:TE):TE:=λσ H Q=>td σ H λx H1=>ty σ H1 λy H2=>eR x λa=>∃v,oh H2 a y (some v)/\Q v H2
def Z8(ty td:TE):TE:=λσ H Q=>ty σ H λy H1=>td σ H1 λx H2=>∃a o,x=.ref a/\oh H2 a y o/\Q (.bl o.isSome) H2
def DP(ty td:TE):TE:=λσ H Q=>ty σ H λy H1=>td σ H1 λx H2=>eR x λa=>∃o,oh H2 a y o/\Q (.bl (!o.isSome)) H2
def Pw(td ty tv:TE):TS:=λD σ H=>tv σ H λv H1=>td σ H1 λx H2=>ty σ H2 λy H3=>eR x λa=>∃H4,Gd H3 a y v H4/\D.nx σ H4
section
variable {o i value:Expr} {pos':Pos} {td ty tv:TE}
def K3(hu:X.A.units+1<cLine)(ho:PE X o td)(hi:PE X i ty)(hs:Xu i):PE X (.Subscript o i pos) (VQ td ty):=by
 intro pins s σ H Q I h;refine K0 PySem.F.slot_dict_getitem.lookup hs (cI (ho pins s σ H _ I h) λu s1 Z9=>?_);obtain⟨x,H1,I1,rx,q1⟩:=Z9;refine cI (hi pins s1 σ H1 _ I1 q1) λiv s2 Z_=>?_;obtain⟨y,H2,I2,ry,q0⟩:=Z_;obtain⟨a,ex,v,g,q2⟩:=jO.mp q0;subst ex;obtain rfl:u=Value.ref a:=rx;exact⟨Ge I2 g,M5 hu I2 g ry λw' s3 I3 MY=>⟨v,H2,I3,MY,q2⟩⟩
def lQ(hu:X.A.units+1<cLine)(hi:PE X i ty)(ho:PE X o td):PC X .NotIn i o (DP ty td):=by
 intro pins s σ H Q I h;refine cI (hi pins s σ H _ I h) λiv s1 aac=>?_;obtain⟨y,H1,I1,ry,q1⟩:=aac;refine cI (ho pins s1 σ H1 _ I1 q1) λu s2 aad=>?_;obtain⟨x,H2,I2,rx,q0⟩:=aad;obtain⟨a,ex,ov,g,q2⟩:=jO.mp q0;subst ex;obtain rfl:u=Value.ref a:=rx;exact T2 hu I2 g ry λs3 I3=>⟨.bl (!ov.isSome),H2,I3,rfl,q2⟩
def xF(hu:X.A.units+1<cLine)(ho:PE X o td)(hi:PE X i ty)(hv:PE X value tv)(hs:swapsWith value (some (.Subscript o i pos')) pos.line X.env=pure false):
  PS X (.Assign [.Subscript o i pos'] value pos) (Pw td ty tv):=by
 intro pins s σ H D I h;refine wpAny_Assign_Subscript (cI (hv pins s σ H _ I h) λr s1 aae=>?_) hs;obtain⟨v,H1,I1,rv,q1⟩:=aae;refine cI (ho pins s1 σ H1 _ I1 q1) λu s2 aaf=>?_;obtain⟨x,H2,I2,rx,q2⟩:=aaf;refine cI (hi pins s2 σ H2 _ I2 q2) λiv s3 aag=>?_;obtain⟨y,H3,I3,ry,q0⟩:=aag;obtain⟨a,ex,H4,g,q3⟩:=jO.mp q0;subst ex;obtain rfl:u=Value.ref a:=rx;exact M6 hu I3 g ry rv λs4 I4=>⟨σ,H4,I4,q3⟩
end
def Px(h:Heap)(hb:sysModules<h.objs.size):dF P w H (h.push {cls:=.type "dict",data:=.dict #[]}) h.objs.size (.dK []):=
 ⟨cj _,beq_eq_false_iff_ne.mpr (c6 (bB hb)),[],.nil,Heap.DictOf.new h⟩
def Xv:TE:=λ_ H Q=>∀p,H p=none->Q (.ref p) (upd H p (.dK []))
section
def yG:PE X (.Dict [] [] pos) Xv:=λpins s σ H Q I h=>
 wpAny_Dict_empty ⟨.ref s.heap.objs.size,_,I.laid (o:=.dK []) (t':=s.toks) (λ_ _ q=>bR _ q) (aL _) (Px s.heap I.big),rfl,h _ (I.bL.fresh (aL _))⟩
end
noncomputable def kY(kvs more:List (Key×V)):List (Key×V):=more.foldl (λacc kv=>putK acc kv.1 kv.2) kvs
def KV.merge:∀{more}{rs}{kvs}{vs},KV more rs->KV kvs vs->KV (kY kvs more) (merged vs rs):=by
 intro more rs kvs vs r
 induction r generalizing kvs vs with
 |nil=>intro q;exact q
 |@cons p q ps qs h t ih=>
  intro r0;have e:KV (putK kvs p.1 p.2) (stored vs q.1 q.2):=by
   have:=r0.put p.1 h.2;rw[<-h.1];exact this
  exact ih e
theorem qO:∀more kvs,(kY kvs more).length<=kvs.length+more.length
 |[],kvs=>by show kvs.length<=kvs.length+0;omega
 |p::r,kvs=>by
  have h1:=qO r (putK kvs p.1 p.2);have h2:=oH kvs p.1 p.2;show(kY (putK kvs p.1 p.2) r).length<=_;rw[aZ];omega
structure M1(X:Cx)(o:Expr)(m:Str)(apos:Pos)(e:Expr)(et:Pos):Prop where
 base:attributeBase o m X.env (eval o X.env)=eval o X.env
 few:((backTo et (starEach [e] X.env)).all (λx=>!x.1)&&(backToKw et (keywordEach [] X.env)).all (λx=>x.1.isSome)
  &&decide (([e]:List Expr).length+([]:List Keyword).length+(if([]:List Keyword).isEmpty then 0 else 1)<30))=true
 line:(apos.endLine==et.line)=true
 trees:backTo et (starEach [e] X.env)=[(false,eval e X.env)]
structure M2(X:Cx)(o:Expr)(m:Str)(apos:Pos)(e f:Expr)(et:Pos):Prop where
 base:attributeBase o m X.env (eval o X.env)=eval o X.env
 few:((backTo et (starEach [e,f] X.env)).all (λx=>!x.1)&&(backToKw et (keywordEach [] X.env)).all (λx=>x.1.isSome)
  &&decide (([e,f]:List Expr).length+([]:List Keyword).length+(if([]:List Keyword).isEmpty then 0 else 1)<30))=true
 line:(apos.endLine==et.line)=true
 trees:backTo et (starEach [e,f] X.env)=[(false,eval e X.env),(false,eval f X.env)]
def IsD(H:Hp)(a:Addr):Prop:=(∃kvs,Rd H a (.dK kvs))\/∃kvs,Rd H a (.dT kvs)
def Xw(I:Inv X pins σ H s)(d:IsD H a):
  s.TypeIs (.ref a) "dict"/\(∀b,Value.ref a=.ref b->∃ob,s.heap.get? b=some ob/\ob.dict=none)/\(a==sysModules)=false:=by
 obtain⟨kvs,e⟩|⟨kvs,e⟩:=d
 .obtain⟨_,hd,vs,_,dd⟩:=B1 I.bL e;refine⟨dd.typeIs,λb q=>?_,hd⟩;cases q;obtain⟨ob,_,_,h1,h2,_⟩:=dd;exact⟨ob,h1,h2.2.1⟩
 .obtain⟨_,hd,xs,_,dd⟩:=B2 I.bL e;refine⟨dd.typeIs,λb q=>?_,hd⟩;cases q;obtain⟨ob,_,_,h1,h2,_⟩:=dd;exact⟨ob,h1,h2.2.1⟩
section
variable {d:V} {r:Value} {o:Option V}
def Xx(hu:A.units+1<cLine)(I:Inv X pins σ H s)(g:oh H a y o)(ry:RelV y u)(rd:RelV d r)(h:∀w' s',Inv X pins σ H s'->RelV (o.getD d) w'->Q w' s'):
  wpAny (model X.prog X.w) A (call (.builtin "dict.get") [.ref a,u,r]) Q E s:=by
 obtain⟨kvs,k,e,ey,l⟩|⟨kvs,k,b,e,ey,eb,l⟩:=g
 .subst ey;obtain⟨z,hd,vs,rel,dd⟩:=B1 I.bL e;refine call_meetsIn sr dd.typeIs PySem.F.entry_dict_get (PySem.F.args_dict_get_3 _ _ _) (meets_dict_get_default (bM X.prog X.w) a (tD ry) hd r) ⟨_,dd.mapOf,h _ _ (I.tok _) ?_⟩;rw[l];exact(rel.val k).getD rd
 .subst ey;cases(show u=Value.ref b from ry);obtain⟨z,hd,xs,rel,dd⟩:=B2 I.bL e;refine call_meetsIn sr dd.typeIs PySem.F.entry_dict_get (PySem.F.args_dict_get_3 _ _ _) (meetsH_dict_get_default (tupleKind (bM X.prog X.w)) a b hd r) ⟨wI hu,k,xs,yF I.bL eb,dd,h _ _ (I.tok _) ?_⟩;rw[l];exact(rel.val k).getD rd
end
def Py(td ty tx:TE):TE:=λσ H Q=>td σ H λx H1=>eR x λa=>IsD H1 a/\ty σ H1 λy H2=>tx σ H2 λz H3=>∃o,oh H3 a y o/\Q (o.getD z) H3
section
variable {o f:Expr} {et:Pos} {td ty tx:TE}
def Pz(hu:X.A.units+1<cLine)(ho:PE X o td)(he:PE X e ty)(hf:PE X f tx)(m:M2 X o "get" apos e f et):PE X (.Call (.Attribute o "get" apos) [e,f] [] et) (Py td ty tx):=by
 intro pins s σ H Q I h;refine wpAny_Call_method m.base m.few m.line PySem.F.plainAttrs_dict sr PySem.F.type_dict_get (cI (ho pins s σ H _ I h) λu s1 aah=>?_);obtain⟨x,H1,I1,rx,q0⟩:=aah;obtain⟨a,ex,d,q1⟩:=jO.mp q0;subst ex;obtain rfl:u=Value.ref a:=rx;obtain⟨t1,t2,_⟩:=Xw I1 d;refine⟨t1,t2,?_⟩;rw[m.trees];refine ur rfl (sx (mw (cI (he pins s1 σ H1 _ I1 q1) λiv s2 aai=>?_)));obtain⟨y,H2,I2,ry,q2⟩:=aai;refine mw (cI (hf pins s2 σ H2 _ I2 q2) λfv s3 aaj=>?_);obtain⟨z,H3,I3,rz,ov,g,q3⟩:=aaj;refine rh ?_;exact Xx hu I3 g ry rz λw' s4 I4 MY=>⟨_,H3,I4,MY,q3⟩
end
def Gf:entryFor table "dict.update.loop"=some Builtin.«dict.update.loop»:=entryFor_of_tree (by kernel_rfl)
def yH:plainId "dict.update.loop"=true:=by decide+kernel
section
def Inv.T3(I:Inv X pins σ H s)(k:∀b o,b∉ch->s.heap.get? b=some o->h'.get? b=some o)(hf:∀b∈ch,vX X pins H b):Inv X pins σ H {s with heap:=h',toks:=t'} :=by
 have VF:∀b u,H b=some u->b∉ch:=λb u e z=>by
  have q:=(hf b z).1;rw[q]at e;cases e
 refine I.step (g':=s.gens) (ch:=ch) (λb hb=>⟨(hf b hb).2.2.2.1,(hf b hb).2.1,(hf b hb).2.2.2.2.1,(hf b hb).2.2.2.2.2⟩) (λb o _ _ hc e _=>k b o hc e) (λb o _ _ hc e _=>⟨o.slots,k b o hc e⟩)
  (λ_ _ _ _ n=>n) (λb o hc e=>⟨o,k b o hc e⟩) (λ_ _ e=>e) (λ_ _ _ e=>e) (λb ps e=>⟨#[],by rw[e];simp⟩) (λm hm=>?_) (λb u e=>?_) I.bare
 .obtain⟨o,es,ep,ho,r⟩:=hm;exact⟨o,es,ep,k _ o (λz=>(hf _ z).2.1 rfl) ho,r⟩
 .refine(I.bL b u e).FL (λc v hc q=>k c v ?_ q) (λ_ q=>q) λ_ _ q=>q;obtain z|z:=hc
  .rw[z];exact VF b u e
  .exact VF c _ z
def Inv.qk{T:Addr}(I:Inv X pins σ H s)(k:∀b o,b∉ch->s.heap.get? b=some o->h'.get? b=some o)(hf:∀b∈ch,vX X pins H b)(hT:s.heap.objs.size<=T)(new:dF X.prog X.w (upd H T ob) h' T ob):Inv X pins σ (upd H T ob) {s with heap:=h',toks:=t'} :=by
 have hn:=I.bL.fresh hT;have VF:∀b u,H b=some u->b∉ch:=λb u e z=>by
  have q:=(hf b z).1;rw[q]at e;cases e
 refine I.step (g':=s.gens) (ch:=ch) (λb hb=>⟨(hf b hb).2.2.2.1,(hf b hb).2.1,(hf b hb).2.2.2.2.1,(hf b hb).2.2.2.2.2⟩) (λb o _ _ hc e _=>k b o hc e) (λb o _ _ hc e _=>⟨o.slots,k b o hc e⟩)
  (λb o _ e n=>?_) (λb o hc e=>⟨o,k b o hc e⟩) (λb xs e=>?_) (λb o u e=>?_) (λb ps e=>⟨#[],?_⟩) (λm hm=>?_) (λb u e=>?_) I.bare
 .rw[aB (bB (dS (aN e) hT))];exact n
 .rw[aB (bG e hn)];exact e
 .rw[aB (bG e hn)];exact e
 .rw[aB (bG e hn),e];simp
 .obtain⟨o,es,ep,ho,r⟩:=hm;exact⟨o,es,ep,k _ o (λz=>(hf _ z).2.1 rfl) ho,r⟩
 .by_cases hb:b=T
  .subst hb;rw[ak]at e;cases e;exact new
  .rw[aB hb]at e;refine(I.bL b u e).FL (λc v hc q=>k c v ?_ q) (λc q=>by rw[aB (bG q hn)];exact q) λc xs q=>by rw[aB (bG q hn)];exact q
   obtain z|z:=hc
   .rw[z];exact VF b u e
   .exact VF c _ z
end
section
def DQ(I:Inv X pins σ H s) o
  (T:Turn X.prog X.w X.K tg J [s.heap.objs.size] s.heap.objs.size tn) (st:tn 0 (s.heap.push o)) (q:R J H):PIE X pins σ tg R (.ref s.heap.objs.size) {s with heap:=s.heap.push o,toks:=tk} :=by
 refine⟨s.heap.objs.size,[s.heap.objs.size],tn,J,H,rfl,I.kept λb ob e=>bR _ e,T,st,λb hb=>?_,q⟩;have e:b=s.heap.objs.size:=‹hb›
 subst e;exact I.Dy (aL _) (I.bL.fresh (aL _))
end
noncomputable def Itc(lo c:Int)(n:Nat):It:=⟨λi _=>i<n,λi H x H'=>H'=H/\x=.int (lo+(i:Nat)*c),λi _=>n<=i⟩
def Gg it lo c n:Turn P w K tg (Itc lo c n) [it] it (λi h=>IsRangeIter h it (lo+(i:Nat)*c) ((n:Int)-(i:Nat)) c)where
 mem:=by simp
 obj:=λi h st b hb=>by
  have e:b=it:=‹hb›
  subst e;exact⟨_,st,λv z=>nomatch z⟩
 keep:=λi h h' st k=>k it ∅ _ st
 item:=by
  intro X hP hw hK hc i pins s σ H E I hf st hg;subst hP hw hK;obtain⟨f0,f1,f2,f3,f4,f5⟩:=hf it ∅;have W:=Walks.range (prog:=X.prog) (w:=X.w) (I.ok.hd hc) it lo c n;refine W.item i s _ _ hg st λv h' tk hv BG kk=>?_;obtain⟨t,rfl⟩:=hv;have I1:Inv X pins σ H {s with heap:=h',toks:=tk} :=I.turned (λb o hb e=>kk b o ‹hb› e) f0 f1 f3 f4 f5;exact⟨_,rfl,FQ (n:="range_iterator") BG rfl rfl ⋯ ⟨.int (lo+(i:Nat)*c),H,I1,⟨t,rfl⟩,⟨rfl,rfl⟩,BG,λb hb=>(hf b hb).1⟩⟩
 done:=by
  intro X hP hw hK hc i pins s σ H E I hf st hg;obtain⟨f0,f1,f2,f3,f4,f5⟩:=hf it ∅;exact wpAny_pyNext_range_end (I.ok.hd hc) st (by have:n<=i:=hg;omega) λh' eb=>⟨rfl,I.turned (λb o hb e=>eb b o hb e) f0 f1 f3 f4 f5⟩
 self:=λA i s Q E st h=>wpAny_pyIter_rangeiter st h
def RgC(i j c:Int)(n:Nat):Prop:=c≠0/\c.natAbs<1073741824/\Builtin.Range.small i j c=true/\Builtin.Range.rangeSize i j c=n
def aak(ta:TA):TI:=λσ H R=>ta σ H λvs H1=>∃(i j c:Int) (n:Nat),vs=[.int i,.int j,.int c]/\RgC i j c n/\R (Itc i c n) H1
section
def B3{a b c:Expr}{ta:TA}{p pos:Pos}(hg:Gl X "range")(hm:X.mg "range"=none)(ha:PA X [a,b,c] ta)(hs:starEach [a,b,c] X.env=(false,eval a X.env)::starEach [b,c] X.env:=by rfl)(iD:(backTo pos (starEach [b,c] X.env)).any (·.1)=false:=by rfl):
  PI X tg (.Call (.Name "range" p) [a,b,c] [] pos) (aak ta):=by
 intro pins s σ H R I h;refine Call_ (gn I hg hm boot_range (jF (cI (ha pos pins s σ H _ I h) λus s1 aal=>?_) hs iD));obtain⟨vs,H1,I1,r1,q1⟩:=aal;obtain⟨i,j,k,n,e,⟨c0,c1,c2,c3⟩,q⟩:=q1;subst e;cases r1 with
 |cons r rr=>
  cases rr with
  |cons r' rr=>
   cases rr with
   |cons r'' rr=>
    cases rr;obtain⟨t,rfl⟩:=r;obtain⟨t',rfl⟩:=r';obtain⟨t'',rfl⟩:=r'';refine call_range_3 c0 ?_ (.inl (PyProof.noPylong_small c1));refine wpAny_pyIter_range (IsRange.new ..) c2 ?_;have I2:Inv X pins σ H1 {s1 with heap:=s1.heap.push {cls:=.type "range",data:=.fields #[.int i t,.int j t',.int k t'']}} :=I1.kept λb o e=>bR _ e;refine DQ I2 _ (Gg _ i k n) ?_ q;have e1:i+((0:Nat):Int)*k=i:=by simp
    have e2:(n:Int)-((0:Nat):Int)=Builtin.Range.rangeSize i j k:=by rw[c3];simp
    rw[e1,e2];exact bw _ rfl
end
def yI{lo c:Int}{D:Ends}(Pv:Nat->St->Hp->Prop)(h0:Pv 0 σ H)(hs:∀i σ H,i<n->Pv i σ H->g (.int (lo+(i:Nat)*c)) σ H λσ2 H2=>tb {D with nx:=Pv (i+1),ct:=Pv (i+1),bk:=D.nx} σ2 H2)(hd:∀σ H,Pv n σ H->D.nx σ H):
  ∃W:Nat->Nat->St->Hp->Prop,(∃m,W 0 m σ H)/\∀i m σ H,W i m σ H->
   ((Itc lo c n).stop i H/\D.nx σ H)\/((Itc lo c n).go i H/\∃N:St->Hp->Prop,(∀σ' H',N σ' H'->∃m',m'<m/\W (i+1) m' σ' H')/\∀x H',(Itc lo c n).FD i H x H'->g x σ H' λσ2 H2=>tb {D with nx:=N,ct:=N,bk:=D.nx} σ2 H2):=by
 refine⟨λi m σ H=>m=n-i/\i<=n/\Pv i σ H,⟨n,by simp,cj _,h0⟩,?_⟩;rintro i m σ H ⟨rfl,hi,p⟩;by_cases dQ:i<n
 .refine .inr ⟨dQ,Pv (i+1),λσ' H' p'=>⟨n-(i+1),by omega,rfl,dQ,p'⟩,λx H' y=>?_⟩;obtain⟨e,y⟩:=y;subst e y;exact hs i σ _ dQ p
 .have e:i=n:=by omega
  subst e;exact .inl ⟨aL _,hd σ H p⟩
noncomputable def Its(x:Str):It:=⟨λi _=>i<x.cps.size,λi H v H'=>H'=H/\∃c,x.cps[i]?=some c/\v=.str ⟨#[c]⟩,λi _=>x.cps.size<=i⟩
def Gh it x t ty (SE:ty="str_ascii_iterator"\/ty="str_iterator"):
  Turn P w K tg (Its x) [it] it (λi h=>h.IsStrIter it ty x t i)where
 mem:=by simp
 obj:=λi h st b hb=>by
  have e:b=it:=‹hb›
  subst e;obtain⟨o,e,c,d⟩:=st;exact⟨o,e,λv z=>by rw[d]at z;cases z⟩
 keep:=λi h h' st k=>let⟨o,ho,r⟩:=st;⟨o,k it ∅ o ho,r⟩
 item:=by
  intro X hP hw hK hc i pins s σ H E I hf st hg;subst hP hw hK;obtain⟨f0,f1,f2,f3,f4,f5⟩:=hf it ∅;have W:Walks X.prog X.w X.A it [it] [it] x.cps.size (SignAt x) (λi h=>h.IsStrIter it ty x t i):=by
   obtain e|e:=SE
   .rw[e];exact Walks.strAscii (I.ok.hd hc) it x t
   .rw[e];exact Walks.strWide (I.ok.hd hc) it x t
  have Zh:["enumerate","zip","dict_itemiterator","dict_reverseitemiterator","odict_iterator","itertools.zip_longest","itertools.pairwise"].contains ty=false:=by
   obtain e|e:=SE
   .rw[e];decide
   .rw[e];decide
  refine W.item i s _ _ hg st λv h' tk hv BG kk=>?_;obtain⟨c,u,hcx,rfl⟩:=hv;have I1:Inv X pins σ H {s with heap:=h',toks:=tk} :=I.turned (λb o hb e=>kk b o ‹hb› e) f0 f1 f3 f4 f5;obtain⟨oi,e,cc,dd⟩:=id BG;exact⟨_,rfl,FQ e cc dd Zh ⟨.str ⟨#[c]⟩,H,I1,⟨u,rfl⟩,⟨rfl,c,hcx,rfl⟩,BG,λb hb=>(hf b hb).1⟩⟩
 done:=by
  intro X hP hw hK hc i pins s σ H E I hf st hg;obtain⟨f0,f1,f2,f3,f4,f5⟩:=hf it ∅;have hx:=qZ hg;obtain e|e:=SE
  .rw[e]at st;exact wpAny_pyNext_ascii_end (I.ok.hd hc) st hx λh' eb=>⟨rfl,I.turned (λb o hb e=>eb b o hb e) f0 f1 f3 f4 f5⟩
  .rw[e]at st;exact wpAny_pyNext_wide_end (I.ok.hd hc) st hx λh' eb=>⟨rfl,I.turned (λb o hb e=>eb b o hb e) f0 f1 f3 f4 f5⟩
 self:=λA i s Q E st h=>by
  obtain e|e:=SE
  .rw[e]at st;exact wpAny_pyIter_striter_ascii st h
  .rw[e]at st;exact wpAny_pyIter_striter_wide st h
def ady(te:TE):TI:=λσ H R=>te σ H λv H1=>∃x,v=.str x/\R (Its x) H1
def Xy(he:PE X e te):PI X tg e (ady te):=by
 intro pins s σ H R I h;refine cI (he pins s σ H _ I h) λv s1 aam=>?_;obtain⟨y,H1,I1,r1,x,ex,q⟩:=aam;subst ex;obtain⟨t,rfl⟩:=r1;cases ha:x.cps.all (·<128)
 .exact wpAny_pyIter_wide ha (DQ I1 _ (Gh _ x t "str_iterator" (.inr rfl)) ⟨_,bw _ rfl,rfl,rfl⟩ q)
 .exact wpAny_pyIter_ascii ha (DQ I1 _ (Gh _ x t "str_ascii_iterator" (.inl rfl)) ⟨_,bw _ rfl,rfl,rfl⟩ q)
section
def M7{o:Obj}{es:Array DictEntry}(hd:(d==sysModules)=false)(ho:s.heap.get? d=some o)(hc:o.ExactDict)(aan:o.data=.dict es ep)(hQ:Q (.ref s.heap.objs.size) {s with heap:=s.heap.push {cls:=.type "dict_keyiterator",data:=.fields #[.ref d,.int 0 0,.int es.size 0,.int ep 0]}}):
  wpAny (model prog w) A (pyIter (.ref d)) Q E s:=by
 have hT:s.TypeIs (.ref d) "dict":=⟨o,ho,hc.1⟩;refine wpAny_pyIter_slot hT F.slot_dict_iter (hG F.slot_dict_iter hT F.entry_dict_iter ?_ (F.args_dict_iter_1 _));refine aj ?_;refine aj (wpAny_notOrdered_dict hT ?_);refine ay ?_;show wpAny _ _ (Builtin.Dict.showsAll d>>=_) _ _ s;unfold Builtin.Dict.showsAll;rw[af (by rw[hd];exact cg)];refine aj (ay ?_);refine aj (wpAny_dictEntries ho aan ?_);refine aj (wpAny_dictEpoch ho aan ?_);refine aj (jI (ay ⟨_,rfl,"dict_keyiterator",_,⟨_,bw _ rfl,rfl⟩,F.slot_dict_keyiterator_next.lookup,?_⟩));simpa[rawInt]using hQ
def DR{es:Array DictEntry}{Q:Option Value->Shared->Prop}(hh:A.handled=none)(hit:s.heap.IsKeyIter it d i n ep)(hod:s.heap.get? d=some od)(hdd:od.data=.dict es ep)(fY:es.size=n)(hge:n<=i)(hQ:∀h',Heap.ExtBut it s.heap h'->Q none {s with heap:=h'}):wpAny (model prog w) A (pyNext (.ref it)) Q E s:=by
 obtain⟨o,ho,hc,hd⟩:=id hit;unfold pyNext;refine aj (sL (qY hit.typeIs F.slot_dict_keyiterator_next
  (hG F.slot_dict_keyiterator_next hit.typeIs F.entry_dict_keyiterator_next ?_ (F.args_dict_keyiterator_next_1 _))))
 refine aj (ay ?_);refine aj ?_;refine aj ?_
 first|refine aj (wpAny_typeNameOfWhole_keyiter hit.typeIs (ay ?_))|refine aj (wpAny_typeNameOf_keyiter hit.typeIs (ay ?_))
 refine aj (wpAny_fieldsOf ho hd ?_);have adz:Builtin.Dict_items.ownsTuple "dict_keyiterator"=false:=by decide
 simp-iota only[adz,OS,Dn];show wpAny _ _ (if(Value.ref d==Value.none)=true then _ else _) _ _ s;rw[af (show¬((Value.ref d==Value.none)=true)from cg)];refine aj (ay ?_);refine aj (wpAny_dictEntries hod hdd ?_);rw[af (by rw[fY];simp)];refine aj (ay ?_);refine aj (wpAny_dictEpoch hod hdd ?_);rw[af ∅];refine ay ?_;have adA:es.size<=i:=by rw[fY];exact hge
 dsimp only;simp-iota only[show¬((i:Int)<0)from by omega,Dn,gk,qZ adA];dsimp only;refine aj ?_
 first|refine aj (wpAny_typeNameOfWhole_keyiter hit.typeIs (ay ?_))|refine aj (wpAny_typeNameOf_keyiter hit.typeIs (ay ?_))
 show wpAny _ _ (setField (.ref it) 0 .none>>=_) _ _ s;refine aj (mB ho hd ∅ ?_);show wpAny _ _ (newExc (.type "StopIteration") [] >>=_) _ _ _;refine aj ?_;delta newExc newTuple;refine aj (jI ?_ (by size_fits));refine aj (wpAny_of_eq (a:=Value.none) (by first|rfl|(simp only[firstArgMember];rfl)) ?_);refine jI ?_ (by size_fits);delta raiseNew;refine aj (wpAny_handled ?_);rw[show A.in1.handled=none from hh];refine aj (ay (sU ?_));refine aj (wX (b:=true) ⟨_,bw _ rfl,rfl⟩ isSubtype_stop ?_);exact ay (hQ _ (((kL ..).extBut.push _).push _))
end
def Xz{kvs:List (κ×V)}{vs:List (κ×Value)}(h:KV kvs vs):∀{i:Nat}{k}{v},kvs[i]?=some (k,v)->∃u,vs[i]?=some (k,u)/\RelV v u:=by
 induction h with
 |nil=>intro i k v e;simp at e
 |@cons a b l₁ l₂ r t ih=>
  intro i k v e;cases i with
  |zero=>
   simp only[getElem?_cons_zero,Option.some.injEq]at e;subst e;refine⟨b.2,?_,r.2⟩;exact b_ some (Prod.ext r.1.symm rfl)
  |succ j=>
   exact ih e
def Gi(h:gY k u=true):RelV (kV k) u:=by
 obtain⟨i,t,rfl,rfl⟩|⟨x,t,rfl,rfl⟩:=cQ h
 .exact⟨t,rfl⟩
 .exact⟨t,rfl⟩
noncomputable def Ite(K:PySem.W.Frag)(a:Addr):It:=
 ⟨λi H=>∃(xs:List V) (x:V),aM K H a xs/\xs[i]?=some x,λi H v H'=>∃T x,v=.ref T/\H T=none/\H'=upd H T (.tup [.int (i:Nat),x])/\∀xs,aM K H a xs->xs[i]?=some x,λi H=>∃xs:List V,aM K H a xs/\xs.length<=i⟩
def M8 a e it:
  Turn P w K (.Tuple elts kk Dj) (Ite K a) [e,it] e (λi h=>(∃old,IsEnum h e it ((i:Nat):Int) old)/\h.IsListIter it a i/\e≠it)where
 mem:=by simp
 obj:=λi h st b hb=>by
  obtain⟨⟨old,he⟩,⟨o,ho,hc,hd⟩,_⟩:=st;have e':b=e\/b=it:=‹hb›
  obtain z|z:=e'
  .rw[z];exact⟨_,he,λv q=>nomatch q⟩
  .rw[z];exact⟨o,ho,λv q=>by rw[hd]at q;cases q⟩
 keep:=λi h h' st k=>let⟨⟨old,he⟩,hi,iF⟩:=st;⟨⟨old,k e ∅ _ he⟩,hi.at λo q=>k it ∅ o q,iF⟩
 item:=by
  intro X hP hw hK hc i pins s σ H E I hf st hg;subst hP hw hK;obtain⟨⟨old,he⟩,hit,iF⟩:=st;obtain⟨xs,x,hq,hx⟩:=hg;obtain⟨aR,rv,p,hz⟩:=I.list hq;obtain⟨u,hu,ru⟩:=rv.get hx;have K4:=aN he;have hil:it<s.heap.objs.size:=by obtain⟨_,q,_⟩:=hit;exact aN q
  refine wpAny_pyNext_enum_item he hit p.isList ‹hu› iF λh' ho IQ hT fY hk=>?_;refine⟨_,rfl,wpAny_letOwnedTupleGo_enum ho λPB M9 sb=>?_⟩;have T4:=(sb.2 _ (jn K4)).trans hT;have new:dF X.prog X.w (upd H s.heap.objs.size (.tup [.int (i:Nat),x])) PB s.heap.objs.size (.tup [.int (i:Nat),x]):=
   ⟨by show 2<=sizeLine;decide,[.int i s.toks,u],.cons ⟨_,rfl⟩ (.cons ru .nil),⟨_,T4,rfl,_,rfl⟩⟩
  have I1:Inv X pins σ (upd H s.heap.objs.size (.tup [.int (i:Nat),x])) {s with heap:=PB,toks:=s.toks+1} :=
   I.qk (λb ob hb q=>(sb.2 b (λz=>hb (by simp[z]))).trans (hk b ob (λz=>hb (by simp[z])) (λz=>hb (by simp[z])) q)) hf (aL _) new
  refine⟨.ref s.heap.objs.size,_,I1,rfl,⟨_,x,rfl,I.bL.fresh (aL _),rfl,λys hy=>by rw[I.sW hy hq];exact hx⟩,⟨⟨u,?_⟩,IQ.at λo q=>(sb.2 it (c6 iF)).trans q,iF⟩,λb hb=>?_⟩
  .have e1:((i+1:Nat):Int)=(i:Int)+1:=by omega
   rw[e1];exact M9
  .have hb':b<s.heap.objs.size:=by
    have e':b=e\/b=it:=‹hb›
    obtain z|z:=e'
    .rw[z];exact K4
    .rw[z];exact hil
   rw[aB (bB hb')];exact(hf b hb).1
 done:=by
  intro X hP hw hK hc i pins s σ H E I hf st hg;subst hP hw hK;obtain⟨⟨old,he⟩,hit,iF⟩:=st;obtain⟨xs,hq,hx⟩:=hg;obtain⟨aR,rv,p,hz⟩:=I.list hq;obtain⟨f0,f1,f2,f3,f4,f5⟩:=hf it ∅;have hl:=rv.length;exact wpAny_pyNext_enum_end (I.ok.hd hc) he hit p.isList (by simp;omega) λh' eb=>⟨rfl,I.turned (λb o hb q=>eb b o hb q) f0 f1 f3 f4 f5⟩
 self:=λA i s Q E st h=>let⟨⟨_,he⟩,_⟩:=st;wO he h
def aao(K:PySem.W.Frag)(ta:TA):TI:=λσ H R=>ta σ H λvs H1=>∃a xs,vs=[.ref a]/\aM K H1 a xs/\R (Ite K a) H1
def T5{ta:TA}{p pos Dj:Pos}{elts:List Expr}{kk:Nat}(hg:Gl X "enumerate")(hm:X.mg "enumerate"=none)(ha:PA X [e] ta)(hs:starEach [e] X.env=[(false,eval e X.env)]:=by rfl):
  PI X (.Tuple elts kk Dj) (.Call (.Name "enumerate" p) [e] [] pos) (aao X.K ta):=by
 intro pins s σ H R I h;refine Call_ (gn I hg hm boot_enumerate (jF (cI (ha pos pins s σ H _ I h) λus s1 aap=>?_) hs rfl));obtain⟨vs,H1,I1,r1,q1⟩:=aap;obtain⟨a,xs,ex,hq,q⟩:=q1;subst ex;cases r1 with
 |cons r rr=>
  cases rr;cases r;obtain⟨aR,rv,p',hz⟩:=I1.list hq;refine call_enumerate_list p'.isList λh' he hit fY hk=>wO he ?_;have I2:=I1.kept (t':=s1.toks) hk;refine⟨s1.heap.objs.size+1,[s1.heap.objs.size+1,s1.heap.objs.size],_,_,H1,rfl,I2,M8 a (s1.heap.objs.size+1) s1.heap.objs.size,⟨⟨.none,he⟩,hit,Nat.succ_ne_self _⟩,λb hb=>?_,q⟩;have e':b=s1.heap.objs.size+1\/b=s1.heap.objs.size:=‹hb›
  have hle:s1.heap.objs.size<=b:=by
   obtain z|z:=e'
   .rw[z];exact kP _ _
   .rw[z];exact aL _
  exact I1.Dy hle (I1.bL.fresh hle)
def B4:bootBuiltins "zip"=some (.type "zip"):=by decide+kernel
noncomputable def Itz(K:PySem.W.Frag)(a b:Addr):It:=
 ⟨λi H=>∃(xs ys:List V) (x y:V),aM K H a xs/\aM K H b ys/\xs[i]?=some x/\ys[i]?=some y,
  λi H v H'=>∃T x y,v=.ref T/\H T=none/\H'=upd H T (.tup [x,y])/\(∀xs,aM K H a xs->xs[i]?=some x)/\∀ys,aM K H b ys->ys[i]?=some y,
  λi H=>∃xs ys:List V,aM K H a xs/\aM K H b ys/\(xs.length<=i\/ys.length<=i)⟩
def PD{TI TO:Addr}(D:ZipApart z TI TO i1 i2 a b):
  Turn P w K (.Tuple elts kk Dj) (Itz K a b) [z,TI,TO,i1,i2] z (λi h=>IsZip h z TI TO .none/\IsPair h TI (.ref i1) (.ref i2)/\(∃x y,IsPair h TO x y)/\h.IsListIter i1 a i/\h.IsListIter i2 b i)where
 mem:=by simp
 obj:=λi h st c hc=>by
  obtain⟨hz,Ba,⟨x,y,DS⟩,⟨o1,e1,_,d1⟩,⟨o2,e2,_,d2⟩⟩:=st;have e':c=z\/c=TI\/c=TO\/c=i1\/c=i2:=‹hc›
  obtain q|q|q|q|q:=e'
  .rw[q];exact⟨_,hz,λv q=>nomatch q⟩
  .rw[q];exact⟨_,Ba,λv q=>nomatch q⟩
  .rw[q];exact⟨_,DS,λv q=>nomatch q⟩
  .rw[q];exact⟨o1,e1,λv q=>by rw[d1]at q;cases q⟩
  .rw[q];exact⟨o2,e2,λv q=>by rw[d2]at q;cases q⟩
 keep:=λi h h' st k=>by
  obtain⟨hz,Ba,⟨x,y,DS⟩,h1,h2⟩:=st;exact⟨k z ∅ _ hz,k TI ∅ _ Ba,⟨x,y,k TO ∅ _ DS⟩,h1.at λo q=>k i1 ∅ o q,h2.at λo q=>k i2 ∅ o q⟩
 item:=by
  intro X hP hw hK hc i pins s σ H E I hf st hg;subst hP hw hK;obtain⟨hz,Ba,⟨x0,y0,DS⟩,h1,h2⟩:=st;obtain⟨xs,ys,x,y,VR,VS,hx,hy⟩:=hg;obtain⟨aR,rv,p,_⟩:=I.list VR;obtain⟨og,XA,p2,_⟩:=I.list VS;obtain⟨u,hu,ru⟩:=rv.get hx;obtain⟨u2,Z4,ru2⟩:=XA.get hy;have Ig:=aN hz;refine wpAny_pyNext_zip_item D hz Ba DS h1 h2 p.isList p2.isList (x:=u) ‹hu› ‹Z4› λh' z' TO' xG vy hT fY hk=>?_;refine⟨_,rfl,wpAny_letOwnedTupleGo_zip z' λPB z'' sb=>?_⟩;have T4:=(sb.2 _ (jn Ig)).trans hT;have new:dF X.prog X.w (upd H s.heap.objs.size (.tup [x,y])) PB s.heap.objs.size (.tup [x,y]):=
   ⟨by show 2<=sizeLine;decide,[u,u2],.cons ru (.cons ru2 .nil),⟨_,T4,rfl,_,rfl⟩⟩
  have I1:Inv X pins σ (upd H s.heap.objs.size (.tup [x,y])) {s with heap:=PB} :=
   I.qk (t':=s.toks) (λc o hb q=>(sb.2 c (λq'=>hb (by simp[q']))).trans (hk c o (λq'=>hb (by simp[q'])) (λq'=>hb (by simp[q'])) (λq'=>hb (by simp[q'])) (λq'=>hb (by simp[q'])) q)) hf (aL _) new
  refine⟨.ref s.heap.objs.size,_,I1,rfl,⟨_,x,y,rfl,I.bL.fresh (aL _),rfl,λl hl=>by rw[I.sW hl VR];exact hx,λl hl=>by rw[I.sW hl VS];exact hy⟩,⟨z'',?_,⟨u,u2,?_⟩,?_,?_⟩,λc XB=>?_⟩
  .exact(sb.2 _ D.TIz).trans (hk _ _ D.TIz D.TITO D.TIi1 D.TIi2 Ba)
  .exact(sb.2 _ D.TOz).trans TO'
  .exact xG.at λo q=>(sb.2 _ D.i1z).trans q
  .exact vy.at λo q=>(sb.2 _ D.i2z).trans q
  .have dQ:c<s.heap.objs.size:=by
    have e':c=z\/c=TI\/c=TO\/c=i1\/c=i2:=‹XB›
    obtain q|q|q|q|q:=e'
    .rw[q];exact Ig
    .rw[q];exact aN Ba
    .rw[q];exact aN DS
    .rw[q];obtain⟨_,e1,_⟩:=h1;exact aN e1
    .rw[q];obtain⟨_,e2,_⟩:=h2;exact aN e2
   rw[aB (bB dQ)];exact(hf c XB).1
 done:=by
  intro X hP hw hK hc i pins s σ H E I hf st hg;subst hP hw hK;obtain⟨hz,Ba,⟨x0,y0,DS⟩,h1,h2⟩:=st;obtain⟨xs,ys,VR,VS,adB⟩:=hg;obtain⟨aR,rv,p,_⟩:=I.list VR;obtain⟨og,XA,p2,_⟩:=I.list VS;have l1:=rv.length;have l2:=XA.length;have he:aR.toArray[i]?=none\/og.toArray[i]?=none:=by
   obtain q|q:=adB
   .exact .inl (by simp;omega)
   .exact .inr (by simp;omega)
  exact wpAny_pyNext_zip_end (I.ok.hd hc) D hz Ba DS h1 h2 p.isList p2.isList he λh' hk=>⟨rfl,I.T3 (t':=s.toks) (λc o hb q=>
   hk c o (λq'=>hb (by simp[q'])) (λq'=>hb (by simp[q'])) (λq'=>hb (by simp[q'])) (λq'=>hb (by simp[q'])) q) hf⟩
 self:=λA i s Q E st h=>wpAny_pyIter_zip st.1 h
def aaq(K:PySem.W.Frag)(ta:TA):TI:=λσ H R=>ta σ H λvs H1=>∃a b xs ys,vs=[.ref a,.ref b]/\aM K H1 a xs/\aM K H1 b ys/\R (Itz K a b) H1
def PF{e2:Expr}{ta:TA}{p pos Dj:Pos}{elts:List Expr}{kk:Nat}(hg:Gl X "zip")(hm:X.mg "zip"=none)(ha:PA X [e,e2] ta)(hs:starEach [e,e2] X.env=(false,eval e X.env)::starEach [e2] X.env:=by rfl)(iD:(backTo pos (starEach [e2] X.env)).any (·.1)=false:=by rfl):
  PI X (.Tuple elts kk Dj) (.Call (.Name "zip" p) [e,e2] [] pos) (aaq X.K ta):=by
 intro pins s σ H R I h;refine Call_ (gn I hg hm B4 (jF (cI (ha pos pins s σ H _ I h) λus s1 aar=>?_) hs iD));obtain⟨vs,H1,I1,r1,q1⟩:=aar;obtain⟨a,b,xs,ys,ex,VR,VS,q⟩:=q1;subst ex;cases r1 with
 |cons r rr=>
  cases rr with
  |cons r' rr=>
   cases rr;cases r;cases r';obtain⟨aR,rv,p1,_⟩:=I1.list VR;obtain⟨og,XA,p2,_⟩:=I1.list VS;have la:=p1.lt;have lb:=p2.lt;refine call_zip_2 p1.isList p2.isList λh' hz Ba DS h1 h2 fY hk=>wpAny_pyIter_zip hz ?_;have I2:=I1.kept (t':=s1.toks) hk;refine⟨s1.heap.objs.size+4,[s1.heap.objs.size+4,s1.heap.objs.size+2,s1.heap.objs.size+3,s1.heap.objs.size,s1.heap.objs.size+1],_,_,H1,rfl,I2,PD (PySem.W.ktu_apart s1.heap.objs.size a b la lb),⟨hz,Ba,⟨_,_,DS⟩,h1,h2⟩,λc XB=>?_,q⟩;have e':c=s1.heap.objs.size+4\/c=s1.heap.objs.size+2\/c=s1.heap.objs.size+3\/c=s1.heap.objs.size\/c=s1.heap.objs.size+1:=‹XB›
   have hle:s1.heap.objs.size<=c:=by
    obtain z|z|z|z|z:=e'
    .rw[z];exact kP _ _
    .rw[z];exact kP _ _
    .rw[z];exact kP _ _
    .rw[z];exact aL _
    .rw[z];exact kP _ _
   exact I1.Dy hle (I1.bL.fresh hle)
end L2
section
end
section
namespace TL
open PySem PySem.Builtin PySem.Builtin.Str PySem.StrLaws
noncomputable abbrev tl(x:Str):List Nat:=x.cps.toList
def yJ x:x.length=(tl x).length:=by simp[tl,Str.length]
def B5 x y:tl (x++y)=tl x++tl y:=by
 show(x++y).cps.toList=_;rw[Str.cps_append,Array.toList_append]
noncomputable def pre(S l:List Nat):Bool:=l.take S.length==S
noncomputable def vY(S:List Nat):Nat->List Nat->List Nat->List (List Nat)
 |_,acc,[]=>[acc]|0,acc,c::r=>if pre S (c::r)=true then acc::vY S (S.length-1) [] r else vY S 0 (acc++ [c]) r
 |k+1,acc,_::r=>vY S k acc r
noncomputable def par(S:List Nat):List Nat->List Nat->Option (List Nat×List Nat)
 |_,[]=>none|acc,c::r=>if pre S (c::r)=true then some (acc,(c::r).drop S.length)else par S (acc++ [c]) r
def DT S k acc:vY S k acc []=[acc]:=by cases k<;>rfl
def T6(h:pre S (c::r)=true):vY S 0 acc (c::r)=acc::vY S (S.length-1) [] r:=by
 show(if pre S (c::r)=true then acc::vY S (S.length-1) [] r else vY S 0 (acc++ [c]) r)=_;rw[ag h]
def PH(h:pre S (c::r)=false):vY S 0 acc (c::r)=vY S 0 (acc++ [c]) r:=by
 show(if pre S (c::r)=true then acc::vY S (S.length-1) [] r else vY S 0 (acc++ [c]) r)=_;rw[af (by rw[h];exact cg)]
theorem Gj S:∀k acc l,vY S k acc l=vY S 0 acc (l.drop k)
 |0,_,_=>by rw[drop_zero]|k+1,acc,[]=>by rw[drop_nil,DT,DT]
 |k+1,acc,c::r=>by
  exact Gj S k acc r
def T7(hS:S≠ []):pre S []=false:=by
 cases S with
 |nil=>exact absurd rfl hS|cons s S=>rfl
def tE{L:List Nat}{a:Nat}(h:a<L.length):∃c,L.drop a=c::L.drop (a+1):=⟨L[a],mv h⟩
theorem DU(S L:List Nat):∀m a acc,a+m<=L.length->(∀k,a<=k->k<a+m->pre S (L.drop k)=false)->
  vY S 0 acc (L.drop a)=vY S 0 (acc++(L.drop a).take m) (L.drop (a+m))
 |0,a,acc,_,_=>by rw[take_zero,hZ,wQ]
 |m+1,a,acc,h,hn=>by
  have dQ:a<L.length:=by omega
  obtain⟨c,e⟩:=tE dQ;have h0:=hn a (aL _) ();have ih:=DU S L m (a+1) (acc++ [c]) () (λk h1 h2=>hn k () ());have e2:a+1+m=a+(m+1):=by omega
  rw[e2]at ih;rw[e]at h0;rw[e,PH h0,ih,take_succ_cons,g_] <;>rfl
def PJ(L:List Nat) a b:(L.drop a).drop b=L.drop (a+b):=by
 first
  |rw[drop_drop]
  |rw[drop_drop,sQ]
def XC{S L:List Nat}(hS:S≠ [])(h:pre S (L.drop c)=true):vY S 0 acc (L.drop c)=acc::vY S 0 [] (L.drop (c+S.length)):=by
 rw[<-PJ];cases e:L.drop c with
 |nil=>rw[e,T7 hS]at h;cases h
 |cons d r=>
  rw[e]at h;rw[T6 h,Gj];cases S with
  |nil=>exact absurd rfl hS|cons s S=>rfl
def PK{y:Str}(hy:tl y≠ []) i:At x y x.length i↔pre (tl y) ((tl x).drop i)=true:=by
 have hx:=yJ x;have hl:=yJ y;constructor
 .intro h;have h2:=h.2;rw[subAt_eq,hl]at h2;exact h2
 .intro h;have e:=eq_of_beq h;have e1:=b_ List.length e;rw[cW,dW]at e1;have e2:=length_pos_iff.mpr hy;refine⟨by omega,?_⟩;rw[subAt_eq,hl];exact h
def VU{y:Str}(hy:tl y≠ [])(h:¬At x y x.length i):pre (tl y) ((tl x).drop i)=false:=by
 cases hp:pre (tl y) ((tl x).drop i)with
 |false=>rfl|true=>exact absurd ((PK hy i).mpr hp) h
def adC{y:Str}(hy:tl y≠ []):1<=y.length:=by
 have e2:=length_pos_iff.mpr hy;exact e2
def B6 x i j:tl (strSub x i j)=((tl x).drop i).take (j-i):=strSub_toList x i j
def Bb x i:tl (strSub x i x.length)=(tl x).drop i:=by
 rw[B6,yJ x];exact q_ (by rw[dW] <;>omega)
theorem B7{x y:Str}(hy:tl y≠ []):∀aas a f,a<=(tl x).length->ChainG x y x.length a aas f->(∀k,f<=k->¬At x y x.length k)->
  (partsFrom x y.length a aas).map tl=vY (tl y) 0 [] ((tl x).drop a)
 |[],a,f,ha,h,hn=>by
  have e:=h;subst e;show [tl (strSub x f x.length)]=_;have run:=DU (tl y) (tl x) ((tl x).length-f) f [] () (λk h1 _=>VU hy (hn k h1));have e2:f+((tl x).length-f)=(tl x).length:=by omega
  rw[e2,sV,DT,pP,q_ (by rw[dW] <;>omega)]at run;rw[run,Bb]
 |c::r,a,f,ha,h,hn=>by
  obtain⟨h1,h2,h3,h4⟩:=h;have hc:=h2.1;have hx:=yJ x;have hl:=yJ y;have ih:=B7 hy r (c+y.length) f () h4 hn;show tl (strSub x a c)::(partsFrom x y.length (c+y.length) r).map tl=_;have run:=DU (tl y) (tl x) (c-a) a [] () (λk k1 k2=>VU hy (h3 k k1 ()));have e2:a+(c-a)=c:=by omega
  rw[e2,pP,XC hy ((PK hy c).mp h2)]at run;rw[run,ih,B6,hl]
def M_ x y (hy:tl y≠ []) (hk:¬Builtin.Str.strKind x<Builtin.Str.strKind y):(Txt.split x y).map tl=vY (tl y) 0 [] (tl x):=by
 obtain⟨f,g,hn⟩:=occ_tight x y (adC hy);have key:=B7 hy _ 0 f (cj _) g hn;rw[drop_zero]at key;have B8:occurrences x y 0 x.length (x.length+1)=[]->[x].map tl=vY (tl y) 0 [] (tl x):=λho=>by
  rw[ho]at key;rw[<-key];show [tl x]=[tl (strSub x 0 x.length)];rw[sub_whole]
 unfold Txt.split;by_cases h1:(decide (x.length<y.length)||decide (Builtin.Str.strKind x<Builtin.Str.strKind y))=true
 .rw[ag h1];have dQ:x.length<y.length:=by
   simp only[Bool.or_eq_true,decide_eq_true_eq]at h1;obtain h|h:=h1
   .exact h
   .exact absurd h hk
  refine B8 ?_;cases ho:occurrences x y 0 x.length (x.length+1)with
  |nil=>rfl
  |cons c r=>
   rw[ho]at g;have hc:=g.2.1.1;omega
 .rw[af h1];by_cases h2:(occurrences x y 0 x.length (x.length+1)).isEmpty=true
  .rw[ag h2];exact B8 (isEmpty_iff.mp h2)
  .rw[af h2,partsBetween_eq];exact key
def T8{y:Str}(h:y.cps.all (·<256)=true):¬Builtin.Str.strKind x<Builtin.Str.strKind y:=by
 have e:Builtin.Str.strKind y=1:=by unfold PySem.Builtin.Str.strKind;rw[ag h]
 unfold PySem.Builtin.Str.strKind;split
 .omega
 .split<;>omega
noncomputable def B9(S:List Nat):List (List Nat)->List Nat
 |[]=>[]|[p]=>p
 |p::q::r=>p++(S++B9 S (q::r))
theorem K5 y:∀parts:List Str,tl (Str.join y parts)=B9 (tl y) (parts.map tl)
 |[]=>rfl|[_]=>rfl
 |x::z::r=>by
  show tl (x++y++Str.join y (z::r))=tl x++(tl y++B9 (tl y) ((z::r).map tl));rw[B5,B5,K5 y (z::r),g_]
def join_eq y parts:Txt.join y parts=Str.join y parts:=glued_eq_join y parts
end TL
end
namespace L2
open PySem PySem.Spec PyProof.Rows
theorem B_:∀l:List (Str×Tok),Vals ((l.map (·.1)).map V.str) (strValues l)
 |[]=>.nil|p::r=>.cons ⟨p.2,rfl⟩ (B_ r)
theorem mQ:∀{ys}{us},Vals (ys.map V.str) us->StrsAre us ys
 |[],_,.nil=>.nil
 |y::ys,_,.cons r t=>by
  obtain⟨k,rfl⟩:=r;exact .cons y k (mQ t)
def yK(ys:List Str):Hp->VK->Prop:=λH Q=>∀p,H p=none->Q (.ref p) (upd H p (.lst (ys.map V.str)))
section
variable {Q:VK}
def uE{l:List (Str×Tok)}{ys:List Str}(I:Inv X pins σ H s)(e:l.map (·.1)=ys)(hz:ys.length<=sizeLine)(h:yK ys H Q):
  EP X pins σ Q (.ref s.heap.objs.size) {s with toks:=k,heap:=s.heap.push {cls:=.type "list",data:=.seq (strValues l).toArray}} :=by
 have hp:=I.bL.fresh (aL _);refine⟨.ref s.heap.objs.size,upd H s.heap.objs.size (.lst (ys.map V.str)),I.laid (λb u q=>bR _ q) (aL _) ⟨by rw[az];exact hz,strValues l,_,?_,bw _ rfl⟩,rfl,h _ hp⟩;rw[<-e];exact B_ l
end
section
def PL:Pj X "str.split" (λx xs H Q=>∃a b,x=.str a/\xs=[.str b]/\(b.length==0)=false/\a.length+2<=sizeLine/\yK (Txt.split a b) H Q):=by
 intro pins s σ H x xs v us Q I rx rs h;obtain⟨a,b,rfl,rfl,hb,hz,h⟩:=h;obtain⟨t,rfl⟩:=rx;cases rs with
 |cons r1 rs=>
  cases rs;obtain⟨u,rfl⟩:=r1;have hl:=aX (PyProof.Rows.split_le a b) hz;have hn:(Builtin.Str.partsBetween a (Builtin.Str.occurrences a b 0 a.length (a.length+1)) b.length).length<=sizeLine:=by
   have e1:=StrLaws.occ_length_le a b 0 a.length (a.length+1);rw[length_partsBetween];omega
  cases h1:(decide (a.length<b.length)||decide (Builtin.Str.strKind a<Builtin.Str.strKind b))
  .cases hf:(Builtin.Str.occurrences a b 0 a.length (a.length+1)).isEmpty
   .refine iB wY (mK _ _ _) F.entry_str_split (F.args_str_split_2 _ _) (meets_str_split_sep a b t u h1 hb hf () hn) ?_;rw[strsFrom_eq];exact uE I ((numbered_texts _ _).trans ((af (ne_true_of_eq_false h1)).trans (af (ne_true_of_eq_false hf))).symm) hl h
   .refine iB wY (mK _ _ _) F.entry_str_split (F.args_str_split_2 _ _) (meets_str_split_not_found a b t u h1 hb hf) ?_;exact uE (l:=[(a,t)]) (k:=s.toks) I ((af (ne_true_of_eq_false h1)).trans (ag hf)).symm hl h
  .refine iB wY (mK _ _ _) F.entry_str_split (F.args_str_split_2 _ _) (meets_str_split_cannot_occur a b t u h1) ?_;exact uE (l:=[(a,t)]) (k:=s.toks) I (ag h1).symm hl h
def T9:Pj X "str.join" (λx xs H Q=>∃a p,∃ys:List Str,x=.str a/\xs=[.ref p]/\(aM X.K H p (ys.map V.str)\/jP X.K H p (ys.map V.str))/\
  (ys.map (·.length)).sum+ys.length*a.length<=16777216/\Q (.str (Txt.join a ys)) H):=by
 intro pins s σ H x xs v us Q I rx rs h;obtain⟨a,p,ys,rfl,rfl,hp,hz,h⟩:=h;obtain⟨t,rfl⟩:=rx;cases rs with
 |cons r1 rs=>
  cases rs;cases r1;obtain hp|hp:=hp
  .obtain⟨aR,r,⟨o,n,ho,hc,_,hd⟩,_⟩:=I.list hp;exact PyProof.Rows.join_list ⟨o,ho,hc,n,hd⟩ (by rw[sJ];exact mQ r) hz λt' k=>⟨.str _,H,I.tok k,⟨t',rfl⟩,h⟩
  .obtain⟨aR,r,ht,_⟩:=I.tuple hp;exact PyProof.Rows.join_tuple ht (by rw[sJ];exact mQ r) hz λt' k=>⟨.str _,H,I.tok k,⟨t',rfl⟩,h⟩
def mt0{id:String}{C:Str->Prop}{g:Str->V}(rule:∀a t s Q,C a->(∀u k,RelV (g a) u->Q u {s with toks:=k})->
  wpAny (model X.prog X.w) X.A (call (.builtin id) [.str a t]) Q X.xe s):Pj X id (λx xs H Q=>∃a,x=.str a/\xs=[]/\C a/\Q (g a) H):=by
 intro pins s σ H x xs v us Q I rx rs h;obtain⟨a,rfl,rfl,hc,h⟩:=h;obtain⟨t,rfl⟩:=rx;cases rs;exact rule a t s _ hc λu k r=>⟨g a,H,I.tok k,r,h⟩
def IT:Pj X "str.isdigit" (λx xs H Q=>∃a,x=.str a/\xs=[]/\True/\Q (.bl (Txt.isdigit a)) H):=
 mt0 (C:=λ_=>True) λ_ _ s _ _ h=>PySem.SC.isdigit (h _ s.toks rfl)
def DV:ku X (.type "int") (λxs H Q=>eT xs λa=>∃n,PySem.intText? a=some n/\a.length<=640/\Q (.int n) H):=by
 intro pins s σ H xs us Q I rs h;obtain⟨a,rfl,n,hn,hl,h⟩:=Du.mp h;cases rs with
 |cons r1 rs=>
  cases rs;obtain⟨t,rfl⟩:=r1;exact PySem.W.KIN.call_text hn hl ⟨.int n,H,I.tok _,⟨_,rfl⟩,h⟩
end
section
variable {o:Expr} {to:TE}
def tM0(r:V->List V->Hp->VK->Prop)(to:TE):TE:=λσ H Q=>to σ H λx H1=>eS x λ_=>r x [] H1 Q
def tM1(r:V->List V->Hp->VK->Prop)(to te:TE):TE:=λσ H Q=>to σ H λx H1=>eS x λ_=>te σ H1 λy H2=>r x [y] H2 Q
def aat{id:String}{apos pos:Pos}{r:V->List V->Hp->VK->Prop}(slot:Slot "str" name id)(ty:typeOf (.builtin id)=pure (.type "method_descriptor"))(rule:Pj X id r)(ho:PE X o to)(jR:attributeBase o name X.env (eval o X.env)=eval o X.env:=by rfl)(hline:(apos.endLine==pos.line)=true:=by rfl):PE X (.Call (.Attribute o name apos) [] [] pos) (tM0 r to):=by
 intro pins s σ H Q I h;refine PySem.Call_method0 jR hline (cI (ho pins s σ H _ I h) λv s1 aau=>?_);obtain⟨x,H1,I1,r1,q1⟩:=aau;obtain⟨a,rfl,q1⟩:=Iu.mp q1;obtain⟨t,rfl⟩:=_root_.id r1;exact⟨"str",_,F.plainAttrs_str,slot,ty,mK _ _ _,(λ_ e=>nomatch e),ur rfl (PySem.evalArgs_none (rule pins s1 σ H1 _ [] _ [] Q I1 r1 .nil q1))⟩
def VV{id:String}{apos pos:Pos}{r:V->List V->Hp->VK->Prop}(slot:Slot "str" name id)(ty:typeOf (.builtin id)=pure (.type "method_descriptor"))(rule:Pj X id r)(ho:PE X o to)(he:PE X e te)(hs:starEach [e] X.env=[(false,eval e X.env)]:=by rfl)(jR:attributeBase o name X.env (eval o X.env)=eval o X.env:=by rfl)(hline:(apos.endLine==pos.line)=true:=by rfl):
  PE X (.Call (.Attribute o name apos) [e] [] pos) (tM1 r to te):=by
 intro pins s σ H Q I h;refine PySem.Call_method1 jR hs hline (cI (ho pins s σ H _ I h) λv s1 aav=>?_);obtain⟨x,H1,I1,r1,q1⟩:=aav;obtain⟨a,rfl,q1⟩:=Iu.mp q1;obtain⟨t,rfl⟩:=_root_.id r1;refine⟨"str",_,F.plainAttrs_str,slot,ty,mK _ _ _,(λ_ e=>nomatch e),ur rfl (sx (mw ?_))⟩;refine cI (he pins s1 σ H1 _ I1 q1) λu s2 aaw=>?_;obtain⟨y,H2,I2,r2,q2⟩:=aaw;exact rh (rule pins s2 σ H2 _ [y] _ [u] Q I2 r1 (.cons r2 .nil) q2)
def yL{apos pos:Pos}(ho:PE X o to)(he:PE X e te)(hs:starEach [e] X.env=[(false,eval e X.env)]:=by rfl)(jR:attributeBase o "split" X.env (eval o X.env)=eval o X.env:=by rfl)(hline:(apos.endLine==pos.line)=true:=by rfl):
  PE X (.Call (.Attribute o "split" apos) [e] [] pos) (tM1 (λx xs H Q=>∃a b,x=.str a/\xs=[.str b]/\(b.length==0)=false/\a.length+2<=sizeLine/\yK (Txt.split a b) H Q) to te):=
 VV wY F.type_str_split PL ho he hs jR hline
def T_{apos pos:Pos}(ho:PE X o to)(he:PE X e te)(hs:starEach [e] X.env=[(false,eval e X.env)]:=by rfl)(jR:attributeBase o "join" X.env (eval o X.env)=eval o X.env:=by rfl)(hline:(apos.endLine==pos.line)=true:=by rfl):
  PE X (.Call (.Attribute o "join" apos) [e] [] pos) (tM1 (λx xs H Q=>∃a p,∃ys:List Str,x=.str a/\xs=[.ref p]/\(aM X.K H p (ys.map V.str)\/jP X.K H p (ys.map V.str))/\
   (ys.map (·.length)).sum+ys.length*a.length<=16777216/\Q (.str (Txt.join a ys)) H) to te):=
 VV F.slot_str_join F.type_str_join T9 ho he hs jR hline
end
section
def yM:qf X (compareOp .In) (λx y H Q=>∃(c:Nat) (z:Str),x=.str ⟨#[c]⟩/\y=.str z/\Q (.bl (decide (c∈z.cps.toList))) H):=by
 intro pins s σ H x y v u Q I rx ry h;obtain⟨c,z,rfl,rfl,q⟩:=h;obtain⟨t,rfl⟩:=rx;obtain⟨t',rfl⟩:=ry;exact PyProof.Rows.in_str (bN I q (PySem.StrLaws.found_one z c).symm)
def Bc:qf X (compareOp .NotIn) (λx y H Q=>∃(c:Nat) (z:Str),x=.str ⟨#[c]⟩/\y=.str z/\Q (.bl (!decide (c∈z.cps.toList))) H):=by
 intro pins s σ H x y v u Q I rx ry h;obtain⟨c,z,rfl,rfl,q⟩:=h;obtain⟨t,rfl⟩:=rx;obtain⟨t',rfl⟩:=ry;exact PyProof.Rows.notIn_str (bN I q (b_ Bool.not (PySem.StrLaws.found_one z c).symm))
end
end L2
section
namespace L2
open PySem PySem.Spec PyProof.Rows
open PySem.W (WData Codec OpenSpec Well WellAll ReadsW ReadsAllW)
mutual
inductive Dw(K:PySem.W.Frag)(H:Hp):V->WData->Prop
 |cT:Dw K H .cT .none
 |bl (b:Bool):Dw K H (.bl b) (.bool b)
 |int (i:Int):Dw K H (.int i) (.int i)
 |str (x:Str):Dw K H (.str x) (.str x)
 |Ic (b:Array UInt8):Dw K H (.Ic b) (.bytes b.toList)
 |lst {a:Addr} {xs:List V} {ds:List WData} :aM K H a xs->nU K H xs ds->Dw K H (.ref a) (.list ds)
 |tup {a:Addr} {xs:List V} {ds:List WData} :jP K H a xs->nU K H xs ds->Dw K H (.ref a) (.tuple ds)
inductive nU(K:PySem.W.Frag)(H:Hp):List V->List WData->Prop
 |nil:nU K H [] []
 |cons {v:V} {vs:List V} {d:WData} {ds:List WData} :Dw K H v d->nU K H vs ds->nU K H (v::vs) (d::ds)
end
theorem K6:∀ns:List Int,nU K H (ns.map V.int) (ns.map WData.int)
 |[]=>.nil|n::r=>.cons (.int n) (K6 r)
theorem xH:∀(ns:List Int) xs,nU K H xs (ns.map WData.int)->xs=ns.map V.int
 |[],xs,h=>by
  cases h;rfl
 |n::r,xs,h=>by
  cases h with
  |cons h1 h2=>
   cases h1;rw[xH r _ h2] <;>rfl
section
variable {R:PySem.W.WRecords} {cl:Str->Option Addr}
def XD(bL:mO P w H h)(KX:K.In h)(q:aM K H a xs):∃(aR:List Value) (o:Obj) (n:Nat),Vals xs aR/\h.get? a=some o/\o.cls=.type "list"/\o.data=.seq aR.toArray n:=by
 obtain q|⟨o,aR,n,e,hc,_,hd,_,hv⟩:=q
 .obtain⟨_,aR,n,hv,e⟩:=(show dF P w H h a (.lst xs)from q.ok bL);exact⟨aR,_,n,hv,e,rfl,rfl⟩
 .exact⟨aR.toList,o,n,hv,KX _ _ e,hc,by simp[hd]⟩
def XE(bL:mO P w H h)(KX:K.In h)(q:jP K H a xs):∃(aR:List Value) (o:Obj) (n:Nat),Vals xs aR/\h.get? a=some o/\o.cls=.type "tuple"/\o.data=.seq aR.toArray n:=by
 obtain q|⟨o,aR,n,e,hc,hd,_,hv⟩:=q
 .obtain⟨_,aR,hv,o,e,hc,n,hd⟩:=(show dF P w H h a (.tup xs)from q.ok bL);exact⟨aR,o,n,hv,e,hc,hd⟩
 .exact⟨aR.toList,o,n,hv,KX _ _ e,hc,by simp[hd]⟩
mutual
theorem Dw.reads(bL:mO P w H h)(KX:K.In h):∀(d:WData)(v:V)(u:Value),Dw K H v d->RelV v u->∃as,ReadsW R cl h u d as
 |.none,_,_,x,r=>by
  cases x;cases r;exact⟨_,ReadsW.none⟩
 |.bool b,_,_,x,r=>by
  cases x;cases r;exact⟨_,ReadsW.bool b⟩
 |.int i,_,_,x,r=>by
  cases x;obtain⟨t,rfl⟩:=r;exact⟨_,ReadsW.int i t⟩
 |.str s,_,_,x,r=>by
  cases x;obtain⟨t,rfl⟩:=r;exact⟨_,ReadsW.str s t⟩
 |.bytes b,_,_,x,r=>by
  cases x;obtain⟨t,rfl⟩:=r;exact⟨_,ReadsW.bytes _ t⟩
 |.list ds,_,_,x,r=>by
  cases x with
  |lst hs ha=>
   cases r;obtain⟨aR,o,n,rv,ho,hc,hd⟩:=XD bL KX hs;obtain⟨as,hr⟩:=Dw.readsAll bL KX ds _ aR ha rv;exact⟨_,ReadsW.list ho hc hd hr⟩
 |.tuple ds,_,_,x,r=>by
  cases x with
  |tup hs ha=>
   cases r;obtain⟨aR,o,n,rv,ho,hc,hd⟩:=XE bL KX hs;obtain⟨as,hr⟩:=Dw.readsAll bL KX ds _ aR ha rv;exact⟨_,ReadsW.tuple ho hc hd hr⟩
 |.float _,_,_,x,_=>by cases x
 |.dict _,_,_,x,_=>by cases x
 |.bytearray _,_,_,x,_=>by cases x
 |.set _,_,_,x,_=>by cases x
 |.frozenset _,_,_,x,_=>by cases x
 |.obj _ _,_,_,x,_=>by cases x
theorem Dw.readsAll(bL:mO P w H h)(KX:K.In h):∀(ds:List WData)(vs:List V)(us:List Value),nU K H vs ds->Vals vs us->∃as,ReadsAllW R cl h us ds as
 |[],_,_,x,r=>by
  cases x;cases r;exact⟨_,ReadsAllW.nil⟩
 |d::ds,_,_,x,r=>by
  cases x with
  |cons h1 h2=>
   cases r with
   |cons r1 r2=>
    obtain⟨as,q1⟩:=Dw.reads bL KX d _ _ h1 r1;obtain⟨bs,q2⟩:=Dw.readsAll bL KX ds _ _ h2 r2;exact⟨_,ReadsAllW.cons q1 q2⟩
end
end
mutual
noncomputable def OI:WData->Bool
 |.none=>true|.bool _=>true
 |.int _=>true|.str _=>true
 |.bytes _=>true|.list xs=>Bd xs
 |.tuple xs=>Bd xs|_=>false
noncomputable def Bd:List WData->Bool
 |[]=>true|x::r=>OI x&&Bd r
end
theorem Gk{f:α->WData}(h:∀a,OI (f a)=true):∀l:List α,Bd (l.map f)=true
 |[]=>rfl
 |x::r=>by
  show(OI (f x)&&Bd (r.map f))=true;rw[h x,Gk h r] <;>rfl
theorem oI:∀(c:Codec) a,OI (c.enc a)=true
 |.unit,_=>rfl|.bool,_=>rfl
 |.int _ _,_=>rfl|.nat _ _,_=>rfl
 |.u8,_=>rfl|.bytes _ _,_=>rfl
 |.text _ _ _ _,_=>rfl|.list _ _ c,a=>Gk (λx=>oI c x) a
 |.pair c d,a=>by
  show(OI (c.enc a.1)&&(OI (d.enc a.2)&&true))=true;rw[oI c a.1,oI d a.2] <;>rfl
 |.triple c d e,a=>by
  show(OI (c.enc a.1)&&(OI (d.enc a.2.1)&&(OI (e.enc a.2.2)&&true)))=true;rw[oI c a.1,oI d a.2.1,oI e a.2.2] <;>rfl
 |.option c,none=>rfl|.option c,some x=>oI c x
theorem Cd:∀cs a,Bd (Codec.encAll cs a)=true
 |[],_=>rfl
 |c::cs,a=>by
  show(OI (c.enc a.1)&&Bd (Codec.encAll cs a.2))=true;rw[oI c a.1,Cd cs a.2] <;>rfl
theorem rA:∀{xs}{d},d∈xs->d.weight<=WData.weightAll xs
 |[],d,h=>absurd h ∅
 |x::r,d,h=>by
  show d.weight<=x.weight+1+WData.weightAll r;obtain e|m:=mem_cons.mp h
  .rw[e];omega
  .have z:=rA m;omega
noncomputable def toV:Value->V
 |.none=>.cT|.bool b=>.bl b
 |.int i _=>.int i|.str x _=>.str x
 |.bytes b _=>.Ic b|.ref a=>.ref a
 |_=>.cT
def Nf(A:List Addr):Value->Prop
 |.none=>True|.bool _=>True
 |.int _ _=>True|.str _ _=>True
 |.bytes _ _=>True|.ref a=>a∈A
 |_=>False
def Nf.mono{A B:List Addr}(h:∀a∈A,a∈B):∀{u},Nf A u->Nf B u:=λ{u} x=>by
 cases u with
 |ref a=>exact h a x|none=>trivial
 |bool b=>trivial|int i t=>trivial
 |str s t=>trivial|bytes b t=>trivial
 |_=>exact False.elim x
def PN{A:List Addr}(x:Nf A u):RelV (toV u) u:=by
 cases u with
 |ref a=>rfl|none=>rfl
 |bool b=>rfl|int i t=>exact⟨t,rfl⟩
 |str s t=>exact⟨t,rfl⟩|bytes b t=>exact⟨t,rfl⟩
 |_=>exact False.elim x
theorem lR{A:List Addr}:∀{vs},(∀u∈vs,Nf A u)->Vals (vs.map toV) vs
 |[],_=>.nil|u::r,h=>.cons (PN (h u (b9 ..))) (lR λx hx=>h x (bJ _ hx))
def nV(h:Heap)(A:List Addr)(a:Addr):Prop:=∃vs:List Value,vs.length<=sizeLine/\(∀u∈vs,Nf A u)/\
 (h.get? a=some {cls:=.type "list",data:=.seq vs.toArray}\/h.get? a=some {cls:=.type "tuple",data:=.seq vs.toArray})
theorem nV.mono{A B:List Addr}(k:∀a∈A,a∈B)(x:nV h A a):nV h B a:=by
 obtain⟨vs,h1,h2,h3⟩:=x;exact⟨vs,h1,λu hu=>(h2 u hu).mono k,h3⟩
theorem kD{P:Params}:∀{vs}{ds},WellAll P h vs ds->vs.length=ds.length
 |_,_,.nil=>rfl
 |_,_,.cons _ b=>by
  show _+1=_+1;rw[kD b]
def Ce{P:Params}{v:Value}(x:Well P h v (.list ds)):∃(a:Addr) (vs:List Value),v=.ref a/\h.get? a=some {cls:=.type "list",data:=.seq vs.toArray}/\WellAll P h vs ds:=by
 cases x with
 |list ho fB=>exact⟨_,_,rfl,ho,fB⟩
def yN{P:Params}{v:Value}(x:Well P h v (.tuple ds)):∃(a:Addr) (vs:List Value),v=.ref a/\h.get? a=some {cls:=.type "tuple",data:=.seq vs.toArray}/\WellAll P h vs ds:=by
 cases x with
 |tuple ho fB=>exact⟨_,_,rfl,ho,fB⟩
def Cg{P:Params}(x:WellAll P h us (d::ds)):∃(v:Value) (vs:List Value),us=v::vs/\Well P h v d/\WellAll P h vs ds:=by
 cases x with
 |cons a b=>exact⟨_,_,rfl,a,b⟩
def K7(h:n<=1048576):n<=sizeLine:=aX h ⋯
section
variable {P:Params}
mutual
theorem PQ:∀d v,Well P h v d->OI d=true->d.weight<=1048576->∃A:List Addr,Nf A v/\∀a∈A,nV h A a
 |.none,_,x,_,_=>by
  cases x;exact⟨[],trivial,λa m=>absurd m ∅⟩
 |.bool b,_,x,_,_=>by
  cases x;exact⟨[],trivial,λa m=>absurd m ∅⟩
 |.int i,_,x,_,_=>by
  cases x;exact⟨[],trivial,λa m=>absurd m ∅⟩
 |.str s,_,x,_,_=>by
  cases x;exact⟨[],trivial,λa m=>absurd m ∅⟩
 |.bytes b,_,x,_,_=>by
  cases x;exact⟨[],trivial,λa m=>absurd m ∅⟩
 |.list ds,_,x,p,z=>by
  obtain⟨a,vs,rfl,ho,fB⟩:=Ce x;have z2:=z;obtain⟨A,h1,h2⟩:=tF ds _ fB p λd hd=>aX (rA hd) z2;have k:∀b∈A,b∈a::A:=λb hb=>bJ _ hb;refine⟨a::A,b9 ..,λb hb=>?_⟩;obtain e|m:=mem_cons.mp hb
  .rw[e];exact⟨vs,K7 (by rw[kD fB];exact aX (PySem.W.length_le_weightAllW ds) z2),λu hu=>(h1 u hu).mono k,.inl ho⟩
  .exact(h2 b m).mono k
 |.tuple ds,_,x,p,z=>by
  obtain⟨a,vs,rfl,ho,fB⟩:=yN x;have z2:=z;obtain⟨A,h1,h2⟩:=tF ds _ fB p λd hd=>aX (rA hd) z2;have k:∀b∈A,b∈a::A:=λb hb=>bJ _ hb;refine⟨a::A,b9 ..,λb hb=>?_⟩;obtain e|m:=mem_cons.mp hb
  .rw[e];exact⟨vs,K7 (by rw[kD fB];exact aX (PySem.W.length_le_weightAllW ds) z2),λu hu=>(h1 u hu).mono k,.inr ho⟩
  .exact(h2 b m).mono k
 |.float _,_,_,p,_=>Bool.noConfusion (show false=true from p)
 |.dict _,_,_,p,_=>Bool.noConfusion (show false=true from p)
 |.bytearray _,_,_,p,_=>Bool.noConfusion (show false=true from p)
 |.set _,_,_,p,_=>Bool.noConfusion (show false=true from p)
 |.frozenset _,_,_,p,_=>Bool.noConfusion (show false=true from p)
 |.obj _ _,_,_,p,_=>Bool.noConfusion (show false=true from p)
theorem tF:∀ds vs,WellAll P h vs ds->Bd ds=true->(∀d∈ds,d.weight<=1048576)->∃A:List Addr,(∀u∈vs,Nf A u)/\∀a∈A,nV h A a
 |[],_,x,_,_=>by
  cases x;exact⟨[],λu m=>absurd m ∅,λa m=>absurd m ∅⟩
 |d::ds,_,x,p,z=>by
  obtain⟨v,vs,rfl,x1,x2⟩:=Cg x;have q:=Bool.and_eq_true_iff.mp p;obtain⟨A,a1,a2⟩:=PQ d v x1 q.1 (z d (b9 ..));obtain⟨B,b1,b2⟩:=tF ds vs x2 q.2 λe he=>z e (bJ _ he);have kA:∀b∈A,b∈A++B:=λb hb=>mem_append.mpr (.inl hb);have kB:∀b∈B,b∈A++B:=λb hb=>mem_append.mpr (.inr hb);refine⟨A++B,λu hu=>?_,λb hb=>?_⟩
  .obtain e|m:=mem_cons.mp hu
   .rw[e];exact a1.mono kA
   .exact(b1 u m).mono kB
  .obtain m|m:=mem_append.mp hb
   .exact(a2 b m).mono kA
   .exact(b2 b m).mono kB
end
end
noncomputable def Ua(o:Obj):Option HO:=match o.data with
 |.seq vs _=>if(o.cls==Value.type "list")=true then some (.AZ o (.lst (vs.toList.map toV)))else some (.AZ o (.tup (vs.toList.map toV)))
 |_=>none
noncomputable def mR(K:PySem.W.Frag)(h:Heap)(A:List Addr):Hp:=λb=>if b∈A then(if(K.lookup b).isNone=true then(h.get? b).bind Ua else none)else none
def Gm(H:Hp):Prop:=∀b,H b=none\/∃o u,H b=some (.AZ o u)
def Gn(vs:List Value):Ua {cls:=.type "list",data:=.seq vs.toArray} =some (.AZ {cls:=.type "list",data:=.seq vs.toArray} (.lst (vs.map toV))):=by
 show(if(Value.type "list"==Value.type "list")=true then some (HO.AZ {cls:=.type "list",data:=.seq vs.toArray} (.lst (vs.toArray.toList.map toV)))else some (HO.AZ {cls:=.type "list",data:=.seq vs.toArray} (.tup (vs.toArray.toList.map toV))))=_;rw[ag (beq_self_eq_true _)]
def Gp(vs:List Value):Ua {cls:=.type "tuple",data:=.seq vs.toArray} =some (.AZ {cls:=.type "tuple",data:=.seq vs.toArray} (.tup (vs.map toV))):=by
 show(if(Value.type "tuple"==Value.type "list")=true then some (HO.AZ {cls:=.type "tuple",data:=.seq vs.toArray} (.lst (vs.toArray.toList.map toV)))else some (HO.AZ {cls:=.type "tuple",data:=.seq vs.toArray} (.tup (vs.toArray.toList.map toV))))=_;rw[af ⋯]
section
variable {A:List Addr}
def xI{o:Obj}(hb:b∈A)(hk:K.lookup b=none)(e:h.get? b=some o):mR K h A b=Ua o:=by
 unfold mR;rw[ag hb,hk,ag (show(none:Option Obj).isNone=true from rfl),e] <;>rfl
def Ub{u:HO}(q:mR K h A b=some u):b∈A/\K.lookup b=none:=by
 unfold mR at q;by_cases hb:b∈A
 .rw[ag hb]at q;cases hk:K.lookup b with
  |none=>exact⟨hb,rfl⟩
  |some o=>
   rw[hk,af ∅]at q;cases q
 .rw[af hb]at q;cases q
def xJ(ar:∀a∈A,nV h A a){u:HO}(q:mR K h A b=some u):K.lookup b=none/\∃vs:List Value,vs.length<=sizeLine/\(∀u∈vs,Nf A u)/\
  ((h.get? b=some {cls:=.type "list",data:=.seq vs.toArray}/\u=.AZ {cls:=.type "list",data:=.seq vs.toArray} (.lst (vs.map toV)))\/
   (h.get? b=some {cls:=.type "tuple",data:=.seq vs.toArray}/\u=.AZ {cls:=.type "tuple",data:=.seq vs.toArray} (.tup (vs.map toV)))):=by
 obtain⟨hb,hk⟩:=Ub q;obtain⟨vs,h1,h2,h3⟩:=ar b hb;refine⟨hk,vs,h1,h2,?_⟩;obtain e|e:=h3
 .rw[xI hb hk e,Gn]at q;exact .inl ⟨e,(Option.some.inj q).symm⟩
 .rw[xI hb hk e,Gp]at q;exact .inr ⟨e,(Option.some.inj q).symm⟩
def Ng(ar:∀a∈A,nV h A a):Gm (mR K h A):=λb=>by
 cases q:mR K h A b with
 |none=>exact .inl rfl
 |some u=>
  obtain⟨_,vs,_,_,⟨_,e⟩|⟨_,e⟩⟩:=xJ ar q
  .exact .inr ⟨_,_,by rw[e]⟩
  .exact .inr ⟨_,_,by rw[e]⟩
def Uc(ar:∀a∈A,nV h A a):mO P w (mR K h A) h:=λb u q=>by
 obtain⟨_,vs,h1,h2,⟨e,rfl⟩|⟨e,rfl⟩⟩:=xJ ar q
 .exact⟨e,by rw[az];exact h1,vs,_,lR h2,e⟩
 .exact⟨e,by rw[az];exact h1,vs,lR h2,_,e,rfl,_,rfl⟩
def xK{c c':Value}(e:(some {cls:=c,data:=.seq vs.toArray} :Option Obj)=some {cls:=c',data:=.seq us.toArray}):c=c'/\vs=us:=by
 have e1:=Option.some.inj e;have e2:=b_ Obj.cls e1;have e3:=b_ Obj.data e1;injection e3 with e4;refine⟨e2,?_⟩;have e5:=b_ Array.toList e4;simpa using e5
def adD(KX:K.In h)(ar:∀a∈A,nV h A a)(ha:a∈A)(e:h.get? a=some {cls:=.type "list",data:=.seq vs.toArray}):(∀u∈vs,Nf A u)/\aM K (mR K h A) a (vs.map toV):=by
 obtain⟨us,h1,h2,h3⟩:=ar a ha;have hu:us=vs:=by
  obtain q|q:=h3
  .rw[e]at q;exact(xK q).2.symm
  .rw[e]at q;exact absurd (Value.type.inj (xK q).1) ⋯
 subst hu;refine⟨h2,?_⟩;cases hk:K.lookup a with
 |none=>exact .inl (.inr ⟨_,by rw[xI ha hk e,Gn]⟩)
 |some o=>
  have e2:=KX a o hk;rw[e]at e2;obtain rfl:=Option.some.inj e2;exact .inr ⟨_,us.toArray,_,hk,rfl,rfl,rfl,by rw[cN];exact h1,‹lR h2›⟩
def adE(KX:K.In h)(ar:∀a∈A,nV h A a)(ha:a∈A)(e:h.get? a=some {cls:=.type "tuple",data:=.seq vs.toArray}):(∀u∈vs,Nf A u)/\jP K (mR K h A) a (vs.map toV):=by
 obtain⟨us,h1,h2,h3⟩:=ar a ha;have hu:us=vs:=by
  obtain q|q:=h3
  .rw[e]at q;exact absurd (Value.type.inj (xK q).1) ⋯
  .rw[e]at q;exact(xK q).2.symm
 subst hu;refine⟨h2,?_⟩;cases hk:K.lookup a with
 |none=>exact .inl (.inr ⟨_,by rw[xI ha hk e,Gp]⟩)
 |some o=>
  have e2:=KX a o hk;rw[e]at e2;obtain rfl:=Option.some.inj e2;exact .inr ⟨_,us.toArray,_,hk,rfl,rfl,by rw[cN];exact h1,‹lR h2›⟩
mutual
theorem XF{Pm:Params}(KX:K.In h)(ar:∀a∈A,nV h A a):∀(d:WData)(v:Value),Well Pm h v d->OI d=true->Nf A v->Dw K (mR K h A) (toV v) d
 |.none,_,x,_,_=>by
  cases x;exact .cT
 |.bool b,_,x,_,_=>by
  cases x;exact .bl b
 |.int i,_,x,_,_=>by
  cases x;exact .int i
 |.str s,_,x,_,_=>by
  cases x;exact .str s
 |.bytes b,_,x,_,_=>by
  cases x;have z:=Dw.Ic (K:=K) (H:=mR K h A) b.toArray;exact z
 |.list ds,_,x,p,hu=>by
  obtain⟨a,vs,rfl,ho,fB⟩:=Ce x;obtain⟨h2,hs⟩:=adD KX ar hu ho;exact .lst hs (DW KX ar ds _ fB p h2)
 |.tuple ds,_,x,p,hu=>by
  obtain⟨a,vs,rfl,ho,fB⟩:=yN x;obtain⟨h2,hs⟩:=adE KX ar hu ho;exact .tup hs (DW KX ar ds _ fB p h2)
 |.float _,_,_,p,_=>Bool.noConfusion (show false=true from p)
 |.dict _,_,_,p,_=>Bool.noConfusion (show false=true from p)
 |.bytearray _,_,_,p,_=>Bool.noConfusion (show false=true from p)
 |.set _,_,_,p,_=>Bool.noConfusion (show false=true from p)
 |.frozenset _,_,_,p,_=>Bool.noConfusion (show false=true from p)
 |.obj _ _,_,_,p,_=>Bool.noConfusion (show false=true from p)
theorem DW{Pm:Params}(KX:K.In h)(ar:∀a∈A,nV h A a):∀(ds:List WData)(vs:List Value),WellAll Pm h vs ds->Bd ds=true->(∀u∈vs,Nf A u)->nU K (mR K h A) (vs.map toV) ds
 |[],_,x,_,_=>by
  cases x;exact .nil
 |d::ds,_,x,p,hu=>by
  obtain⟨v,vs,rfl,x1,x2⟩:=Cg x;have q:=Bool.and_eq_true_iff.mp p;exact .cons (XF KX ar d v x1 q.1 (hu _ (b9 ..))) (DW KX ar ds vs x2 q.2 λu m=>hu u (bJ _ m))
end
end
def Nh(KX:K.In s₁.heap)(hns:s₁.heap.Ns mainGlobals mg)(hb:s₁.heap.Ns builtinsNs mb)(hbb:∀x:Str,x≠"__name__"->mb x=bootBuiltins x)(XG:s₁.heap.NoLimit)(hg:s₁.gens= #[])(Ci:WellAll w.params s₁.heap vals ds)(iD:Bd ds=true)(hwt:∀d∈ds,d.weight<=1048576)(hr:dX k callerA)(F:∀base:Heap,K.In base->base.Ns mainGlobals mg->oa P w K mg base CX k fa fd ps sp)(aax:∀s us,us.length=ps.length->BindsTo s fd ⟨us,[]⟩ (ps.zip us))(hlen:ds.length=ps.length)(A3:∀H xs,Gm H->nU K H xs ds->sp xs H (λv H'=>Dw K H' v d0) λ_ _ _=>False)(hCX:∀H e s',CX [] H s₁ (λ_ _ _=>False) e s'->False):
  codeAny (model P w) callerA (.call (.ref fa) ⟨vals,[]⟩) (λr s'=>∃u as,r=.ok (.ret u)/\ReadsW R cl s'.heap u d0 as/\OldK s₁.heap s'.heap/\s'.os=s₁.os/\AllBare s'.gens) s₁:=by
 obtain⟨A,ho,ar⟩:=tF ds vals Ci iD hwt;have hO:Gm (mR K s₁.heap A):=Ng ar;have bL:mO P w (mR K s₁.heap A) s₁.heap:=Uc ar;have hS:=DW KX ar ds vals Ci iD ho;have hV:=lR ho;have hK:∀b u,mR K s₁.heap A b=some u->K.lookup b=none:=λb u q=>(xJ ar q).1;have Za:∀{b:Addr}{o:Obj}{es:Array DictEntry}{ep:Nat},s₁.heap.get? b=some o->o.data=.dict es ep->mR K s₁.heap A b=none:=λ{b o es ep} e d=>by
  cases q:mR K s₁.heap A b with
  |none=>rfl
  |some u=>
   obtain⟨_,vs,_,_,⟨e2,_⟩|⟨e2,_⟩⟩:=xJ ar q
   .rw[e2]at e;cases e;have d':=d;cases d'
   .rw[e2]at e;cases e;have d':=d;cases d'
 generalize mR K s₁.heap A=H at hO bL hS hK Za;have K8:∀{b:Addr}{o:Obj},s₁.heap.get? b=some o->H b=none->(FN s₁.heap H).get? b=some o:=λe n=>OT e n;have nsK:∀{b:Addr}{m:Str->Option Value},s₁.heap.Ns b m->(FN s₁.heap H).Ns b m:=λ{b m} ⟨o,es,ep,e,d,r⟩=>⟨o,es,ep,K8 e (Za e d),d,r⟩;have nK:∀b o,K.lookup b=some o->H b=none:=λb o e=>by
  cases q:H b with
  |none=>rfl
  |some u=>
   rw[hK b u q]at e;cases e
 have hKb:=λb o e=>K8 (KX b o e) (nK b o e);have hM:Mod K mg (FN s₁.heap H):=⟨hKb,nsK hns,⟨mb,nsK hb,hbb⟩,let⟨mc,h1,h2⟩:=XG;⟨mc,nsK h1,h2⟩⟩;have e0:A7 P w K mg (FN s₁.heap H) callerA [] s₁ H:=⟨rfl,hM,λb o e=>Ti e,sP (MN _ _),trivial,λb hb=>absurd (show b∈([]:List Addr)from hb) ∅,bL,.of_eq hg⟩;have hl:vals.length=ps.length:=by rw[kD Ci];exact hlen
 refine jo ((F _ hKb (nsK hns)).run callerA [] s₁ H ⟨vals,[]⟩ vals (vals.map toV) _ _ hr e0 (aax s₁ vals hl) hV (A3 H _ hO hS)) λr s' x=>?_;cases r with
 |error e=>exact(hCX H e s' x).elim
 |ok fl=>
  cases fl with
  |next=>exact False.elim x|brk=>exact False.elim x
  |cont=>exact False.elim x
  |ret u=>
   obtain⟨v,H',os,bare,un,aay,r',q⟩:=x;have kept:=λb o e=>by
    cases q2:H b with
    |none=>exact un.keep b o e q2 (by intro z;exact absurd (show b∈([]:List Addr)from z) ∅) ∅
    |some u2=>
     obtain z|⟨ob,u3,z⟩:=hO b
     .rw[q2]at z;cases z
     .have z2:=un.vV b ob _ z;obtain⟨e1,_⟩:=bL b _ z;obtain⟨e2,_⟩:=aay b _ z2;rw[e]at e1;cases e1;exact e2
   have KX':=λb o e=>kept b o (KX b o e);obtain⟨as,hrd⟩:=Dw.reads (R:=R) aay KX' d0 v u q r';exact⟨u,as,rfl,hrd,OldK.of_keep kept,os,bare⟩
def yO(h:WData.layableAll ds=true):∀d∈ds,d.weight<=1048576:=λd hd=>
 (PySem.W.layableW_iff.mp (all_eq_true.mp h d hd)).2.2
theorem yP:∀cs a,(Codec.encAll cs a).length=cs.length
 |[],_=>rfl
 |c::cs,a=>by
  show(Codec.encAll cs a.2).length+1=cs.length+1;rw[yP cs a.2]
def Ni{r:OpenSpec}{K:Params->PySem.W.Frag}{CX:World->OG}{sp:World->Sp}(PR:r.wellSaid=true)(XH:d.params.defaults=[])(hlen:r.args.length=ps.length)(hr:dX k callerA)(hY:∀w h,YP w h->(K w.params).In h)(F:∀w mg fa h,YP w h->(K w.params).In h->h.Ns mainGlobals mg->mg d.name=some (.ref fa)->
   ∃fd:FuncData,(∀s us,us.length=ps.length->BindsTo s fd ⟨us,[]⟩ (ps.zip us))/\
    ∀base:Heap,(K w.params).In base->base.Ns mainGlobals mg->oa r.prog w (K w.params) mg base (CX w) k fa fd ps (sp w))(A3:∀w H xs a,Gm H->Codec.withinAll r.args a=true->Codec.app r.args r.asked a=true->nU (K w.params) H xs (Codec.encAll r.args a)->
   sp w xs H (λv H'=>Dw (K w.params) H' v (r.ret.enc (Codec.app r.args r.f a))) λ_ _ _=>False)(hCX:∀w H s e s',CX w [] H s (λ_ _ _=>False) e s'->False):
  PySem.W.WalkOS q loose XP YP r d [] (λf vs=>PySem.call f vs):=by
 intro w xC s₁ mg mb G Y fa o pm cd doc dV kV ho hd vm hD hmg hg args vals as adF XI hrd Ci hlo;obtain⟨a,e1,e2⟩:=PySem.W.os_pre_some adF;obtain⟨e3,hwi⟩:=Codec.encAll_of_decAll r.args args a e1;subst e3;have KX:=hY w _ Y;obtain⟨fd,hb,hF⟩:=F w mg fa _ Y KX G.T.g hmg;refine PySem.W.enter_call (jo (Nh (R:=[]) (cl:=classAt xC.heap) KX G.T.g G.T.b G.T.builtins G.T.nolimit hg Ci (Cd _ _) (yO XI) hr hF hb (by rw[yP];exact hlen)
  (λH xs hO hS=>A3 w H xs a hO hwi e2 hS) λH e s'=>hCX w H s₁ e s') λr' s' hq=>?_)
 obtain⟨u,as',rfl,h1,h2,h3,h4⟩:=hq;exact⟨.inl ⟨u,_,as',rfl,λ_=>rfl,h1,(OpenSpec.post_iff PR hwi _ _).mpr rfl,λz=>Bool.noConfusion (show false=true from z)⟩,h2,h3,h4⟩
def IU{r:OpenSpec}{K:Params->PySem.W.Frag}{sp:PySem.W.Frag->Sp}(PR:r.wellSaid=true)(XH:d.params.defaults=[])(hlen:r.args.length=ps.length)(hr:dX k callerA)(hY:∀w h,YP w h->(K w.params).In h)(F:∀w mg fa h,YP w h->(K w.params).In h->h.Ns mainGlobals mg->mg d.name=some (.ref fa)->
   ∃fd:FuncData,(∀s us,us.length=ps.length->BindsTo s fd ⟨us,[]⟩ (ps.zip us))/\
    ∀base:Heap,(K w.params).In base->base.Ns mainGlobals mg->oa r.prog w (K w.params) mg base CX k fa fd ps (sp (K w.params)))(A3:∀K H xs a,Gm H->Codec.withinAll r.args a=true->Codec.app r.args r.asked a=true->nU K H xs (Codec.encAll r.args a)->
   sp K xs H (λv H'=>Dw K H' v (r.ret.enc (Codec.app r.args r.f a))) λ_ _ _=>False)(hCX:∀H s e s',CX [] H s (λ_ _ _=>False) e s'->False):
  PySem.W.WalkOS q loose XP YP r d [] (λf vs=>PySem.call f vs):=
 Ni (K:=K) (CX:=λ_=>CX) PR XH hlen hr hY F (λw H xs a h1 h2 h3 h4=>A3 (K w.params) H xs a h1 h2 h3 h4) λ_ H s e s'=>hCX H s e s'
end L2
--rests on (row put in by the aeA,for the aeB aeG aeC a file only aeH it spells):KE.adG KE.OsShapes
end
namespace L2
open PySem PySem.Spec PyProof.Rows
noncomputable def inClass(s:Stmt)(j:Nat):Stmt:=match s with
 |.ClassDef _ _ _ body _ _ _ _ _ _ _=>body.getD j (.Pass ⟨0,0,0,0⟩)|_=>.Pass ⟨0,0,0,0⟩
noncomputable def fQ(s:Stmt):Arguments:=match s with
 |.FunctionDef _ a _ _ _ _ _ _ _ _=>a|_=> {posonlyargs:=[],args:=[],vararg:=none,kwonlyargs:=[],kw_defaults:=[],kwarg:=none,defaults:=[]}
noncomputable def cq(s:Stmt):List Stmt:=match s with
 |.FunctionDef _ _ b _ _ _ _ _ _ _=>b|_=>[]
noncomputable def ao(s:Stmt):Scope:=match s with
 |.FunctionDef _ _ _ _ _ _ sc _ _ _=>sc|_=> {kind:=.function,names:=[],isGenerator:=false,isCoroutine:=false}
abbrev eY:OG:=λ_ _ _ _ _ _=>False
abbrev E0:XK:=λ_ _ _=>False
def cB:Passes eY X E0:=λ_ _ _ _ _ _ _ h=>h.elim
structure K9(K:PySem.W.Frag)(x qual:Str)(st:Stmt)(f:Addr)(fd:FuncData):Prop where
 ex:∃(oc:Value) (od:Option Addr) (kV doc pm:Value) (an:Option Addr) (cf ct:Value) (IC:Array (Option Value)),
  fd=PySem.W.fnOf x qual (fQ st) (cq st) (ao st) .none kV doc pm an cf ct/\K.lookup f=some ⟨oc,od,.func fd,IC⟩/\PySem.W.codeIn K cf qual=true
 kp:PySem.W.keepIn K (.ref f)=true
section
theorem K9.ok(F:K9 K x qual st f fd)(S:aE N ps (ao st))(len:∀vs H Q E,sp vs H Q E->vs.length=ps.length)(gw:∀cf A outer s H vs Q E,dX k (A.deeper (envOfC qual (ao st) s.heap.objs.size f cf))->sp vs H Q E->
   ∃t,vW (kg eY P w K mg base N qual (ao st) f cf A outer s H E).OD (cq st) t/\t {nx:=λ_ H'=>Q .cT H',rt:=Q} (start N vs) H):oa P w K mg base eY (k+1) f fd ps sp:=by
 obtain⟨oc,od,kV,doc,pm,an,cf,ct,IC,rfl,lk,vm⟩:=F.ex;refine VN lk vm S len λA outer s H vs Q E hr A3=>?_;obtain⟨t,h,q⟩:=gw cf A outer s H vs Q E hr A3;exact⟨t,h.OD,q⟩
def K9.binds(F:K9 K x qual st f fd)(h:∀kV doc pm an cf ct us,us.length=ps.length->bindArgs (PySem.W.fnOf x qual (fQ st) (cq st) (ao st) .none kV doc pm an cf ct) ⟨us,[]⟩=pure (ps.zip us)):Binds K fd ps []:=by
 obtain⟨oc,od,kV,doc,pm,an,cf,ct,IC,rfl,lk,vm⟩:=F.ex;exact .all (h kV doc pm an cf ct)
def IV{kV doc cf:Value}(l:K.lookup f=some ⟨oc,od,.func (PySem.W.fnOf x qual (fQ st) (cq st) (ao st) .none kV doc pm an cf ct),IC⟩)(c:PySem.W.codeIn K cf qual=true)(k:PySem.W.keepIn K (.ref f)=true):K9 K x qual st f (PySem.W.fnOf x qual (fQ st) (cq st) (ao st) .none kV doc pm an cf ct):=⟨⟨oc,od,kV,doc,pm,an,cf,ct,IC,rfl,l,c⟩,k⟩
end
def vz(hr:dX k A):A.units+1<cLine:=wJ (Nat.add_le_add_left (by decide:1<=64) _) hr.units
section
def pv(i:Nat){pos:Pos}(hN:X.N[i]?=some x:=by rfl)(hv:ZO X.env.scope x:=by first|exact Or.inl rfl|exact Or.inr (Or.inl rfl)|exact Or.inr (Or.inr rfl))(hd:(x==("__debug__":Str))=false:=by decide)(vm:(x==("__classdict__":Str))=false:=by decide):PE X (.Name x pos) (yn i):=WO hN hv hd vm
end
def bo{c A B:Prop} [Decidable c] (h1:c->A) (h2:¬c->B):if c then A else B:=by
 by_cases h:c
 .rw[ag h];exact h1 h
 .rw[af h];exact h2 h
def aw(H H':Hp):Prop:=∀b o,H b=some o->H' b=some o
theorem aw.trans(a:aw H H1)(b:aw H1 H2):aw H H2:=λc o h=>b c o (a c o h)
theorem aw.free(e:aw H H')(h:H' l=Option.none):H l=Option.none:=by
 cases q:H l with
 |none=>rfl
 |some o=>
  rw[e l o q]at h;cases h
def aw.seq(e:aw H H')(h:aM K H a xs):aM K H' a xs:=by
 obtain(h|⟨o,h⟩)|h:=h
 .exact .inl (.inl (e _ _ h))
 .exact .inl (.inr ⟨o,e _ _ h⟩)
 .exact .inr h
def at_of{z:Int}(e:z=(j:Int))(h:xs[j]?=some v):OH xs z=some v:=by
 rw[e];exact eC h
def aw.made{x C:Addr}(nx:H x=Option.none)(nd:H dx=Option.none)(k:∀b o,(upd (upd H dx (.own x)) x (.ins C dx [])) b=some o->b≠x->H1 b=some o):aw H H1:=λb o e=>
 k b o (by rw[aB (bG e nx),aB (bG e nd)];exact e) (bG e nx)
end L2
section
namespace L2
open PySem PySem.Spec PyProof.Rows
def lS(X:Cx)(b:Addr):Prop:=b∈X.ex\/X.xC.heap.get? b=none
section
variable {σ:List (Option V)}
def Inv.aaz(I:Inv X pins σ H s)(A6:∀b∈ch,lS X b/\b≠X.env.locals/\(∀x c,X.env.cells.lookup x=some c->c≠b)/\∀p∈X.pn++pins,p.1≠b)(keep:∀b o,b≠X.env.locals->b∉X.fs->b∉ch->s.heap.get? b=some o->H b=none->h'.get? b=some o)(slot:∀b o,b≠X.env.locals->b∈X.fs->b∉ch->s.heap.get? b=some o->H b=none->∃sl,h'.get? b=some {o with slots:=sl})(free:∀b o,b∉ch->s.heap.get? b=some o->H b=none->H' b=none)(there:∀b o,b∉ch->s.heap.get? b=some o->∃o',h'.get? b=some o')(yh:∀b xs,H b=some (.tup xs)->H' b=some (.tup xs))(vV:∀b o u,H b=some (.AZ o u)->H' b=some (.AZ o u))(yi:∀b ps,H b=some (.Sy ps)->∃more,H' b=some (.Sy (ps++more)))(ns:∀m,s.heap.Ns X.env.locals m->h'.Ns X.env.locals m)(bL:mO X.prog X.w H' h')(hg:AllBare g'):
  Inv X pins σ H' {s with heap:=h',gens:=g',drawn:=d',toks:=t'} :=by
 have ZP:∀b o,X.xC.heap.get? b=some o->b≠X.env.locals:=λb o e=>bB (dS (aN e) I.ok.above);have Tp:∀b o,X.xC.heap.get? b=some o->b∉X.ex->b∉ch:=λb o e hx hb=>by
  obtain z|z:=(A6 b hb).1
  .exact hx z
  .rw[e]at z;cases z
 have cellK:∀x c,X.env.cells.lookup x=some c->∀v,s.heap.IsCell c v->h'.IsCell c v:=λx c e v ⟨o,ho,hd⟩=>by
  have OU:=λz=>(A6 c z).2.2.1 x c e rfl;by_cases hc:c∈X.fs
  .obtain⟨sl,q⟩:=slot c o (I.To x c e) hc OU ho (I.iM x c e);exact⟨_,q,hd⟩
  .exact⟨o,keep c o (I.To x c e) hc OU ho (I.iM x c e),hd⟩
 refine⟨I.ok,I.os,hg,⟨λb o e n hb hx=>?_,λb o e n hb hx=>?_,λb o e n hx=>?_,λb o e hx=>?_,λb xs e=>yh b xs (I.base.yh b xs e),λb o xs e=>vV b o xs (I.base.vV b o xs e),λb ps e=>?_⟩,?_,λx c e=>?_,?_,λx c e=>?_,λp hp=>?_,bL,I.len⟩
 .exact keep b o (ZP b o e) hb (Tp b o e hx) (I.base.keep b o e n hb hx) (I.base.free b o e n hx)
 .obtain⟨sl,e1⟩:=I.base.slot b o e n hb hx;obtain⟨sl',e2⟩:=slot b _ (ZP b o e) hb (Tp b o e hx) e1 (I.base.free b o e n hx);exact⟨sl',e2⟩
 .obtain⟨o',e1⟩:=I.base.there b o e hx;exact free b o' (Tp b o e hx) e1 (I.base.free b o e n hx)
 .obtain⟨o',e1⟩:=I.base.there b o e hx;exact there b o' (Tp b o e hx) e1
 .obtain⟨m1,e1⟩:=I.base.yi b ps e;obtain⟨m2,e2⟩:=yi b _ e1;exact⟨m1++m2,by rw[e2,Array.append_assoc]⟩
 .obtain⟨m,hn,hl⟩:=I.loc;refine⟨m,ns m hn,λi x v e1 e2 e3=>?_⟩;obtain⟨u,r,l⟩:=hl i x v e1 e2 e3;refine⟨u,r,?_⟩;obtain l|⟨k,c,e,z⟩:=l
  .exact .inl l
  .exact .inr ⟨k,c,e,cellK x c e _ z⟩
 .obtain⟨v,z⟩:=I.cell x c e;exact⟨v,cellK x c e v z⟩
 .obtain⟨m,⟨o,_,_,ho,_⟩,_⟩:=I.loc;exact free _ o (λz=>(A6 _ z).2.1 rfl) ho I.free
 .obtain⟨v,o,ho,hd⟩:=I.cell x c e;exact free c o (λz=>(A6 c z).2.2.1 x c e rfl) ho (I.iM x c e)
 .obtain⟨e,n,ne,nf,d⟩:=I.pin p hp;have OU:=λz=>(A6 p.1 z).2.2.2 p hp rfl;exact⟨keep p.1 p.2 ne nf OU e n,free p.1 p.2 OU e n,ne,nf,d⟩
end
def Gq(yg:Addr->Prop)(H:Hp)(h:Heap)(e:Addr)(cls:Value)(tr:Bool):Prop:=
 ∃oe vs,h.get? e=some oe/\oe.cls=cls/\oe.data=.fields vs/\1<vs.size/\H e=none/\yg e/\
  ((tr=false/\vs[1]?=some Value.none)\/∃T oT ts x,vs[1]?=some (Value.ref T)/\T≠e/\h.get? T=some oT/\oT.data=.fields ts/\ts[3]?=some x/\H T=none/\yg T)
def Gq.mono{e:Addr}(f:Gq yg H h e cls tr)(k:∀b,yg b->yg' b):Gq yg' H h e cls tr:=by
 obtain⟨oe,vs,a1,a2,a3,a4,a5,a6,a7⟩:=f;refine⟨oe,vs,a1,a2,a3,a4,a5,k _ a6,?_⟩;obtain a7|⟨T,oT,ts,x,b1,b2,b3,b4,b5,b6,b7⟩:=a7
 .exact .inl a7
 .exact .inr ⟨T,oT,ts,x,b1,b2,b3,b4,b5,b6,k _ b7⟩
def Gq.weak{e:Addr}(f:Gq yg H h e cls tr):Gq yg H h e cls false:=by
 obtain⟨oe,vs,a1,a2,a3,a4,a5,a6,a7⟩:=f;refine⟨oe,vs,a1,a2,a3,a4,a5,a6,?_⟩;obtain a7|a7:=a7
 .exact .inl ⟨rfl,a7.2⟩
 .exact .inr a7
def Gq.keeps{e:Addr}(f:Gq yg H h e cls tr)(k:∀b o vs,h.get? b=some o->o.data=.fields vs->h'.get? b=some o):Gq yg H h' e cls tr:=by
 obtain⟨oe,vs,a1,a2,a3,a4,a5,a6,a7⟩:=f;refine⟨oe,vs,k _ _ _ a1 a3,a2,a3,a4,a5,a6,?_⟩;obtain a7|⟨T,oT,ts,x,b1,b2,b3,b4,b5,b6,b7⟩:=a7
 .exact .inl a7
 .exact .inr ⟨T,oT,ts,x,b1,b2,k _ _ _ b3 b4,b4,b5,b6,b7⟩
def mO.there(x:mO P w H h)(q:H a=some o):∃u,h.get? a=some u:=by
 have y:=x a o q;cases o with
 |lst xs=>obtain⟨_,_,_,_,e⟩:=y;exact⟨_,e⟩
 |tup xs=>obtain⟨_,_,_,ob,e,_⟩:=y;exact⟨_,e⟩
 |dK kvs=>obtain⟨_,_,_,_,o,_,_,e,_⟩:=y;exact⟨_,e⟩
 |dT kvs=>obtain⟨_,_,_,_,o,_,_,e,_⟩:=y;exact⟨_,e⟩
 |set S n=>obtain⟨o,_,_,_,e,_⟩:=y;exact⟨_,e⟩
 |ins C dx fs=>obtain⟨_,_,_,e,_⟩:=y;exact⟨_,e⟩
 |own z=>obtain⟨_,e⟩:=y;exact⟨_,e⟩
 |xd fs=>obtain⟨_,⟨_,_,_,e,_⟩,_⟩:=y;exact⟨_,e⟩
 |rng lo hi=>obtain⟨_,_,_,e⟩:=y;exact⟨_,e⟩
 |AZ ob u=>obtain⟨e,_⟩:=y;exact⟨_,e⟩
 |Sy ps=>exact⟨_,show h.get? a=some _ from y⟩
 |met f z=>exact⟨_,show h.get? a=some _ from y⟩
 |ext φ=>obtain⟨_,e,_⟩:=y;exact e
section
def Inv.chg(I:Inv X [] σ H s)(vA:X.pn=[])(A6:∀b∈ch,H b=none/\lS X b/\∃o vs,s.heap.get? b=some o/\o.data=.fields vs)(mq:∀b∈ch,∃o,h'.get? b=some o)(keep:∀b o,b∉FA X.stack->b∉ch->s.heap.get? b=some o->h'.get? b=some o)(slot:∀b o,b∈FA X.stack->b∉ch->s.heap.get? b=some o->∃sl,h'.get? b=some {o with slots:=sl}):Inv X [] σ H {s with heap:=h'} :=by
 have any:=λb o hb q=>by
  by_cases hf:b∈FA X.stack
  .exact slot b o hf hb q
  .exact⟨o.slots,keep b o hf hb q⟩
 have aaA:∀b∈ch,b≠X.env.locals:=λb hb z=>by
  obtain⟨_,_,o,vs,q,d⟩:=A6 b hb;obtain⟨m,⟨oL,es,ep,qL,dL,_⟩,_⟩:=I.loc;rw[z,qL]at q;cases q;rw[dL]at d;cases d
 refine I.aaz (g':=s.gens) (t':=s.toks) (ch:=ch) (λb hb=>⟨(A6 b hb).2.1,aaA b hb,λx c e z=>?_,λp hp=>?_⟩) (λb o hL hf hb q _=>keep b o (λz=>?_) hb q) (λb o _ _ hb q _=>any b o hb q) (λ_ _ _ _ n=>n)
  (λb o hb q=>let⟨sl,z⟩:=any b o hb q;⟨_,z⟩) (λ_ _ e=>e) (λ_ _ _ e=>e) (λb ps e=>⟨#[],by rw[e];simp⟩) (λm hm=>?_) (λb u e=>?_) I.bare
 .obtain⟨_,_,o,vs,q,d⟩:=A6 b hb;obtain⟨v,oc,qc,dc⟩:=I.cell x c e;rw[z,q]at qc;cases qc;rw[d]at dc;cases dc
 .rw[vA]at hp;exact absurd (show p∈([]:List (Addr×Obj))++ []from hp) ∅
 .obtain y|y:=mem_cons.mp (I.Ds b z)
  .exact hL y
  .exact hf y
 .obtain⟨o,es,ep,ho,r⟩:=hm;obtain⟨sl,q⟩:=any _ o (λz=>aaA _ z rfl) ho;exact⟨_,es,ep,q,r⟩
 .have fr:∀c v,H c=some v->c∉FA X.stack/\c∉ch:=λc v q=>⟨λz=>(by rw[I.Dt c z]at q;cases q),λz=>(by rw[(A6 c z).1]at q;cases q)⟩;refine(I.bL b u e).FL (λc v hc q=>?_) (λ_ q=>q) λ_ _ q=>q;obtain z|z:=hc
  .subst z;exact keep c v (fr c _ e).1 (fr c _ e).2 q
  .exact keep c v (fr c _ z).1 (fr c _ z).2 q
variable {e L:Addr} {cls:Value} {tr:Bool} {DC PU:Env} {out:List Env} {Q:Unit->Shared->Prop}
def Inv.Ud(I:Inv X [] σ H s){o:Obj}{vs:Array Value}(q:s.heap.get? b=some o)(d:o.data=.fields vs):b∉FA X.stack:=λz=>by
 obtain⟨_,o',q',d'⟩:=I.stack.mem z;rw[q]at q';cases q';exact d' vs d
def Inv.young(I:Inv X [] σ H s)(q:s.heap.get? b=none):lS X b:=by
 by_cases hb:b∈X.ex
 .exact .inl hb
 .refine .inr ?_;cases z:X.xC.heap.get? b with
  |none=>rfl
  |some o=>
   obtain⟨o',y⟩:=I.base.there b o z hb;rw[q]at y;cases y
def Gr{vs:Array Value}{head:Value}(I:Inv X [] σ H s)(vA:X.pn=[])(qe:X.stack=PU::out)(h1:PU.frame=some L)(h0:DC.frame=some L)(he:s.heap.get? e=some oe)(hc:oe.cls=cls)(hd:oe.data=.fields vs)(hz:1<vs.size)(hn:H e=none)(hy:lS X e)(k:∀h',Inv X [] σ H {s with heap:=h'}->Gq (lS X) H h' e cls true->Q Unit.unit {s with heap:=h'}):
  wpAny (model X.prog X.w) X.A (do let a<-PySem.frameOf DC;let pl<-entryPlaceOf L had;let b<-EntryCells.newEntry head a .none (rawInt L) .none pl;setField (.ref e) 1 b) Q E s:=by
 unfold PySem.frameOf;refine aj (aj (wpAny_frameEnvs I.ok.frames ?_));have hdw:(X.stack.dropWhile λx=>x.frame !=DC.frame)=PU::out:=by
  rw[qe,h0];simp[List.dropWhile,h1]
 rw[hdw];have ff:=I.stack;have fe:=I.Ud he hd;rw[qe]at ff;unfold frameObject;refine aj (aj (wpAny_readyFrames_fun ff λg1 so=>ay ?_));rw[h1];refine ay ?_;have so:Heap.SlotsOnly (FA X.stack) s.heap g1:=by rw[qe];exact so
 refine aj (wpAny_entryPlaceOf λpl iD=>?_);unfold EntryCells.newEntry newFields;refine aj (jI ?_ (iD.sizeOk5 _ _ _ _ _));have e1:=(so.2.1 e fe).trans he;generalize hob:({cls:=.type "traceback",dict:=none,data:=.fields ([head,Value.ref L,.none,rawInt L,.none] ++(if pl.isEmpty then List.replicate 6 Value.none else pl)).toArray} :Obj)=ob;have e2:(g1.push ob).get? e=some oe:=bR _ e1;have dQ:=aN e1;refine mB e2 hd hz (k _ ?_ ?_)
 .refine I.chg (ch:=[e]) vA (λb hb=>?_) (λb hb=>?_) (λb o hf hb q=>?_) (λb o hf hb q=>?_)
  .have z:b=e:=by simpa using hb
   subst z;exact⟨hn,hy,oe,vs,he,hd⟩
  .have z:b=e:=by simpa using hb
   subst z;exact⟨_,mr _ e2 (oq (jH hd _))⟩
  .have z:e≠b:=λy=>hb (by simp[y]);rw[kK _ _ z];exact bR _ ((so.2.1 b hf).trans q)
  .have z:e≠b:=λy=>hb (by simp[y]);obtain⟨sl,y⟩:=so.2.2 b o q;refine⟨sl,?_⟩;rw[kK _ _ z];exact bR _ y
 .have hT:=jn dQ;have hs:=so.1;have d3:=jH hd (·.setIfInBounds 1 (Value.ref g1.objs.size));refine⟨_,_,mr _ e2 (oq d3),(wR _ _).trans hc,d3,‹hz›,hn,hy,.inr ⟨g1.objs.size,ob,_,rawInt L,by simp[hz],hT,?_,by rw[<-hob],?_,?_,?_⟩⟩
  .rw[kK _ _ (c6 hT)];refine bw _ ?_;rw[<-hob];rfl
  .simp
  .rw[hs];exact I.bL.fresh (aL _)
  .rw[hs];exact I.young (Heap.get?_none_of_le (aL _))
def DX(I:Inv X [] σ H s)(vA:X.pn=[])(qe:X.stack=PU::out)(h1:PU.frame=some L)(h0:DC.frame=some L)(F:Gq (lS X) H s.heap e cls tr)(k:∀h',Inv X [] σ H {s with heap:=h'}->Gq (lS X) H h' e cls true->Q Unit.unit {s with heap:=h'}):wpAny (model X.prog X.w) X.A (noteFrame (.ref e) DC) Q E s:=by
 obtain⟨oe,vs,he,hc,hd,hz,hn,hy,hT⟩:=F;unfold noteFrame;simp only[h0];obtain⟨_,hv⟩|⟨T,oT,ts,x,hv,iF,hT,SG,h3,hnT,hyT⟩:=hT
 .refine aj (fF he hd hv ?_);exact Gr I vA qe h1 h0 he hc hd hz hn hy k
 .refine aj (fF he hd hv ?_);refine aj (fF hT SG h3 ?_);by_cases hx:(x==rawInt L)=true
  .rw[ag hx];exact ay (k s.heap I ⟨oe,vs,he,hc,hd,hz,hn,hy,.inr ⟨T,oT,ts,x,hv,iF,hT,SG,h3,hnT,hyT⟩⟩)
  .rw[af hx];refine aj (mB hT SG (Array.getElem?_eq_some_iff.mp h3).1 ?_);have I1:Inv X [] σ H {s with heap:=s.heap.update T (Obj.mapFields (·.setIfInBounds 3 Value.none))} :=by
    refine I.chg (ch:=[T]) vA (λb hb=>?_) (λb hb=>?_) (λb o hf hb q=>?_) (λb o hf hb q=>⟨o.slots,?_⟩)
    .have z:b=T:=by simpa using hb
     subst z;exact⟨hnT,hyT,oT,ts,hT,SG⟩
    .have z:b=T:=by simpa using hb
     subst z;exact⟨_,mr _ hT (oq (jH SG _))⟩
    .rw[kK _ _ (λy:T=b=>hb (by simp[y]))];exact q
    .rw[kK _ _ (λy:T=b=>hb (by simp[y]))];exact q
   have he1:(s.heap.update T (Obj.mapFields (·.setIfInBounds 3 Value.none))).get? e=some oe:=(kK _ _ iF).trans he;exact Gr I1 vA qe h1 h0 he1 hc hd hz hn hy k
def lT(I:Inv X [] σ H s)(vA:X.pn=[])(F:Gq (lS X) H s.heap e cls tr)(k:∀h',Inv X [] σ H {s with heap:=h'}->Gq (lS X) H h' e cls tr->Q Unit.unit {s with heap:=h'}):wpAny (model X.prog X.w) X.A (setFlight (.ref e) fr) Q E s:=by
 obtain⟨oe,vs,he,hc,hd,hz,hn,hy,hT⟩:=F;obtain⟨ht,hv⟩|⟨T,oT,ts,x,hv,iF,hT,SG,h3,hnT,hyT⟩:=hT
 .refine aj (fF he hd hv ?_);exact ay (k s.heap I ⟨oe,vs,he,hc,hd,hz,hn,hy,.inl ⟨ht,hv⟩⟩)
 .refine aj (fF he hd hv ?_);have hz3:=(Array.getElem?_eq_some_iff.mp h3).1;generalize(fr.elim Value.none λf=>rawInt f)=v;refine mB hT SG hz3 (k _ ?_ ?_)
  .refine I.chg (ch:=[T]) vA (λb hb=>?_) (λb hb=>?_) (λb o hf hb q=>?_) (λb o hf hb q=>⟨o.slots,?_⟩)
   .have z:b=T:=by simpa using hb
    subst z;exact⟨hnT,hyT,oT,ts,hT,SG⟩
   .have z:b=T:=by simpa using hb
    subst z;exact⟨_,mr _ hT (oq (jH SG _))⟩
   .rw[kK _ _ (λy:T=b=>hb (by simp[y]))];exact q
   .rw[kK _ _ (λy:T=b=>hb (by simp[y]))];exact q
  .have d3:=jH SG (·.setIfInBounds 3 v);exact⟨oe,vs,(kK _ _ iF).trans he,hc,hd,hz,hn,hy,.inr ⟨T,_,_,v,hv,iF,mr _ hT (oq d3),d3,by simp[hz3],hnT,hyT⟩⟩
end
def XR(X:Cx)(E:XK):Prop:=∀(σ:St)(H:Hp)(s:Shared)(e:Addr)(cls:Value),Inv X [] σ H s->Gq (lS X) H s.heap e cls false->E cls none H->X.xe (.ref e) s
def fU(P:Program)(w:World):OG:=λouter H s E e s'=>∃a H' cls,e=.ref a/\s'.os=s.os/\AllBare s'.gens/\Un (FA outer) [] H H' s.heap s'.heap/\mO P w H' s'.heap/\Gq (λb=>s.heap.get? b=none) H' s'.heap a cls false/\E cls none H'
def aH{E:XK}:
  XR (kg (fU P w) P w K mg base N qual scope f cd A outer s H E) E:=by
 intro σ H' s' e cls I F hE;show wpAny _ _ (leaving _ (.ref e)) _ _ s';refine aj (DX I rfl rfl rfl rfl F λg1 I1 F1=>lT I1 rfl F1.weak λg2 I2 F2=>?_);refine⟨e,H',cls,rfl,I2.os,I2.bare,I2.base,I2.bL,F2.mono λb hb=>?_,hE⟩;obtain z|z:=hb
 .exact absurd (show b∈([]:List Addr)from z) ∅
 .exact z
def aW{E:XK}(xr:XR X E):Passes (fU X.prog X.w) X E:=by
 rintro pins σ H s e s' I ⟨a,H',cls,rfl,os,bare,un,bL,F,hE⟩;have I0:Inv X [] σ H s:=I.mP λp hp=>absurd hp ∅;have I1:=I0.OV (ch:=[]) os un bL bare λb hb=>absurd hb ∅;exact xr σ H' s' a cls I1 (F.mono λb hb=>I0.young hb) hE
def K_{mg:Str->Option Value}(X:K.In h)(q:PySem.W.excIn K C XJ newId=true):
  ∃bm N nm qn bs hdct sn sub ab col dd k0 k1 k2 k3 k5 mN,h.get? C=some (excClassObj nm qn C N bs bm hdct sn sub ab col dd k0 k1 k2 k3 k5 newId)/\h.Ns N mN/\mN "__init__"=none/\OwnTail h XJ bm:=by
 unfold PySem.W.excIn at q;split at q
 .rename_i dd cd sl ho;split at q
  .rename_i C' bm k0 k1 k2 k3 n k5 hm hs;simp only[Bool.and_eq_true,beq_iff_eq,Bool.not_eq_true']at q;obtain⟨⟨⟨⟨⟨e1,e2⟩,adH⟩,ht⟩,bL⟩,hni⟩:=q;obtain⟨nm,bs,mro,ns,qn,hd,sn,sub,ab,col,del⟩:=cd;subst hm adH e1 e2;obtain⟨l⟩:=sl;subst hs;exact⟨bm,ns,nm,qn,bs,hd,sn,sub,ab,col,dd,k0,k1,k2,k3,k5,_,X _ _ ho,.of_isNs (PySem.W.isNs_of_in X bL),PySem.W.nsMap_none_of_in X bL hni,PySem.W.tail_of_in X ht⟩
  .cases q
 .cases q
def IW(t:TA)(E:XK)(C:Addr):TS:=λ_ σ H=>t σ H λvs H1=>vs.length<=sizeLine/\E (.ref C) none H1
def Gs{E:XK}{C:Addr}{XJ:List Value}{newId XM B:String}{e₀:Expr}{rest:List Expr}{t:TA}{np et pos:Pos}(xr:XR X E)(hc:X.calm=true)(hg:Gl X x)(hm:X.mg x=some (.ref C))(q:PySem.W.excIn X.K C XJ newId=true)(FB:ExcBaseFacts B newId XM XJ)(ha:PA X (e₀::rest) t)(DE:(x==("__debug__":Str))=false:=by decide)(he:starEach (e₀::rest) X.env=(false,eval e₀ X.env)::starEach rest X.env:=by rfl)(iD:(backTo et (starEach rest X.env)).any (·.1)=false:=by rfl):
  PS X (.Raise (some (.Call (.Name x np) (e₀::rest) [] et)) none pos) (IW t E C):=by
 intro pins s σ H D I h;obtain⟨bm,N,nm,qn,bs,hdct,sn,sub,ab,col,dd,k0,k1,k2,k3,k5,mN,hC,hN,hni,TL⟩:=K_ (mg:=X.mg) I.ok.mod.Tn q;have fB:(backTo et (starEach (e₀::rest) X.env)).any (·.1)=false:=by
  rw[he];show(false||(backTo et (starEach rest X.env)).any (·.1))=false;rw[iD];rfl
 refine wpAny_Raise_call_subT (C:=C) (nm:=nm) (q:=qn) (N:=N) (bs:=bs) (hdct:=hdct) (sn:=sn) (sub:=sub) (ab:=ab) (col:=col) (dd:=dd) (k0:=k0) (k1:=k1) (k2:=k2) (k3:=k3) (k5:=k5) FB (mN:=mN) (TL.hasType FB.hasBase) (I.ok.hd hc) fB hni (qd I hg hm ⟨rfl,?_⟩ DE);have hs:=ha et pins s σ H _ I h;rw[he]at hs⊢;refine sx (cI hs λvs s2 ⟨xs,H2,I2,r2,hl,hE⟩=>⟨rfl,by rw[<-r2.length];exact hl,I2.bk _ _ hC,hN.keeps I2.bk,TL.keeps I2.bk,λh' ex hx=>?_⟩);have I3:Inv X [] σ H2 {s2 with heap:=h'} :=(I2.kept hx.keeps).mP λp hp=>absurd hp ∅;obtain⟨tp,ht,_,_⟩:=hx.there;refine xr σ H2 {s2 with heap:=h'} ex (.ref C) I3 ⟨_,_,ht,rfl,rfl,by show 1<6;decide,?_,?_,.inl ⟨rfl,rfl⟩⟩ hE
 .cases z:H2 ex with
  |none=>rfl
  |some o=>
   obtain⟨u,y⟩:=I2.bL.there z;rw[hx.new]at y;cases y
 .exact(I2.mP λp hp=>absurd hp ∅).young hx.new
def K9.Cj(F:K9 K x qual st f fd)(S:aE N ps (ao st))(len:∀vs H Q E,sp vs H Q E->vs.length=ps.length)(gw:∀cf A outer s H vs Q E,dX k (A.deeper (envOfC qual (ao st) s.heap.objs.size f cf))->sp vs H Q E->
   ∃t,vW (kg (fU P w) P w K mg base N qual (ao st) f cf A outer s H E) (cq st) t/\t {nx:=λ_ H'=>Q .cT H',rt:=Q} (start N vs) H):oa P w K mg base (fU P w) (k+1) f fd ps sp:=by
 obtain⟨oc,od,kV,doc,pm,an,cf,ct,IC,rfl,lk,vm⟩:=F.ex;exact VN lk vm S len λA outer s H vs Q E hr A3=>gw cf A outer s H vs Q E hr A3
def xeB(Y:Cx)(E:XK):Value->Shared->Prop:=λv s'=>∃e σ' H' cls,v=.ref e/\Inv Y [] σ' H' s'/\Gq (lS Y) H' s'.heap e cls false/\E cls none H'
noncomputable abbrev Cx.qJ(X:Cx)(E:XK)(s:Shared)(H:Hp)(scope:Scope)(gj:Env)(fp:List Addr):Cx:=(X.IM s H scope gj fp).qI (xeB (X.IM s H scope gj fp) E)
def IX{E:XK}:XR (X.qJ E s H scope gj fp) E:=λσ H' s' e cls I F hE=>⟨e,σ,H',cls,rfl,I.eX,F,hE⟩
section
def Gu{E:XK}{Q:VK}(vA:X.pn=[])(qe:X.stack=X.env::X.outer)(FE:X.env.frame=some X.env.locals)(xr:XR X E)(hc:X.calm=true)(hN:X.N.Nodup)(I:Inv X pins σ H s)(hi:PI X tg iter wi)(ok:yE X.N X.env.scope scope own)(hg:∀s H C cl fp,PG (X.qJ E s H scope (compEnvC scope cl C X.env) fp) tg g)(ht:∀s H C cl fp,Xr (X.qJ E s H scope (compEnvC scope cl C X.env) fp) ifs tt)(he:∀s H C cl fp,PE (X.qJ E s H scope (compEnvC scope cl C X.env) fp) elt te)(hs:∀x,foldedSetIterable iter X.env x=pure x)(h:Zj wi g tt te (own.map (·.2)) σ H Q)(hRR:∀D C s' m H',Inv X pins σ H' s'->Q (.ref D) H'->s'.heap.Ns C m->vX X pins H' C->compPost (model X.prog X.w) X.A X.xe use Qf (.ref D) C (.ok .next) s'):
  wpAny (model X.prog X.w) X.A (comprehension (.ListComp elt [⟨tg,iter,ifs,0⟩] scope pos) scope X.env pos' (newList []) false (eval iter X.env) use) Qf X.xe s:=by
 have vk:∀y∈scope.names,y.2=.free->∃c,X.env.cells.lookup y.1=some c:=λy hy e=>by
  obtain k|k:=ok.free y hy e
  .exact I.ok.has _ (.inl k)
  .exact I.ok.has _ (.inr k)
 refine wpAny_comprehension_free rfl hs (IL vk) ok.kind (λy hy e=>by rw[ok.uniq y hy,e])
  (cI (hi pins s σ H _ I h) λxv s1 hx=>cI hx λitv s2 h2=>?_)
 obtain⟨it,fp,tn,J,H2,e,I2,T,st2,f2,q⟩:=h2;subst e;refine jI (F5 ?_) (by show 0<=sizeLine;decide);generalize hD:s2.heap.objs.size=D;have hDn:=I2.bL.fresh (sP hD);obtain⟨W,⟨m0,w0⟩,turn⟩:=q D hDn;generalize hs3:({s2 with heap:=s2.heap.push {cls:=.type "list",data:=.seq ([]:List Value).toArray}} :Shared)=s3;have I3:Inv X pins σ (upd H2 D (.lst [])) s3:=by
  rw[<-hs3];refine I2.laid (λb o e=>bR _ e) (sP hD) ⟨cj _,[],0,.nil,?_⟩;rw[<-hD];exact bw _ rfl
 have h3:s3.heap=s2.heap.push {cls:=.type "list",data:=.seq ([]:List Value).toArray} :=by rw[<-hs3]
 have sz:∀b∈fp,b<s2.heap.objs.size:=λb hb=>by
  obtain⟨o,e,_⟩:=T.obj _ _ st2 b hb;exact aN e
 have f3:∀b∈fp,vX X pins (upd H2 D (.lst [])) b/\b<s3.heap.objs.size:=λb hb=>by
  have dQ:=sz b hb;refine⟨⟨?_,(f2 b hb).2⟩,by rw[h3,dU];exact my dQ⟩;rw[aB (by rw[<-hD];exact bB dQ)];exact(f2 b hb).1
 have st3:tn 0 s3.heap:=T.keep _ _ _ st2 λb _ o e=>by rw[h3];exact bR _ e
 have I4:=F6 I3 ok hN f3;have pg:=hg s3 (upd H2 D (.lst [])) s3.heap.objs.size (cellsFrom (s3.heap.objs.size+1) scope.names (cx X.env.cells scope.names [])) fp;have pt:=ht s3 (upd H2 D (.lst [])) s3.heap.objs.size (cellsFrom (s3.heap.objs.size+1) scope.names (cx X.env.cells scope.names [])) fp;have pe:=he s3 (upd H2 D (.lst [])) s3.heap.objs.size (cellsFrom (s3.heap.objs.size+1) scope.names (cx X.env.cells scope.names [])) fp;show codeAny _ _ (.compStart (.ListComp elt [⟨tg,iter,ifs,0⟩] scope pos) 0 (.ref it) (.ref D) (compEnvC scope (cellsFrom (s3.heap.objs.size+1) scope.names (cx X.env.cells scope.names [])) s3.heap.objs.size X.env)) (compPost (model X.prog X.w) X.A X.xe use Qf (.ref D) s3.heap.objs.size) {s3 with heap:=pushCells (s3.heap.push {cls:=.type "dict",data:=.dict #[]}) scope.names};have nfp:=λb hb=>(f3 b hb).1.1;generalize hce:compEnvC scope (cellsFrom (s3.heap.objs.size+1) scope.names (cx X.env.cells scope.names [])) s3.heap.objs.size X.env=ce at I4 pg pt pe⊢;have cL:ce.locals=s3.heap.objs.size:=by subst hce;rfl
 generalize hH3:upd H2 D (.lst [])=H3 at I3 I4 pg pt pe w0 nfp f3;generalize hs4:({s3 with heap:=pushCells (s3.heap.push {cls:=.type "dict",data:=.dict #[]}) scope.names} :Shared)=s4 at I4⊢;have cF:ce.frame=X.env.frame:=by subst hce;rfl
 have XN:∀v s',xeB (X.IM s3 H3 scope ce fp) E v s'->notedBy (model X.prog X.w) X.A ce (λe s'=>compPost (model X.prog X.w) X.A X.xe use Qf (.ref D) s3.heap.objs.size (.error e) s') v s':=by
  rintro v s' ⟨e,σ',H',cls,rfl,I',F',hE⟩;refine DX (X:=X.IM s3 H3 scope ce fp) I' rfl qe FE (cF.trans FE) F' λg1 I1 F1=>?_;obtain⟨m,hn,_⟩:=I1.loc;rw[cL]at hn;have J7:=I3.OV (ch:=fp) I1.os I1.base I1.bL I1.bare λb hb=>⟨(f3 b hb).1.2.2.2.1,(f3 b hb).1.2.1,(f3 b hb).1.2.2.2.2.1,(f3 b hb).1.2.2.2.2.2⟩;have nC:H' s3.heap.objs.size=none:=by
   have z:=I1.free;rw[cL]at z;exact z
  obtain⟨f0,f1,f2',f3',f4,f5⟩:=I3.Dy (aL _) nC;have yg:∀b,lS (X.IM s3 H3 scope ce fp) b->lS X b:=λb hb=>by
   obtain z|z:=hb
   .obtain y|y:=(f3 b z).1.2.2.2.1
    .exact .inl y
    .exact .inr (Heap.get?_none_of_le y)
   .exact(I3.mP λp hp=>absurd hp ∅).young z
  have key:∃m,g1.Ns s3.heap.objs.size m/\∀h',Heap.SameBut s3.heap.objs.size g1 h'->∀gj:Env,gj.locals=s3.heap.objs.size->wpAny (model X.prog X.w) X.A (PySem.passOn "comprehension.variables-let-go" (.ref e) gj:Sem Value) (λ_ _=>False) X.xe {s' with heap:=h'} :=by
   refine⟨m,hn,λg2 sb aeD _=>?_⟩;have J8:=J7.turned (t':=s'.toks) (λb o hb q=>(sb.2 b hb).trans q) f0 f1 f3' f4 f5;have J9:Inv X [] σ H' {s' with heap:=g2} :=J8.mP λp hp=>absurd hp ∅;have F9:=(F1.mono yg).keeps λb o vs q d=>by
    refine(sb.2 b λz=>?_).trans q;obtain⟨oC,es,ep,qC,dC,_⟩:=hn;rw[z]at q;rw[qC]at q;cases q;rw[dC]at d;cases d
   obtain⟨oe,vs,M9,VG,Iq,FG,hn',M0,hT'⟩:=id F9;obtain⟨z,_⟩|⟨T',oT',ts',x',hv',_⟩:=hT'
   .cases z
   .refine aj (fF M9 Iq hv' ?_)
    first
     |exact aj (lT J9 vA F9 λg3 J10 F10=>sU (xr σ H' _ e cls J10 F10.weak hE))|exact aj (ay (aj (lT J9 vA F9 λg3 J10 F10=>sU (xr σ H' _ e cls J10 F10.weak hE))))
  cases use<;>exact key
 have st4:tn 0 s4.heap:=T.keep _ _ _ st3 λb _ o e=>by rw[<-hs4];exact w_ _ _ _ _ (bR _ e)
 have stat:∀{σ':St}{H':Hp}{s':Shared},Inv (X.IM s3 H3 scope ce fp) [] σ' H' s'->(∀b∈fp,H' b=none)->∀b∈fp,vX (X.IM s3 H3 scope ce fp) [] H' b:=λ{σ' H' s'} I' hn b hb=>
  ⟨hn b hb,(I'.ok.Y8 b hb).1,I'.ok.Ip b hb,.inl hb,λx c e=>(I'.ok.Y8 b hb).2 x c e,λp hp=>absurd (show p∈([]:List (Addr×Obj))++ []from hp) ∅⟩
 have loop:codeAny (model X.prog X.w) X.A (.compLoop (.ListComp elt [⟨tg,iter,ifs,0⟩] scope pos) 0 (.ref it) (.ref D) ce) (compPost (model X.prog X.w) X.A X.xe use Qf (.ref D) s3.heap.objs.size) s4:=by
  refine DN (λn s'=>∃i H',Inv (X.IM s3 H3 scope ce fp) [] (wipe σ (own.map (·.2))) H' s'/\tn i s'.heap/\(∀b∈fp,H' b=none)/\W i n H') ?_ m0 ⟨0,H3,I4,st4,nfp,w0⟩;rintro n s5 ⟨i,H5,I5,Y9,n5,w5⟩;obtain⟨stop,qq⟩|⟨go,Nx,hNx,step⟩:=turn i n H5 w5
  .have td:=T.done (X.IM s3 H3 scope ce fp) rfl rfl rfl hc i [] s5 _ H5 (λ_ _=>False) I5 (stat I5 n5) Y9 stop;refine Xs td λr s6 zq1=>?_;obtain⟨hr,I6⟩:=zq1;subst hr;have I7:=I3.OV (ch:=fp) I6.os I6.base I6.bL I6.bare λb hb=>⟨(f3 b hb).1.2.2.2.1,(f3 b hb).1.2.1,(f3 b hb).1.2.2.2.2.1,(f3 b hb).1.2.2.2.2.2⟩;have nC:H5 s3.heap.objs.size=none:=by
    have z:=I6.free;rw[cL]at z;exact z
   obtain⟨m,hn,_⟩:=I6.loc;rw[cL]at hn;exact hRR D s3.heap.objs.size s6 m H5 I7 qq hn (I3.Dy (aL _) nC)
  .have ti:=T.item (X.IM s3 H3 scope ce fp) rfl rfl rfl hc i [] s5 _ H5 (λ_ _=>False) I5 (stat I5 n5) Y9 go;refine Xs ti λr s6 zq2=>?_;obtain⟨u,hr,h6⟩:=zq2;subst hr;refine Xs h6 λ_ s7 zq3=>?_;obtain⟨x,H7,I7,r7,y7,st7,n7⟩:=zq3;have I7':=I7.pinned (stat I7 n7) (T.obj _ _ st7);refine da (pg _ s7 _ H7 x u _ (I7'.qI _) r7 (step x H7 y7)) (λ_ s8 zq4=>?_) XN;obtain⟨σ8,H8,I8,hw8,q8⟩:=zq4;refine da (pt _ s8 σ8 H8 _ I8 q8) (λb s9 zq5=>?_) XN;obtain⟨H9,I9w,q9⟩:=zq5;have I9:=I9w.eX;have fin:∀{s':Shared}{H':Hp},Inv (X.IM s3 H3 scope ce fp) ([] ++yw fp s7.heap) σ8 H' s'->Nx H'->∃m,m<n/\∃i H',Inv (X.IM s3 H3 scope ce fp) [] (wipe σ (own.map (·.2))) H' s'/\tn i s'.heap/\(∀b∈fp,H' b=none)/\W i m H':=λ{s' H'} I' nx=>by
    obtain⟨m',hm,w'⟩:=hNx H' nx;have aaB:∀b∈fp,∀o,s7.heap.get? b=some o->s'.heap.get? b=some o/\H' b=none:=λb hb o e=>
     let z:=I'.pin (b,o) (mz _ (mz _ (rp hb e)))
     ⟨z.1,z.2.1⟩
    have hl:(wipe σ (own.map (·.2))).length=σ8.length:=by rw[<-hw8,oG]
    refine⟨m',hm,i+1,H',(I'.sX).weak hl (λj v e=>?_),T.keep _ _ _ st7 λb hb o e=>(aaB b hb o e).1,λb hb=>?_,w'⟩
    .rw[<-hw8]at e;exact(uD e).1
    .obtain⟨o,e,_⟩:=T.obj _ _ st7 b hb;exact(aaB b hb o e).2
   cases b with
   |false=>
    exact fin I9 q9
   |true=>
    refine da (pe _ s9 σ8 H9 _ I9w q9) (λz s10 zq6=>?_) XN;obtain⟨yv,H10,I10,r10,acc,adI,adJ,nx⟩:=zq6;exact Xq (X:=X.IM s3 H3 scope ce fp) I10.eX adI adJ r10 λs11 I11=>fin I11 nx
 exact codeAny_compStart_list loop (T.self X.A 0 _ _ _ st4 loop)
def IY{E:XK}{pos:Pos}(vA:X.pn=[])(qe:X.stack=X.env::X.outer)(FE:X.env.frame=some X.env.locals)(xr:XR X E)(hc:X.calm=true)(hN:X.N.Nodup)(hi:PI X tg iter wi)(ok:yE X.N X.env.scope scope own)(hg:∀(s:Shared)(H:Hp)(C:Addr)(cl:List (Str×Addr))(fp:List Addr),PG (X.qJ E s H scope (compEnvC scope cl C X.env) fp) tg g)(ht:∀(s:Shared)(H:Hp)(C:Addr)(cl:List (Str×Addr))(fp:List Addr),Xr (X.qJ E s H scope (compEnvC scope cl C X.env) fp) ifs tt)(he:∀(s:Shared)(H:Hp)(C:Addr)(cl:List (Str×Addr))(fp:List Addr),PE (X.qJ E s H scope (compEnvC scope cl C X.env) fp) elt te)(hs:∀x,foldedSetIterable iter X.env x=pure x:=by intro _;rfl):
  PE X (.ListComp elt [⟨tg,iter,ifs,0⟩] scope pos) (Zj wi g tt te (own.map (·.2))):=by
 intro pins s σ H Q I h;refine Gu vA qe FE xr hc hN I hi ok hg ht he hs h λD C s' m H' I' q hn f=>⟨m,hn,λPB sb=>?_⟩;obtain⟨f0,f1,f2,f3,f4,f5⟩:=f;exact⟨.ref D,H',I'.turned (λb o hb e=>(sb.2 b hb).trans e) f0 f1 f3 f4 f5,rfl,q⟩
def Ck{E:XK}{y:Str}{py:Pos}{PV:Pos}(vA:X.pn=[])(qe:X.stack=X.env::X.outer)(FE:X.env.frame=some X.env.locals)(xr:XR X E)(hc:X.calm=true)(hN:X.N.Nodup)(hy:X.N[i]?=some y)(Zk:X.env.scope.names.lookup y=some .local)(hsw:swapsWith (.ListComp elt [⟨tg,iter,ifs,0⟩] scope pos) (some (.Name y py)) PV.line X.env=pure true)(hi:PI X tg iter wi)(ok:yE X.N X.env.scope scope own)(hg:∀(s:Shared)(H:Hp)(C:Addr)(cl:List (Str×Addr))(fp:List Addr),PG (X.qJ E s H scope (compEnvC scope cl C X.env) fp) tg g)(ht:∀(s:Shared)(H:Hp)(C:Addr)(cl:List (Str×Addr))(fp:List Addr),Xr (X.qJ E s H scope (compEnvC scope cl C X.env) fp) ifs tt)(he:∀(s:Shared)(H:Hp)(C:Addr)(cl:List (Str×Addr))(fp:List Addr),PE (X.qJ E s H scope (compEnvC scope cl C X.env) fp) elt te)(hs:∀x,foldedSetIterable iter X.env x=pure x:=by intro _;rfl):
  PS X (.Assign [.Name y py] (.ListComp elt [⟨tg,iter,ifs,0⟩] scope pos) PV) (O2 (Zj wi g tt te (own.map (·.2))) (oy i)):=by
 intro pins s σ H D I h;rw[exec_Assign_Name_used _ _ _ _ hsw];refine aj (wpAny_standAt (aj ?_));refine aj (cI (Gu vA qe FE xr hc hN I hi ok hg ht he hs h λL C s' m H' I' q hn f=>?_) λ_ s' hq=>ay (ay hq));refine wpAny_assign_Name (BF (v:=V.ref L) I' hN hy (.inl Zk) rfl (λs2 I2 zq7=>?_) (.inr Zk));obtain⟨a,sb,ha⟩:=zq7;obtain⟨f0,f1,f2,f3,f4,f5⟩:=f;have haC:C≠a:=by
  obtain z|z:=ha
  .rw[z];exact f1
  .exact λe=>f4 y a z e.symm
 refine⟨m,hn.sameBut sb haC,λh3 sb3=>?_⟩;exact⟨_,H',I2.turned (λb o hb e=>(sb3.2 b hb).trans e) f0 f1 f3 f4 f5,q⟩
end
def PS0(X:Cx)(st:Stmt)(t:TS):Prop:=∀(s:Shared)(σ:St)(H:Hp)(D:Ends),Inv X [] σ H s->t D σ H->wpAny (model X.prog X.w) X.A (exec st X.env) (SP X [] D) X.xe s
def DY(X:Cx)(st:List Stmt)(t:TS):Prop:=∀(s:Shared)(σ:St)(H:Hp)(D:Ends),Inv X [] σ H s->t D σ H->wpAny (model X.prog X.w) X.A (execs st X.env) (SP X [] D) X.xe s
def PS.ps0{t:TS}(h:PS X st t):PS0 X st t:=λs σ H D I q=>h [] s σ H D I q
def vW.adK{st:List Stmt}{t:TS}(h:vW X st t):DY X st t:=λs σ H D I q=>h [] s σ H D I q
def uF{rest:List Stmt}{t u:TS}(h1:PS0 X st t)(h2:DY X rest u):DY X (st::rest) (Ts t u):=by
 intro s σ H D I h;refine wpAny_execs_cons (cI (h1 s σ H {D with nx:=u D} I h) λf s1 q=>?_);cases f with
 |next=>
  obtain⟨σ',H',I',q⟩:=q;exact h2 s1 σ' H' D I' q
 |ret v=>exact q|brk=>exact q
 |cont=>exact q
noncomputable abbrev Cx.lU(X:Cx)(e:Value)(xe:Value->Shared->Prop):Cx:= {X with A:=X.A.mark (some e),calm:=false,xe:=xe}
theorem Inv.lU(I:Inv X pins σ H s) e xe:Inv (X.lU e xe) pins σ H s:=
 ⟨⟨I.ok.mod,I.ok.kind,I.ok.glob,I.ok.blt,I.ok.above,I.ok.inj,I.ok.has,I.ok.WG,λz=>Bool.noConfusion z,I.ok.frames,I.ok.Y7,I.ok.Y8,I.ok.bs,I.ok.MO,I.ok.Io,I.ok.Ip,I.ok.rk,I.ok.Sz⟩,I.os,I.bare,I.base,I.loc,I.cell,I.free,I.iM,I.pin,I.bL,I.len⟩
def Inv.mS{e:Value}(I:Inv (X.lU e xe) pins σ H s)(ok:X.Ok):Inv X pins σ H s:=
 ⟨ok,I.os,I.bare,I.base,I.loc,I.cell,I.free,I.iM,I.pin,I.bL,I.len⟩
theorem SP.mS{D:Ends}{f:Flow}{e:Value}(h:SP (X.lU e xe) pins D f s')(ok:X.Ok):SP X pins D f s':=by
 cases f with
 |next=>obtain⟨σ',H',I,q⟩:=h;exact⟨σ',H',I.mS ok,q⟩
 |brk=>obtain⟨σ',H',I,q⟩:=h;exact⟨σ',H',I.mS ok,q⟩
 |cont=>obtain⟨σ',H',I,q⟩:=h;exact⟨σ',H',I.mS ok,q⟩
 |ret u=>obtain⟨v,σ',H',I,r,q⟩:=h;exact⟨v,σ',H',I.mS ok,r,q⟩
def adL(C:Addr)(tb:XK->TS)(th:TS):TS:=λD σ H=>∃E:XK,tb E D σ H/\∀(σ':St)(H':Hp)(cls:Value)(d:Option Addr),E cls d H'->cls=.ref C/\th D σ' H'
def La{C:Addr}{XJ:List Value}{newId:String}{body lU:List Stmt}{b0:Stmt}{tb:XK->TS}{th:TS}{np adM pos:Pos}(vA:X.pn=[])(qe:X.stack=X.env::X.outer)(FE:X.env.frame=some X.env.locals)(hg:Gl X x)(hm:X.mg x=some (.ref C))(q:PySem.W.excIn X.K C XJ newId=true)(jR:XJ.contains (.type "BaseException")=true)(hb:∀(E:XK)(xe:Value->Shared->Prop),XR (X.qI xe) E->vW (X.qI xe) body (tb E))(hs:∀(e:Value)(xe:Value->Shared->Prop),vW (X.lU e xe) (b0::lU) th)(DE:(x==("__debug__":Str))=false:=by decide):
  PS0 X (.Try body [.ExceptHandler (some (.Name x np)) none (b0::lU) adM] [] [] pos) (adL C tb th):=by
 intro s σ H D I h;obtain⟨E,h1,h2⟩:=h;refine wpAny_Try_except ?_;have run:=hb E (xeB X E) (λσ' H' s' e cls I' F' hE=>⟨e,σ',H',cls,rfl,I'.eX,F',hE⟩) [] s σ H D (I.qI _) h1;refine da run (λf s1 z=>?_) λv s1 z=>?_
 .cases f with
  |next=>exact w9 (SP.eX z)|ret u=>exact SP.eX z
  |brk=>exact SP.eX z|cont=>exact SP.eX z
 .obtain⟨e,σ',H',cls,rfl,I1,F1,hE⟩:=z;obtain⟨rfl,hth⟩:=h2 σ' H' cls none hE;refine DX I1 vA qe FE FE F1 λg1 I2 F2=>lT I2 vA F2 λg2 I3 F3=>?_;refine wpAny_handleBy_cons (codeAny_handlers_test (qd (X:=X.lU (.ref e) λ_ _=>False) (I3.lU _ _) hg hm ?_ DE)) (by intro y;cases y);obtain⟨bm,N,nm,qn,bs,hdct,sn,sub,ab,col,dd,k0,k1,k2,k3,k5,mN,hC,hN,hni,TL⟩:=K_ (mg:=X.mg) I.ok.mod.Tn q;obtain⟨oe,vs,he,hc,_⟩:=id F3;refine wpAny_excMatches_sub_self (I3.bk _ _ hC) he hc (TL.hasType jR) (codeAny_handlers_suite ?_);refine lT (X:=X.lU (.ref e) λ_ _=>False) (I3.lU _ _) vA F3 λg3 I4 F4=>?_;have vZ:=hs (.ref e) (notedBy (model X.prog X.w) (X.A.mark (some (.ref e))) X.env λx s₂=>cameBackBy (model X.prog X.w) X.A X.env X.xe x s₂) [] _ σ' H' D ((I4.mS I.ok).lU (.ref e) _) hth;exact da vZ (λf s5 z=>z.mS I.ok) λv s5 z=>z
def XO{dV kV doc cf oc:Value}(lk:K.lookup f=some ⟨oc,od,.func (PySem.W.fnOf name qual params body scope dV kV doc pm an cf ct),IC⟩)(vm:PySem.W.codeIn K cf qual=true)(S:aE N ps scope)(len:∀vs H Q E,sp vs H Q E->vs.length=ps.length)(gw:∀A outer s H vs Q E,dX k (A.deeper (envOfC qual scope s.heap.objs.size f cf))->sp vs H Q E->
   ∃t,DY (kg CX P w K mg base N qual scope f cf A outer s H E) body t/\t {nx:=λ_ H'=>Q .cT H',rt:=Q} (start N vs) H):
  oa P w K mg base CX (k+1) f (PySem.W.fnOf name qual params body scope dV kV doc pm an cf ct) ps sp:=by
 refine⟨len,λA outer s H args us vs Q E hr e0 hb r A3=>?_⟩;have hl:=len _ _ _ _ A3;have KX:=e0.mod.Tn.keeps λb o e=>(e0.bs b o e).1;have lim:=e0.mod.nolimit.keeps λb o e=>(e0.bs b o e).1;have FX:∀y∈ps.zip us,scope.names.lookup y.1=some .local\/(scope.names.lookup y.1=some .cell/\((cellsFrom (s.heap.objs.size+1) scope.names []).lookup y.1).isSome=true):=λ⟨n,v⟩ hy=>by
  obtain q|q:=S.par n (mL hy).1
  .exact .inl q
  .exact .inr ⟨q,wD _ _ _ (.inl q)⟩
 refine codeAny_call_function hr.depth (KX _ _ lk) rfl S.co S.gen rfl (PySem.W.codeRec_of KX vm) (hb _ _ _ _ ?_);refine wpAny_newFunctionEnv_cells S.kind FX λenv he s1 x=>?_;subst he;refine⟨lim.keeps x.toInCall.keep,codeAny_func ?_⟩;obtain⟨t,ht,hq⟩:=gw A outer s H vs Q E (hr.deeper _) A3;have I:Inv (kg CX P w K mg base N qual scope f cf A outer s H E) [] (start N vs) H s1:=uz S hr.hd e0 hl r x;refine da (ht s1 (start N vs) H _ I hq) (λfl s' hs=>?_) λe s' hs=>hs;have fin:∀{σ':St}{H':Hp}{v:V}{u:Value},Inv (kg CX P w K mg base N qual scope f cf A outer s H E) [] σ' H' s'->RelV v u->Q v H'->CE outer P w H s Q u s':=
  λ{σ' H' v u} J rv q=>⟨v,H',J.os,J.bare,J.base,J.bL,rv,q⟩
 cases fl with
 |ret u=>
  obtain⟨v,σ',H',J,rv,q⟩:=hs;exact fin J rv q
 |next=>
  obtain⟨σ',H',J,q⟩:=hs;exact fin (v:=V.cT) J rfl q
 |brk=>
  obtain⟨_,_,_,q⟩:=hs;exact False.elim q
 |cont=>
  obtain⟨_,_,_,q⟩:=hs;exact False.elim q
theorem DY.OD{st:List Stmt}{t:TS}(h:DY X.OD st t):DY X st t:=λs σ H D I hw=>
 da (h s σ H D (I.qI _) hw) (λ_ _ q=>q.eX) λ_ _ z=>False.elim z
def K9.ok0(F:K9 K x qual st f fd)(S:aE N ps (ao st))(len:∀vs H Q E,sp vs H Q E->vs.length=ps.length)(gw:∀cf A outer s H vs Q E,dX k (A.deeper (envOfC qual (ao st) s.heap.objs.size f cf))->sp vs H Q E->
   ∃t,DY (kg eY P w K mg base N qual (ao st) f cf A outer s H E).OD (cq st) t/\t {nx:=λ_ H'=>Q .cT H',rt:=Q} (start N vs) H):oa P w K mg base eY (k+1) f fd ps sp:=by
 obtain⟨oc,od,kV,doc,pm,an,cf,ct,IC,rfl,lk,vm⟩:=F.ex;refine XO lk vm S len λA outer s H vs Q E hr A3=>?_;obtain⟨t,h,q⟩:=gw cf A outer s H vs Q E hr A3;exact⟨t,h.OD,q⟩
noncomputable def bA{α:Type}:List α->List α
 |a::_::r=>a::bA r|[a]=>[a]
 |[]=>[]
noncomputable def oJ{α:Type}(l:List α):List α:=bA (l.drop 1)
def xM(a b:α) r:oJ (a::b::r)=b::oJ r:=by cases r<;>rfl
theorem vB:∀aR:List α,(List.range ((aR.length+1)/2)).filterMap (λk=>aR[2*k]?)=bA aR
 |[]=>by simp[bA]|[_]=>by simp[bA]
 |a::b::r=>by
  have e:((a::b::r).length+1)/2=(r.length+1)/2+1:=by
   simp only[length_cons];omega
  rw[e,range_succ_eq_map,jM];show a::_=a::bA r;rw[filterMap_map,<-vB r];congr 1
theorem jz:∀aR:List α,(bA aR).length<=aR.length
 |[]=>aL _|[_]=>aL _
 |_::_::r=>by
  have:=jz r;simp only[bA,length_cons];omega
theorem Vals.bA:∀{xs}{us},Vals xs us->Vals (L2.bA xs) (L2.bA us)
 |[],_,h=>by cases h;exact .nil
 |[_],_,h=>by
  obtain⟨u,rfl,r⟩:=vals1 h;exact .cons r .nil
 |_::_::xs,_,h=>by
  cases h with
  |cons r t=>
   cases t with
   |cons _ t=>exact .cons r (Vals.bA t)
def Vals.aaC n (h:Vals xs us):Vals (xs.drop n) (us.drop n):=Paired.drop' n h
def IZ(aR:List Value)(s:Nat):slicePick aR.toArray (some (s:Int)) none (some 2)=(bA (aR.drop s)).toArray:=by
 unfold slicePick;rw[<-vB (aR.drop s)];congr 1;have h1:(sliceBounds (some (s:Int)) none (some 2) aR.toArray.size).1=((min s aR.length:Nat):Int):=by
  simp[sliceBounds];omega
 have h2:(sliceBounds (some (s:Int)) none (some 2) aR.toArray.size).2.1=(aR.length:Int):=by simp[sliceBounds]
 have h3:(sliceBounds (some (s:Int)) none (some 2) aR.toArray.size).2.2=2:=by simp[sliceBounds]
 rw[h1,h2,h3];have hc:(if(2:Int)>0 then(if((min s aR.length:Nat):Int)<(aR.length:Int)then((aR.length:Int)-((min s aR.length:Nat):Int)+2-1)/2 else 0)
           else(if((min s aR.length:Nat):Int)>(aR.length:Int)then(((min s aR.length:Nat):Int)-(aR.length:Int)-2-1)/(-2)else 0)).toNat=((aR.drop s).length+1)/2:=by
  rw[ag ⋯,dW];split<;>omega
 unfold sliceRange;simp only[hc];rw[filterMap_map];by_cases c:s<=aR.length
 .rw[pM c];congr 1;funext k;have:((s:Int)+2*(k:Int)).toNat=s+2*k:=by omega
  show aR.toArray[((s:Int)+2*(k:Int)).toNat]?=(aR.drop s)[2*k]?;rw[this,pN];simp
 .have e:((aR.drop s).length+1)/2=0:=by rw[dW];omega
  rw[e];rfl
def VW(K:PySem.W.Frag)(te tl ts:TE):TE:=λσ H Q=>te σ H λx H1=>tl σ H1 λy H2=>ts σ H2 λz H3=>∃(a:Addr) (xs:List V) (n:Nat),x=.ref a/\y=.int n/\z=.int 2/\aM K H3 a xs/\∀p,H3 p=none->Q (.ref p) (upd H3 p (.lst (bA (xs.drop n))))
def tG{lo st:Expr}(he:PE X e te)(hl:PE X lo tl)(qe:PE X st ts):PE X (.Subscript e (.Slice (some lo) none (some st) p2) pos) (VW X.K te tl ts):=by
 intro pins s σ H Q I h;refine Subscript_ (cI (he pins s σ H _ I h) λv s1 zx=>?_);obtain⟨x,H1,I1,r1,q1⟩:=zx;refine wpAny_Slice ?_;refine cI (hl pins s1 σ H1 _ I1 q1) λvl s2 zy=>?_;obtain⟨y,H2,I2,r2,q2⟩:=zy;refine ay ?_;refine cI (qe pins s2 σ H2 _ I2 q2) λvs s3 zz=>?_;obtain⟨z,H3,I3,r3,a,xs,n,ex,ey,ez,hs,q⟩:=zz;subst ex ey ez;obtain rfl:v=Value.ref a:=r1;obtain⟨t2,rfl⟩:=r2;obtain⟨t3,rfl⟩:=r3;have I4:Inv X pins σ H3 {s3 with heap:=s3.heap.push {cls:=.type "slice",data:=.fields #[Value.int n t2,Value.none,Value.int 2 t3]}} :=I3.kept λb ob q=>bR _ q;obtain⟨aR,r,ht,hz⟩:=I4.list hs;have hlen:=r.length;refine tail_any ht.isList.typeIs slot_list_getitem.lookup ?_ (by with_unfolding_all rfl);refine wpAny_getItem_list_slice ht.isList (Heap.IsSliceOf.new ..) (.int n t2) .none (.int 2 t3) ⋯ ?_ (by rw[cN] <;>omega);rw[IZ];refine⟨.ref _,_,I4.laid (t':=s3.toks) (λb ob q=>bR _ q) (aL _) ?_,rfl,q _ (I4.bL.fresh (aL _))⟩;exact⟨aX (jz _) (aX (by rw[dW];exact Nat.sub_le _ _) hz),_,0,(r.aaC n).bA,bw _ rfl⟩
structure KD(P:Program)(w:World)(K:PySem.W.Frag)(d:Addr)(kvs:List (Key×V)):Prop where
 at_:∃(o:Obj) (es:Array DictEntry) (ep:Nat) (vs:List (Key×Value)),K.lookup d=some o/\(d==sysModules)=false/\o.ExactDict/\o.data=.dict es ep/\es.size=kvs.length/\KV kvs vs/\KeysOf (bM P w) es/\Pairs (bM P w) es.toList vs/\(vs.map (·.1)).Nodup
section
variable {d:Addr}
def KD.dictOf(D:KD X.prog X.w X.K d kvs)(I:Inv X pins σ H s):∃vs,KV kvs vs/\s.heap.DictOf (bM X.prog X.w) d vs:=by
 obtain⟨o,es,ep,vs,h1,h2,h3,h4,h5,h6,h7,h8,h9⟩:=D.at_;exact⟨vs,h6,o,es,ep,I.FC _ _ h1,h3,h4,h7,h8,h9⟩
def KD.noSys(D:KD X.prog X.w X.K d kvs):(d==sysModules)=false:=by
 obtain⟨o,es,ep,vs,h1,h2,_⟩:=D.at_;exact h2
variable {i:Expr} {td ty:TE}
def adN(P:Program)(w:World)(K:PySem.W.Frag)(ty td:TE):TE:=λσ H Q=>ty σ H λy H1=>td σ H1 λx H2=>∃d kvs k,x=.ref d/\y=kV k/\KD P w K d kvs/\Q (.bl (eO kvs k).isSome) H2
def XQ(hi:PE X i ty)(hd:PE X e td):PC X .In i e (adN X.prog X.w X.K ty td):=by
 intro pins s σ H Q I h;refine cI (hi pins s σ H _ I h) λiv s1 zq8=>?_;obtain⟨y,H1,I1,ry,q1⟩:=zq8;refine cI (hd pins s1 σ H1 _ I1 q1) λu s2 zq9=>?_;obtain⟨x,H2,I2,rx,d,kvs,k,ex,ey,D,q2⟩:=zq9;subst ex ey;obtain rfl:u=Value.ref d:=rx;obtain⟨vs,rel,dd⟩:=D.dictOf I2;refine wpAny_in_of (tD ry) D.noSys dd.mapOf ?_;rw[<-(rel.val k).qj];exact⟨.bl _,H2,I2.tok _,rfl,q2⟩
def aaD(P:Program)(w:World)(K:PySem.W.Frag)(td ty:TE):TE:=λσ H Q=>td σ H λx H1=>ty σ H1 λy H2=>∃d kvs k v,x=.ref d/\y=kV k/\KD P w K d kvs/\eO kvs k=some v/\Q v H2
def DZ(hd:PE X e td)(hi:PE X i ty)(hs:Xu i):PE X (.Subscript e i pos) (aaD X.prog X.w X.K td ty):=by
 intro pins s σ H Q I h;refine K0 PySem.F.slot_dict_getitem.lookup hs (cI (hd pins s σ H _ I h) λu s1 WW=>?_);obtain⟨x,H1,I1,rx,q1⟩:=WW;refine cI (hi pins s1 σ H1 _ I1 q1) λiv s2 adO=>?_;obtain⟨y,H2,I2,ry,d,kvs,k,v,ex,ey,D,hv,q2⟩:=adO;subst ex ey;obtain rfl:u=Value.ref d:=rx;obtain⟨vs,rel,dd⟩:=D.dictOf I2;obtain⟨w',hw,MY⟩:=rj.some_of (v:=v) (by rw[<-hv];exact rel.val k);obtain⟨o,es,ep,ho,hx,_⟩:=id dd;exact⟨⟨o,ho,hx.1⟩,wpAny_getItem_of (tD ry) dd.mapOf hw ⟨v,H2,I2.tok _,MY,q2⟩⟩
end
noncomputable def Itm(kvs:List (Key×V)):It:=⟨λi _=>i<kvs.length,λi H x H'=>H'=H/\∃k v,kvs[i]?=some (k,v)/\x=kV k,λi _=>kvs.length<=i⟩
def I_{o:Obj}{es:Array DictEntry}{vs:List (Key×Value)} it (h1:K.lookup d=some o) (h3:o.ExactDict) (h4:o.data=.dict es ep) (h5:es.size=kvs.length)
  (h6:KV kvs vs) (h7:KeysOf (bM P w) es) (h8:Pairs (bM P w) es.toList vs) (h9:(vs.map (·.1)).Nodup):Turn P w K tg (Itm kvs) [it] it (λi h=>h.IsKeyIter it d i kvs.length ep)where
 mem:=by simp
 obj:=λi h st b hb=>by
  have e:b=it:=‹hb›
  subst e;obtain⟨oi,e,c,dd⟩:=st;exact⟨oi,e,λv z=>by rw[dd]at z;cases z⟩
 keep:=λi h h' st k=>st.at λoi e=>k it ∅ oi e
 item:=by
  intro X hP hw hK hc i pins s σ H E I hf st hi;subst hP hw hK;obtain⟨f0,f1,f2,f3,f4,f5⟩:=hf it ∅;obtain⟨⟨k,v⟩,hkv⟩:∃p,kvs[i]?=some p:=⟨kvs[i],bt hi⟩;obtain⟨u,hu,ru⟩:=Xz h6 hkv;have hl:=Paired.length h6;have hm:s.heap.DictAt (bM X.prog X.w) d vs ep:=⟨o,es,I.FC _ _ h1,h3,h4,h7,h8,h9⟩;rw[hl]at st;refine wpAny_pyNext_dict_item st hm hu λkey h' Xa BG sb=>?_;have I1:=I.turned (t':=s.toks) (λb ob hb e=>(sb.2 b hb).trans e) f0 f1 f3 f4 f5;obtain⟨oi,e,c,dd⟩:=id BG;refine⟨key,rfl,FQ e c dd ⋯ ⟨kV k,H,I1,Gi (show gY k key=true from Xa),⟨rfl,k,v,hkv,rfl⟩,?_,λb hb=>(hf b hb).1⟩⟩;rw[hl];exact BG
 done:=by
  intro X hP hw hK hc i pins s σ H E I hf st hi;subst hP hw hK;obtain⟨f0,f1,f2,f3,f4,f5⟩:=hf it ∅;exact DR (I.ok.hd hc) st (I.FC _ _ h1) h4 h5 hi λh' eb=>⟨rfl,I.turned (λb ob hb e=>eb b ob hb e) f0 f1 f3 f4 f5⟩
 self:=λA i s Q E st h=>wpAny_pyIter_keyiter st h
def XS(P:Program)(w:World)(K:PySem.W.Frag)(td:TE):TI:=λσ H R=>td σ H λx H1=>∃d kvs,x=.ref d/\KD P w K d kvs/\R (Itm kvs) H1
def PX(he:PE X e td):PI X tg e (XS X.prog X.w X.K td):=by
 intro pins s σ H R I h;refine cI (he pins s σ H _ I h) λu s1 WX=>?_;obtain⟨x,H1,I1,rx,d,kvs,ex,D,q⟩:=WX;subst ex;obtain rfl:u=Value.ref d:=rx;obtain⟨o,es,ep,vs,h1,h2,h3,h4,h5,h6,h7,h8,h9⟩:=D.at_;refine M7 h2 (I1.FC _ _ h1) h3 h4 (DQ I1 _ (I_ _ h1 h3 h4 h5 h6 h7 h8 h9) ⟨_,bw _ rfl,rfl,?_⟩ q);rw[h5] <;>rfl
def Nj{D:Ends}(Pv:Nat->St->Hp->Prop)(h0:Pv 0 σ H)(hs:∀i k v σ H,kvs[i]?=some (k,v)->Pv i σ H->g (kV k) σ H λσ2 H2=>tb {D with nx:=Pv (i+1),ct:=Pv (i+1),bk:=D.nx} σ2 H2)(hd:∀σ H,Pv kvs.length σ H->D.nx σ H):
  ∃W:Nat->Nat->St->Hp->Prop,(∃m,W 0 m σ H)/\∀i m σ H,W i m σ H->
   ((Itm kvs).stop i H/\D.nx σ H)\/((Itm kvs).go i H/\∃N:St->Hp->Prop,(∀σ' H',N σ' H'->∃m',m'<m/\W (i+1) m' σ' H')/\∀x H',(Itm kvs).FD i H x H'->g x σ H' λσ2 H2=>tb {D with nx:=N,ct:=N,bk:=D.nx} σ2 H2):=by
 refine⟨λi m σ H=>m=kvs.length-i/\i<=kvs.length/\Pv i σ H,⟨kvs.length,by simp,cj _,h0⟩,?_⟩;rintro i m σ H ⟨rfl,hi,p⟩;by_cases dQ:i<kvs.length
 .refine .inr ⟨dQ,Pv (i+1),λσ' H' p'=>⟨kvs.length-(i+1),by omega,rfl,dQ,p'⟩,λx H' y=>?_⟩;obtain⟨e,k,v,hkv,y⟩:=y;subst e y;exact hs i k v σ _ hkv p
 .have e:i=kvs.length:=by omega
  subst e;exact .inl ⟨aL _,hd σ H p⟩
section
def PY:ZT:=λx y H Q=>eI x λi=>eI y λj=>O6 i j/\Q (.int (i*j)) H
def PZ:PIp X .Mult PY:=by
 intro pins s σ H x y v u Q I r1 r2 h;obtain⟨i,e1,h⟩:=fH.mp h;obtain⟨j,e2,hc,q⟩:=fH.mp h;subst e1;subst e2;obtain⟨t,rfl⟩:=r1;obtain⟨t',rfl⟩:=r2;exact imul_int ⟨.int _,H,I.tok _,⟨_,rfl⟩,q⟩ hc.ok
theorem vC:∀{bs}{us},Vals (bs.map V.bl) us->LSm.BoolsAre us bs
 |[],_,.nil=>.nil
 |n::_,_,.cons r t=>by
  cases r;exact .cons n (vC t)
def P0(hc:X.calm=true):ku X (.builtin "sum") (λxs H Q=>eL xs λp=>∃ns:List Int,aM X.K H p (ns.map V.int)/\Q (.int ns.sum) H):=by
 intro pins s σ H xs us Q I r h;obtain⟨p,rfl,ns,hq,q⟩:=rm.mp h;obtain⟨u,rfl,rx⟩:=vals1 r;cases rx;obtain⟨aR,r',pl,hz⟩:=I.list hq;have hi:=intsAre_of r';obtain⟨xs,hx⟩:=hi.allInts.items;have FO:=hx▸pl.isList;refine sum_intListG (I.ok.hd hc) FO λh' tk t' hk=>?_;have e1:ns=xs.toList.map (·.1):=by
  rw[<-nums_intItems,<-hx];exact(show numsOf aR.toArray.toList=ns from hi.numsOf).symm
 have e2:preSum (numAt xs) xs.size=ns.sum:=by
  rw[preSum_eq,q_ ∅,e1]
 rw[e2];exact⟨.int ns.sum,H,I.kept hk,⟨_,rfl⟩,q⟩
def lV(hc:X.calm=true):ku X (.builtin "all") (λxs H Q=>eL xs λp=>∃bs:List Bool,aM X.K H p (bs.map V.bl)/\Q (.bl (bs.all id)) H):=by
 intro pins s σ H xs us Q I r h;obtain⟨p,rfl,bs,hq,q⟩:=rm.mp h;obtain⟨u,rfl,rx⟩:=vals1 r;cases rx;obtain⟨aR,r',pl,hz⟩:=I.list hq;have hb:=vC r';have hl:=pl.isList;have dQ:p<s.heap.objs.size:=by obtain⟨_,e,_⟩:=hl;exact aN e
 refine call_all_walk (wpAny_pyIter_list hl ?_);refine⟨s.heap.objs.size,[s.heap.objs.size,p],[s.heap.objs.size],aR.toArray.size,_,_,λi=>(bs[i]?).getD true,rfl,Walks.list (A:=X.A.in1) (I.ok.hd hc) _ p (bB dQ) aR.toArray,
  ⟨⟨_,bw _ rfl,rfl,rfl⟩,hl.push _⟩,λi v s' Q' E' hP hQ=>?_,λh' tk hk=>?_⟩
 .obtain⟨b,e,rfl⟩:=hb.get i v ‹hP›;simp only[e,Option.getD_some]at hQ;exact mx hQ
 .have e:((List.range aR.toArray.size).all λi=>(bs[i]?).getD true)=bs.all id:=by
   rw[cN,hb.length];exact LSm.range_all bs
  rw[e];exact⟨.bl _,H,I.kept (LSm.kept_iter hk),rfl,q⟩
end
def RgC.up{i j c:Int}{n:Nat}(hc:0<c)(VG:c<1073741824)(ha: -(2^60)<=i)(ha':i<2^60)(hb: -(2^60)<=j)(hb':j<2^60)(hn:(n:Int)=if i<j then(j-i-1)/c+1 else 0):RgC i j c n:=by
 have hs:Builtin.Range.rangeSize i j c=if i<j then(j-i-1)/c+1 else 0:=by
  unfold Builtin.Range.rangeSize;rw[ag hc]
 refine⟨by omega,by omega,?_,by rw[hs,hn]⟩;have h1:i<j->0<=(j-i-1)/c/\(j-i-1)/c*c<=j-i-1:=λh=>⟨Int.ediv_nonneg () (),Int.ediv_mul_le _ ()⟩;have h2:i<j->(j-i-1)/c<=j-i-1:=λh=>by
  refine Int.ediv_le_self _ ()
 unfold Builtin.Range.small;rw[hs];simp only[Builtin.Range.rangeFitsLong,Bool.and_eq_true,Bool.or_eq_true,decide_eq_true_eq,beq_iff_eq];split
 .rename_i h;rw[bI,jh,jh];omega
 .omega
section
variable {o f:Expr} {et:Pos} {td ty tx:TE}
def XT(P:Program)(w:World)(K:PySem.W.Frag)(td ty tx:TE):TE:=λσ H Q=>td σ H λx H1=>∃d kvs,x=.ref d/\KD P w K d kvs/\ty σ H1 λy H2=>tx σ H2 λz H3=>∃k,y=kV k/\Q ((eO kvs k).getD z) H3
def P2(ho:PE X o td)(he:PE X e ty)(hf:PE X f tx)(m:M2 X o "get" apos e f et):PE X (.Call (.Attribute o "get" apos) [e,f] [] et) (XT X.prog X.w X.K td ty tx):=by
 intro pins s σ H Q I h;refine wpAny_Call_method m.base m.few m.line PySem.F.plainAttrs_dict sr PySem.F.type_dict_get (cI (ho pins s σ H _ I h) λu s1 WY=>?_);obtain⟨x,H1,I1,rx,a,kvs,ex,D,q1⟩:=WY;subst ex;obtain rfl:u=Value.ref a:=rx;obtain⟨vs0,aeI,dd0⟩:=D.dictOf I1;obtain⟨ob,es0,ep0,hob,hx0,_⟩:=id dd0;refine⟨dd0.typeIs,λb q=>?_,?_⟩
 .cases q;exact⟨ob,hob,hx0.2.1⟩
 rw[m.trees];refine ur rfl (sx (mw (cI (he pins s1 σ H1 _ I1 q1) λiv s2 W0=>?_)));obtain⟨y,H2,I2,ry,q2⟩:=W0;refine mw (cI (hf pins s2 σ H2 _ I2 q2) λfv s3 W3=>?_);obtain⟨z,H3,I3,rz,k,ey,q3⟩:=W3;refine rh ?_;subst ey;obtain⟨vs,rel,dd⟩:=D.dictOf I3;refine call_meetsIn sr dd.typeIs PySem.F.entry_dict_get (PySem.F.args_dict_get_3 _ _ _) (meets_dict_get_default (bM X.prog X.w) a (tD ry) D.noSys fv) ⟨_,dd.mapOf,?_⟩;exact⟨_,H3,I3.tok _,(rel.val k).getD rz,q3⟩
end
structure jS(k:Nat)(A:Around):Prop where
 dp:A.depth+3*k+5<recursionLimit
 un:A.units+16*k+200<cLine
def dX.n(r:dX k A)(h:j<=k):jS j A:=⟨(r.mono h).dp,(r.mono h).un⟩
def dX.nm{e:Option Value}(r:dX k A)(h:j<=k):jS j (A.mark e):=⟨(r.mono h).dp,(r.mono h).un⟩
theorem jS.deeper(r:jS (k+1) A) env:jS k (A.deeper env):=
 ⟨by have:=r.dp;show A.depth+1+3*k+5<_;omega,by have:=r.un;show A.units+3+16*k+200<_;omega⟩
def jS.make(r:jS (k+1) A) C us kw:jS k (A.under (.builtin "type.__call__" ⟨.ref C::us,kw⟩)):=
 ⟨by have:=r.dp;rw[yA];omega,by have:=r.un;rw[yB];omega⟩
theorem jS.depth(r:jS k A):A.depth<recursionLimit:=by have:=r.dp;omega
structure Cm(P:Program)(w:World)(K:PySem.W.Frag)(mg:Str->Option Value)(base:Heap)(CX:OG)(k:Nat)(f:Addr)(fd:FuncData)(ps:List Str)(sp:Sp):Prop where
 len:∀vs H Q E,sp vs H Q E->vs.length=ps.length
 run:∀(A:Around)(outer:List Env)(s:Shared)(H:Hp)(args:Args)(us:List Value)(vs:List V)(Q:VK)(E:XK),jS k A->A7 P w K mg base A outer s H->BindsTo s fd args (ps.zip us)->Vals vs us->sp vs H Q E->
  codeAny (model P w) A (.call (.ref f) args) (CR CX outer P w H s Q E) s
noncomputable abbrev cxN(CX:OG)(P:Program)(w:World)(K:PySem.W.Frag)(mg:Str->Option Value)(base:Heap)(N:List Str)(qual:Str)(scope:Scope)(f:Addr)(cd:Value)(A:Around)(outer:List Env)(s:Shared)(H:Hp)(E:XK):Cx:=
 {kg CX P w K mg base N qual scope f cd A outer s H E with calm:=false}
def Ja{E:XK}{vs:List V}(S:aE N ps scope)(e0:A7 P w K mg base A outer s H)(hl:vs.length=ps.length)(r:Vals vs us)(x:InCallC s s.heap.objs.size (bindL (envOfC qual scope s.heap.objs.size f cd).kindOf (ps.zip us) λ_=>none) (cellsFrom (s.heap.objs.size+1) scope.names []) (bindC (envOfC qual scope s.heap.objs.size f cd).kindOf (ps.zip us) λ_=>none) s1):
  Inv (cxN CX P w K mg base N qual scope f cd A outer s H E) [] (start N vs) H s1:=by
 have e1:A7 P w K mg base {A with handled:=none} outer s H:=⟨e0.frames,e0.mod,e0.bs,e0.MO,e0.rk,e0.Sz,e0.bL,e0.bare⟩;have I:=uz (CX:=CX) (E:=E) S (show({A with handled:=none} :Around).handled=none from rfl) e1 hl r x;exact⟨⟨I.ok.mod,I.ok.kind,I.ok.glob,I.ok.blt,I.ok.above,I.ok.inj,I.ok.has,I.ok.WG,λz=>Bool.noConfusion z,I.ok.frames,I.ok.Y7,I.ok.Y8,I.ok.bs,I.ok.MO,I.ok.Io,I.ok.Ip,I.ok.rk,I.ok.Sz⟩,I.os,I.bare,I.base,I.loc,I.cell,I.free,I.iM,I.pin,I.bL,I.len⟩
def XU{dV kV doc cf oc:Value}(lk:K.lookup f=some ⟨oc,od,.func (PySem.W.fnOf name qual params body scope dV kV doc pm an cf ct),IC⟩)(vm:PySem.W.codeIn K cf qual=true)(S:aE N ps scope)(len:∀vs H Q E,sp vs H Q E->vs.length=ps.length)(gw:∀A outer s H vs Q E,jS k (A.deeper (envOfC qual scope s.heap.objs.size f cf))->sp vs H Q E->
   ∃t,vW (cxN CX P w K mg base N qual scope f cf A outer s H E) body t/\t {nx:=λ_ H'=>Q .cT H',rt:=Q} (start N vs) H):
  Cm P w K mg base CX (k+1) f (PySem.W.fnOf name qual params body scope dV kV doc pm an cf ct) ps sp:=by
 refine⟨len,λA outer s H args us vs Q E hr e0 hb r A3=>?_⟩;have hl:=len _ _ _ _ A3;have KX:=e0.mod.Tn.keeps λb o e=>(e0.bs b o e).1;have lim:=e0.mod.nolimit.keeps λb o e=>(e0.bs b o e).1;have FX:∀y∈ps.zip us,scope.names.lookup y.1=some .local\/(scope.names.lookup y.1=some .cell/\((cellsFrom (s.heap.objs.size+1) scope.names []).lookup y.1).isSome=true):=λ⟨n,v⟩ hy=>by
  obtain q|q:=S.par n (mL hy).1
  .exact .inl q
  .exact .inr ⟨q,wD _ _ _ (.inl q)⟩
 refine codeAny_call_function hr.depth (KX _ _ lk) rfl S.co S.gen rfl (PySem.W.codeRec_of KX vm) (hb _ _ _ _ ?_);refine wpAny_newFunctionEnv_cells S.kind FX λenv he s1 x=>?_;subst he;refine⟨lim.keeps x.toInCall.keep,codeAny_func ?_⟩;obtain⟨t,ht,hq⟩:=gw A outer s H vs Q E (hr.deeper _) A3;have I:Inv (cxN CX P w K mg base N qual scope f cf A outer s H E) [] (start N vs) H s1:=Ja S e0 hl r x;refine da (ht [] s1 (start N vs) H _ I hq) (λfl s' hs=>?_) λe s' hs=>hs;have fin:∀{σ':St}{H':Hp}{v:V}{u:Value},Inv (cxN CX P w K mg base N qual scope f cf A outer s H E) [] σ' H' s'->RelV v u->Q v H'->CE outer P w H s Q u s':=
  λ{σ' H' v u} J rv q=>⟨v,H',J.os,J.bare,J.base,J.bL,rv,q⟩
 cases fl with
 |ret u=>
  obtain⟨v,σ',H',J,rv,q⟩:=hs;exact fin J rv q
 |next=>
  obtain⟨σ',H',J,q⟩:=hs;exact fin (v:=V.cT) J rfl q
 |brk=>
  obtain⟨_,_,_,q⟩:=hs;exact False.elim q
 |cont=>
  obtain⟨_,_,_,q⟩:=hs;exact False.elim q
section
variable {k:Nat} {C:Addr} {sY:List V} {ds:List Value} {E:XK} {m:Str} {p:Pos} {o:Expr} {es:List Expr} {t:TA}
def Nk{Q:VK}{vs:List V}(M:Mk X.K C f)(F:Cm X.prog X.w X.K X.mg X.base CX k f fd ps sp)(hr:jS (k+1) X.A)(hb:Binds X.K fd ps ds)(hd:Vals sY ds)(hx:Passes CX X E)(I:Inv X pins σ H s)(r:Vals vs us)(h:∀x dx,H x=none->H dx=none->dx≠x->sp (.ref x::(vs++sY)) (upd (upd H dx (.own x)) x (.ins C dx [])) (λv H2=>v=.cT/\Q (.ref x) H2) E):
  wpAny (model X.prog X.w) X.A (call (.ref C) us) (EP X pins σ Q) X.xe s:=by
 have hq:=h (s.heap.objs.size+1) s.heap.objs.size (I.bL.fresh (pW _)) (I.bL.fresh (aL _)) (bB (kO _));have I2:=Inv.made (C:=C) I;have r2:Vals (V.ref (s.heap.objs.size+1)::(vs++sY)) (Value.ref (s.heap.objs.size+1)::(us++ds)):=.cons rfl (r.append hd);have hl:(Value.ref (s.heap.objs.size+1)::us++ds).length=ps.length:=by
  have e:=r2.length;rw[F.len _ _ _ _ hq]at e;exact e.symm
 refine wpAny_call (FU I.FC M.makes M.init (beq_iff_eq.mp M.fn) (jo (F.run _ X.stack _ _ ⟨Value.ref (s.heap.objs.size+1)::us,[]⟩ (Value.ref (s.heap.objs.size+1)::(us++ds)) _ _ E (hr.make C us [])
  (I2.DC.make C us []) (hb _ (Value.ref (s.heap.objs.size+1)::us) I2.FC hl) r2 hq) λr s' Pb=>?_))
 cases r with
 |error e=>exact hx pins σ _ _ e s' I2 Pb
 |ok fl=>
  cases fl with
  |ret u=>
   obtain⟨v,H',I3,rv,ev,q3⟩:=I2.after Pb;subst ev;exact⟨rv,⟨V.ref (s.heap.objs.size+1),H',I3,rfl,q3⟩⟩
  |next=>exact False.elim Pb|brk=>exact False.elim Pb
  |cont=>exact False.elim Pb
def P4(M:Mk X.K C f)(F:Cm X.prog X.w X.K X.mg X.base CX k f fd ps sp)(hr:jS (k+1) X.A)(hg:Gl X x)(hm:X.mg x=some (.ref C))(hb:Binds X.K fd ps ds)(hd:Vals sY ds)(hx:Passes CX X E)(ha:PA X (e::es) t)(DE:(x==("__debug__":Str))=false:=by decide)(he:starEach (e::es) X.env=(false,eval e X.env)::starEach es X.env:=by rfl)(iD:(backTo pos (starEach es X.env)).any (·.1)=false:=by rfl):
  PE X (.Call (.Name x p) (e::es) [] pos) (BO C sp sY E t):=by
 intro pins s σ H Q I h;refine jG (qd I hg hm ?_ DE);refine PySem.W.callWith_K I.ok.mod.Tn M.kp (cI (ha pos pins s σ H _ I h) λus s1 W4=>?_) he iD;obtain⟨vs,H1,I1,r,q⟩:=W4;refine⟨I1.FC,?_⟩;exact Nk M F hr hb hd hx I1 r q
end
section
def Lb:XR X E0:=λ_ _ _ _ _ _ _ h=>h.elim
def ib{pos:Pos}(hc:X.calm=true)(hN:X.N.Nodup)(hi:PI X tg iter wi)(ok:yE X.N X.env.scope scope own)(hg:∀(s:Shared)(H:Hp)(C:Addr)(cl:List (Str×Addr))(fp:List Addr),PG (X.qJ E0 s H scope (compEnvC scope cl C X.env) fp) tg g)(ht:∀(s:Shared)(H:Hp)(C:Addr)(cl:List (Str×Addr))(fp:List Addr),Xr (X.qJ E0 s H scope (compEnvC scope cl C X.env) fp) ifs tt)(he:∀(s:Shared)(H:Hp)(C:Addr)(cl:List (Str×Addr))(fp:List Addr),PE (X.qJ E0 s H scope (compEnvC scope cl C X.env) fp) elt te)(hs:∀x,foldedSetIterable iter X.env x=pure x:=by intro _;rfl)(vA:X.pn=[]:=by rfl)(qe:X.stack=X.env::X.outer:=by rfl)(FE:X.env.frame=some X.env.locals:=by rfl):PE X (.ListComp elt [⟨tg,iter,ifs,0⟩] scope pos) (Zj wi g tt te (own.map (·.2))):=
 IY vA qe FE Lb hc hN hi ok hg ht he hs
def ql{y:Str}{py:Pos}{PV:Pos}(hc:X.calm=true)(hN:X.N.Nodup)(hy:X.N[i]?=some y)(Zk:X.env.scope.names.lookup y=some .local)(hsw:swapsWith (.ListComp elt [⟨tg,iter,ifs,0⟩] scope pos) (some (.Name y py)) PV.line X.env=pure true)(hi:PI X tg iter wi)(ok:yE X.N X.env.scope scope own)(hg:∀(s:Shared)(H:Hp)(C:Addr)(cl:List (Str×Addr))(fp:List Addr),PG (X.qJ E0 s H scope (compEnvC scope cl C X.env) fp) tg g)(ht:∀(s:Shared)(H:Hp)(C:Addr)(cl:List (Str×Addr))(fp:List Addr),Xr (X.qJ E0 s H scope (compEnvC scope cl C X.env) fp) ifs tt)(he:∀(s:Shared)(H:Hp)(C:Addr)(cl:List (Str×Addr))(fp:List Addr),PE (X.qJ E0 s H scope (compEnvC scope cl C X.env) fp) elt te)(hs:∀x,foldedSetIterable iter X.env x=pure x:=by intro _;rfl)(vA:X.pn=[]:=by rfl)(qe:X.stack=X.env::X.outer:=by rfl)(FE:X.env.frame=some X.env.locals:=by rfl):PS X (.Assign [.Name y py] (.ListComp elt [⟨tg,iter,ifs,0⟩] scope pos) PV) (O2 (Zj wi g tt te (own.map (·.2))) (oy i)):=
 Ck vA qe FE Lb hc hN hy Zk hsw hi ok hg ht he hs
end
structure Ue(K:PySem.W.Frag)(x qual:Str)(st:Stmt)(dV:Value)(f:Addr)(fd:FuncData):Prop where
 ex:∃(oc:Value) (od:Option Addr) (kV doc pm:Value) (an:Option Addr) (cf ct:Value) (IC:Array (Option Value)),
  fd=PySem.W.fnOf x qual (fQ st) (cq st) (ao st) dV kV doc pm an cf ct/\K.lookup f=some ⟨oc,od,.func fd,IC⟩/\PySem.W.codeIn K cf qual=true
 kp:PySem.W.keepIn K (.ref f)=true
section
def Ue.okN(F:Ue K x qual st dV f fd)(S:aE N ps (ao st))(len:∀vs H Q E,sp vs H Q E->vs.length=ps.length)(gw:∀cf A outer s H vs Q E,sp vs H Q E->
   ∃t,vW (cxN eY P w K mg base N qual (ao st) f cf A outer s H E).OD (cq st) t/\t {nx:=λ_ H'=>Q .cT H',rt:=Q} (start N vs) H):Cm P w K mg base eY (k+1) f fd ps sp:=by
 obtain⟨oc,od,kV,doc,pm,an,cf,ct,IC,rfl,lk,vm⟩:=F.ex;refine XU lk vm S len λA outer s H vs Q E hr A3=>?_;obtain⟨t,h,q⟩:=gw cf A outer s H vs Q E A3;exact⟨t,h.OD,q⟩
structure CLD(P:Program)(w:World)(K:PySem.W.Frag)(mg:Str->Option Value)(base:Heap)(x:Str)(C:Addr)(ps:List Str)(sp:Sp)(fs:List Str)(dss:List (List V)):Prop where
 ex:∃f fd,Mk K C f/\Cm P w K mg base eY 1 f fd ps sp/\∀sY∈dss,∃ds,Binds K fd ps ds/\Vals sY ds
 mg:mg x=some (.ref C)
 cl:FV K C
 no:∀f∈fs,cG K C f
end
section
variable {p:Pos}
def yQ{C:Addr}{fs:List Str}{dss:List (List V)}{sY:List V}{es:List Expr}{t:TA}(G:CLD X.prog X.w X.K X.mg X.base x C ps sp fs dss)(hm:sY∈dss)(hr:jS 2 X.A)(hg:Gl X x)(ha:PA X (e::es) t)(DE:(x==("__debug__":Str))=false:=by decide)(he:starEach (e::es) X.env=(false,eval e X.env)::starEach es X.env:=by rfl)(iD:(backTo pos (starEach es X.env)).any (·.1)=false:=by rfl):
  PE X (.Call (.Name x p) (e::es) [] pos) (BO C sp sY E0 t):=by
 obtain⟨f,fd,M,F,B⟩:=G.ex;obtain⟨ds,hb,hv⟩:=B sY hm;exact P4 M F hr hg G.mg hb hv cB ha DE he iD
end
end L2
end
section
namespace Pd
open Tote
noncomputable def isLet(c:Nat):Bool:=decide (97<=c)&&decide (c<=122)
noncomputable def cp(c:Nat):Bool:=decide (48<=c)&&decide (c<=57)
noncomputable def sg(n:Nat):Nat:=if 97<=n/\n<=122 then n else if 48<=n/\n<=57 then n else if n=32 then 32 else if n=10 then 10 else if n=44 then 44 else if n=47 then 47 else 63
noncomputable def cut(c:Nat):List Nat->List Nat->List (List Nat)
 |acc,[]=>[acc]|acc,x::r=>if x=c then acc::cut c [] r else cut c (acc++ [x]) r
noncomputable def ji(w:List Nat):Bool:=!w.isEmpty&&(decide (w.length<=12)&&((w.head?.map isLet).getD false&&w.all λc=>isLet c||cp c))
noncomputable def D0(w:List Nat):Nat:=w.foldl (λn c=>10*n+(c-48)) 0
noncomputable def dz(w:List Nat):Int:=if 7<w.length then-1 else if(!w.isEmpty&&w.all cp)=false then-1 else if w.head?=some 48/\w≠ [48]then-1 else(D0 w:Int)
noncomputable def within(w:List Nat)(lo hi:Int):Option Int:=if lo<=dz w/\dz w<=hi then some (dz w)else none
noncomputable def XW:List Nat:=[100,97,121]
noncomputable def Lc:List Nat:=[114,97,99,101]
noncomputable def xN:List Nat:=[99,111,117,112,108,101]
noncomputable def yR:List Nat:=[112,111,111,108]
noncomputable def yS:List Nat:=[102,114,111,109]
noncomputable def yT:List Nat:=[116,97,107,101]
noncomputable def rB:List Nat:=[98,114,101,97,107]
noncomputable def rC:List Nat:=[108,101,97,115,116]
noncomputable def yU:List Nat:=[117,110,105,116]
noncomputable def yV:List Nat:=[110,111,110,101]
noncomputable def dA:List Nat:=[112,108,97,99,101]
noncomputable def dB:List Nat:=[111,114,100,101,114]
noncomputable def jt:List Nat:=[97,110,121]
noncomputable def cu:List Nat:=[108,101,103,115]
noncomputable def ju:List Nat:=[114,101,102,117,110,100]
noncomputable def mU:List Nat:=[99,97,114,114,121]
noncomputable def gA:List Nat:=[102,101,119,101,114]
noncomputable def cC(runners:Int):List Int->List Int->List (List Nat)->Option (List Int)
 |_,fs,[]=>some fs
 |hs,fs,c::a::b::r=>if c=xN then
   match within a 1 runners with
   |none=>none
   |some h=>match within b (h+1) runners with
    |none=>none|some f=>if h∈fs then none else if f∈hs\/f∈fs then none else cC runners (hs++ [h]) (fs++ [f]) r
  else none
 |_,_,_=>none
noncomputable def fV(n:Nat)(fs:List Int):List Int:=((List.range n).map λ(i:Nat)=>(1:Int)+(i:Int)).filter λx=>!decide (x∈fs)
noncomputable def gB(ws:List (List Nat)):Option (List Int):=
 if ws.length%3≠2\/26<ws.length then none else
  match within (ws.getD 1 []) 2 24 with
  |none=>none
  |some n=>match cC n [] [] (ws.drop 2)with
   |none=>none|some fs=>some (fV n.toNat fs)
structure MP where
 name:List Nat
 kind:List Nat
 k:Int
 race:Int
 u:Int
 deriving DecidableEq
variable {q:Pd.MP}
noncomputable def kindB(w:List Nat):Option (Int×Int):=if w=dA then some (1,4)else if w=dB then some (2,4)else if w=jt then some (2,3)else if w=cu then some (2,6)else none
noncomputable def fC(w kind:List Nat)(k:Int)(races:List (List Int)):Option Int:=
 match within w 1 (races.length:Int)with
 |none=>none
 |some r=>if kind=cu then(if r+k-1<=(races.length:Int)then some r else none)
  else(if k<=((races.getD (r-1).toNat []).length:Int)then some r else none)
noncomputable def yW(ws:List (List Nat)):Bool:=decide (ws.getD 0 []=yR)&&(decide (ws.getD 4 []=yS)&&(decide (ws.getD 6 []=yT)&&(decide (ws.getD 8 []=rB)&&(decide (ws.getD 10 []=rC)&&(decide (ws.getD 12 []=yU)&&decide (ws.getD 14 []=yV))))))
noncomputable def eE(ws:List (List Nat))(races:List (List Int)):Option MP:=
 if ws.length≠16 then none else if yW ws=false then none else if ji (ws.getD 1 [])=false then none else
 match kindB (ws.getD 2 [])with
 |none=>none
 |some lh=>match within (ws.getD 3 []) lh.1 lh.2 with
  |none=>none
  |some k=>match fC (ws.getD 5 []) (ws.getD 2 []) k races with
   |none=>none
   |some race=>match within (ws.getD 7 []) 0 400 with
    |none=>none
    |some _=>match within (ws.getD 9 []) 1 1000 with
     |none=>none
     |some _=>match within (ws.getD 13 []) 1 10000 with
      |none=>none
      |some u=>match within (ws.getD 11 []) 0 (2*u)with
       |none=>none
       |some l=>if¬(l=0\/l≥u)then none else if¬(ws.getD 15 []=ju\/ws.getD 15 []=mU\/ws.getD 15 []=gA)then none else
        if¬(ws.getD 15 []≠gA\/ws.getD 2 []≠dA)then none else some ⟨ws.getD 1 [],ws.getD 2 [],k,race,u⟩
noncomputable def cK{α β:Type}(f:α->Option β):List α->Option (List β)
 |[]=>some []
 |x::r=>match f x with
  |none=>none
  |some y=>match cK f r with
   |none=>none|some ys=>some (y::ys)
noncomputable def i7(codes:List Nat):Option (List (List (List Nat))):=if(cut 10 [] codes).getLast?.getD []=[]then some ((cut 10 [] codes).dropLast.map (cut 32 []))else none
noncomputable def c7(ws:List (List Nat)):Bool:=decide (ws.head?=some Lc)
noncomputable def wc(ws:List (List Nat)):Bool:=decide (ws.length=2)&&(decide (ws.getD 0 []=XW)&&ji (ws.getD 1 []))
noncomputable def d6(codes:List Nat):Option (List (List Int)×List MP):=
 match i7 codes with
 |none=>none|some []=>none
 |some (d::ls)=>if wc d=false then none else
  if¬(1<=(ls.takeWhile c7).length/\(ls.takeWhile c7).length<=16)then none else
  match cK gB (ls.takeWhile c7)with
  |none=>none
  |some races=>if 64<(ls.dropWhile c7).length then none else
   match cK (λws=>eE ws races) (ls.dropWhile c7)with
   |none=>none|some pools=>if(pools.map (·.name)).Nodup then some (races,pools)else none
noncomputable def cw(w:Bytes):List Nat:=w.map λc=>sg c.toNat
noncomputable def bW(c:UInt8):Bytes->Bytes->List Bytes
 |acc,[]=>[acc]|acc,x::r=>if x=c then acc::bW c [] r else bW c (acc++ [x]) r
def aaE(c:UInt8):sg c.toNat=10↔c=10:=by
 unfold sg;constructor
 .intro h
  repeat' split at h
  all_goals first|omega|(apply UInt8.toNat_inj.mp;simpa using by assumption)
 .rintro rfl;decide
def aaF(c:UInt8):sg c.toNat=32↔c=32:=by
 unfold sg;constructor
 .intro h
  repeat' split at h
  all_goals first|omega|(apply UInt8.toNat_inj.mp;simpa using by assumption)
 .rintro rfl;decide
theorem yX{c:UInt8}(h:∀x:UInt8,sg x.toNat=c.toNat↔x=c):∀l acc,cut c.toNat (cw acc) (cw l)=(bW c acc l).map cw
 |[],acc=>rfl
 |x::r,acc=>by
  show(if sg x.toNat=c.toNat then cw acc::cut c.toNat [] (cw r)else cut c.toNat (cw acc++ [sg x.toNat]) (cw r))=(if x=c then acc::bW c [] r else bW c (acc++ [x]) r).map cw;by_cases e:x=c
  .rw[ag e,ag ((h x).mpr e),aJ,<-yX h r []];rfl
  .rw[af e,af (λq=>e ((h x).mp q)),<-yX h r (acc++ [x])];simp[cw]
def aaG l acc:cut 10 (cw acc) (cw l)=(bW 10 acc l).map cw:=yX (c:=10) aaE l acc
def aaH l acc:cut 32 (cw acc) (cw l)=(bW 32 acc l).map cw:=yX (c:=32) aaF l acc
def tH(h:(isLet n||cp n)=true):sg n=n:=by
 unfold isLet cp at h;simp only[Bool.or_eq_true,Bool.and_eq_true,decide_eq_true_eq]at h;unfold sg;obtain h|h:=h
 .rw[ag h]
 .rw[af (),ag h]
def Jb:∀n,n<256->(isLet (sg n)=isLet n/\cp (sg n)=cp n/\((isLet (sg n)||cp (sg n))=true->sg n=n)):=by decide+kernel
def P5{c:UInt8}(h:(isLet (sg c.toNat)||cp (sg c.toNat))=true):sg c.toNat=c.toNat:=(Jb _ c.toNat_lt).2.2 h
def Gv(c:UInt8):isLet (sg c.toNat)=isLet c.toNat:=(Jb _ c.toNat_lt).1
def tI(c:UInt8):cp (sg c.toNat)=cp c.toNat:=(Jb _ c.toNat_lt).2.1
def rD c:isSmall c=isLet c.toNat:=by
 unfold isSmall isLet;simp only[UInt8.le_iff_toNat_le];rfl
def eZ c:isDigit c=cp c.toNat:=by
 unfold isDigit cp;rfl
def D4 p q (h:∀c:UInt8,p (sg c.toNat)=q c) w:(cw w).all p=w.all q:=by
 unfold cw;rw[List.all_map];congr 1;funext c;exact h c
theorem tJ w:ji (cw w)=isName w:=by
 unfold ji isName NAME;have e1:(cw w).all (λc=>isLet c||cp c)=w.all (λc=>isSmall c||isDigit c):=D4 _ _ (λc=>by rw[Gv,tI,rD,eZ]) w;rw[e1];cases w with
 |nil=>rfl
 |cons c r=>
  have e2:((cw (c::r)).head?.map isLet).getD false=((c::r).head?.map isSmall).getD false:=by
   show isLet (sg c.toNat)=isSmall c;rw[Gv,rD]
  have e3:(cw (c::r)).length=(c::r).length:=by unfold cw;rw[az]
  have e4:(cw (c::r)).isEmpty=false:=rfl;rw[e2,e3,e4];have e5:decide (1<=(c::r).length)=true:=by simp
  rw[e5];simp only[Bool.not_false,Bool.true_and];rw[Bool.and_comm (x:=((c::r).head?.map isSmall).getD false)]
noncomputable def toN(w:Bytes):List Nat:=w.map (·.toNat)
def cw_eq{w:Bytes}{t:List Nat}(ht:t.all (λc=>isLet c||cp c)=true):cw w=t↔toN w=t:=by
 induction w generalizing t with
 |nil=>exact Iff.rfl
 |cons c r ih=>
  cases t with
  |nil=>constructor<;>(intro h;cases h)
  |cons d t=>
   rw[eU,bI]at ht;have i:=ih ht.2;constructor
   .intro h;have h1:sg c.toNat=d:=(List.cons.inj h).1;have h2:=(List.cons.inj h).2;have e:=P5 (by rw[h1];exact ht.1);show c.toNat::toN r=d::t;rw[<-e,h1,i.mp h2]
   .intro h;have h1:c.toNat=d:=(List.cons.inj h).1;have h2:=(List.cons.inj h).2;show sg c.toNat::cw r=d::t;rw[tH (by rw[h1];exact ht.1),h1,i.mpr h2]
def Ld{v w:Bytes}(h:toN v=toN w):v=w:=by
 exact(List.map_inj_right (λ_ _=>UInt8.toNat_inj.mp)).mp h
def cw_word{w v:Bytes}{t:List Nat}(e:toN v=t)(ht:t.all (λc=>isLet c||cp c)=true):cw w=t↔w=v:=by
 rw[cw_eq ht];exact⟨λh=>Ld (h.trans e.symm),λh=>by rw[h];exact e⟩
def cw_day w:cw w=XW↔w=ascii "day":=cw_word ⋯ ⋯
theorem cw_race w:cw w=Lc↔w=ascii "race":=cw_word ⋯ ⋯
def cw_couple w:cw w=xN↔w=ascii "couple":=cw_word ⋯ ⋯
theorem cw_pool w:cw w=yR↔w=ascii "pool":=cw_word ⋯ ⋯
theorem cw_from w:cw w=yS↔w=ascii "from":=cw_word ⋯ ⋯
theorem cw_take w:cw w=yT↔w=ascii "take":=cw_word ⋯ ⋯
theorem cw_break w:cw w=rB↔w=ascii "break":=cw_word ⋯ ⋯
theorem cw_least w:cw w=rC↔w=ascii "least":=cw_word ⋯ ⋯
theorem cw_unit w:cw w=yU↔w=ascii "unit":=cw_word ⋯ ⋯
theorem cw_none w:cw w=yV↔w=ascii "none":=cw_word ⋯ ⋯
theorem cw_place w:cw w=dA↔w=ascii "place":=cw_word ⋯ ⋯
theorem cw_order w:cw w=dB↔w=ascii "order":=cw_word ⋯ ⋯
theorem cw_any w:cw w=jt↔w=ascii "any":=cw_word ⋯ ⋯
theorem cw_legs w:cw w=cu↔w=ascii "legs":=cw_word ⋯ ⋯
def cw_refund w:cw w=ju↔w=ascii "refund":=cw_word ⋯ ⋯
def cw_carry w:cw w=mU↔w=ascii "carry":=cw_word ⋯ ⋯
def cw_fewer w:cw w=gA↔w=ascii "fewer":=cw_word ⋯ ⋯
def Gw w (h:w.all isDigit=true):∀n:Nat,(cw w).foldl (λn c=>10*n+(c-48)) n=w.foldl (λ(n:Nat)(c:UInt8)=>10*n+(c.toNat-48)) n:=by
 induction w with
 |nil=>intro n;rfl
 |cons c r ih=>
  intro n;rw[eU,bI]at h;show(cw r).foldl _ (10*n+(sg c.toNat-48))=r.foldl _ (10*n+(c.toNat-48));rw[tH (by rw[Dk];exact .inr (by rw[<-eZ];exact h.1))];exact ih h.2 _
def Ug(w:Bytes)(h:w.all isDigit=true):∀n:Nat,n*10^w.length<=w.foldl (λ(n:Nat)(c:UInt8)=>10*n+(c.toNat-48)) n:=by
 induction w with
 |nil=>intro n;simp
 |cons c r ih=>
  intro n;rw[eU,bI]at h;have:=ih h.2 (10*n+(c.toNat-48));refine aX ?_ this;rw[aZ,km];have e:n*(10^r.length*10)=(10*n)*10^r.length:=by
   rw[mI (10^r.length) 10,<-sN,mI n 10]
  rw[e];exact sy _ (kP _ _)
def kZ{w:Bytes}:numberOf w=some n↔(w.isEmpty=false/\w.all isDigit=true/\¬(w.head?=some 48/\w≠ [48]))/\n=w.foldl (λ(n:Nat)(c:UInt8)=>10*n+(c.toNat-48)) 0:=by
 unfold numberOf;constructor
 .intro h;split at h
  .cases h
  .rename_i hc;have e:=Option.some.inj h;refine⟨⟨?_,?_,?_⟩,e.symm⟩
   .cases q:w.isEmpty with
    |false=>rfl|true=>exact absurd (.inl q) hc
   .cases q:w.all isDigit with
    |true=>rfl|false=>exact absurd (.inr (.inl q)) hc
   .exact λq=>hc (.inr (.inr q))
 .rintro⟨⟨h1,h2,h3⟩,rfl⟩;rw[af];rintro(q|q|q)
  .rw[h1]at q;cases q
  .rw[h2]at q;cases q
  .exact h3 q
def rE{w:Bytes}(h:numberOf w=some n)(hn:n<10000000):dz (cw w)=(n:Int):=by
 obtain⟨⟨h1,h2,h3⟩,e⟩:=kZ.mp h;have hl:(cw w).length=w.length:=by unfold cw;rw[az]
 have len:w.length<=7:=by
  obtain q|q:=Nat.lt_or_ge 7 w.length
  .cases w with
   |nil=>simp at q
   |cons c r=>
    rw[eU,bI]at h2;have hc:c≠48:=λz=>h3 ⟨by rw[z];rfl,by
     intro y;have:=(List.cons.inj y).2;rw[this]at q;simp at q⟩
    have h48:48<=c.toNat:=by
     have:=h2.1;rw[eZ]at this;unfold cp at this;simp only[Bool.and_eq_true,decide_eq_true_eq]at this;exact this.1
    have VG:c.toNat≠48:=λz=>hc (UInt8.toNat_inj.mp (by rw[z];rfl));have g:=Ug r h2.2 (10*0+(c.toNat-48));rw[fG]at e;have p1:1<=10*0+(c.toNat-48):=by omega
    have p2:(10:Nat)^7<=10^r.length:=sA ⋯ (by rw[aZ]at q;omega);have p3:1*10^r.length<=(10*0+(c.toNat-48))*10^r.length:=sy _ p1;omega
  .exact q
 unfold dz;rw[af (by rw[hl];omega)];have e1:(!(cw w).isEmpty&&(cw w).all cp)=true:=by
  rw[D4 cp isDigit (λc=>by rw[tI,eZ]) w,h2];cases w with
  |nil=>cases h1
  |cons c r=>rfl
 rw[af (by rw[e1];intro q;cases q),af]
 .unfold D0;rw[Gw w h2 0,<-e]
 .rintro⟨q1,q2⟩;cases w with
  |nil=>cases h1
  |cons c r=>
   rw[eU,bI]at h2;have p:=tH (by rw[Dk];exact .inr (by rw[<-eZ];exact h2.1));have hc:c=48:=by
    have z:sg c.toNat=48:=Option.some.inj q1;rw[p]at z;exact UInt8.toNat_inj.mp (by rw[z];rfl)
   refine h3 ⟨by rw[hc];rfl,λy=>q2 ?_⟩;rw[y];rfl
def rF{w:Bytes}(h:0<=dz (cw w)):numberOf w=some (dz (cw w)).toNat/\(dz (cw w)).toNat<10000000:=by
 unfold dz at h;split at h
 .omega
 .rename_i g1;split at h
  .omega
  .rename_i g2;split at h
   .omega
   .rename_i g3;have e1:(!(cw w).isEmpty&&(cw w).all cp)=true:=by
     cases q:(!(cw w).isEmpty&&(cw w).all cp)with
     |true=>rfl|false=>exact absurd q g2
    rw[D4 cp isDigit (λc=>by rw[tI,eZ]) w,bI]at e1;have h2:=e1.2;have nm:numberOf w=some (D0 (cw w)):=by
     refine kZ.mpr ⟨⟨?_,h2,?_⟩,?_⟩
     .cases w with
      |nil=>cases e1.1
      |cons c r=>rfl
     .rintro⟨q1,q2⟩;refine g3 ⟨?_,λy=>q2 ?_⟩
      .cases w with
       |nil=>cases q1
       |cons c r=>
        have z:=Option.some.inj q1;rw[z];rfl
      .exact(cw_word ⋯ ⋯).mp y
     .unfold D0;rw[Gw w h2 0]
    have val:dz (cw w)=(D0 (cw w):Int):=by
     unfold dz;rw[af g1,af g2,af g3]
    rw[val];refine⟨by rw[nm];rfl,?_⟩;have up:∀(l:List Nat),l.all cp=true->∀n:Nat,l.foldl (λn c=>10*n+(c-48)) n<(n+1)*10^l.length:=by
     intro l
     induction l with
     |nil=>intro _ n;simp
     |cons c r ih=>
      intro hd n;rw[eU,bI]at hd;have hc:=hd.1;unfold cp at hc;simp only[Bool.and_eq_true,decide_eq_true_eq]at hc;have:=ih hd.2 (10*n+(c-48));refine dS this ?_;rw[aZ,km];have e:(n+1)*(10^r.length*10)=(10*(n+1))*10^r.length:=by
       rw[mI (10^r.length) 10,<-sN,mI (n+1) 10]
      rw[e];exact sy _ ()
    have u:=up (cw w) (by rw[D4 cp isDigit (λc=>by rw[tI,eZ]) w];exact h2) 0;have p:(10:Nat)^(cw w).length<=10^7:=sA ⋯ ();unfold D0;omega
def bZ{w:Bytes}{lo hi:Nat}(hhi:hi<10000000):within (cw w) (lo:Int) (hi:Int)=some n↔∃k:Nat,n=(k:Int)/\numberOf w=some k/\lo<=k/\k<=hi:=by
 unfold within;constructor
 .intro h;split at h
  .have e:=Option.some.inj h;have z:=rF (w:=w) ();refine⟨(dz (cw w)).toNat,by omega,z.1,by omega,by omega⟩
  .cases h
 .rintro⟨k,rfl,hk,h1,h2⟩;have e:=rE hk ();rw[e,ag ()]
theorem aF{ε:Type}{x:Except ε α}{f:α->Except ε β}{b:β}:(x>>=f)=.ok b↔∃a,x=.ok a/\f a=.ok b:=by
 cases x with
 |error e=>exact⟨λh=>(by cases h),λ⟨a,h,_⟩=>(by cases h)⟩
 |ok a=>exact⟨λh=>⟨a,rfl,h⟩,λ⟨a',h,h2⟩=>(by cases h;exact h2)⟩
def jT{ε:Type}{x:Except ε α}{f:α->β}{b:β}:x.map f=.ok b↔∃a,x=.ok a/\f a=b:=by
 cases x with
 |error e=>exact⟨λh=>(by cases h),λ⟨a,h,_⟩=>(by cases h)⟩
 |ok a=>exact⟨λh=>⟨a,rfl,(by cases h;rfl)⟩,λ⟨a',h,h2⟩=>(by cases h;rw[<-h2];rfl)⟩
theorem jv{e:Nat}{l:List Word}{x:Word×List Word}:next e l=.ok x↔l=x.1::x.2:=by
 cases l with
 |nil=>exact⟨λh=>(by cases h),λh=>(by cases h)⟩
 |cons w r=>exact⟨λh=>(by cases h;rfl),λh=>(by cases h;rfl)⟩
theorem iG{e:Nat}{s:String}{l m:List Word}:must e s l=.ok m↔∃w,l=w::m/\w.w=ascii s:=by
 unfold must;rw[aF];constructor
 .rintro⟨x,h1,h2⟩;split at h2
  .rename_i q;cases h2;exact⟨x.1,jv.mp h1,q⟩
  .cases h2
 .rintro⟨w,rfl,q⟩;exact⟨(w,m),rfl,by rw[ag q];rfl⟩
theorem ic{l:List Word}{u:Unit}:closed l=.ok u↔l=[]:=by
 cases l with
 |nil=>exact⟨λ_=>rfl,λ_=>rfl⟩|cons w r=>exact⟨λh=>(by cases h),λh=>(by cases h)⟩
theorem rG{e:Nat}{l:List Word}{x:Bytes×List Word}:newName e had l=.ok x↔∃w,l=w::x.2/\x.1=w.w/\isName w.w=true/\w.w∉had:=by
 unfold newName;rw[aF];constructor
 .rintro⟨y,h1,h2⟩;split at h2
  .cases h2
  .rename_i q;split at h2
   .cases h2
   .rename_i q2;cases h2;exact⟨y.1,jv.mp h1,rfl,‹q›,‹q2›⟩
 .rintro⟨w,rfl,q0,q1,q2⟩;obtain⟨a,b⟩:=x;subst q0;refine⟨(w,b),rfl,?_⟩;rw[af (by rw[q1];intro z;cases z),af ‹q2›];rfl
theorem lW{e lo hi:Nat}{l:List Word}{x:(Nat×Nat)×List Word}:number e lo hi l=.ok x↔∃w,l=w::x.2/\numberOf w.w=some x.1.1/\lo<=x.1.1/\x.1.1<=hi/\x.1.2=w.at_:=by
 unfold number;rw[aF];constructor
 .rintro⟨y,h1,h2⟩;split at h2
  .cases h2
  .rename_i n q;split at h2
   .cases h2
   .rename_i q2;cases h2;exact⟨y.1,jv.mp h1,q,(show lo<=n by omega),(show n<=hi by omega),rfl⟩
 .rintro⟨w,rfl,q0,q1,q2,q3⟩;obtain⟨⟨a,b⟩,c⟩:=x;have q3:=q3;have q1:lo<=a:=q1;have q2:a<=hi:=q2;subst q3;refine⟨(w,c),rfl,?_⟩;simp only[q0];rw[af (by show¬(a<lo\/hi<a);omega)];rfl
theorem dj{b:Bool}{u:Unit}:holds b k p=.ok u↔b=true:=by
 cases b
 .exact⟨λh=>(by cases h),λh=>(by cases h)⟩
 .exact⟨λ_=>rfl,λ_=>rfl⟩
theorem P6{e:Nat}{t:List (α×String)}{l:List Word}{x:(α×Nat)×List Word}:oneOf e t l=.ok x↔∃w y,l=w::x.2/\t.find? (λ(y:α×String)=>ascii y.2==w.w)=some y/\x.1.1=y.1/\x.1.2=w.at_:=by
 unfold oneOf;rw[aF];constructor
 .rintro⟨z,h1,h2⟩;split at h2
  .cases h2
  .rename_i y q;cases h2;exact⟨z.1,y,jv.mp h1,q,rfl,rfl⟩
 .rintro⟨w,y,rfl,q1,q2,q3⟩;obtain⟨⟨a,b⟩,c⟩:=x;subst q2 q3;refine⟨(w,c),rfl,?_⟩;simp only[q1];rfl
noncomputable def nW(runners:Nat):Nat->List (Nat×Nat)->List Bytes->Option (List (Nat×Nat))
 |0,had,[]=>some had|0,_,_::_=>none
 |_+1,had,[]=>some had
 |k+1,had,c::a::b::r=>if c=ascii "couple"then
   match numberOf a with
   |none=>none
   |some x=>match numberOf b with
    |none=>none|some y=>if 1<=x/\x<=runners/\(had.any λ(z:Nat×Nat)=>z.2==x)=false/\1<=y/\y<=runners/\x<y/\(had.any λ(z:Nat×Nat)=>z.1==y||z.2==y)=false then nW runners k (putB (x,y) had) r else none
  else none
 |_+1,_,_=>none
theorem jw{e runners:Nat}:∀k had l z,couplesIn e runners k had l=.ok z↔nW runners k had (l.map (·.w))=some z
 |0,had,[],z=>by
  exact⟨λh=>(by cases h;rfl),λh=>(by cases h;rfl)⟩
 |0,had,w::r,z=>by
  show(if w.w=ascii "couple"then Except.error _ else Except.error _)=.ok z↔none=some z;constructor
  .intro h;split at h<;>cases h
  .intro h;cases h
 |k+1,had,[],z=>by
  exact⟨λh=>(by cases h;rfl),λh=>(by cases h;rfl)⟩
 |k+1,had,w::l,z=>by
  unfold couplesIn;rw[af ∅];simp only[aF,iG,lW,dj];constructor
  .rintro⟨m,⟨c,h1,h2⟩,⟨⟨x,px⟩,m2⟩,⟨wa,h3,h4,h5,h6,h7⟩,_,h8,⟨⟨y,py⟩,m3⟩,⟨wb,h9,XX,P7,Ih,XY⟩,_,P8,h15⟩;cases h1;subst h3 h9;rw[jw k]at h15;simp only[Bool.and_eq_true,decide_eq_true_eq,Bool.not_eq_true']at h8 P8;show(if w.w=ascii "couple"then _ else none)=some z;rw[ag h2];simp only[h4,XX];rw[ag ⟨h5,h6,h8,P7,Ih,P8.1,P8.2⟩];exact h15
  .intro h;cases l with
   |nil=>cases h
   |cons wa l=>
    cases l with
    |nil=>cases h
    |cons wb r=>
     have h:(if w.w=ascii "couple"then
      match numberOf wa.w with
      |none=>none
      |some x=>match numberOf wb.w with
       |none=>none|some y=>if 1<=x/\x<=runners/\(had.any λ(z:Nat×Nat)=>z.2==x)=false/\1<=y/\y<=runners/\x<y/\(had.any λ(z:Nat×Nat)=>z.1==y||z.2==y)=false then nW runners k (putB (x,y) had) (r.map (·.w))else none
      else none)=some z:=h
     split at h
     .rename_i hc;split at h
      .cases h
      .rename_i x hx;split at h
       .cases h
       .rename_i y hy;split at h
        .rename_i q;obtain⟨q1,q2,q3,q4,q5,q6,q7⟩:=q;refine⟨_,⟨w,rfl,hc⟩,((x,wa.at_),wb::r),⟨wa,rfl,hx,q1,q2,rfl⟩,Unit.unit,?_,((y,wb.at_),r),⟨wb,rfl,hy,q4,q5,rfl⟩,Unit.unit,?_,?_⟩
         .simp only[q3,Bool.not_false]
         .simp only[q6,q7,decide_true,Bool.not_false,Bool.and_self]
         .exact(jw k _ r z).mpr h
        .cases h
     .cases h
def rH(ws:List Bytes)(r:Race):Prop:=∃w cs,ws=w::cs/\numberOf w=some r.runners/\2<=r.runners/\r.runners<=24/\nW r.runners 8 [] cs=some r.couples
def Cq{e:Nat}{l:List Word}{r:Race}:raceIn e l=.ok r↔rH (l.map (·.w)) r:=by
 unfold raceIn;simp only[aF,lW];constructor
 .rintro⟨⟨⟨n,p⟩,m⟩,⟨w,h1,h2,h3,h4,h5⟩,c,h6,h7⟩;subst h1;cases h7;exact⟨w.w,m.map (·.w),rfl,h2,h3,h4,(jw 8 [] m c).mp h6⟩
 .rintro⟨w,cs,h1,h2,h3,h4,h5⟩;cases l with
  |nil=>cases h1
  |cons x m=>
   obtain⟨e1,e2⟩:=List.cons.inj h1;obtain⟨rn,co⟩:=r;refine⟨((rn,x.at_),m),⟨x,rfl,?_,h3,h4,rfl⟩,co,?_,rfl⟩
   .have e1:x.w=w:=e1;rw[e1];exact h2
   .refine(jw 8 [] m co).mpr ?_;rw[e2];exact h5
noncomputable def g9:Kind->Bytes
 |.place=>ascii "place"|.order=>ascii "order"
 |.any=>ascii "any"|.legs=>ascii "legs"
noncomputable def yY:None_->Bytes
 |.refund=>ascii "refund"|.carry=>ascii "carry"
 |.fewer=>ascii "fewer"
def yZ{w:Bytes}:(∃y,KINDS.find? (λ(y:Kind×String)=>ascii y.2==w)=some y/\k=y.1)↔w=g9 k:=by
 constructor
 .rintro⟨y,h,rfl⟩;have h1:=find?_some h;have h2:=mem_of_find?_eq_some h;have h1:=eq_of_beq h1;rw[<-h1];simp only[KINDS,mem_cons,not_mem_nil,or_false]at h2;obtain rfl|rfl|rfl|rfl:=h2<;>rfl
 .rintro rfl;cases k
  .exact⟨(.place,"place"),by decide,rfl⟩
  .exact⟨(.order,"order"),by decide,rfl⟩
  .exact⟨(.any,"any"),by decide,rfl⟩
  .exact⟨(.legs,"legs"),by decide,rfl⟩
def y3{w:Bytes}{kd:Kind}:(∃y,(if kd=.place then NONES.take 2 else NONES).find? (λ(y:None_×String)=>ascii y.2==w)=some y/\k=y.1)↔w=yY k/\¬(kd=.place/\k=.fewer):=by
 constructor
 .rintro⟨y,h,rfl⟩;have h1:=find?_some h;have h2:=mem_of_find?_eq_some h;have h1:=h1;have h1:=eq_of_beq h1;rw[<-h1];split at h2
  .rename_i hk;simp only[NONES,List.take,mem_cons,not_mem_nil,or_false]at h2;obtain rfl|rfl:=h2
   .exact⟨rfl,λz=>by cases z.2⟩
   .exact⟨rfl,λz=>by cases z.2⟩
  .rename_i hk;simp only[NONES,mem_cons,not_mem_nil,or_false]at h2;refine⟨?_,λz=>hk z.1⟩;obtain rfl|rfl|rfl:=h2<;>rfl
 .rintro⟨rfl,hn⟩;by_cases hk:kd=.place
  .rw[ag hk];cases k
   .exact⟨(.refund,"refund"),by decide,rfl⟩
   .exact⟨(.carry,"carry"),by decide,rfl⟩
   .exact absurd ⟨hk,rfl⟩ hn
  .rw[af hk];cases k
   .exact⟨(.refund,"refund"),by decide,rfl⟩
   .exact⟨(.carry,"carry"),by decide,rfl⟩
   .exact⟨(.fewer,"fewer"),by decide,rfl⟩
structure Gx where
 n:Bytes
 kd:Bytes
 k:Bytes
 r:Bytes
 t:Bytes
 b:Bytes
 m:Bytes
 u:Bytes
 z:Bytes
noncomputable def Gx.ws(x:Gx):List Bytes:=[x.n,x.kd,x.k,ascii "from",x.r,ascii "take",x.t,ascii "break",x.b,ascii "least",x.m,ascii "unit",x.u,ascii "none",x.z]
structure Jc(races:List Race)(ws:List Bytes)(x:Gx)(p:Pool):Prop where
 ws:ws=x.ws
 name:x.n=p.name
 Zm:isName p.name=true
 kd:x.kd=g9 p.kind
 k:numberOf x.k=some p.k
 k1:leastK p.kind<=p.k
 k2:p.k<=mostK p.kind
 r:numberOf x.r=some p.race
 r1:1<=p.race
 r2:p.race<=races.length
 legs:p.kind=.legs->p.race+p.k<=races.length+1
 heads:p.kind≠ .legs->((races[p.race-1]?).map λ(x:Race)=>decide (p.k<=x.heads.length)).getD false=true
 t:numberOf x.t=some p.take
 t2:p.take<=400
 b:numberOf x.b=some p.brk
 b1:1<=p.brk
 b2:p.brk<=1000
 m:numberOf x.m=some p.least
 m2:p.least<=20000
 u:numberOf x.u=some p.unit
 u1:1<=p.unit
 u2:p.unit<=10000
 mu:p.least=0\/(p.unit<=p.least/\p.least<=2*p.unit)
 z:x.z=yY p.none_
 pf:¬(p.kind=.place/\p.none_=.fewer)
def Gy{l:List α}(h:l.length=2):∃a b,l=[a,b]:=match l,h with| [a,b],_=>⟨a,b,rfl⟩
def adP{us:List α}(h:us.length=0):us=[]:=length_eq_zero_iff.mp h
def Je{us:List α}(h:us.length=n+1):∃a r,us=a::r/\r.length=n:=by
 cases us with
 |nil=>cases h
 |cons a r=>exact⟨a,r,rfl,Nat.succ.inj h⟩
def XZ{us:List α}(h:us.length=n+5):∃a b c d x r,us=a::b::c::d::x::r/\r.length=n:=by
 obtain⟨a,r1,e1,h⟩:=Je h;obtain⟨b,r2,e2,h⟩:=Je h;obtain⟨c,r3,e3,h⟩:=Je h;obtain⟨d,r4,e4,h⟩:=Je h;obtain⟨x,r5,e5,h⟩:=Je h;exact⟨a,b,c,d,x,r5,by rw[e1,e2,e3,e4,e5],h⟩
def P9{l:List α}(h:l.length=15):∃a1 a2 a3 a4 a5 a6 a7 a8 a9 Nm Jf Nn Jg Np Gz,l=[a1,a2,a3,a4,a5,a6,a7,a8,a9,Nm,Jf,Nn,Jg,Np,Gz]:=by
 obtain⟨a1,a2,a3,a4,a5,r,e,h⟩:=XZ h;obtain⟨a6,a7,a8,a9,Nm,r',e',h⟩:=XZ h;obtain⟨Jf,Nn,Jg,Np,Gz,r'',e'',h⟩:=XZ h;exact⟨a1,a2,a3,a4,a5,a6,a7,a8,a9,Nm,Jf,Nn,Jg,Np,Gz,by rw[e,e',e'',adP h]⟩
def Cr{e:Nat}{l:List Word}:poolIn e C l=.ok p↔p.name∉C.pools.map (λ(p:Pool)=>p.name)/\∃x,Jc C.races (l.map (·.w)) x p:=by
 unfold poolIn;simp only[aF,rG,lW,dj,P6,iG,ic];constructor
 .rintro⟨⟨nm,l1⟩,⟨wn,h1,h2,h3,h4⟩,⟨⟨kd,pk⟩,l2⟩,⟨wk,y,h5,h6,h7,h8⟩,⟨⟨k,pk2⟩,l3⟩,⟨wk2,h9,XX,P7,Ih,XY⟩,l4,⟨wf,P8,h15⟩,⟨⟨r,pr⟩,l5⟩,⟨wr,h16,h17,h18,h19,h20⟩,_,h21,_,h22,l6,⟨wt,h23,Zn⟩,
   ⟨⟨t,pt⟩,l7⟩,⟨wt2,h25,h26,h27,h28,h29⟩,l8,⟨wb,h30,h31⟩,⟨⟨b,pb⟩,l9⟩,⟨wb2,Nq,h33,h34,h35,h36⟩,l10,⟨wl,h37,h38⟩,⟨⟨m,pm⟩,l11⟩,⟨wm,h39,h40,h41,h42,h43⟩,l12,⟨wu,h44,h45⟩,⟨⟨u,pu⟩,l13⟩,⟨wu2,h46,h47,h48,h49,h50⟩,_,h51,
   l14,⟨wz,h52,h53⟩,⟨⟨z,pz⟩,l15⟩,⟨wz2,y2,h54,h55,h56,h57⟩,_,h58,h59⟩
  dsimp only at*;subst h1 h5 h9 P8 h16 h23 h25 h30 Nq h37 h39 h44 h46 h52 h54 h58;cases h59;subst h2;refine⟨h4,⟨wn.w,wk.w,wk2.w,wr.w,wt2.w,wb2.w,wm.w,wu2.w,wz2.w⟩,?_⟩;have hk:=yZ.mp ⟨y,h6,h7⟩;have hz:=y3.mp ⟨y2,h55,h56⟩;refine⟨?_,rfl,h3,hk,XX,P7,Ih,h17,h18,h19,?_,?_,h26,h28,h33,h34,h35,h40,h42,h47,h48,h49,?_,hz.1,hz.2⟩
  .simp only[map_cons,map_nil,h15,Zn,h31,h38,h45,h53];rfl
  .intro q;have q:=q;subst q;simp only[bne_self_eq_false,Bool.false_or,decide_eq_true_eq]at h21;exact h21
  .intro q;have q:=q;have e:(kd==Kind.legs)=false:=by simpa using q
   rw[e,KC]at h22;exact h22
  .simp only[inside,Bool.or_eq_true,beq_iff_eq,Bool.and_eq_true,decide_eq_true_eq]at h51;exact h51
 .rintro⟨hn,x,P⟩;have hw:=P.ws;unfold Gx.ws at hw;have hlen:=b_ List.length hw;rw[az]at hlen;obtain⟨a1,a2,a3,a4,a5,a6,a7,a8,a9,Nm,Jf,Nn,Jg,Np,Gz,rfl⟩:=P9 hlen
  .simp only[map_cons,map_nil,List.cons.injEq,and_true]at hw;obtain⟨e1,e2,e3,e4,e5,e6,e7,e8,e9,e10,e11,e12,e13,e14,e15⟩:=hw;obtain⟨y,hy1,hy2⟩:=yZ.mpr P.kd;obtain⟨y2,hz1,hz2⟩:=y3.mpr ⟨P.z,P.pf⟩;obtain⟨nm,kd,k,r,z,t,b,m,u⟩:=p;refine⟨(nm,_),⟨a1,rfl,?_,?_,?_⟩,((kd,a2.at_),_),⟨a2,y,rfl,?_,hy2,rfl⟩,((k,a3.at_),_),⟨a3,rfl,?_,P.k1,P.k2,rfl⟩,_,⟨a4,rfl,e4⟩,((r,a5.at_),_),⟨a5,rfl,?_,P.r1,P.r2,rfl⟩,Unit.unit,?_,Unit.unit,?_,_,⟨a6,rfl,e6⟩,
    ((t,a7.at_),_),⟨a7,rfl,?_,cj _,P.t2,rfl⟩,_,⟨a8,rfl,e8⟩,((b,a9.at_),_),⟨a9,rfl,?_,P.b1,P.b2,rfl⟩,_,⟨Nm,rfl,e10⟩,((m,Jf.at_),_),⟨Jf,rfl,?_,cj _,P.m2,rfl⟩,_,⟨Nn,rfl,e12⟩,((u,Jg.at_),_),⟨Jg,rfl,?_,P.u1,P.u2,rfl⟩,Unit.unit,?_,
    _,⟨Np,rfl,e14⟩,((z,Gz.at_),_),⟨Gz,y2,rfl,?_,hz2,rfl⟩,Unit.unit,rfl,rfl⟩
   .show nm=a1.w;rw[e1];exact P.name.symm
   .rw[e1,P.name];exact P.Zm
   .rw[e1,P.name];exact hn
   .rw[e2];exact hy1
   .rw[e3];exact P.k
   .rw[e5];exact P.r
   .by_cases q:kd=.legs
    .subst q;simp only[bne_self_eq_false,Bool.false_or,decide_eq_true_eq];exact P.legs rfl
    .have e:(kd !=Kind.legs)=true:=by simpa using q
     simp only[e,Bool.true_or]
   .by_cases q:kd=.legs
    .subst q;simp only[BEq.rfl,Bool.true_or]
    .have e:(kd==Kind.legs)=false:=by simpa using q
     simp only[e,Bool.false_or];exact P.heads q
   .rw[e7];exact P.t
   .rw[e9];exact P.b
   .rw[e11];exact P.m
   .rw[e13];exact P.u
   .simp only[inside,Bool.or_eq_true,beq_iff_eq,Bool.and_eq_true,decide_eq_true_eq];exact P.mu
   .rw[e15];exact hz1
def rJ:Option Card->List Bytes->Option Card->Prop
 |none,ws,t=>∃n,ws=[ascii "day",n]/\isName n=true/\t=some {noCard with name:=n}
 |some C,ws,t=>(∃r rest,ws=ascii "race"::rest/\C.pools=[]/\C.races.length<16/\rH rest r/\t=some {C with races:=C.races++ [r]})\/
  ∃p rest x,ws=ascii "pool"::rest/\C.races≠ []/\C.pools.length<64/\p.name∉C.pools.map (λ(p:Pool)=>p.name)/\Jc C.races rest x p/\t=some {C with pools:=C.pools++ [p]}
def Nr{h t:Option Card}{e:Nat}:lineIn h ⟨ws,e⟩=.ok t↔rJ h (ws.map (·.w)) t:=by
 unfold lineIn;have hb:∀{α β:Type}(x:Except Fault α)(f:α->Except Fault β),x.bind f=(x>>=f):=λ_ _=>rfl;rw[hb,aF];simp only[jv];constructor
 .rintro⟨⟨w,r⟩,h1,h2⟩;subst h1;cases h with
  |none=>
   simp only at h2;split at h2
   .rename_i q;unfold dayIn at h2;simp only[aF,rG,ic]at h2;obtain⟨⟨n,m⟩,⟨wn,g1,g2,g3,g4⟩,_,g5,g6⟩:=h2;simp only at g1 g2 g5;subst g5 g1;cases g6;refine⟨n,?_,by rw[g2];exact g3,rfl⟩;simp only[map_cons,map_nil,q,g2]
   .cases h2
  |some C=>
   simp only at h2;split at h2
   .rename_i q;split at h2
    .cases h2
    .rename_i q2;unfold withRace at h2;rw[jT]at h2;obtain⟨rc,g1,g2⟩:=h2;refine .inl ⟨rc,r.map (·.w),by simp only[map_cons,q.1],q.2,by unfold RACES at q2;omega,Cq.mp g1,g2.symm⟩
   .split at h2
    .rename_i q1;split at h2
     .cases h2
     .rename_i q2;unfold withPool at h2;rw[jT]at h2;obtain⟨pc,g1,g2⟩:=h2;obtain⟨g3,x,g4⟩:=Cr.mp g1;exact .inr ⟨pc,r.map (·.w),x,by simp only[map_cons,q1.1],q1.2,by unfold POOLS at q2;omega,g3,g4,g2.symm⟩
    .cases h2
 .intro hl;cases h with
  |none=>
   obtain⟨n,h1,h2,h3⟩:=hl;have hlen:=b_ List.length h1;rw[az]at hlen;obtain⟨w1,w2,rfl⟩:=Gy hlen
   .simp only[map_cons,map_nil,List.cons.injEq,and_true]at h1;refine⟨(w1,[w2]),rfl,?_⟩;rw[ag h1.1];unfold dayIn;simp only[aF,rG,ic];refine⟨(n,[]),⟨w2,rfl,h1.2.symm,by rw[h1.2];exact h2,by simp⟩,Unit.unit,rfl,?_⟩;rw[h3];rfl
  |some C=>
   obtain⟨r,rest,h1,h2,h3,h4,h5⟩|⟨p,rest,x,h1,h2,h3,h4,h5,h6⟩:=hl
   .cases ws with
    |nil=>cases h1
    |cons w m=>
     obtain⟨e1,e2⟩:=List.cons.inj h1;refine⟨(w,m),rfl,?_⟩;simp only;rw[ag ⟨e1,h2⟩,af (by unfold RACES;omega)];unfold withRace;rw[jT];exact⟨r,Cq.mpr (by rw[e2];exact h4),h5.symm⟩
   .cases ws with
    |nil=>cases h1
    |cons w m=>
     obtain⟨e1,e2⟩:=List.cons.inj h1;refine⟨(w,m),rfl,?_⟩;simp only;have e1:w.w=ascii "pool":=e1;rw[af (by rw[e1];intro z;exact absurd z.1 ⋯),ag ⟨e1,h2⟩,af (by unfold POOLS;omega)];unfold withPool;rw[jT];exact⟨p,Cr.mpr ⟨h4,x,by rw[e2];exact h5⟩,h6.symm⟩
theorem words_of{p q:Nat}:∀l acc,badByte acc.isEmpty q l=none->(wordsFrom p acc l).map (·.w)=bW 32 acc l
 |[],acc,h=>by
  unfold badByte at h;cases acc with
  |nil=>simp at h|cons c r=>rfl
 |c::r,acc,h=>by
  unfold badByte at h;split at h
  .cases h
  .unfold wordsFrom bW;split at h
   .rename_i hc;rw[ag hc,ag hc];split at h
    .cases h
    .split at h
     .cases h
     .rw[aJ,words_of (q:=q+1) r [] h]
   .rename_i hc;rw[af hc,af hc];refine words_of (q:=q+1) r (acc++ [c]) ?_;have e:(acc++ [c]).isEmpty=false:=by simp
    rw[e];exact h
def Plain(w:Bytes):Prop:=w≠ []/\∀c∈w,33<=c.toNat/\c.toNat<=126
theorem ie c:∀l acc,∃w ws,bW c acc l=(acc++w)::ws/\∀x∈w,x≠c
 |[],acc=>⟨[],[],by simp[bW],by simp⟩
 |x::r,acc=>by
  unfold bW;by_cases h:x=c
  .rw[ag h];exact⟨[],_,by rw[hZ],by simp⟩
  .rw[af h];obtain⟨w,ws,h1,h2⟩:=ie c r (acc++ [x]);refine⟨x::w,ws,?_,?_⟩
   .rw[h1];simp
   .intro y hy;obtain rfl|hy:=mem_cons.mp hy
    .exact h
    .exact h2 y hy
theorem jx{q:Nat}:∀l acc,(∀w∈bW 32 acc l,Plain w)->badByte acc.isEmpty q l=none
 |[],acc,h=>by
  have:=h acc (by simp[bW]);cases acc with
  |nil=>exact absurd rfl this.1|cons c r=>rfl
 |c::r,acc,h=>by
  unfold bW at h;unfold badByte;by_cases hc:c=32
  .subst hc;have h1:=h acc ∅;have h2:=λw hw=>h w (bJ _ hw);have e:acc.isEmpty=false:=by
    cases acc with
    |nil=>exact absurd rfl h1.1|cons c r=>rfl
   rw[e];have e2:r.isEmpty=false:=by
    cases r with
    |nil=>exact absurd rfl (h2 [] (by simp[bW])).1|cons c r=>rfl
   rw[e2];exact jx r [] h2
  .rw[af hc]at h;obtain⟨w,ws,h1,h2⟩:=ie 32 r (acc++ [c]);have h3:=(h _ (by rw[h1];exact b9)).2 c ∅;have h4:¬(c<32\/126<c):=by
    rw[UInt8.lt_iff_toNat_lt,UInt8.lt_iff_toNat_lt];have e1:(32:UInt8).toNat=32:=rfl;have e2:(126:UInt8).toNat=126:=rfl;omega
   rw[af h4,af hc];have:=jx (q:=q+1) r (acc++ [c]) h;have e:(acc++ [c]).isEmpty=false:=by simp
   rw[e]at this;exact this
def y4{w:Bytes}(h0:w≠ [])(h:w.all (λc=>isSmall c||isDigit c)=true):Plain w:=by
 refine⟨h0,λc hc=>?_⟩;have:=all_eq_true.mp h c hc;rw[rD,eZ]at this;unfold isLet cp at this;simp only[Bool.or_eq_true,Bool.and_eq_true,decide_eq_true_eq]at this;omega
def dM{w:Bytes}(h:numberOf w=some n):Plain w:=by
 obtain⟨⟨h1,h2,_⟩,_⟩:=kZ.mp h;refine y4 (λz=>by rw[z]at h1;cases h1) ?_;rw[dy]at h2⊢;intro c hc;rw[h2 c hc,Bool.or_true]
def rK{w:Bytes}(h:isName w=true):Plain w:=by
 unfold isName at h;simp only[Bool.and_eq_true,decide_eq_true_eq]at h;exact y4 (λz=>by rw[z]at h;simp at h) h.2.2.1
def bV{w:Bytes}(h:(!w.isEmpty&&w.all (λc=>isSmall c||isDigit c))=true):Plain w:=by
 rw[bI]at h;exact y4 (λz=>by rw[z]at h;simp at h) h.2
theorem y6:∀k had ws z,nW runners k had ws=some z->∀w∈ws,Plain w
 |0,_,[],_,_,w,hw=>by cases hw
 |0,_,_::_,_,h,_,_=>by cases h
 |k+1,_,[],_,_,w,hw=>by cases hw
 |k+1,had,[a],_,h,_,_=>by cases h
 |k+1,had,[a,b],_,h,_,_=>by cases h
 |k+1,had,c::a::b::r,z,h,w,hw=>by
  unfold nW at h;split at h
  .rename_i hc;split at h
   .cases h
   .rename_i x hx;split at h
    .cases h
    .rename_i y hy;split at h
     .have ih:=y6 k _ r z h;obtain rfl|hw:=mem_cons.mp hw
      .rw[hc];exact bV ⋯
      obtain rfl|hw:=mem_cons.mp hw
      .exact dM hx
      obtain rfl|hw:=mem_cons.mp hw
      .exact dM hy
      .exact ih w hw
     .cases h
  .cases h
def rJ.plain{s t:Option Card}(h:rJ s ws t):∀w∈ws,Plain w:=by
 cases s with
 |none=>
  obtain⟨n,rfl,h2,_⟩:=h;intro w hw;obtain rfl|hw:=mem_cons.mp hw
  .exact bV ⋯
  obtain rfl|hw:=mem_cons.mp hw
  .exact rK h2
  .cases hw
 |some C=>
  obtain⟨r,rest,rfl,_,_,⟨w0,cs,rfl,h1,_,_,h2⟩,_⟩|⟨p,rest,x,rfl,_,_,_,P,_⟩:=h
  .intro w hw;obtain rfl|hw:=mem_cons.mp hw
   .exact bV ⋯
   obtain rfl|hw:=mem_cons.mp hw
   .exact dM h1
   .exact y6 8 [] cs _ h2 w hw
  .rw[P.ws];unfold Gx.ws;intro w hw;simp only[mem_cons,not_mem_nil,or_false]at hw;obtain rfl|rfl|rfl|rfl|rfl|rfl|rfl|rfl|rfl|rfl|rfl|rfl|rfl|rfl|rfl|rfl:=hw
   .exact bV ⋯
   .rw[P.name];exact rK P.Zm
   .rw[P.kd];cases p.kind<;>exact bV ⋯
   .exact dM P.k
   .exact bV ⋯
   .exact dM P.r
   .exact bV ⋯
   .exact dM P.t
   .exact bV ⋯
   .exact dM P.b
   .exact bV ⋯
   .exact dM P.m
   .exact bV ⋯
   .exact dM P.u
   .exact bV ⋯
   .rw[P.z];cases p.none_<;>exact bV ⋯
def Uh{s t:Option Card}{l:Bytes}{p e:Nat}:(badByte true 0 l=none/\lineIn s ⟨wordsFrom p [] l,e⟩=.ok t)↔rJ s (bW 32 [] l) t:=by
 rw[Nr];constructor
 .rintro⟨h1,h2⟩;rw[words_of l [] h1]at h2;exact h2
 .intro h;have h1:badByte true 0 l=none:=jx l [] h.plain;refine⟨h1,?_⟩;rw[words_of l [] h1];exact h
def qm c x (r acc:Bytes):bW c acc (x::r)=if x=c then acc::bW c [] r else bW c (acc++ [x]) r:=rfl
theorem uG:∀b acc,upTo b=none↔bW 10 acc b=[acc++b]
 |[],acc=>by simp[upTo,bW]
 |c::r,acc=>by
  rw[qm];unfold upTo;by_cases h:c=10
  .rw[ag h,ag h];constructor
   .intro q;cases q
   .intro q;obtain⟨w,ws,h1,_⟩:=ie 10 r [];rw[h1]at q;have:=b_ List.length q;simp at this
  .rw[af h,af h];have ih:=uG r (acc++ [c]);rw[g_]at ih;rw[Option.map_eq_none_iff];exact ih
theorem uH:∀b acc l r,upTo b=some (l,r)->bW 10 acc b=(acc++l)::bW 10 [] r/\r.length<b.length
 |[],acc,l,r,h=>by cases h
 |c::m,acc,l,r,h=>by
  unfold upTo at h;rw[qm];by_cases hc:c=10
  .rw[ag hc]at h⊢;cases h;exact⟨by rw[hZ],kO _⟩
  .rw[af hc]at h⊢;cases q:upTo m with
   |none=>rw[q]at h;cases h
   |some x=>
    obtain⟨l',r'⟩:=x;rw[q]at h;cases h;obtain⟨h1,h2⟩:=uH m (acc++ [c]) l' r' q;refine⟨?_,my h2⟩;rw[h1,g_];rfl
noncomputable def ig:Option Card->List (List Bytes)->Option Card->Prop
 |s,[],t=>t=s|s,l::ls,t=>∃u,rJ s l u/\ig u ls t
theorem y8:∀k p s t b,b.length<k->(linesIn lineIn k p s b=.ok t↔∃ls,bW 10 [] b=ls++ [[]]/\ig s (ls.map (bW 32 [])) t)
 |0,_,_,_,_,h=>by cases h
 |k+1,p,s,t,b,h=>by
  unfold linesIn;cases b with
  |nil=>
   constructor
   .intro q;cases q;exact⟨[],rfl,rfl⟩
   .rintro⟨ls,h1,h2⟩;have:ls=[]:=by
     have h1:[[]]=ls++ [[]]:=h1;cases ls with
     |nil=>rfl
     |cons x r=>
      have:=b_ List.length h1;simp at this
    subst this;cases h2;rfl
  |cons c r=>
   rw[af ∅];cases q:upTo (c::r)with
   |none=>
    have e:=(uG (c::r) []).mp q;constructor
    .intro z;cases z
    .rintro⟨ls,h1,h2⟩;rw[e]at h1;cases ls with
     |nil=>cases h1
     |cons x m=>
      have:=b_ List.length h1;simp at this
   |some x=>
    obtain⟨l,m⟩:=x;obtain⟨e,hm⟩:=uH (c::r) [] l m q;simp only;have ih:=λu=>y8 k (p+l.length+1) u t m ();have lo:=λu=>Uh (s:=s) (t:=u) (l:=l) (p:=p) (e:=p+l.length);constructor
    .intro z;split at z
     .cases z
     .rename_i hb;split at z
      .cases z
      .rename_i u hu;obtain⟨ls,h1,h2⟩:=(ih u).mp z;refine⟨l::ls,by rw[e,h1];rfl,u,(lo u).mp ⟨hb,hu⟩,h2⟩
    .rintro⟨ls,h1,h2⟩;rw[e]at h1;cases ls with
     |nil=>
      obtain⟨w,ws,h3,_⟩:=ie 10 m [];rw[h3]at h1;cases h1
     |cons x ls=>
      obtain⟨e1,e2⟩:=List.cons.inj h1;subst e1;obtain⟨u,h3,h4⟩:=h2;obtain⟨hb,hu⟩:=(lo u).mpr h3;rw[hb];simp only[hu];exact(ih u).mpr ⟨ls,e2,h4⟩
def kG{b:Bytes}:readCard b=.ok C↔(∃ls,bW 10 [] b=ls++ [[]]/\ig none (ls.map (bW 32 [])) (some C))/\C.races≠ []:=by
 unfold readCard;have key:=λt=>y8 (b.length+1) 0 none t b (kO _);constructor
 .intro h;split at h
  .cases h
  .cases h
  .rename_i D q;split at h
   .cases h
   .rename_i hr;cases h;exact⟨(key _).mp q,hr⟩
 .rintro⟨h1,h2⟩;rw[(key _).mpr h1];simp only;rw[af h2]
noncomputable def hI(r:Race):List Int:=r.heads.map λ(n:Nat)=>(n:Int)
theorem iQ{c x:Nat×Nat}:∀{l},c∈putB x l↔c=x\/c∈l
 |[]=>by simp[putB]
 |y::l=>by
  unfold putB;split
  .simp
  .rw[sk,iQ,sk];constructor
   .rintro(h|h|h)
    .exact .inr (.inl h)
    .exact .inl h
    .exact .inr (.inr h)
   .rintro(h|h|h)
    .exact .inr (.inl h)
    .exact .inl h
    .exact .inr (.inr h)
structure Jh(hs fs:List Int)(had:List (Nat×Nat)):Prop where
 a:∀n:Nat,(n:Int)∈hs↔∃c∈had,c.1=n
 b:∀n:Nat,(n:Int)∈fs↔∃c∈had,c.2=n
 lt:∀c∈had,c.1<c.2
theorem Jh.put{x y:Nat}(R:Jh hs fs had)(h:x<y):Jh (hs++ [(x:Int)]) (fs++ [(y:Int)]) (putB (x,y) had):=by
 refine⟨λn=>?_,λn=>?_,λc hc=>?_⟩
 .rw[jr,R.a n];constructor
  .rintro(⟨c,h1,h2⟩|h1)
   .exact⟨c,iQ.mpr (.inr h1),h2⟩
   .exact⟨(x,y),iQ.mpr (.inl rfl),by simp at h1;omega⟩
  .rintro⟨c,h1,h2⟩;obtain rfl|h1:=iQ.mp h1
   .exact .inr (by simp at h2⊢;omega)
   .exact .inl ⟨c,h1,h2⟩
 .rw[jr,R.b n];constructor
  .rintro(⟨c,h1,h2⟩|h1)
   .exact⟨c,iQ.mpr (.inr h1),h2⟩
   .exact⟨(x,y),iQ.mpr (.inl rfl),by simp at h1;omega⟩
  .rintro⟨c,h1,h2⟩;obtain rfl|h1:=iQ.mp h1
   .exact .inr (by simp at h2⊢;omega)
   .exact .inl ⟨c,h1,h2⟩
 .obtain rfl|hc:=iQ.mp hc
  .exact h
  .exact R.lt c hc
def vD(n:Int)(hs fs:List Int)(c a b:List Nat)(r:List (List Nat)):cC n hs fs (c::a::b::r)=if c=xN then
   match within a 1 n with
   |none=>none
   |some h=>match within b (h+1) n with
    |none=>none|some f=>if h∈fs then none else if f∈hs\/f∈fs then none else cC n (hs++ [h]) (fs++ [f]) r
  else none:=by
 rw[cC] <;>rfl
def GA(n k:Nat)(had:List (Nat×Nat))(c a b:Bytes)(r:List Bytes):nW n (k+1) had (c::a::b::r)=if c=ascii "couple"then
   match numberOf a with
   |none=>none
   |some x=>match numberOf b with
    |none=>none|some y=>if 1<=x/\x<=n/\(had.any λ(z:Nat×Nat)=>z.2==x)=false/\1<=y/\y<=n/\x<y/\(had.any λ(z:Nat×Nat)=>z.1==y||z.2==y)=false then nW n k (putB (x,y) had) r else none
  else none:=by
 rw[nW] <;>rfl
def VX{had:List (Nat×Nat)}{x:Nat}:(had.any λ(z:Nat×Nat)=>z.2==x)=false↔¬∃c∈had,c.2=x:=by
 rw[<-Bool.not_eq_true,pX];simp only[beq_iff_eq]
def P_{had:List (Nat×Nat)}{x:Nat}:(had.any λ(z:Nat×Nat)=>z.1==x||z.2==x)=false↔¬((∃c∈had,c.1=x)\/∃c∈had,c.2=x):=by
 rw[<-Bool.not_eq_true,pX];simp only[Bool.or_eq_true,beq_iff_eq];constructor
 .rintro h (⟨c,h1,h2⟩|⟨c,h1,h2⟩)
  .exact h ⟨c,h1,.inl h2⟩
  .exact h ⟨c,h1,.inr h2⟩
 .rintro h ⟨c,h1,h2|h2⟩
  .exact h (.inl ⟨c,h1,h2⟩)
  .exact h (.inr ⟨c,h1,h2⟩)
theorem Le{n:Nat}(hn:n<=24):∀j k hs fs had cs,j<=k->cs.length=3*j->Jh hs fs had->
  (cC (n:Int) hs fs (cs.map cw)=none/\nW n k had cs=none)\/∃Ii Y6 z,cC (n:Int) hs fs (cs.map cw)=some Y6/\nW n k had cs=some z/\Jh Ii Y6 z
 |0,k,hs,fs,had,cs,_,hl,R=>by
  have:cs=[]:=length_eq_zero_iff.mp ();subst this;refine .inr ⟨hs,fs,had,by simp[cC],?_,R⟩;cases k<;>rfl
 |j+1,0,_,_,_,_,hk,_,_=>absurd hk ()
 |j+1,k+1,hs,fs,had,cs,hk,hl,R=>by
  match cs,hl with
  |[],hl=>exact absurd hl ∅|[_],hl=>exact absurd hl (by simp;omega)
  |[_,_],hl=>exact absurd hl (by simp;omega)
  |c::a::b::r,hl=>
   rw[aJ,aJ,aJ,vD,GA];by_cases hc:c=ascii "couple"
   .rw[ag hc,ag ((cw_couple c).mpr hc)];cases ha:within (cw a) 1 (n:Int)with
    |none=>
     left;refine⟨rfl,?_⟩;cases hx:numberOf a with
     |none=>rfl
     |some x=>
      have no:¬(1<=x/\x<=n):=λq=>by
       have:=(bZ (w:=a) (lo:=1) (hi:=n) () (n:=(x:Int))).mpr ⟨x,rfl,hx,q.1,q.2⟩;have this:within (cw a) 1 (n:Int)=some (x:Int):=this;rw[ha]at this;cases this
      simp only;cases numberOf b with
      |none=>rfl
      |some y=>
       simp only;rw[af λq=>no ⟨q.1,q.2.1⟩]
    |some h=>
     obtain⟨x,rfl,hx,x1,x2⟩:=(bZ (w:=a) (lo:=1) (hi:=n) () (n:=h)).mp ha;simp only[hx];cases hb:within (cw b) ((x:Int)+1) (n:Int)with
     |none=>
      left;refine⟨rfl,?_⟩;cases hy:numberOf b with
      |none=>rfl
      |some y=>
       simp only;rw[af];rintro⟨_,_,_,_,q5,q6,_⟩;have:=(bZ (w:=b) (lo:=x+1) (hi:=n) () (n:=(y:Int))).mpr ⟨y,rfl,hy,q6,q5⟩;have this:within (cw b) ((x:Int)+1) (n:Int)=some (y:Int):=this;rw[hb]at this;cases this
     |some f=>
      obtain⟨y,rfl,hy,y1,y2⟩:=(bZ (w:=b) (lo:=x+1) (hi:=n) () (n:=f)).mp hb;simp only[hy];by_cases q1:(x:Int)∈fs
      .left;rw[ag q1];refine⟨rfl,?_⟩;rw[af];rintro⟨_,_,q,_⟩;exact VX.mp q ((R.b x).mp q1)
      .rw[af q1];by_cases q2:(y:Int)∈hs\/(y:Int)∈fs
       .left;rw[ag q2];refine⟨rfl,?_⟩;rw[af];rintro⟨_,_,_,_,_,_,q⟩;exact P_.mp q (q2.elim (λz=>.inl ((R.a y).mp z)) λz=>.inr ((R.b y).mp z))
       .rw[af q2,ag ⟨x1,x2,VX.mpr (λz=>q1 ((R.b x).mpr z)),by omega,y2,y1,P_.mpr (λz=>q2 (z.elim (λz=>.inl ((R.a y).mpr z)) λz=>.inr ((R.b y).mpr z)))⟩];exact Le hn j k _ _ _ r () (by simp at hl;omega) (R.put y1)
   .left;rw[af hc,af (λq=>hc ((cw_couple c).mp q))];exact⟨rfl,rfl⟩
theorem Ct:∀k had cs z,nW n k had cs=some z->∃j,j<=k/\cs.length=3*j
 |0,_,[],_,_=>⟨0,aL _,rfl⟩|0,_,_::_,_,h=>by cases h
 |k+1,_,[],_,_=>⟨0,cj _,rfl⟩|k+1,_,[_],_,h=>by cases h
 |k+1,_,[_,_],_,h=>by cases h
 |k+1,had,c::a::b::r,z,h=>by
  rw[GA]at h;split at h
  .split at h
   .cases h
   .split at h
    .cases h
    .split at h
     .obtain⟨j,h1,h2⟩:=Ct k _ r z h;exact⟨j+1,by omega,by simp only[length_cons];omega⟩
     .cases h
  .cases h
def Qa{r:Race}(R:Jh hs fs r.couples):fV r.runners fs=hI r:=by
 unfold fV hI Race.heads;have e1:∀n:Nat,(r.head n==n)=!decide ((n:Int)∈fs):=by
  intro n;have hb:=R.b n;unfold Race.head;cases q:r.couples.find? λ(c:Nat×Nat)=>c.2==n with
  |none=>
   have no:¬(n:Int)∈fs:=λz=>by
    obtain⟨c,h1,h2⟩:=hb.mp z;have:=find?_eq_none.mp q c h1;exact this (by rw[h2];exact beq_self_eq_true n)
   simp[no]
  |some c=>
   have h1:=mem_of_find?_eq_some q;have h2:=find?_some q;have h2:=eq_of_beq h2;have yes:=hb.mpr ⟨c,h1,h2⟩;have dQ:=R.lt c h1;have ne:¬c.1=n:=by omega
   simp[yes,ne]
 rw[pZ,pZ,bQ];have e2:((λx:Int=>!decide (x∈fs))∘λ(i:Nat)=>(1:Int)+(i:Int))=((λ(n:Nat)=>r.head n==n)∘λ(i:Nat)=>i+1):=by
  funext i;show(!decide ((1:Int)+(i:Int)∈fs))=(r.head (i+1)==i+1);rw[e1 (i+1)];have:((i+1:Nat):Int)=(1:Int)+(i:Int):=by omega
  rw[this]
 rw[e2];congr 1;funext i;show(1:Int)+(i:Int)=((i+1:Nat):Int);omega
def rH.uniq{r q:Race}(h:rH ws r)(h':rH ws q):r=q:=by
 obtain⟨w,cs,e,h1,_,_,h2⟩:=h;obtain⟨w',cs',e',xG,_,_,vy⟩:=h';rw[e]at e';cases e';obtain⟨rn,rc⟩:=r;obtain⟨qn,qc⟩:=q;have z:=Option.some.inj (h1.symm.trans xG);subst z;have z:=Option.some.inj (h2.symm.trans vy);subst z;rfl
def Ji(f w:List Nat)(cs:List (List Nat)):gB (f::w::cs)=if(cs.length+2)%3≠2\/26<cs.length+2 then none else
  match within w 2 24 with
  |none=>none
  |some n=>match cC n [] [] cs with
   |none=>none|some fs=>some (fV n.toNat fs):=rfl
def Lf f rest:(gB ((f::rest).map cw)=none/\∀r,¬rH rest r)\/∃r,rH rest r/\gB ((f::rest).map cw)=some (hI r):=by
 cases rest with
 |nil=>exact .inl ⟨rfl,λr ⟨w,cs,e,_⟩=>by cases e⟩
 |cons w cs=>
  rw[aJ,aJ,Ji,az];by_cases hl:(cs.length+2)%3≠2\/26<cs.length+2
  .left;rw[ag hl];refine⟨rfl,?_⟩;rintro r ⟨w',cs',e,_,_,_,h⟩;cases e;obtain⟨j,h1,h2⟩:=Ct 8 [] cs _ h;omega
  .rw[af hl];cases hw:within (cw w) 2 24 with
   |none=>
    left;refine⟨rfl,?_⟩;rintro r ⟨w',cs',e,h1,h2,h3,_⟩;cases e;have:=(bZ (w:=w) (lo:=2) (hi:=24) ()).mpr ⟨r.runners,rfl,h1,h2,h3⟩;have this:within (cw w) 2 24=some (r.runners:Int):=this;rw[hw]at this;cases this
   |some n=>
    obtain⟨k,rfl,hk,k1,k2⟩:=(bZ (w:=w) (hi:=24) () (n:=n)).mp hw;simp only;have R0:Jh [] [] []:=⟨λn=>by simp,λn=>by simp,λc hc=>by cases hc⟩;obtain⟨e1,e2⟩|⟨Ii,Y6,z,e1,e2,R⟩:=Le k2 (cs.length/3) 8 [] [] [] cs () () R0
    .left;rw[e1];refine⟨rfl,?_⟩;rintro r ⟨w',cs',e,h1,_,_,h⟩;cases e;have:=Option.some.inj (h1.symm.trans hk);rw[this,e2]at h;cases h
    .right;rw[e1];refine⟨⟨k,z⟩,⟨w,cs,rfl,hk,k1,k2,e2⟩,?_⟩;show some (fV (k:Int).toNat Y6)=some (hI ⟨k,z⟩);rw[gk,Qa (r:=⟨k,z⟩) R]
noncomputable def mp(p:Pool):MP:=⟨cw p.name,cw (g9 p.kind),(p.k:Int),(p.race:Int),(p.unit:Int)⟩
def y9{w:Bytes}:kindB (cw w)=some lh↔∃k,w=g9 k/\lh=((leastK k:Int),(mostK k:Int)):=by
 unfold kindB;simp only[cw_place,cw_order,cw_any,cw_legs];constructor
 .intro h;split at h
  .rename_i q;cases h;exact⟨.place,q,rfl⟩
  .split at h
   .rename_i q;cases h;exact⟨.order,q,rfl⟩
   .split at h
    .rename_i q;cases h;exact⟨.any,q,rfl⟩
    .split at h
     .rename_i q;cases h;exact⟨.legs,q,rfl⟩
     .cases h
 .rintro⟨k,rfl,rfl⟩;cases k
  .rw[ag (by rfl)];rfl
  .rw[af ⋯,ag (by rfl)];rfl
  .rw[af ⋯,af ⋯,ag (by rfl)];rfl
  .rw[af ⋯,af ⋯,af ⋯,ag (by rfl)];rfl
def Cu{k j:Kind}(h:g9 k=g9 j):k=j:=by
 cases k<;>cases j<;>first|rfl|exact absurd h ⋯
theorem fb:cw (g9 k)=cu↔k=.legs:=by
 rw[cw_legs];constructor
 .intro h;exact Cu h
 .rintro rfl;rfl
def fZ:cw (g9 k)=dA↔k=.place:=by
 rw[cw_place];constructor
 .intro h;exact Cu h
 .rintro rfl;rfl
def qP{w:Bytes}{k:Nat}{races:List Race}(hr:races.length<=16):fC (cw w) (cw (g9 kd)) (k:Int) (races.map hI)=some n↔
  ∃r:Nat,n=(r:Int)/\numberOf w=some r/\1<=r/\r<=races.length/\(kd=.legs->r+k<=races.length+1)/\(kd≠ .legs->((races[r-1]?).map λ(x:Race)=>decide (k<=x.heads.length)).getD false=true):=by
 unfold fC;rw[az];have wi:=λn=>bZ (w:=w) (lo:=1) (hi:=races.length) () (n:=n);constructor
 .intro h;split at h
  .cases h
  .rename_i r GB;obtain⟨r,rfl,h1,h2,h3⟩:=(wi r).mp GB;simp only[fb]at h;split at h
   .rename_i q;split at h
    .cases h;exact⟨r,rfl,h1,h2,h3,λ_=>by omega,λz=>absurd q z⟩
    .cases h
   .rename_i q;split at h
    .rename_i q2;cases h;refine⟨r,rfl,h1,h2,h3,λz=>absurd z q,λ_=>?_⟩;have e:((r:Int)-1).toNat=r-1:=by omega
     rw[e,cU,a_]at q2;cases g:races[r-1]? with
     |none=>exact absurd (List.getElem?_eq_none_iff.mp g) ()
     |some x=>
      rw[g]at q2;simp only[Option.map_some,Option.getD_some,hI,length_map]at q2;simp only[Option.map_some,Option.getD_some,decide_eq_true_eq];omega
    .cases h
 .rintro⟨r,rfl,h1,h2,h3,h4,h5⟩;have:=(wi (r:Int)).mpr ⟨r,rfl,h1,h2,h3⟩;have this:within (cw w) 1 (races.length:Int)=some (r:Int):=this;rw[this];simp only[fb];by_cases q:kd=.legs
  .rw[ag q,ag (by have:=h4 q;omega)]
  .rw[af q,ag];have h5:=h5 q;have e:((r:Int)-1).toNat=r-1:=by omega
   rw[e,cU,a_];cases g:races[r-1]? with
   |none=>exact absurd (List.getElem?_eq_none_iff.mp g) ()
   |some x=>
    rw[g]at h5;simp only[Option.map_some,Option.getD_some,decide_eq_true_eq]at h5;simp only[Option.map_some,Option.getD_some,hI,length_map];omega
def X0{l:List α}(h:l.length=16):∃a0 a1 a2 a3 a4 a5 a6 a7 a8 a9 Nm Jf Nn Jg Np Gz,l=[a0,a1,a2,a3,a4,a5,a6,a7,a8,a9,Nm,Jf,Nn,Jg,Np,Gz]:=by
 obtain⟨a0,r,e,h⟩:=Je h;obtain⟨a1,a2,a3,a4,a5,a6,a7,a8,a9,Nm,Jf,Nn,Jg,Np,Gz,q⟩:=P9 h;exact⟨a0,a1,a2,a3,a4,a5,a6,a7,a8,a9,Nm,Jf,Nn,Jg,Np,Gz,by rw[e,q]⟩
def GC{w:Bytes}:(cw w=ju\/cw w=mU\/cw w=gA)↔∃z,w=yY z:=by
 rw[cw_refund,cw_carry,cw_fewer];constructor
 .rintro(h|h|h)
  .exact⟨.refund,h⟩
  .exact⟨.carry,h⟩
  .exact⟨.fewer,h⟩
 .rintro⟨z,rfl⟩;cases z
  .exact .inl rfl
  .exact .inr (.inl rfl)
  .exact .inr (.inr rfl)
def vE{z:None_}:cw (yY z)=gA↔z=.fewer:=by
 rw[cw_fewer];cases z
 .exact⟨λh=>absurd h ⋯,λh=>by cases h⟩
 .exact⟨λh=>absurd h ⋯,λh=>by cases h⟩
 .exact⟨λ_=>rfl,λ_=>rfl⟩
noncomputable def Lg(a0 a1 a2 a3 a4 a5 a6 a7 a8 a9 Nm Jf Nn Jg Np Gz:List Nat)(races:List (List Int)):Option MP:=
 if(decide (a0=yR)&&(decide (a4=yS)&&(decide (a6=yT)&&(decide (a8=rB)&&(decide (Nm=rC)&&(decide (Nn=yU)&&decide (Np=yV)))))))=false then none else if ji (a1)=false then none else
 match kindB (a2)with
 |none=>none
 |some lh=>match within (a3) lh.1 lh.2 with
  |none=>none
  |some k=>match fC (a5) (a2) k races with
   |none=>none
   |some race=>match within (a7) 0 400 with
    |none=>none
    |some _=>match within (a9) 1 1000 with
     |none=>none
     |some _=>match within (Jg) 1 10000 with
      |none=>none
      |some u=>match within (Jf) 0 (2*u)with
       |none=>none
       |some l=>if¬(l=0\/l≥u)then none else if¬(Gz=ju\/Gz=mU\/Gz=gA)then none else
        if¬(Gz≠gA\/a2≠dA)then none else some ⟨a1,a2,k,race,u⟩
def Lh(hr:races.length<=16):eE (ws.map cw) (races.map hI)=some q↔∃rest x p,ws=ascii "pool"::rest/\Jc races rest x p/\q=mp p:=by
 constructor
 .intro h;have hl:ws.length=16:=by
   by_cases c:(ws.map cw).length=16
   .rw[<-az (f:=cw)];exact c
   .unfold eE at h;rw[ag c]at h;cases h
  obtain⟨a0,a1,a2,a3,a4,a5,a6,a7,a8,a9,Nm,Jf,Nn,Jg,Np,Gz,rfl⟩:=X0 (l:=ws) hl;replace h:Lg (cw a0) (cw a1) (cw a2) (cw a3) (cw a4) (cw a5) (cw a6) (cw a7) (cw a8) (cw a9) (cw Nm) (cw Jf) (cw Nn) (cw Jg) (cw Np) (cw Gz) (races.map hI)=some q:=h;unfold Lg at h;split at h
  .cases h
  rename_i hf;simp only[Bool.not_eq_false,Bool.and_eq_true,decide_eq_true_eq,cw_pool,cw_from,cw_take,cw_break,cw_least,cw_unit,cw_none]at hf;obtain⟨f0,f4,f6,f8,f10,f12,f14⟩:=hf;subst f0 f4 f6 f8 f10 f12 f14;rw[tJ]at h;split at h
  .cases h
  rename_i hn;split at h
  .cases h
  rename_i lh hk;obtain⟨kd,rfl,rfl⟩:=y9.mp hk;split at h
  .cases h
  rename_i k GD;have mk:mostK kd<10000000:=by cases kd<;>decide
  obtain⟨k,rfl,k1,k2,k3⟩:=(bZ (lo:=leastK kd) (hi:=mostK kd) mk).mp GD;split at h
  .cases h
  rename_i race vF;obtain⟨r,rfl,r1,r2,r3,r4,r5⟩:=(qP hr).mp vF;split at h
  .cases h
  rename_i t ht;obtain⟨t,rfl,t1,t2,t3⟩:=(bZ (lo:=0) (hi:=400) ⋯).mp ht;split at h
  .cases h
  rename_i b hb;obtain⟨b,rfl,b1,b2,b3⟩:=(bZ (lo:=1) (hi:=1000) ⋯).mp hb;split at h
  .cases h
  rename_i u hu;obtain⟨u,rfl,u1,u2,u3⟩:=(bZ (lo:=1) (hi:=10000) ⋯).mp hu;split at h
  .cases h
  rename_i l adQ;obtain⟨l,rfl,l1,l2,l3⟩:=(bZ (lo:=0) (hi:=2*u) ()).mp adQ;split at h
  .cases h
  rename_i hlu;split at h
  .cases h
  rename_i hz;obtain⟨z,rfl⟩:=GC.mp (Classical.not_not.mp hz);split at h
  .cases h
  rename_i hzf;cases h;refine⟨_,⟨a1,g9 kd,a3,a5,a7,a9,Jf,Jg,yY z⟩,⟨a1,kd,k,r,z,t,b,l,u⟩,rfl,?_,rfl⟩;exact⟨rfl,rfl,‹hn›,rfl,k1,k2,k3,r1,r2,r3,r4,r5,t1,t3,b1,b2,b3,l1,(by show l<=20000;omega),u1,u2,u3,(by show l=0\/(u<=l/\l<=2*u);omega),rfl,λy=>by
   refine hzf λc=>?_;obtain c|c:=c
   .exact c (vE.mpr y.2)
   .exact c (fZ.mpr y.1)⟩
 .rintro⟨rest,x,p,rfl,P,rfl⟩;rw[P.ws];obtain⟨nm,kd,k,r,z,t,b,m,u⟩:=p;obtain⟨xn,xkd,xk,xr,xt,xb,xm,xu,xz⟩:=x;have e1:xn=nm:=P.name;have e2:xkd=g9 kd:=P.kd;have e3:xz=yY z:=P.z;subst e1 e2 e3;show Lg (cw (ascii "pool")) (cw xn) (cw (g9 kd)) (cw xk) (cw (ascii "from")) (cw xr) (cw (ascii "take")) (cw xt) (cw (ascii "break")) (cw xb) (cw (ascii "least")) (cw xm) (cw (ascii "unit")) (cw xu) (cw (ascii "none")) (cw (yY z)) (races.map hI)=_;unfold Lg;have mk:mostK kd<10000000:=by cases kd<;>decide
  have g1:isName xn=true:=P.Zm;have g2:kindB (cw (g9 kd))=some ((leastK kd:Int),(mostK kd:Int)):=y9.mpr ⟨kd,rfl,rfl⟩;have g3:within (cw xk) (leastK kd:Int) (mostK kd:Int)=some (k:Int):=(bZ (lo:=leastK kd) (hi:=mostK kd) mk).mpr ⟨k,rfl,P.k,P.k1,P.k2⟩;have g4:fC (cw xr) (cw (g9 kd)) (k:Int) (races.map hI)=some (r:Int):=(qP hr).mpr ⟨r,rfl,P.r,P.r1,P.r2,P.legs,P.heads⟩;have g5:within (cw xt) 0 400=some (t:Int):=(bZ (lo:=0) (hi:=400) ⋯).mpr ⟨t,rfl,P.t,cj _,P.t2⟩;have g6:within (cw xb) 1 1000=some (b:Int):=(bZ (lo:=1) (hi:=1000) ⋯).mpr ⟨b,rfl,P.b,P.b1,P.b2⟩;have g7:within (cw xu) 1 10000=some (u:Int):=(bZ (lo:=1) (hi:=10000) ⋯).mpr ⟨u,rfl,P.u,P.u1,P.u2⟩;have pm:=P.mu;have u2:=P.u2;simp only at pm u2;have g8:within (cw xm) 0 (2*(u:Int))=some (m:Int):=(bZ (lo:=0) (hi:=2*u) ()).mpr ⟨m,rfl,P.m,cj _,by omega⟩;have fx:(decide (cw (ascii "pool")=yR)&&(decide (cw (ascii "from")=yS)&&(decide (cw (ascii "take")=yT)&&(decide (cw (ascii "break")=rB)&&(decide (cw (ascii "least")=rC)&&(decide (cw (ascii "unit")=yU)&&decide (cw (ascii "none")=yV)))))))=true:=by decide
  rw[fx,af ⋯,tJ,g1,af ⋯,g2];simp only[g3,g4,g5,g6,g7,g8];rw[af (),af (Classical.not_not.mpr (GC.mpr ⟨z,rfl⟩)),af]
  .rfl
  .intro c;refine c ?_;by_cases q:z=.fewer
   .exact .inr λy=>P.pf ⟨fZ.mp y,q⟩
   .exact .inl λy=>q (vE.mp y)
def aaI(f:α->Option β):cK f []=some []:=rfl
def bK{f:α->Option β}{x:α}{r:List α}:cK f (x::r)=some zs↔∃y ys,f x=some y/\cK f r=some ys/\zs=y::ys:=by
 show(match f x with|none=>none|some y=>match cK f r with|none=>none|some ys=>some (y::ys))=some zs↔_;cases f x with
 |none=>simp
 |some y=>
  cases cK f r with
  |none=>simp
  |some ys=>
   simp only[Option.some.injEq];constructor
   .intro h;exact⟨y,ys,rfl,rfl,h.symm⟩
   .rintro⟨_,_,rfl,rfl,h⟩;exact h.symm
theorem lX{f:α->Option β}{x:α}:∀{l},cK f (l++ [x])=match cK f l with|none=>none|some ys=>match f x with|none=>none|some y=>some (ys++ [y])
 |[]=>by
  show(match f x with|none=>none|some y=>some [y])=_;cases f x<;>rfl
 |a::l=>by
  show(match f a with|none=>none|some y=>match cK f (l++ [x])with|none=>none|some ys=>some (y::ys))=match(match f a with|none=>none|some y=>match cK f l with|none=>none|some ys=>some (y::ys))with|none=>none|some ys=>match f x with|none=>none|some y=>some (ys++ [y])
  cases f a with
  |none=>rfl
  |some y=>
   rw[lX];cases cK f l with
   |none=>rfl|some ys=>cases f x<;>rfl
theorem gD{f:α->Option β}:∀{l}{ys},cK f l=some ys->ys.length=l.length
 |[],ys,h=>by cases h;rfl
 |a::l,ys,h=>by
  obtain⟨y,zs,_,h2,rfl⟩:=bK.mp h;rw[aZ,aZ,gD h2]
theorem vG{f:α->Option β}:∀{l m},cK f l=none->cK f (l++m)=none
 |[],_,h=>by cases h
 |a::l,m,h=>by
  show(match f a with|none=>none|some y=>match cK f (l++m)with|none=>none|some ys=>some (y::ys))=none;have h:(match f a with|none=>none|some y=>match cK f l with|none=>none|some ys=>some (y::ys))=none:=h;cases q:f a with
  |none=>rfl
  |some y=>
   rw[q]at h;cases q2:cK f l with
   |none=>rw[vG q2]|some ys=>rw[q2]at h;cases h
def Qb{v w:Bytes}(hv:isName v=true)(h:cw v=cw w)(hw:isName w=true):v=w:=by
 have p:∀{u:Bytes},isName u=true->u.all (λc=>isSmall c||isDigit c)=true:=λ{u} q=>by
  unfold isName at q;simp only[Bool.and_eq_true]at q;exact q.2.2.1
 have e:∀{u:Bytes},u.all (λc=>isSmall c||isDigit c)=true->cw u=toN u:=λ{u} q=>by
  apply fE;intro c hc;have:=all_eq_true.mp q c hc;exact tH this
 rw[e (p hv),e (p hw)]at h;exact Ld h
noncomputable abbrev cl(l:List Bytes):List (List Nat):=l.map cw
theorem VY:∀ls C0 C,C0.races.length<=16->(C0.pools≠ []\/∀l,ls.head?=some l->l.head?≠some (ascii "race"))->(∀p∈C0.pools,isName p.name=true)->(C0.pools.map (·.name)).Nodup->C0.pools.length<=64->
  ig (some C0) ls (some C)->∃ps,C= {C0 with pools:=C0.pools++ps}/\cK (λws=>eE ws (C0.races.map hI)) (ls.map cl)=some (ps.map mp)/\C.pools.length<=64/\(C.pools.map (·.name)).Nodup/\(∀p∈C.pools,isName p.name=true)
 |[],C0,C,_,_,hn,nd,hl,h=>by
  cases h;exact⟨[],by simp,rfl,hl,nd,hn⟩
 |l::ls,C0,C,hr,hh,hn,nd,hl,h=>by
  obtain⟨u,h1,h2⟩:=h;obtain⟨r,rest,e,e1,_,_,_⟩|⟨p,rest,x,e,e1,e2,e3,P,e4⟩:=h1
  .exfalso;obtain hh|hh:=hh
   .exact hh e1
   .exact hh l rfl (by rw[e];rfl)
  .subst e4;have nd':((C0.pools++ [p]).map (·.name)).Nodup:=by
    rw[ed,pQ];refine⟨nd,by simp,λa ha b hb=>?_⟩;simp at hb;subst hb;rintro rfl;exact e3 ha
   obtain⟨ps,g1,g2,g3,g4,g5⟩:=VY ls {C0 with pools:=C0.pools++ [p]} C hr (.inl ∅) (λq hq=>by
    obtain hq|hq:=mem_append.mp hq
    .exact hn q hq
    .simp at hq;subst hq;exact P.Zm) nd' (by simp;omega) h2
   refine⟨p::ps,by rw[g1];simp,?_,g3,g4,g5⟩;exact bK.mpr ⟨mp p,ps.map mp,(Lh hr).mpr ⟨rest,x,p,e,P,rfl⟩,g2,rfl⟩
theorem Qc:∀ls C0 qs,C0.races≠ []->C0.races.length<=16->(∀p∈C0.pools,isName p.name=true)->cK (λws=>eE ws (C0.races.map hI)) (ls.map cl)=some qs->C0.pools.length+qs.length<=64->
  (C0.pools.map (λp=>cw p.name)++qs.map (·.name)).Nodup->∃ps,qs=ps.map mp/\ig (some C0) ls (some {C0 with pools:=C0.pools++ps})
 |[],C0,qs,_,_,_,h,_,_=>by
  cases h;exact⟨[],rfl,by simp[ig]⟩
 |l::ls,C0,qs,h0,hr,hn,h,hl,nd=>by
  obtain⟨q,qs,h1,h2,rfl⟩:=bK.mp h;obtain⟨rest,x,p,e,P,rfl⟩:=(Lh hr).mp h1;have nd2:((C0.pools++ [p]).map (λp=>cw p.name)++qs.map (·.name)).Nodup:=by
   rw[ed,g_];exact nd
  obtain⟨ps,g1,g2⟩:=Qc ls {C0 with pools:=C0.pools++ [p]} qs h0 hr (λq hq=>by
    obtain hq|hq:=mem_append.mp hq
    .exact hn q hq
    .simp at hq;subst hq;exact P.Zm) h2 (by simp at hl⊢;omega) nd2
  refine⟨p::ps,by rw[g1];rfl,some {C0 with pools:=C0.pools++ [p]},.inr ⟨p,rest,x,e,h0,by simp at hl;omega,λhm=>?_,P,rfl⟩,?_⟩
  .obtain⟨p',hp',e'⟩:=mem_map.mp hm;rw[pQ]at nd;refine nd.2.2 (cw p'.name) (mem_map.mpr ⟨p',hp',rfl⟩) (cw p.name) ?_ (by rw[e']);exact b9
  .have:C0.pools++p::ps=C0.pools++ [p] ++ps:=by simp
   rw[this];exact g2
def rL l:c7 (cl l)=decide (l.head?=some (ascii "race")):=by
 unfold c7;cases l with
 |nil=>rfl
 |cons w r=>
  have:(cl (w::r)).head?=some (cw w):=rfl;rw[this];simp only[Option.some.injEq,head?_cons,cw_race]
theorem VZ:∀ls C0 C,C0.pools=[]->C0.races.length<=16->ig (some C0) ls (some C)->
  ∃rs,cK gB ((ls.map cl).takeWhile c7)=some (rs.map hI)/\C0.races.length+rs.length<=16/\ig (some {C0 with races:=C0.races++rs}) (ls.dropWhile λl=>decide (l.head?=some (ascii "race"))) (some C)
 |[],C0,C,_,hl,h=>⟨[],rfl,‹hl›,‹h›⟩
 |l::ls,C0,C,hp,hl,h=>by
  rw[aJ,mC,mE,rL];by_cases hc:l.head?=some (ascii "race")
  .rw[hX hc,ag rfl,ag rfl];obtain⟨u,h1,h2⟩:=h;obtain⟨r,rest,e,e1,e2,e3,e4⟩|⟨p,rest,x,e,_⟩:=h1
   .subst e4;obtain⟨rs,g1,g2,g3⟩:=VZ ls {C0 with races:=C0.races++ [r]} C hp (by simp;omega) h2;refine⟨r::rs,?_,by simp at g2⊢;omega,‹g3›⟩;refine bK.mpr ⟨hI r,rs.map hI,?_,g1,rfl⟩;obtain⟨_,q⟩|⟨r',q1,q2⟩:=Lf (ascii "race") rest
    .exact absurd e3 (q r)
    .rw[e3.uniq q1];rw[<-q2,e]
   .rw[e]at hc;exact absurd (Option.some.inj hc) ⋯
  .rw[cV hc];exact⟨[],rfl,‹hl›,‹h›⟩
theorem Qe:∀ls C0 hs,C0.pools=[]->cK gB ((ls.map cl).takeWhile c7)=some hs->C0.races.length+hs.length<=16->
  ∃rs,hs=rs.map hI/\∀C,(ig (some {C0 with races:=C0.races++rs}) (ls.dropWhile λl=>decide (l.head?=some (ascii "race"))) (some C)->ig (some C0) ls (some C))
 |[],C0,hs,_,h,_=>by
  cases h;exact⟨[],rfl,λC q=>‹q›⟩
 |l::ls,C0,hs,hp,h,hl=>by
  rw[aJ,mC,rL]at h;rw[mE];by_cases hc:l.head?=some (ascii "race")
  .rw[hX hc,ag rfl]at h;rw[hX hc,ag rfl];obtain⟨y,ys,h1,h2,rfl⟩:=bK.mp h;cases l with
   |nil=>cases hc
   |cons w rest=>
    have hw:=Option.some.inj hc;obtain⟨q,_⟩|⟨r,q1,q2⟩:=Lf w rest
    .have h1:=h1;rw[q]at h1;cases h1
    .have h1:=h1;rw[q2]at h1;cases h1;obtain⟨rs,g1,g2⟩:=Qe ls {C0 with races:=C0.races++ [r]} ys hp h2 (by simp at hl⊢;omega);refine⟨r::rs,by rw[g1];rfl,λC q=>⟨some {C0 with races:=C0.races++ [r]},.inl ⟨r,rest,by rw[hw],hp,by simp at hl;omega,q1,rfl⟩,g2 C ?_⟩⟩;simpa using q
  .rw[cV hc]at h;rw[cV hc];simp only[Bool.false_eq_true,if_false]at h⊢;cases h;exact⟨[],rfl,λC q=>‹q›⟩
def uI b:i7 (cw b)=if(bW 10 [] b).getLast?.getD []=[]then some ((bW 10 [] b).dropLast.map λl=>cl (bW 32 [] l))else none:=by
 unfold i7;have e:cut 10 [] (cw b)=(bW 10 [] b).map cw:=aaG b [];rw[e,getLast?_map];have e2:(Option.map cw (bW 10 [] b).getLast?).getD []=[]↔(bW 10 [] b).getLast?.getD []=[]:=by
  cases(bW 10 [] b).getLast? with
  |none=>simp
  |some x=>
   show cw x=[]↔x=[];unfold cw;rw[map_eq_nil_iff]
 simp only[e2];split
 .congr 1;rw[<-map_dropLast,bQ];apply fE;intro l _;exact aaH l []
 .rfl
def mV{b:Bytes}:bW 10 [] b=ls++ [[]]↔(bW 10 [] b).getLast?.getD []=[]/\ls=(bW 10 [] b).dropLast:=by
 obtain⟨w,ws,h1,_⟩:=ie 10 b [];constructor
 .intro h;rw[h];simp
 .rintro⟨h2,rfl⟩;have ne:bW 10 [] b≠ []:=by rw[h1];simp
  have:=dropLast_concat_getLast ne;rw[getLast?_eq_some_getLast ne]at h2;have h2:(bW 10 [] b).getLast ne=[]:=h2;rw[h2]at this;exact this.symm
def lY(ls:List (List Bytes)):(ls.map cl).dropWhile c7=(ls.dropWhile λl=>decide (l.head?=some (ascii "race"))).map cl:=by
 induction ls with
 |nil=>rfl
 |cons l ls ih=>
  rw[aJ,mE,mE,rL];split
  .exact ih
  .rfl
def Nt(ls:List (List Bytes)):∀l,(ls.dropWhile λl=>decide (l.head?=some (ascii "race"))).head?=some l->l.head?≠some (ascii "race"):=by
 induction ls with
 |nil=>intro l h;cases h
 |cons a r ih=>
  intro l h;rw[mE]at h;by_cases hc:a.head?=some (ascii "race")
  .rw[hX hc,ag rfl]at h;exact ih l h
  .rw[cV hc]at h;have:=Option.some.inj h;subst this;exact hc
def names_nodup{ps:List Pool}(hn:∀p∈ps,isName p.name=true):((ps.map mp).map (·.name)).Nodup↔(ps.map (·.name)).Nodup:=by
 rw[bQ]
 induction ps with
 |nil=>simp
 |cons p ps ih=>
  have ih:=ih λq hq=>hn q (bJ _ hq);rw[aJ,aJ,nodup_cons,nodup_cons,ih];have:((λx:MP=>x.name)∘mp) p∈List.map ((λx:MP=>x.name)∘mp) ps↔p.name∈ps.map (·.name):=by
   rw[mem_map,mem_map];constructor
   .rintro⟨q,h1,h2⟩;exact⟨q,h1,Qb (hn q (bJ _ h1)) h2 (hn p b9)⟩
   .rintro⟨q,h1,h2⟩;refine⟨q,h1,?_⟩;show cw q.name=cw p.name;rw[h2]
  rw[this]
def Li{b:Bytes}(h:readCard b=.ok C):d6 (cw b)=some (C.races.map hI,C.pools.map mp)/\C.races.length<=16:=by
 obtain⟨⟨ls,h1,h2⟩,h3⟩:=kG.mp h;obtain⟨e1,e2⟩:=mV.mp h1;unfold d6;rw[uI,ag e1,<-e2];cases ls with
 |nil=>exact absurd h2 (by simp[ig])
 |cons d ls=>
  obtain⟨u,⟨n,g1,g2,g3⟩,h2⟩:=h2;subst g3;rw[aJ];simp only;have hd:wc (cl (bW 32 [] d))=true:=by
   rw[g1];unfold wc;simp only[cl,map_cons,map_nil,length_cons,length_nil,getD_cons_zero,getD_cons_succ,tJ,g2];decide
  rw[hd,af ⋯];have em:(ls.map λl=>cl (bW 32 [] l))=(ls.map (bW 32 [])).map cl:=by rw[bQ];rfl
  rw[em];obtain⟨rs,r1,r2,r3⟩:=VZ (ls.map (bW 32 [])) {noCard with name:=n} C rfl (cj _) h2;have r2:rs.length<=16:=by simpa[noCard]using r2
  obtain⟨ps,p1,p2,p3,p4,p5⟩:=VY _ _ C (by simpa[noCard]using r2) (.inr (Nt _)) (by simp[noCard]) (by simp[noCard]) (by simp[noCard]) r3;have er:C.races=rs:=by rw[p1];simp[noCard]
  have ep:C.pools=ps:=by rw[p1];simp[noCard]
  have lr:=gD r1;rw[az]at lr;have ne:rs≠ []:=by rw[<-er];exact h3
  have l1:=length_pos_iff.mpr ne;refine⟨?_,by rw[er];exact r2⟩;rw[af (by rw[<-lr];omega),r1];simp only;have lp:=gD p2;rw[az]at lp;rw[lY];have p2':cK (λws=>eE ws (rs.map hI)) ((List.dropWhile (λl=>decide (l.head?=some (ascii "race"))) (ls.map (bW 32 []))).map cl)=some (ps.map mp):=by
   simpa[noCard]using p2
  rw[p2',af (by rw[<-lp,<-ep];omega)];simp only;rw[ag]
  .rw[er,ep]
  .rw[<-ep];exact(names_nodup p5).mpr p4
def Qg{b:Bytes}(h:d6 (cw b)=some (rs,qs)):∃C,readCard b=.ok C/\rs=C.races.map hI/\qs=C.pools.map mp:=by
 unfold d6 at h;rw[uI]at h;split at h
 .cases h
 .cases h
 .rename_i d ls X1;split at X1
  .rename_i e1;split at h
   .cases h
   rename_i hd;split at h
   .cases h
   rename_i hrc;split at h
   .cases h
   rename_i races vF;split at h
   .cases h
   rename_i iD;split at h
   .cases h
   rename_i pools hpo;split at h
   .rename_i nd;cases h;have X1:=Option.some.inj X1;generalize hL:(bW 10 [] b).dropLast=L at X1;cases L with
    |nil=>cases X1
    |cons d0 L=>
     obtain⟨rfl,rfl⟩:=List.cons.inj X1;have em:(L.map λl=>cl (bW 32 [] l))=(L.map (bW 32 [])).map cl:=by rw[bQ];rfl
     rw[em]at vF hrc iD hpo;have hd:wc (cl (bW 32 [] d0))=true:=‹hd›
     obtain⟨n,g1,g2⟩:∃n,bW 32 [] d0=[ascii "day",n]/\isName n=true:=by
      unfold wc at hd;simp only[Bool.and_eq_true,decide_eq_true_eq]at hd;obtain⟨q1,q2,q3⟩:=hd;rw[az]at q1;obtain⟨a,c,e⟩:=Gy q1;rw[e]at q2 q3;have q3:ji (cw c)=true:=q3;rw[tJ]at q3;exact⟨c,by rw[e,(cw_day a).mp q2],q3⟩
     have lr:=gD vF;obtain⟨rl,r1,r2⟩:=Qe (L.map (bW 32 [])) {noCard with name:=n} rs rfl vF (by simp[noCard];omega);have lrl:rl.length=rs.length:=by rw[r1,az]
     have iF:rl≠ []:=λz=>by
      rw[z]at lrl;simp at lrl;omega
     rw[lY]at hpo iD;have lp:=gD hpo;rw[r1]at hpo;obtain⟨ps,p1,p2⟩:=Qc _ {noCard with name:=n,races:=rl} qs iF (by simp;omega) (by simp[noCard]) hpo (by simp[noCard];omega) (by simpa[noCard]using nd);refine⟨⟨n,rl,ps⟩,kG.mpr ⟨⟨d0::L,mV.mpr ⟨e1,hL.symm⟩,some {noCard with name:=n},⟨n,g1,g2,rfl⟩,?_⟩,iF⟩,r1,p1⟩;refine r2 _ ?_;simpa[noCard]using p2
   .cases h
  .cases X1
end Pd
end
variable {q:Pd.MP}
section
namespace Pd
open Tote TotePoolCalls
noncomputable def jU(n:Int)(k:Nat):Int:=(List.range k).foldl (λr (t:Nat)=>r*(n-(t:Int))) 1
noncomputable def jj(races:List (List Int)):Int:=races.foldl (λr (l:List Int)=>r*(l.length:Int)) 1
noncomputable def countM(races:List (List Int))(p:MP):Int:=
 if p.kind=cu then jj ((races.drop (p.race-1).toNat).take p.k.toNat)else
  let n:Int:=((races.getD (p.race-1).toNat []).length:Int)
  if p.kind=dA then n else if p.kind=dB then jU n p.k.toNat else Int.fdiv (jU n p.k.toNat) (jU p.k p.k.toNat)
def y_ n k:jU n (k+1)=jU n k*(n-(k:Int)):=by
 unfold jU;rw[range_succ,sR];rfl
theorem oK:∀n k,(orders n (k+1):Int)=(orders n k:Int)*((n:Int)-(k:Int))
 |0,0=>by simp[orders]|0,k+1=>by simp[orders]
 |n+1,0=>by simp[orders]
 |n+1,k+1=>by
  show(((n+1)*orders n (k+1):Nat):Int)=(((n+1)*orders n k:Nat):Int)*(((n+1:Nat):Int)-((k+1:Nat):Int));have e:((n+1:Nat):Int)-((k+1:Nat):Int)=(n:Int)-(k:Int):=by omega
  rw[e,sI,sI,oK n k,xg]
theorem f7(n:Nat):∀k:Nat,jU (n:Int) k=(orders n k:Int)
 |0=>by
  have:orders n 0=1:=by cases n<;>rfl
  rw[this];rfl
 |k+1=>by rw[y_,f7 n k,oK]
theorem Cv:∀(l:List Race)(a:Nat),(l.map hI).foldl (λr (x:List Int)=>r*(x.length:Int)) (a:Int)=((((l.map Race.heads).map List.length).foldl (λ(x y:Nat)=>x*y) a:Nat):Int)
 |[],a=>rfl
 |r::l,a=>by
  rw[aJ,fG,aJ,aJ,fG,<-Cv l];unfold hI;rw[az,sI]
structure Nu(races:List (List Int))(p:MP):Prop where
 kd:p.kind=dA\/p.kind=dB\/p.kind=jt\/p.kind=cu
 k1:1<=p.k
 k2:p.k<=6
 r1:1<=p.race
 r2:p.race<=(races.length:Int)
 legs:p.kind=cu->p.race+p.k-1<=(races.length:Int)
def dn{w:List Nat}(h:within w lo hi=some n):lo<=n/\n<=hi/\n=dz w:=by
 unfold within at h;split at h
 .rename_i q;cases h;exact⟨q.1,q.2,rfl⟩
 .cases h
def GF(h:eE ws races=some p):Nu races p:=by
 unfold eE at h;split at h
 .cases h
 split at h
 .cases h
 split at h
 .cases h
 split at h
 .cases h
 rename_i lh hk;split at h
 .cases h
 rename_i k GD;split at h
 .cases h
 rename_i race vF;split at h
 .cases h
 split at h
 .cases h
 split at h
 .cases h
 split at h
 .cases h
 split at h
 .cases h
 split at h
 .cases h
 split at h
 .cases h
 cases h;obtain⟨k1,k2,_⟩:=dn GD;have hkd:(ws.getD 2 []=dA\/ws.getD 2 []=dB\/ws.getD 2 []=jt\/ws.getD 2 []=cu)/\1<=lh.1/\lh.2<=6:=by
  unfold kindB at hk;split at hk
  .rename_i q;cases hk;exact⟨.inl q,by decide,by decide⟩
  split at hk
  .rename_i q;cases hk;exact⟨.inr (.inl q),by decide,by decide⟩
  split at hk
  .rename_i q;cases hk;exact⟨.inr (.inr (.inl q)),by decide,by decide⟩
  split at hk
  .rename_i q;cases hk;exact⟨.inr (.inr (.inr q)),by decide,by decide⟩
  cases hk
 unfold fC at vF;split at vF
 .cases vF
 rename_i r hr;obtain⟨r1,r2,_⟩:=dn hr;split at vF
 .split at vF
  .rename_i q2;cases vF;exact⟨hkd.1,by show 1<=k;omega,by show k<=6;omega,r1,r2,λ_=>q2⟩
  .cases vF
 .rename_i q;split at vF
  .cases vF;exact⟨hkd.1,by show 1<=k;omega,by show k<=6;omega,r1,r2,λz=>absurd z q⟩
  .cases vF
theorem oM{f:α->Option β}:∀{l}{ys},cK f l=some ys->∀y∈ys,∃x∈l,f x=some y
 |[],ys,h,y,hy=>by cases h;cases hy
 |a::l,ys,h,y,hy=>by
  obtain⟨z,zs,h1,h2,rfl⟩:=bK.mp h;obtain rfl|hy:=mem_cons.mp hy
  .exact⟨a,b9,h1⟩
  .obtain⟨x,h3,h4⟩:=oM h2 y hy;exact⟨x,bJ _ h3,h4⟩
def count_eq{C:Card}(P:Nu (C.races.map hI) (mp p)):countM (C.races.map hI) (mp p)=(C.many p:Int):=by
 have r1:1<=(p.race:Int):=P.r1;have r2:(p.race:Int)<=((C.races.map hI).length:Int):=P.r2;rw[az]at r2;have e:((mp p).race-1).toNat=p.race-1:=by show((p.race:Int)-1).toNat=_;omega
 have ek:(mp p).k.toNat=p.k:=by show((p.k:Int)).toNat=_;omega
 unfold countM Card.many;rw[e,ek];have hd:∀i,p.legs=i+1->((C.sets p).headD []).length=((C.races.map hI).getD (p.race-1) []).length:=λi hi=>by
  unfold Card.sets;rw[hi,range_succ_eq_map,aJ,headD_cons];unfold Card.headsOf;rw[wQ,cU,a_];cases C.races[p.race-1]? with
  |none=>rfl|some x=>simp[hI]
 obtain⟨nm,kd,k,r,z,t,b,m,u⟩:=p;cases kd with
 |legs=>
  rw[ag (show(mp ⟨nm,.legs,k,r,z,t,b,m,u⟩).kind=cu from fb.mpr rfl)];have hl:(r:Int)+(k:Int)-1<=((C.races.map hI).length:Int):=P.legs (fb.mpr rfl);rw[az]at hl;show jj (((C.races.map hI).drop (r-1)).take k)=((product (((List.range k).map λ(i:Nat)=>C.headsOf (r+i)).map List.length):Nat):Int);have es:((List.range k).map λ(i:Nat)=>C.headsOf (r+i))=((C.races.drop (r-1)).take k).map Race.heads:=by
   apply ext_getElem
   .have r1:1<=(r:Int):=r1;simp only[length_map,length_range,length_take,length_drop];omega
   .intro i h1 h2;have r1:1<=(r:Int):=r1;simp only[getElem_map,getElem_range,getElem_take,getElem_drop];simp only[length_map,length_range]at h1;unfold Card.headsOf;have hb:r-1+i<C.races.length:=by omega
    have e1:r+i-1=r-1+i:=by omega
    rw[e1,bt hb];rfl
  rw[es];unfold jj product;rw[<-map_drop,<-map_take];exact Cv _ 1
 |place=>
  rw[af (show¬(mp ⟨nm,.place,k,r,z,t,b,m,u⟩).kind=cu from λq=>by cases fb.mp q)];simp only;rw[ag (show(mp ⟨nm,.place,k,r,z,t,b,m,u⟩).kind=dA from fZ.mpr rfl)];have:=hd 0 rfl;rw[this]
 |order=>
  rw[af (show¬(mp ⟨nm,.order,k,r,z,t,b,m,u⟩).kind=cu from λq=>by cases fb.mp q)];simp only;rw[af (show¬(mp ⟨nm,.order,k,r,z,t,b,m,u⟩).kind=dA from λq=>by cases fZ.mp q),
   ag (show(mp ⟨nm,.order,k,r,z,t,b,m,u⟩).kind=dB from(by decide:cw (g9 .order)=dB))]
  have:=hd 0 rfl;rw[f7,this]
 |any=>
  rw[af (show¬(mp ⟨nm,.any,k,r,z,t,b,m,u⟩).kind=cu from λq=>by cases fb.mp q)];simp only;rw[af (show¬(mp ⟨nm,.any,k,r,z,t,b,m,u⟩).kind=dA from λq=>by cases fZ.mp q),
   af (show¬(mp ⟨nm,.any,k,r,z,t,b,m,u⟩).kind=dB from(by decide:¬cw (g9 .any)=dB))]
  have:=hd 0 rfl;have ek2:(mp ⟨nm,.any,k,r,z,t,b,m,u⟩).k=(k:Int):=rfl;rw[f7,ek2,f7,this];unfold choose;rw[Int.fdiv_eq_ediv_of_nonneg _ (Int.natCast_nonneg _)];exact Int.ofNat_ediv_ofNat
noncomputable def kH(n:Int):Int->List Int->Bool
 |before,a::b::r=>decide (before<a)&&(decide (a<n)&&(decide (1<=b)&&kH n a r))|_,_=>true
noncomputable def za:List Int->List Int
 |_::b::r=>b::za r|_=>[]
noncomputable def D5(money:List Int):Int:=(za money).sum
noncomputable def fg(money:List Int)(n:Int):Bool:=decide (money.length<=524288)&&(kH n (-1) money&&decide (D5 money<=281474976710655))
theorem vH:∀l a,(∀x∈l,0<=x)->((((PoolNeutral.pairs l).map λ(x:Nat×Nat)=>x.2).foldl (λ(a b:Nat)=>a+b) a:Nat):Int)=(a:Int)+(za l).sum
 |[],a,_=>by simp[PoolNeutral.pairs,za]|[x],a,_=>by simp[PoolNeutral.pairs,za]
 |x::y::r,a,h=>by
  have h2:=h y ∅;show((((PoolNeutral.pairs r).map λ(x:Nat×Nat)=>x.2).foldl (λ(a b:Nat)=>a+b) (a+y.toNat):Nat):Int)=(a:Int)+(y::za r).sum;rw[vH r (a+y.toNat) λz hz=>h z (by simp[hz]),sum_cons];omega
def GH{l:List Int}(h:∀x∈l,0<=x):((Money.total (PoolNeutral.pairs l):Nat):Int)=D5 l:=by
 unfold Money.total D5;rw[vH l 0 h];simp
theorem pairs_len:∀l:List Int,(PoolNeutral.pairs l).length=l.length/2
 |[]=>by simp[PoolNeutral.pairs]|[x]=>by simp[PoolNeutral.pairs]
 |x::y::r=>by
  have:=pairs_len r;simp only[PoolNeutral.pairs,length_cons];omega
theorem Lj{n:Nat}:∀l,(∀x∈l,0<=x)->∀before:Int,kH (n:Int) before l=true↔
  (∀x,(PoolNeutral.pairs l).head?=some x->before<(x.1:Int))/\risesN ((PoolNeutral.pairs l).map λ(x:Nat×Nat)=>x.1)=true/\(PoolNeutral.pairs l).all (λ(x:Nat×Nat)=>decide (x.1<n)&&decide (0<x.2))=true
 |[],_,before=>by simp[kH,PoolNeutral.pairs,risesN]|[x],_,before=>by simp[kH,PoolNeutral.pairs,risesN]
 |x::y::r,h,before=>by
  have hx:=h x ∅;have ih:=Lj (n:=n) r (λz hz=>h z (by simp[hz])) x;show(decide (before<x)&&(decide (x<(n:Int))&&(decide (1<=y)&&kH (n:Int) x r)))=true↔(∀z,some (x.toNat,y.toNat)=some z->before<(z.1:Int))/\risesN (x.toNat::(PoolNeutral.pairs r).map λ(x:Nat×Nat)=>x.1)=true/\((decide (x.toNat<n)&&decide (0<y.toNat))&&(PoolNeutral.pairs r).all (λ(x:Nat×Nat)=>decide (x.1<n)&&decide (0<x.2)))=true;simp only[Bool.and_eq_true,decide_eq_true_eq];rw[ih];have er:risesN (x.toNat::(PoolNeutral.pairs r).map λ(x:Nat×Nat)=>x.1)=true↔(∀z,(PoolNeutral.pairs r).head?=some z->x<(z.1:Int))/\risesN ((PoolNeutral.pairs r).map λ(x:Nat×Nat)=>x.1)=true:=by
   cases PoolNeutral.pairs r with
   |nil=>simp[risesN]
   |cons z zs=>
    show(decide (x.toNat<z.1)&&risesN (z.1::zs.map λ(x:Nat×Nat)=>x.1))=true↔(∀q,some z=some q->x<(q.1:Int))/\risesN (z.1::zs.map λ(x:Nat×Nat)=>x.1)=true;rw[bI,jh];constructor
    .rintro⟨h1,h2⟩;exact⟨λq hq=>by cases hq;omega,h2⟩
    .rintro⟨h1,h2⟩;exact⟨by have:=h1 z rfl;omega,h2⟩
  rw[er];constructor
  .rintro⟨h1,h2,h3,h4,h5,h6⟩;exact⟨λz hz=>by cases hz;show before<((x.toNat:Nat):Int);omega,⟨h4,h5⟩,⟨by omega,by omega⟩,h6⟩
  .rintro⟨h1,⟨h4,h5⟩,⟨h2,h3⟩,h6⟩;have h1:=h1 _ rfl;exact⟨by omega,by omega,by omega,h4,h5,h6⟩
def GI{n:Nat}{l:List Int}(h:∀x∈l,0<=x)(hl:l.length%2=0):fg l (n:Int)=Money.right n (PoolNeutral.pairs l):=by
 rw[jL];unfold fg Money.right;rw[bI,bI,Lj l h (-1)];simp only[Bool.and_eq_true,decide_eq_true_eq];have hp:=pairs_len l;have ht:=GH h;unfold ENTRIES CENTS;constructor
 .rintro⟨h1,⟨_,h2,h3⟩,h4⟩;exact⟨h2,h3,by omega,by omega⟩
 .rintro⟨h2,h3,h4,h5⟩;exact⟨by omega,⟨λx _=>by omega,h2,h3⟩,by omega⟩
noncomputable def qo(card:List Int):List Nat:=card.map λi=>sg i.toNat
def zb(h:∀x∈card,0<=x/\x<=255):qo card=cw (PoolNeutral.text card):=by
 unfold qo cw PoolNeutral.text PoolNeutral.nats;rw[bQ,bQ];apply fE;intro x hx;have:=h x hx;show sg x.toNat=sg (UInt8.ofNat x.toNat).toNat;rw[UInt8.toNat_ofNat',Nat.mod_eq_of_lt ()]
def Qh{ps:List MP}(h:d6 codes=some (rs,ps)):∀p∈ps,Nu rs p:=by
 unfold d6 at h;split at h
 .cases h
 .cases h
 split at h
 .cases h
 split at h
 .cases h
 split at h
 .cases h
 split at h
 .cases h
 split at h
 .cases h
 rename_i hq;split at h
 .cases h;intro p hp;obtain⟨ws,_,h1⟩:=oM hq p hp;exact GF h1
 .cases h
noncomputable def atM(k:Int):List Int->Option Int
 |a::b::r=>if a=k then some b else atM k r
 |_=>none
theorem Qi:∀l:List Int,(∀x∈l,0<=x)->((Money.on (PoolNeutral.pairs l) n:Nat):Int)=(atM (n:Int) l).getD 0
 |[],_=>by rfl|[x],_=>by rfl
 |a::b::r,h=>by
  have ih:=Qi (n:=n) r (λz hz=>h z (by simp[hz]));have ha:=h a ∅;have hb:=h b ∅;show((Money.on ((a.toNat,b.toNat)::PoolNeutral.pairs r) n:Nat):Int)=(if a=(n:Int)then some b else atM n r).getD 0;unfold Money.on at ih⊢;by_cases e:a=(n:Int)
  .rw[ag e,find?_cons_of_pos (by simp[e])];show((b.toNat:Nat):Int)=b;omega
  .rw[af e,find?_cons_of_neg (by simp;omega)];exact ih
end Pd
end
section
namespace L2
open PySem PySem.Spec PyProof.Rows
def adR{us:List α}(h:us.length=0):us=[]:=length_eq_zero_iff.mp h
def Nv{us:List α}(h:us.length=n+1):∃a r,us=a::r/\r.length=n:=by
 cases us with
 |nil=>cases h
 |cons a r=>exact⟨a,r,rfl,Nat.succ.inj h⟩
def oj{us:List α}(h:us.length=1):∃a,us=[a]:=by
 obtain⟨a,r,e,h⟩:=Nv h;rw[e,adR h];exact⟨a,rfl⟩
def mW{us:List α}(h:us.length=2):∃a b,us=[a,b]:=by
 obtain⟨a,r,e,h⟩:=Nv h;obtain⟨b,q⟩:=oj h;exact⟨a,b,by rw[e,q]⟩
def Jj{us:List α}(h:us.length=3):∃a b c,us=[a,b,c]:=by
 obtain⟨a,r,e,h⟩:=Nv h;obtain⟨b,c,q⟩:=mW h;exact⟨a,b,c,by rw[e,q]⟩
def Ui{us:List α}(h:us.length=4):∃a b c d,us=[a,b,c,d]:=by
 obtain⟨a,r,e,h⟩:=Nv h;obtain⟨b,c,d,q⟩:=Jj h;exact⟨a,b,c,d,by rw[e,q]⟩
def aaJ{us:List α}(h:us.length=5):∃a b c d x,us=[a,b,c,d,x]:=by
 obtain⟨a,r,e,h⟩:=Nv h;obtain⟨b,c,d,x,q⟩:=Ui h;exact⟨a,b,c,d,x,by rw[e,q]⟩
def adS{us:List α}(h:us.length=6):∃a b c d x y,us=[a,b,c,d,x,y]:=by
 obtain⟨a,r,e,h⟩:=Nv h;obtain⟨b,c,d,x,y,q⟩:=aaJ h;exact⟨a,b,c,d,x,y,by rw[e,q]⟩
structure Def(K:PySem.W.Frag)(mg:Str->Option Value)(x:Str)(st:Stmt)(ps:List Str):Prop where
 ex:∃f fd,mg x=some (.ref f)/\K9 K x x st f fd/\Binds K fd ps []
structure Ok(P:Program)(w:World)(K:PySem.W.Frag)(mg:Str->Option Value)(base:Heap)(CX:OG)(k:Nat)(x:Str)(ps:List Str)(sp:Sp):Prop where
 ex:∃f fd,oa P w K mg base CX k f fd ps sp/\mg x=some (.ref f)/\PySem.W.keepIn K (.ref f)=true/\Binds K fd ps []
section
variable {k:Nat}
theorem Def.ok(D:Def K mg x st ps)(S:aE N ps (ao st))(len:∀vs H Q E,sp vs H Q E->vs.length=ps.length)(gw:∀f cf A outer s H vs Q E,dX k (A.deeper (envOfC x (ao st) s.heap.objs.size f cf))->sp vs H Q E->
   ∃t,vW (kg eY P w K mg base N x (ao st) f cf A outer s H E).OD (cq st) t/\t {nx:=λ_ H'=>Q .cT H',rt:=Q} (start N vs) H):Ok P w K mg base eY (k+1) x ps sp:=by
 obtain⟨f,fd,hm,F,B⟩:=D.ex;exact⟨f,fd,F.ok S len (gw f),hm,F.kp,B⟩
theorem Def.Cj(D:Def K mg x st ps)(S:aE N ps (ao st))(len:∀vs H Q E,sp vs H Q E->vs.length=ps.length)(gw:∀f cf A outer s H vs Q E,dX k (A.deeper (envOfC x (ao st) s.heap.objs.size f cf))->sp vs H Q E->
   ∃t,vW (kg (fU P w) P w K mg base N x (ao st) f cf A outer s H E) (cq st) t/\t {nx:=λ_ H'=>Q .cT H',rt:=Q} (start N vs) H):Ok P w K mg base (fU P w) (k+1) x ps sp:=by
 obtain⟨f,fd,hm,F,B⟩:=D.ex;exact⟨f,fd,F.Cj S len (gw f),hm,F.kp,B⟩
theorem Def.ok0(D:Def K mg x st ps)(S:aE N ps (ao st))(len:∀vs H Q E,sp vs H Q E->vs.length=ps.length)(gw:∀f cf A outer s H vs Q E,dX k (A.deeper (envOfC x (ao st) s.heap.objs.size f cf))->sp vs H Q E->
   ∃t,DY (kg eY P w K mg base N x (ao st) f cf A outer s H E).OD (cq st) t/\t {nx:=λ_ H'=>Q .cT H',rt:=Q} (start N vs) H):Ok P w K mg base eY (k+1) x ps sp:=by
 obtain⟨f,fd,hm,F,B⟩:=D.ex;exact⟨f,fd,F.ok0 S len (gw f),hm,F.kp,B⟩
end
section
variable {p:Pos}
def ax{k:Nat}{E:XK}{es:List Expr}{t:TA}(G:Ok X.prog X.w X.K X.mg X.base CX k x ps sp)(hr:dX k X.A)(hg:Gl X x)(hx:Passes CX X E)(ha:PA X (e::es) t)(DE:(x==("__debug__":Str))=false:=by decide)(he:starEach (e::es) X.env=(false,eval e X.env)::starEach es X.env:=by rfl)(iD:(backTo pos (starEach es X.env)).any (·.1)=false:=by rfl):
  PE X (.Call (.Name x p) (e::es) [] pos) (BM sp [] E t):=by
 obtain⟨f,fd,F,a,b,c⟩:=G.ex;exact TH F hr hg a b c .nil hx ha DE he iD
structure CL(P:Program)(w:World)(K:PySem.W.Frag)(mg:Str->Option Value)(base:Heap)(x:Str)(C:Addr)(ps:List Str)(sp:Sp)(fs:List Str):Prop where
 ex:∃f fd,Mk K C f/\oa P w K mg base eY 1 f fd ps sp/\Binds K fd ps []
 mg:mg x=some (.ref C)
 cl:FV K C
 no:∀f∈fs,cG K C f
def V0{C:Addr}{fs:List Str}{es:List Expr}{t:TA}(G:CL X.prog X.w X.K X.mg X.base x C ps sp fs)(hr:dX 2 X.A)(hg:Gl X x)(ha:PA X (e::es) t)(DE:(x==("__debug__":Str))=false:=by decide)(he:starEach (e::es) X.env=(false,eval e X.env)::starEach es X.env:=by rfl)(iD:(backTo pos (starEach es X.env)).any (·.1)=false:=by rfl):
  PE X (.Call (.Name x p) (e::es) [] pos) (BO C sp [] E0 t):=by
 obtain⟨f,fd,M,F,B⟩:=G.ex;exact TJ M F hr hg G.mg B .nil cB ha DE he iD
theorem Nw{a b A B:Prop} [Decidable a] [Decidable b]:(if a then(if b then A else B)else B)=(if a/\b then A else B):=by
 by_cases h:a<;>by_cases h':b<;>simp[h,h']
theorem GJ{a b A B:Prop} [Decidable a] [Decidable b]:(if a then A else(if b then A else B))=(if a\/b then A else B):=by
 by_cases h:a<;>by_cases h':b<;>simp[h,h']
def lZ(mg:Str->Option Value)(x:Str)(n:Int):Prop:=∃t,mg x=some (.int n t)
def Uj(mg:Str->Option Value)(x:Str)(y:Str):Prop:=∃t,mg x=some (.str y t)
def cO{n:Int}(h:lZ X.mg x n)(hg:Gl X x)(hd:(x==("__debug__":Str))=false:=by decide):PE X (.Name x pos) (tC (.int n)):=by
 obtain⟨t,e⟩:=h;exact Dv hg e ⟨t,rfl⟩ hd
def qp{y:Str}(h:Uj X.mg x y)(hg:Gl X x)(hd:(x==("__debug__":Str))=false:=by decide):PE X (.Name x pos) (tC (.str y)):=by
 obtain⟨t,e⟩:=h;exact Dv hg e ⟨t,rfl⟩ hd
def mX(h:X.mg x=some (.ref a))(hg:Gl X x)(hd:(x==("__debug__":Str))=false:=by decide):PE X (.Name x pos) (tC (.ref a)):=Dv hg h rfl hd
end
end L2
end
section
namespace L2
open PySem PySem.Spec PyProof.Rows
open Pd (cK lX vG)
section
variable {cd:Value} {outer:List Env} {E:XK}
theorem Qj:(kg CX P w K mg base N qual scope f cd A outer s H E).K=K:=rfl
theorem Qk:(kg CX P w K mg base N qual scope f cd A outer s H E).prog=P:=rfl
theorem Ql:(kg CX P w K mg base N qual scope f cd A outer s H E).w=w:=rfl
end
theorem V1{a b:Int}:Dz (.int a) (.int b)=true:=rfl
theorem qQ{a b:Str}:Dz (.str a) (.str b)=true:=rfl
theorem V2{a b:Bool}:Dz (.bl a) (.bl b)=true:=rfl
theorem V3{a:Int}{b:Str}:Dz (.int a) (.str b)=true:=rfl
theorem V4{a:Str}{b:Int}:Dz (.str a) (.int b)=true:=rfl
theorem X2{a b:Str}:IE (.str a) (.str b)=(a==b):=rfl
def aw.rfl':aw H H:=λ_ _ h=>h
def zc(D:Addr)(H H':Hp):Prop:=∀b o,b≠D->H b=some o->H' b=some o
def aw.new(h:H D=Option.none):aw H (upd H D o):=λb u e=>by
 rw[aB (bG e h)];exact e
def aw.kI(s:aw H H')(h:H D=Option.none):aw H (upd H' D o):=λb u e=>by
 rw[aB (bG e h)];exact s _ _ e
theorem zc.upd:zc D H (upd H D o):=λb u hb e=>by
 rw[aB hb];exact e
def aw.tup(e:aw H H')(h:jP K H a xs):jP K H' a xs:=by
 obtain(h|⟨o,h⟩)|h:=h
 .exact .inl (.inl (e _ _ h))
 .exact .inl (.inr ⟨o,e _ _ h⟩)
 .exact .inr h
theorem bz:∀{l:List α}{i}{x},l[i]?=some x->l.take (i+1)=l.take i++ [x]
 |[],i,x,h=>by simp at h
 |a::l,0,x,h=>by
  have e:=Option.some.inj h;subst e;rfl
 |a::l,i+1,x,h=>by
  have ih:=bz (i:=i) (x:=x) h;show a::l.take (i+1)=a::l.take i++ [x];rw[ih];rfl
def fR(rel:Hp->V->α->Prop)(us:List β) f
  (hlen:us.length=xs.length) (hz:xs.length<=sizeLine) (hD:H1 D=none) (hl:aM K H1 a xs)
  (stab:∀H H' v z,zc D H H'->rel H v z->rel H' v z)
  (hs:∀(i:Nat) x u H',xs[i]?=some x->us[i]?=some u->aw H1 H'->(∃acc,H' D=some (.lst acc))->∀R:VK,(∀y H4 z,f u=some z->aw H' H4->rel H4 y z->R y H4)->te (σ.set j (some x)) H' R)
  (hd:∀H' ys zs,aw H1 H'->H' D=some (.lst ys)->cK f us=some zs->Paired (rel H') ys zs->Qd H'):
  ∃W:Nat->Nat->Hp->Prop,(∃m,W 0 m (upd H1 D (.lst [])))/\∀i m H,W i m H->
   ((O4 K a).stop i H/\Qd H)\/((O4 K a).go i H/\∃Nx:Hp->Prop,(∀H',Nx H'->∃m',m'<m/\W (i+1) m' H')/\∀x H',(O4 K a).FD i H x H'->oy j x (wipe σ [j]) H' λσ2 H2=>wipe σ2 [j]=wipe σ [j]/\F8 σ2 H2 λb H3=>
    if b=true then te σ2 H3 λy H4=>∃acc,H4 D=some (.lst acc)/\acc.length<sizeLine/\Nx (upd H4 D (.lst (acc++ [y])))else Nx H3):=by
 refine T1 (λi H'=>aw H1 H'/\∃ys zs,H' D=some (.lst ys)/\cK f (us.take i)=some zs/\Paired (rel H') ys zs) ⟨aw.new hD,[],[],ak,rfl,.nil⟩ (λi H' _ h=>h.1.seq hl) ?_ ?_
 .rintro i x H' hx ⟨sm,ys,zs,i9,hm,hp⟩;have hi:i<us.length:=by rw[hlen];exact(List.getElem?_eq_some_iff.mp hx).1
  obtain⟨u,hu⟩:∃u,us[i]?=some u:=⟨_,bt hi⟩;have hn:ys.length<sizeLine:=by
   have e1:=Paired.eM hp;have e2:=Pd.gD hm;rw[e1,e2,cW,pM (iA hi)];omega
  refine⟨?_,?_⟩
  .show(((σ.set j none).set j (some x)).set j none)=σ.set j none;rw[pR,pR]
  .show te ((σ.set j none).set j (some x)) H' _;rw[pR];refine hs i x u H' hx hu sm ⟨ys,i9⟩ _ λy H4 z hf s4 r4=>⟨ys,s4 _ _ i9,hn,?_⟩;refine⟨λb o e=>?_,ys++ [y],zs++ [z],ak,?_,?_⟩
   .rw[aB (bG e hD)];exact s4 _ _ (sm _ _ e)
   .rw[bz hu,lX,hm];rw[hf]
   .refine kn (Paired.fT hp λv z h=>stab H' _ v z (λb o hb e=>?_) h) (stab H4 _ y z zc.upd r4);rw[aB hb];exact s4 _ _ e
 .rintro H' ⟨sm,ys,zs,i9,hm,hp⟩;rw[<-hlen,eQ]at hm;exact hd H' ys zs sm i9 hm hp
def Uk{J:It}(rel:Hp->V->α->Prop)(us:List β) f
  (hlen:us.length=xs.length) (hz:xs.length<=sizeLine) (hD:H1 D=none) (hgo:∀i H',aw H1 H'->i<xs.length->J.go i H') (Zk:∀i H' x H2,aw H1 H'->i<xs.length->J.FD i H' x H2->H2=H'/\xs[i]?=some x) (qe:∀H',aw H1 H'->J.stop xs.length H')
  (stab:∀H H' v z,zc D H H'->rel H v z->rel H' v z)
  (hs:∀(i:Nat) x u H',xs[i]?=some x->us[i]?=some u->aw H1 H'->(∃acc,H' D=some (.lst acc))->∀R:VK,(∀y H4 z,f u=some z->aw H' H4->rel H4 y z->R y H4)->te (σ.set j (some x)) H' R)
  (hd:∀H' ys zs,aw H1 H'->H' D=some (.lst ys)->cK f us=some zs->Paired (rel H') ys zs->Qd H'):
  ∃W:Nat->Nat->Hp->Prop,(∃m,W 0 m (upd H1 D (.lst [])))/\∀i m H,W i m H->
   (J.stop i H/\Qd H)\/(J.go i H/\∃Nx:Hp->Prop,(∀H',Nx H'->∃m',m'<m/\W (i+1) m' H')/\∀x H',J.FD i H x H'->oy j x (wipe σ [j]) H' λσ2 H2=>wipe σ2 [j]=wipe σ [j]/\F8 σ2 H2 λb H3=>
    if b=true then te σ2 H3 λy H4=>∃acc,H4 D=some (.lst acc)/\acc.length<sizeLine/\Nx (upd H4 D (.lst (acc++ [y])))else Nx H3):=by
 refine⟨λi m H'=>m=xs.length-i/\i<=xs.length/\aw H1 H'/\∃ys zs,H' D=some (.lst ys)/\cK f (us.take i)=some zs/\Paired (rel H') ys zs,⟨xs.length,by simp,cj _,aw.new hD,[],[],ak,rfl,.nil⟩,?_⟩;rintro i m H' ⟨rfl,hi0,sm,ys,zs,i9,hm,hp⟩;by_cases dQ:i<xs.length
 .refine .inr ⟨hgo i H' sm dQ,λH'=>aw H1 H'/\∃ys zs,H' D=some (.lst ys)/\cK f (us.take (i+1))=some zs/\Paired (rel H') ys zs,λH' p'=>⟨xs.length-(i+1),by omega,rfl,dQ,p'⟩,λx H2 y=>?_⟩;obtain⟨e,hx⟩:=Zk i H' x H2 sm dQ y;subst e;have hi:i<us.length:=by rw[hlen];exact(List.getElem?_eq_some_iff.mp hx).1
  obtain⟨u,hu⟩:∃u,us[i]?=some u:=⟨_,bt hi⟩;have hn:ys.length<sizeLine:=by
   have e1:=Paired.eM hp;have e2:=Pd.gD hm;rw[e1,e2,cW,pM (iA hi)];omega
  refine⟨?_,?_⟩
  .show(((σ.set j none).set j (some x)).set j none)=σ.set j none;rw[pR,pR]
  .show te ((σ.set j none).set j (some x)) H2 _;rw[pR];refine hs i x u H2 hx hu sm ⟨ys,i9⟩ _ λy H4 z hf s4 r4=>⟨ys,s4 _ _ i9,hn,?_⟩;refine⟨λb o e=>?_,ys++ [y],zs++ [z],ak,?_,?_⟩
   .rw[aB (bG e hD)];exact s4 _ _ (sm _ _ e)
   .rw[bz hu,lX,hm];rw[hf]
   .refine kn (Paired.fT hp λv z h=>stab H2 _ v z (λb o hb e=>?_) h) (stab H4 _ y z zc.upd r4);rw[aB hb];exact s4 _ _ e
 .have e:i=xs.length:=by omega
  subst e;rw[<-hlen,eQ]at hm;exact .inl ⟨qe H' sm,hd H' ys zs sm i9 hm hp⟩
def Ny{w:Str}(rel:Hp->V->α->Prop) f
  (hz:w.cps.size<=sizeLine) (hD:H1 D=none) (stab:∀H H' v z,zc D H H'->rel H v z->rel H' v z)
  (hs:∀c H',c∈w.cps.toList->aw H1 H'->(∃acc,H' D=some (.lst acc))->∀R:VK,(∀y H4 z,f c=some z->aw H' H4->rel H4 y z->R y H4)->te (σ.set j (some (.str ⟨#[c]⟩))) H' R)
  (hd:∀H' ys zs,aw H1 H'->H' D=some (.lst ys)->cK f w.cps.toList=some zs->Paired (rel H') ys zs->Qd H'):
  ∃W:Nat->Nat->Hp->Prop,(∃m,W 0 m (upd H1 D (.lst [])))/\∀i m H,W i m H->
   ((Its w).stop i H/\Qd H)\/((Its w).go i H/\∃Nx:Hp->Prop,(∀H',Nx H'->∃m',m'<m/\W (i+1) m' H')/\∀x H',(Its w).FD i H x H'->oy j x (wipe σ [j]) H' λσ2 H2=>wipe σ2 [j]=wipe σ [j]/\F8 σ2 H2 λb H3=>
    if b=true then te σ2 H3 λy H4=>∃acc,H4 D=some (.lst acc)/\acc.length<sizeLine/\Nx (upd H4 D (.lst (acc++ [y])))else Nx H3):=by
 refine Uk (xs:=w.cps.toList.map λc=>V.str ⟨#[c]⟩) rel w.cps.toList f ∅ ‹hz› hD (λi H' _ h=>?_) (λi H' x H2 _ h y=>?_) (λH' _=>?_) stab ?_ hd
 .show i<w.cps.size;simpa using h
 .obtain⟨e,c,hc,rfl⟩:=y;refine⟨e,?_⟩;rw[a_,dv,hc];rfl
 .show w.cps.size<=_;simp
 .intro i x u H' hx hu sm ha R k;rw[a_,hu]at hx;have e:=Option.some.inj hx;subst e;exact hs u H' (bh hu) sm ha R k
end L2
end
section
namespace Pd
open PySem PySem.Spec PyProof.Rows L2 TL
noncomputable abbrev S(w:List Nat):Str:=⟨w.toArray⟩
def aaK x:S (tl x)=x:=by
 simp[S,tl]
def X3 w:tl (S w)=w:=by simp[S,tl]
theorem qR w:(S w).length=w.length:=by
 show(w.toArray).size=_;simp
theorem cS{v w:List Nat}:S v=S w↔v=w:=by
 constructor
 .intro h;rw[<-X3 v,h,X3]
 .intro h;rw[h]
theorem Cw:∀l:List (List Nat),B9 [] l=l.flatten
 |[]=>rfl|[p]=>by simp[B9]
 |p::q::r=>by
  show p++([] ++B9 [] (q::r))=_;rw[Cw (q::r)];simp
def Jk l:Txt.join (Str.ofString "") (l.map λc=>S [c])=S l:=by
 rw[join_eq,<-aaK (Str.join _ _),K5,cS];have e:tl (Str.ofString "")=[]:=by decide+kernel
 rw[e,Cw,bQ]
 induction l with
 |nil=>rfl
 |cons c r ih=>
  rw[aJ,mH,ih];show tl (S [c])++r=_;rfl
theorem D6 c:∀l acc:List Nat,vY [c] 0 acc l=cut c acc l
 |[],acc=>rfl
 |x::r,acc=>by
  show(if pre [c] (x::r)=true then acc::vY [c] ([c].length-1) [] r else vY [c] 0 (acc++ [x]) r)=if x=c then acc::cut c [] r else cut c (acc++ [x]) r
  have e:(pre [c] (x::r)=true)↔x=c:=by
   unfold pre;simp
  by_cases h:x=c
  .rw[ag h,ag (e.mpr h)];show acc::vY [c] 0 [] r=_;rw[D6 c r]
  .rw[af h,af (λz=>h (e.mp z)),D6 c r]
def uJ{y:Str}(hy:tl y=[c])(hk:y.cps.all (·<256)=true) t:Txt.split (S t) y=(cut c [] t).map S:=by
 have e:=M_ (S t) y (by rw[hy];simp) (T8 hk);rw[hy,X3,D6]at e;rw[<-e,bQ]
 conv=>lhs;rw[<-map_id (Txt.split (S t) y)]
 exact fE λx _=>(aaK x).symm
def Ul(w:List Nat):Prop:=w.length<=70000/\∀c∈w,c<128
def V5 n:sg n<128:=by
 unfold sg
 repeat' split
 all_goals omega
theorem zf:∀{l acc},(∀x∈l,x<128)->(∀x∈acc,x<128)->∀w∈cut c acc l,w.length<=acc.length+l.length/\∀x∈w,x<128
 |[],acc,_,ha,w,hw=>by
  have e:w=acc:=by simpa[cut]using hw
  subst e;exact⟨by simp,ha⟩
 |x::r,acc,hl,ha,w,hw=>by
  have hr:=λy hy=>hl y (bJ _ hy);have hw:w∈(if x=c then acc::cut c [] r else cut c (acc++ [x]) r):=hw;split at hw
  .obtain e|hw:=mem_cons.mp hw
   .subst e;exact⟨by simp,ha⟩
   .have:=zf hr ∅ w hw;exact⟨by simp at this⊢;omega,this.2⟩
  .have:=zf hr (by
    intro y hy;obtain h|h:=mem_append.mp hy
    .exact ha y h
    .simp at h;subst h;exact hl y ∅) w hw
   exact⟨by simp at this⊢;omega,this.2⟩
theorem D7:∀{l acc},cut c acc l≠ []
 |[],acc=>by simp[cut]
 |x::r,acc=>by
  show(if x=c then acc::cut c [] r else cut c (acc++ [x]) r)≠ [];split
  .simp
  .exact D7
theorem qt{c:Nat}:∀{l acc:List Nat},(cut c acc l).length<=l.length+1
 |[],acc=>by simp[cut]
 |x::r,acc=>by
  show(if x=c then acc::cut c [] r else cut c (acc++ [x]) r).length<=_;split
  .have:=qt (c:=c) (l:=r) (acc:=[]);simp;omega
  .have:=qt (c:=c) (l:=r) (acc:=acc++ [x]);simp;omega
def bF:70010<=sizeLine:=by rw[cE];decide
theorem Nz{w:List Nat}(h:∀c∈w,c<128):Txt.isdigit (S w)=(!w.isEmpty&&w.all cp):=by
 unfold Txt.isdigit;have e1:(decide ((S w).length>0))=!w.isEmpty:=by
  rw[qR];cases w<;>simp
 rw[e1];congr 1;show w.toArray.all Unicode.isDigit=_;rw[all_toArray];rw[jL,dy,dy];have e:∀c∈w,Unicode.isDigit c=cp c:=λc hc=>by
  rw[cls_isdigit c (h c hc)];have:∀c<128,inR 48 57 ⟨#[c]⟩=cp c:=by decide+kernel
  exact this c (h c hc)
 exact⟨λz c hc=>by rw[<-e c hc];exact z c hc,λz c hc=>by rw[e c hc];exact z c hc⟩
def aaL{w:List Nat}(h:(!w.isEmpty&&w.all cp)=true)(hl:w.length<=4300):intText? (S w)=some (D0 w:Int):=by
 rw[bI]at h;have hd:NumText.AllDigits (S w).cps.toList:=λc hc=>by
  have hc:c∈w:=by simpa[S]using hc
  have:=all_eq_true.mp h.2 c hc;simp[cp]at this;exact this
 have e:=intText_digits (x:=S w) hd (λz=>by
  have z2:w=[]:=by simpa[S]using z
  rw[z2]at h;simp at h) (by rw[qR];exact hl)
 rw[e];congr 2;show NumText.digitsVal w.toArray.toList=_;rw[sJ];unfold NumText.digitsVal D0;have:(λ(acc c:Nat)=>acc*10+(c-48))=λn c=>10*n+(c-48):=by
  funext a c;omega
 first|rw[<-this]|(simp only[<-this])
end Pd
end
local macro_rules | `(tactic| simp? only [$[$xs:simpLemma],*]) => `(tactic| ((try dsimp only [length_cons, length_nil, Nat.reduceAdd, Nat.reduceSub, Nat.sub_self, L2.WK, L2.WL, L2.WM, L2.WN, L2.OW, L2.Tq, L2.WH, L2.FP, L2.p_, L2.V1, L2.qQ, L2.V2, L2.V3, L2.V4, L2.Ts, L2.BO, L2.Qj, L2.Qk, L2.Ql, L2.Xf, L2.Z8, L2.DP, L2.Pw, L2.W7, L2.ipI, L2.PY, L2.Iw, L2.tSl, L2.Ph, L2.DG, L2.Xg, L2.TV, L2.IW, L2.WR, L2.tOr, L2.tM0, L2.tM1, L2.W2, L2.BL, L2.tB, L2.DA, L2.tCB, L2.vx, L2.IB, L2.tC, L2.yn, L2.Tv, L2.tUn, L2.rU, L2.O5, L2.rI, L2.VM, L2.rNe, L2.WZ, L2.VJ, L2.O0, L2.O2, L2.oy, L2.BM, L2.OY, L2.WV, L2.VI, L2.WT, L2.start, List.map, List.replicate, cons_append, nil_append, getElem?_cons_zero, getElem?_cons_succ, set_cons_zero, set_cons_succ, $[$xs:simpLemma],*]); (try simp only [L2.jO, L2.Iu, L2.rm, L2.Du, L2.ym, L2.yl, L2.fH, L2.kU, L2.Ir, L2.Ts, L2.BO, L2.Qj, L2.Qk, L2.Ql, L2.Xf, L2.Z8, L2.DP, L2.Pw, L2.W7, L2.ipI, L2.PY, L2.Iw, L2.tSl, L2.Ph, L2.DG, L2.Xg, L2.TV, L2.IW, L2.WR, L2.tOr, L2.tM0, L2.tM1, L2.W2, L2.BL, L2.tB, L2.DA, L2.tCB, L2.vx, L2.IB, L2.tC, L2.yn, L2.Tv, L2.tUn, L2.rU, L2.O5, L2.rI, L2.VM, L2.rNe, L2.V1, L2.qQ, L2.V2, L2.V3, L2.V4, L2.WZ, L2.VJ, L2.O0, L2.O2, L2.oy, L2.BM, L2.OY, L2.WV, L2.VI, L2.WT, L2.start, List.map, List.replicate, length_cons, length_nil, Nat.sub_self, Nat.reduceAdd, Nat.reduceSub, cons_append, nil_append, append_nil, getElem?_cons_zero, getElem?_cons_succ, set_cons_zero, set_cons_succ, Option.some.injEq, L2.V.int.injEq, L2.V.str.injEq, L2.V.bl.injEq, L2.V.ref.injEq, List.cons.injEq, exists_and_left, exists_and_right, exists_eq_left, exists_eq_left', exists_eq_right, exists_eq, true_and, and_true, exists_eq_right_right, decide_eq_true_eq, Bool.not_eq_true', decide_eq_false_iff_not, Bool.and_eq_true, L2.Nw, L2.GJ, Int.cast_ofNat_Int, Int.natCast_add, Classical.not_not, Bool.false_eq_true, ↓reduceIte, $[$xs:simpLemma],*])))
local macro_rules | `(tactic| ac_nf) => `(tactic| exact ⟨rfl, rfl, rfl, by decide +kernel, rfl, by decide +kernel, by decide +kernel⟩)
section
namespace Pd
open PySem PySem.Spec PyProof.Rows L2 TL
noncomputable def top(i:Nat):Stmt:=PySem.Challenge.pw_poolday_s05_back.main.body.getD i (.Pass ⟨0,0,0,0⟩)
noncomputable abbrev Lk:Stmt:=top 23
structure Tx(mg:Str->Option Value):Prop where
 gE:lZ mg "MOST_PAIRS" 262144
 gF:lZ mg "MOST_CENTS" 281474976710655
 ik:Uj mg "LETTERS" "abcdefghijklmnopqrstuvwxyz"
 md:Uj mg "DIGITS" "0123456789"
 me:Uj mg "STRANGE" "?"
 dq:lZ mg "MOST_NAME_BYTES" 12
 fJ:lZ mg "MOST_DIGITS" 7
 gG:lZ mg "MOST_STAKE" 1000000
 fK:lZ mg "MOST_STAKED" 2147483647
 d7:lZ mg "MOST_NUMBERED" 262144
 fL:lZ mg "LEAST_WORDS" 6
 gH:lZ mg "MOST_RACES" 16
 gI:lZ mg "MOST_POOLS" 64
 d8:lZ mg "LEAST_RUNNERS" 2
 fh:lZ mg "MOST_RUNNERS" 24
 fi:lZ mg "MOST_COUPLES" 8
 iR:lZ mg "MOST_TAKE" 400
 gJ:lZ mg "MOST_BREAK" 1000
 iS:lZ mg "MOST_UNIT" 10000
 fM:lZ mg "POOL_LENGTH" 16
 dr:lZ mg "MOST_CARD_BYTES" 65536
 dN:lZ mg "MOST_BET_BYTES" 4096
 tK:mg "all"=none
 zg:mg "dict"=none
 f9:mg "enumerate"=none
 GK:mg "int"=none
 cv:mg "len"=none
 qS:mg "ord"=none
 iH:mg "range"=none
 Cy:mg "set"=none
 iT:mg "sorted"=none
 GL:mg "sum"=none
 tL:mg "tuple"=none
 zh:mg "zip"=none
section
def Qm:Sp:=λvs H Q _=>∃n:Int,vs=[.int n]/\0<=n/\n<=255/\Q (.str (S [sg n.toNat])) H
def X4:aE ["byte"] ["byte"] (ao Lk):=by ac_nf
def Jl(h:n<26):("abcdefghijklmnopqrstuvwxyz":Str).cps[n]?=some (97+n):=by
 have:∀n<26,("abcdefghijklmnopqrstuvwxyz":Str).cps[n]?=some (97+n):=by decide+kernel
 exact this n h
def NA(h:n<10):("0123456789":Str).cps[n]?=some (48+n):=by
 have:∀n<10,("0123456789":Str).cps[n]?=some (48+n):=by decide+kernel
 exact this n h
theorem c_a:(Str.ofString "a").cps.getD 0 0=97/\(Str.ofString "a").length=1:=by decide+kernel
theorem c_z:(Str.ofString "z").cps.getD 0 0=122/\(Str.ofString "z").length=1:=by decide+kernel
theorem c_0:(Str.ofString "0").cps.getD 0 0=48/\(Str.ofString "0").length=1:=by decide+kernel
theorem c_9:(Str.ofString "9").cps.getD 0 0=57/\(Str.ofString "9").length=1:=by decide+kernel
theorem ND:(Str.ofString "abcdefghijklmnopqrstuvwxyz").length=26:=by decide+kernel
theorem Qn:(Str.ofString "0123456789").length=10:=by decide+kernel
noncomputable def MK:List (Int×List Nat):=[(32,[32]),(10,[10]),(44,[44]),(47,[47])]
def X5:∀n:Nat,n<256->¬(97<=n/\n<=122)->¬(48<=n/\n<=57)->((MK.find? λq=>decide (q.1=(n:Int))).map (·.2)).getD [63]=[sg n]:=by decide+kernel
theorem mk_val:∀(l:List (Int×List Nat)) n,eO (l.map λp=>((Sum.inl p.1:Key),V.str (S p.2))) (Sum.inl n)=((l.find? λq=>decide (q.1=n)).map (·.2)).map λw=>V.str (S w)
 |[],_=>rfl
 |q::l,n=>by
  rw[aJ,KG];by_cases h:q.1=n
  .rw[cz (by rw[h]),hX h];rfl
  .rw[cA (λz=>h (Sum.inl.inj z)),cV h,mk_val l n]
def aaM n (hn:0<=n) (h25:n<=255) (h1:¬(97<=n/\n<=122)) (h2:¬(48<=n/\n<=57)):(eO (MK.map λp=>((Sum.inl p.1:Key),V.str (S p.2))) (Sum.inl n)).getD (.str "?")=.str (S [sg n.toNat]):=by
 have eq:("?":Str)=S [63]:=by decide+kernel
 have h:=X5 n.toNat () () ();rw[sC hn]at h;rw[mk_val,eq,<-h];cases(MK.find? λq=>decide (q.1=n)).map (·.2)<;>rfl
def Um(D:Def K mg "sign_of" Lk ["byte"])(T:Tx mg)(TM:∃dm,mg "MARKS"=some (.ref dm)/\KD P w K dm (MK.map λp=>((Sum.inl p.1:Key),V.str (S p.2)))):Ok P w K mg base eY 1 "sign_of" ["byte"] Qm:=by
 refine D.ok X4 (λvs H Q E h=>?_) (λf cf A outer s H vs Q E hr h=>?_)
 .obtain⟨n,rfl,_⟩:=h;rfl
 .obtain⟨n,rfl,h0,h1,k⟩:=h;obtain⟨dm,Uo,kdm⟩:=TM;refine⟨_,(ah (cR (yz jQ jQ (aC lM (by rfl) T.qS boot_ord (ae bu ai)) (pv 0) (aC lM (by rfl) T.qS boot_ord (ae bu ai))) (au (aI (kx (qp T.ik rfl) (bS gu (pv 0) (aC lM (by rfl) T.qS boot_ord (ae bu ai))) (λ_ _=>rfl)))) bx) (ah (cR (yz jQ jQ (aC lM (by rfl) T.qS boot_ord (ae bu ai)) (pv 0) (aC lM (by rfl) T.qS boot_ord (ae bu ai))) (au (aI (kx (qp T.md rfl) (bS gu (pv 0) (aC lM (by rfl) T.qS boot_ord (ae bu ai))) (λ_ _=>rfl)))) bx) (au (aI (P2 (mX Uo rfl) (pv 0) (qp T.me rfl) ⟨rfl,rfl,rfl,rfl⟩))))),?_⟩;simp? only[c_a,c_z,ND];have en:(n.toNat:Int)=n:=sC h0;refine bo (λa=>?_) (λa=>?_)
  .refine⟨by omega,by omega,by omega,97+(n-97).toNat,Jl (),?_⟩;have e:sg n.toNat=97+(n-97).toNat:=by unfold sg;rw[ag ()];omega
   rw[<-e];exact k
  simp? only[cb,c_0,c_9,Qn];refine bo (λb=>?_) (λb=>?_)
  .refine⟨by omega,by omega,by omega,48+(n-48).toNat,NA (),?_⟩;have e:sg n.toNat=48+(n-48).toNat:=by unfold sg;rw[af (),ag ()];omega
   rw[<-e];exact k
  refine⟨dm,_,rfl,kdm,Sum.inl n,rfl,?_⟩;rw[aaM n h0 h1 () ()];exact k
end
noncomputable abbrev GN:Stmt:=top 24
noncomputable abbrev zi:Stmt:=top 25
noncomputable abbrev GO:Stmt:=top 26
noncomputable abbrev xO:Stmt:=top 27
section
def Jn(K:PySem.W.Frag):Sp:=λvs H Q _=>∃(a:Addr) (ns:List Int),vs=[.ref a]/\aM K H a (ns.map V.int)/\(∀n∈ns,0<=n/\n<=255)/\ns.length<=66000/\∀H',aw H H'->Q (.str (S (ns.map λn=>sg n.toNat))) H'
def Jo:aE ["codes","byte"] ["codes"] (ao GN):=by ac_nf
theorem de{f:α->β}:∀l:List α,cK (λa=>some (f a)) l=some (l.map f)
 |[]=>rfl
 |a::l=>by
  show(match cK (λa=>some (f a)) l with|none=>none|some ys=>some (f a::ys))=_;rw[de l];rfl
def Cz{f:α->V}:∀{ys}{zs},Paired (λv z=>v=f z) ys zs->ys=zs.map f:=by
 intro ys zs h
 induction h with
 |nil=>rfl|cons e _ ih=>rw[e,ih];rfl
def Uq(D:Def K mg "text_of" GN ["codes"])(G1:Ok P w K mg base eY 1 "sign_of" ["byte"] Qm):Ok P w K mg base eY 2 "text_of" ["codes"] (Jn K):=by
 refine D.ok Jo (λvs H Q E h=>?_) (λf cf A outer s H vs Q E hr h=>?_)
 .obtain⟨a,ns,rfl,_⟩:=h;rfl
 .obtain⟨a,ns,rfl,hS,hb,hl,k⟩:=h;refine⟨_,au (aI (T_ bu (ib (own:=[("byte",1)]) rfl Jo.nd (b8 (pv 0)) (bY (N:=["codes","byte"]) (sc:=ao GN) (by decide+kernel)) (λ_ _ _ _ _=>aT (i:=1) Jo.nd rfl (Or.inl rfl)) (λ_ _ _ _ _=>dH)
   (λ_ _ _ _ _=>ax G1 hr rfl cB (ae (pv 1) ai))))),?_⟩
  refine⟨a,rfl,⟨_,hS⟩,λL hL=>?_⟩;refine fR (xs:=ns.map V.int) (λH v (z:Nat)=>v=.str (S [z])) ns (λn=>some (sg n.toNat)) ∅ (by rw[az];exact aX hl (by have:=bF;omega)) hL hS (λ_ _ _ _ _ h=>h) ?_ ?_
  .intro i x u H' hx hu sm _ R k2;have e:x=.int u:=by rw[a_,hu]at hx;exact(Option.some.inj hx).symm
   subst e;have hm:=hb u (bh hu);exact⟨u,rfl,hm.1,hm.2,k2 _ _ _ rfl (λ_ _ h=>h) rfl⟩
  .intro H' ys zs sm i9 hm hp;rw[de]at hm;have e:=Option.some.inj hm;subst e;have e2:=Cz (f:=λz=>V.str (S [z])) hp;subst e2;refine⟨_,L,(ns.map λn=>sg n.toNat).map λc=>S [c],rfl,rfl,.inl (aM.of (by rw[i9];simp only[map_map];rfl)),?_,?_⟩
   .have e3:∀l:List Nat,((l.map λc=>S [c]).map (·.length)).sum=l.length:=λl=>by
     induction l with
     |nil=>rfl
     |cons a r ih=>
      simp only[map_cons,sum_cons,length_cons,ih];show 1+r.length=_;omega
    have e4:(Str.ofString "").length=0:=by decide+kernel
    rw[e3,e4];simp;omega
   .rw[Jk];exact k _ sm
def Words(H:Hp)(a:Addr)(ws:List (List Nat)):Prop:=H a=some (.lst (ws.map λw=>V.str (S w)))/\ws≠ []/\ws.length<=70000/\∀w∈ws,Ul w
def GP(H:Hp)(L:Addr)(ls:List (List (List Nat))):Prop:=ls.length<=70000/\∃as,H L=some (.lst as)/\Paired (λv ws=>∃p,v=.ref p/\Words H p ws) as ls
def Words.same(h:Words H a ws)(s:aw H H'):Words H' a ws:=⟨s _ _ h.1,h.2⟩
theorem GP.same(h:GP H a ls)(s:aw H H'):GP H' a ls:=by
 obtain⟨h0,as,h1,h2⟩:=h;refine⟨h0,as,s _ _ h1,Paired.fT h2 λv ws adT=>?_⟩;obtain⟨p,e,q⟩:=adT;exact⟨p,e,q.same s⟩
def D8:Sp:=λvs H Q _=>∃t:List Nat,vs=[.str (S t)]/\t.length<=66000/\(∀c∈t,c<128)/\
 match i7 t with
 |none=>∀H',aw H H'->Q .cT H'|some ls=>∀H' L,aw H H'->GP H' L ls->Q (.ref L) H'
def xP:aE ["text","lines","line"] ["text"] (ao zi):=by ac_nf
def aaN:tl (Str.ofString "\n")=[10]/\(Str.ofString "\n").cps.all (·<256)=true:=by decide+kernel
def aaO:tl (Str.ofString " ")=[32]/\(Str.ofString " ").cps.all (·<256)=true:=by decide+kernel
theorem Ln:Str.ofString ""=S []:=by decide+kernel
def tM(f:α->β)(l:List α):(l.map f).dropLast=l.dropLast.map f:=by
 induction l with
 |nil=>rfl
 |cons a r ih=>cases r with
  |nil=>rfl|cons b r=>simp only[map_cons,List.dropLast]at ih⊢;rw[ih]
def Qo(D:Def K mg "lines_of" zi ["text"]):Ok P w K mg base eY 2 "lines_of" ["text"] D8:=by
 refine D.ok xP (λvs H Q E h=>?_) (λf cf A outer s H vs Q E hr h=>?_)
 .obtain⟨a,rfl,_⟩:=h;rfl
 .obtain⟨t,rfl,hl,hc,k⟩:=h;refine⟨_,ah (aO (i:=1) xP.nd rfl (Or.inl rfl) (yL (pv 0) bu))
   (ah (cR (bq BK (Xj ye PySem.F.slot_list_pop PySem.F.type_list_pop Xm (pv 1)) bu (aG _)) (au (aI ro)) bx)
   (au (aI (ib (own:=[("line",2)]) rfl xP.nd (b8 (pv 1)) (bY (N:=["text","lines","line"]) (sc:=ao zi) (by decide+kernel)) (λ_ _ _ _ _=>aT (i:=2) xP.nd rfl (Or.inl rfl)) (λ_ _ _ _ _=>dH)
    (λ_ _ _ _ _=>yL (pv 2) bu))))),?_⟩
  have hz:=bF;refine⟨_,_,rfl,rfl,by decide+kernel,by rw[qR];omega,λp hp=>?_⟩;rw[uJ aaN.1 aaN.2];obtain⟨c0,cs,ec⟩:∃init last,cut 10 [] t=init++ [last]:=⟨_,_,(dropLast_concat_getLast D7).symm⟩;have eL:i7 t=if cs=[]then some (c0.map (cut 32 []))else none:=by
   unfold i7;rw[ec];simp
  rw[eL]at k;have aaP:(((cut 10 [] t).map S).map V.str)[(((cut 10 [] t).map S).map V.str).length-1]?=some (.str (S cs)):=by
   rw[ec];simp
  have zj:=zf (c:=10) (acc:=[]) hc ∅;have A_:=qt (c:=10) (acc:=[]) (l:=t);rw[ec]at zj A_;refine⟨.inl ⟨rfl,_,aM.of ak⟩,p,_,_,rfl,rfl,ak,aaP,?_⟩;rw[iC,tM,tM,ec,dropLast_concat];have s1:aw H (upd H p (.lst ((c0.map S).map V.str))):=aw.new hp;rw[Ln];simp only[tC,rNe,qQ,p_,FP,V.str.injEq,cS];by_cases he:cs=[]
  .rw[ag he]at k;simp only[he,decide_true,Bool.not_true,Bool.false_eq_true,if_false];refine⟨p,rfl,⟨_,aM.of ak⟩,λL hL=>?_⟩;refine fR (xs:=(c0.map S).map V.str) (λH v (z:List (List Nat))=>∃q,v=.ref q/\q≠L/\Words H q z) c0 (λc=>some (cut 32 [] c)) ∅ (by simp at A_⊢;omega) hL (aM.of ak) ?_ ?_ ?_
   .rintro H1 H2 v z sb ⟨q,e,n,h1,h2⟩;exact⟨q,e,n,sb _ _ n h1,h2⟩
   .intro i x u H' hx hu sm oN R k2;have e:x=.str (S u):=by
     rw[a_,a_,hu]at hx;exact(Option.some.inj hx).symm
    subst e;have hm:=zj u (w8 _ (bh hu));have Qp:=zf (c:=32) (acc:=[]) hm.2 ∅;have OJ:=qt (c:=32) (acc:=[]) (l:=u);simp at hm;refine⟨_,_,rfl,rfl,by decide+kernel,by rw[qR];omega,λq hq=>?_⟩;rw[uJ aaO.1 aaO.2];obtain⟨acc,oN⟩:=oN;refine k2 _ _ _ rfl (aw.new hq) ⟨q,rfl,λz=>(by rw[z,oN]at hq;cases hq),by rw[ak,bQ];rfl,D7,by omega,λw hw=>?_⟩;have:=Qp w hw;simp at this;exact⟨by omega,this.2⟩
   .intro H' ys zs sm i9 hm hp';rw[de]at hm;have e:=Option.some.inj hm;subst e;refine k H' L (s1.trans sm) ⟨by simp at A_⊢;omega,ys,i9,Paired.fT hp' λv ws ⟨q,e,_,h⟩=>⟨q,e,h⟩⟩
  .rw[af he]at k;simp only[he,decide_false,Bool.not_false,if_true];exact k _ s1
end
section
def D9:Sp:=λvs H Q _=>∃t:List Nat,vs=[.str (S t)]/\Ul t/\∀H',aw H H'->Q (.bl (ji t)) H'
def Jp:aE ["word","sign"] ["word"] (ao GO):=by ac_nf
def mh:bootBuiltins "all"=some (.builtin "all"):=by decide+kernel
theorem vI c:(c∈(Str.ofString "abcdefghijklmnopqrstuvwxyz").cps.toList)↔isLet c=true:=by
 have e:(Str.ofString "abcdefghijklmnopqrstuvwxyz").cps.toList=(List.range 26).map (97+·):=by decide+kernel
 rw[e];simp[isLet];constructor
 .omega
 .intro h;exact⟨c-97,by omega,by omega⟩
theorem Jq c:(c∈(Str.ofString "0123456789").cps.toList)↔cp c=true:=by
 have e:(Str.ofString "0123456789").cps.toList=(List.range 10).map (48+·):=by decide+kernel
 rw[e];simp[cp];constructor
 .rintro⟨a,h,rfl⟩;omega
 .intro h;exact⟨c-48,by omega,by omega⟩
def Ur(D:Def K mg "is_name" GO ["word"])(T:Tx mg):Ok P w K mg base eY 2 "is_name" ["word"] D9:=by
 refine D.ok Jp (λvs H Q E h=>?_) (λf cf A outer s H vs Q E hr h=>?_)
 .obtain⟨a,rfl,_⟩:=h;rfl
 .obtain⟨t,rfl,ht,k⟩:=h;refine⟨_,ah (cR (PW.pt (VH (bq cD (pv 0) bu (aG _)) (OX (bq vt (aC tj (by rfl) T.cv bO (ae (pv 0) ai)) (cO T.dq rfl) (aG _))))) (au (aI vq)) bx)
   (ah (cR (bq Bc (kx (pv 0) aq (λ_ _=>rfl)) (qp T.ik rfl) rfl) (au (aI vq)) bx)
   (au (aI (aC (lV rfl) (by rfl) T.tK mh (ae (ib (own:=[("sign",1)]) rfl Jp.nd (Xy (pv 0)) (bY (N:=["word","sign"]) (sc:=ao GO) (by decide+kernel)) (λ_ _ _ _ _=>aT (i:=1) Jp.nd rfl (Or.inl rfl)) (λ_ _ _ _ _=>dH)
    (λ_ _ _ _ _=>KJ (aU yM (pv 1) (qp T.ik rfl) rfl) (i5 (aU yM (pv 1) (qp T.md rfl) rfl)))) ai))))),?_⟩
  have hz:=bF;have hl:=ht.1;simp? only[Ln,cS,qR];refine bo (λa=>?_) (λa=>?_)
  .subst a;exact k _ (λ_ _ h=>h)
  refine⟨by omega,bo (λb=>?_) (λb=>?_)⟩
  .have e:ji t=false:=by
    unfold ji;rw[cV (show¬t.length<=12 by omega)];simp
   rw[e]at k;exact k _ (λ_ _ h=>h)
  obtain⟨c,r,rfl⟩:=exists_cons_of_ne_nil a;simp? only[cb,qR];refine⟨by omega,by omega,by omega,c,rfl,c,rfl,?_⟩;simp only[vI];refine bo (λd=>?_) (λd=>?_)
  .have e:ji (c::r)=false:=by
    unfold ji;simp only[head?_cons,Option.map_some,Option.getD_some];rw[show isLet c=false by simpa using d];simp
   rw[e]at k;exact k _ (λ_ _ h=>h)
  have d:isLet c=true:=Classical.not_not.mp d;refine⟨_,rfl,λL hL=>?_⟩;refine Ny (w:=S (c::r)) (λH v (z:Bool)=>v=.bl z) (λc=>some (isLet c||cp c)) (by show(c::r).toArray.size<=_;rw[cN];omega) hL (λ_ _ _ _ _ h=>h) ?_ ?_
  .intro c' H' VG sm _ R k2;simp? only[vI,Jq];refine⟨c',rfl,?_⟩;refine bo (λd=>?_) (λd=>?_)
   .exact k2 _ _ _ rfl (λ_ _ h=>h) (by rw[d];rfl)
   .refine⟨c',rfl,k2 _ _ _ rfl (λ_ _ h=>h) ?_⟩;rw[show isLet c'=false by simpa using d];simp
  .intro H' ys zs sm i9 hm hp;rw[de]at hm;have e:=Option.some.inj hm;subst e;have e2:=Cz (f:=λz=>V.bl z) hp;subst e2;refine⟨L,rfl,_,aM.of i9,?_⟩;have e:ji (c::r)=(((S (c::r)).cps.toList.map λc=>isLet c||cp c).all id):=by
    unfold ji;rw[hX (show(c::r).length<=12 by omega)];simp only[head?_cons,Option.map_some,Option.getD_some,d,isEmpty_cons,Bool.not_false,Bool.true_and];show _=(((c::r).toArray.toList.map λc=>isLet c||cp c).all id);rw[sJ,List.all_map];rfl
   rw[<-e];exact k _ sm
def iU:Sp:=λvs H Q _=>∃t:List Nat,vs=[.str (S t)]/\Ul t/\Q (.int (dz t)) H
def Qq:aE ["word"] ["word"] (ao xO):=by ac_nf
def X6:Str.ofString "0"=S [48]:=by decide+kernel
def NF(D:Def K mg "number_of" xO ["word"])(T:Tx mg):Ok P w K mg base eY 1 "number_of" ["word"] iU:=by
 refine D.ok Qq (λvs H Q E h=>?_) (λf cf A outer s H vs Q E hr h=>?_)
 .obtain⟨a,rfl,_⟩:=h;rfl
 .obtain⟨t,rfl,ht,k⟩:=h;refine⟨_,ah (cR (bq vt (aC tj (by rfl) T.cv bO (ae (pv 0) ai)) (cO T.fJ rfl) (aG _)) (au (aI (qN kX aq))) bx)
   (ah (cR (yr (yq (aat PySem.F.slot_str_isdigit PySem.F.type_str_isdigit IT (pv 0)))) (au (aI (qN kX aq))) bx)
   (ah (cR (PW.pt (WU (bq cD (kx (pv 0) aq (λ_ _=>rfl)) bu (aG _)) (Tr (bq BK (pv 0) bu (aG _))))) (au (aI (qN kX aq))) bx)
   (au (aI (BV DV (by rfl) T.GK boot_int (ae (pv 0) ai)))))),?_⟩
  have hz:=bF;have hl:=ht.1;simp? only[qR];refine⟨by omega,bo (λa=>?_) (λa=>?_)⟩
  .have e:dz t= -1:=by unfold dz;rw[ag ()]
   rw[e]at k;exact k
  simp? only[cb,Nz ht.2]
  try refine⟨⟨_,rfl⟩,?_⟩
  refine bo (λb=>?_) (λb=>?_)
  .have e:dz t= -1:=by unfold dz;rw[af (),ag b]
   rw[e]at k;exact k
  have b2:(!t.isEmpty&&t.all cp)=true:=by
   cases q:(!t.isEmpty&&t.all cp)with
   |true=>rfl|false=>exact absurd q b
  obtain⟨c,r,rfl⟩:∃c r,t=c::r:=by
   cases t with
   |nil=>simp at b2|cons c r=>exact⟨c,r,rfl⟩
  refine⟨by omega,by omega,by rw[qR];simp,c,rfl,?_⟩;have e1:((⟨#[c]⟩:Str)=Str.ofString "0"/\¬S (c::r)=Str.ofString "0")↔((c::r).head?=some 48/\(c::r)≠ [48]):=by
   rw[X6,cS,cS];simp
  refine bo (λd=>?_) (λd=>?_)
  .have e:dz (c::r)= -1:=by unfold dz;rw[af (),af b,ag (e1.mp d)]
   rw[e]at k;exact k
  .have e:dz (c::r)=(D0 (c::r):Int):=by unfold dz;rw[af (),af b,af (λz=>d (e1.mpr z))]
   rw[e]at k;exact⟨_,aaL b2 (),by rw[qR];omega,k⟩
end
noncomputable abbrev xQ:Stmt:=top 63
noncomputable abbrev xR:Stmt:=top 64
noncomputable abbrev Us:Stmt:=top 66
noncomputable abbrev D_:Stmt:=top 67
structure Nc(K:PySem.W.Frag)(mg:Str->Option Value)(NC:Addr):Prop where
 mg:mg "NoCard"=some (.ref NC)
 ex:PySem.W.excIn K NC [.type "ValueError",.type "Exception",.type "BaseException",.type "object"] "ValueError.__new__"=true
section
def aD(NC:Addr):Sp:=λvs H Q E=>eD vs λb=>if b=true then Q .cT H else E (.ref NC) none H
def Qr:aE ["holds"] ["holds"] (ao xQ):=by ac_nf
def NI(D:Def K mg "demand" xQ ["holds"])(N:Nc K mg NC):Ok P w K mg base (fU P w) 1 "demand" ["holds"] (aD NC):=by
 refine D.Cj Qr (λvs H Q E h=>?_) (λf cf A outer s H vs Q E hr h=>?_)
 .obtain⟨a,rfl,_⟩:=ym.mp h;rfl
 .obtain⟨b,rfl,k⟩:=ym.mp h;refine⟨_,au (cR (yr (yq (pv 0))) (au (Gs (E:=E) aH rfl rfl N.mg N.ex PySem.F.excBase_ValueError (ae bu ai))) bx),?_⟩;simp? only[cb];refine bo (λa=>?_) (λa=>?_)
  .subst a;exact⟨by have:=bF;omega,k⟩
  .cases b with
   |true=>exact k|false=>exact absurd rfl a
def tN(NC:Addr):Sp:=λvs H Q E=>∃(t:List Nat) (lo hi:Int),vs=[.str (S t),.int lo,.int hi]/\Ul t/\match within t lo hi with
 |some n=>Q (.int n) H|none=>E (.ref NC) none H
def GQ:aE ["word","lowest","highest","number"] ["word","lowest","highest"] (ao xR):=by ac_nf
def NK(D:Def K mg "number_within" xR ["word","lowest","highest"])(G1:Ok P w K mg base eY 1 "number_of" ["word"] iU)(G2:Ok P w K mg base (fU P w) 1 "demand" ["holds"] (aD NC)):
  Ok P w K mg base (fU P w) 2 "number_within" ["word","lowest","highest"] (tN NC):=by
 refine D.Cj GQ (λvs H Q E h=>?_) (λf cf A outer s H vs Q E hr h=>?_)
 .obtain⟨a,lo,hi,rfl,_⟩:=h;rfl
 .obtain⟨t,lo,hi,rfl,ht,k⟩:=h;refine⟨_,ah (aO (i:=3) GQ.nd rfl (Or.inl rfl) (ax G1 hr rfl cB (ae (pv 0) ai)))
   (ah (aQ (ax (E:=E) G2 hr rfl (aW aH) (ae (yy jQ jQ (pv 1) (pv 3) (pv 2)) ai)))
   (au (aI (pv 3)))),?_⟩
  simp? only[cb,iU,aD];refine⟨t,rfl,ht,?_⟩;unfold within at k;refine bo (λa=>?_) (λa=>?_)
  .rw[ag a]at k;exact k
  .rw[af a]at k;exact k
def qu xs (k:Nat):lN xs (some (k:Int)) none=xs.drop k:=by
 unfold lN;rw[HT.DF,HT.Pg];by_cases h:k<=xs.length
 .rw[pM h,q_ ∅]
 .rw[Nat.min_eq_right (),wU (i:=k) (),sV];simp
def GR xs (i j:Nat):lN xs (some (i:Int)) (some (j:Int))=(xs.drop i).take (j-i):=by
 unfold lN;rw[HT.DF,HT.DF];by_cases h:i<=xs.length
 .rw[pM h];by_cases h2:j<=xs.length
  .rw[pM h2]
  .rw[Nat.min_eq_right (),q_ ∅,q_ (by simp;omega)]
 .rw[Nat.min_eq_right (show xs.length<=i by omega),wU (i:=i) (),sV];simp
theorem Words.at(h:Words H a ws){x:List Nat}(e:ws[i]?=some x):OH (ws.map λw=>V.str (S w)) (i:Int)=some (.str (S x))/\Ul x:=
 ⟨eC (by rw[a_,e];rfl),h.2.2.2 x (bh e)⟩
def V6(NC:Addr):Sp:=λvs H Q E=>∃(a:Addr) (ws:List (List Nat)),vs=[.ref a]/\Words H a ws/\∀H',aw H H'->if wc ws=true then Q .cT H' else E (.ref NC) none H'
def aaQ:aE ["words"] ["words"] (ao Us):=by ac_nf
theorem aaR:Str.ofString "day"=S XW:=by decide+kernel
def X7(D:Def K mg "check_day" Us ["words"])(T:Tx mg)(G1:Ok P w K mg base eY 2 "is_name" ["word"] D9)(G2:Ok P w K mg base (fU P w) 1 "demand" ["holds"] (aD NC)):
  Ok P w K mg base (fU P w) 3 "check_day" ["words"] (V6 NC):=by
 refine D.Cj aaQ (λvs H Q E h=>?_) (λf cf A outer s H vs Q E hr h=>?_)
 .obtain⟨a,ws,rfl,_⟩:=h;rfl
 .obtain⟨a,ws,rfl,hw,k⟩:=h;refine⟨_,au (aQ (ax (E:=E) G2 (hr.mono ⋯) rfl (aW aH) (ae (kW (aU cD (aC aA (by rfl) T.cv bO (ae (pv 0) ai)) aq (aG _))
   (kW (aU cD (bH aP (pv 0) aq (λ_ _=>rfl)) bu (aG _)) (i5 (ax G1 hr rfl cB (ae (bH aP (pv 0) aq (λ_ _=>rfl)) ai))))) ai))),?_⟩
  simp? only[cb,D9,aD];refine⟨_,.inl (aM.of hw.1),?_⟩;rw[az];have k0:=k H (λ_ _ h=>h);refine bo (λb=>?_) (λb=>?_)
  .have b:ws.length=2:=by omega
   obtain⟨w0,w1,rfl⟩:=Gy b;have a0:=hw.at (i:=0) rfl;have a1:=hw.at (i:=1) rfl;refine⟨_,aM.of hw.1,_,a0.1,?_⟩;simp only[qQ,V.str.injEq,aaR,cS,true_and];refine bo (λc=>?_) (λc=>?_)
   .refine⟨_,aM.of hw.1,_,a1.1,_,rfl,a1.2,λH' sm=>?_⟩;have e:wc [w0,w1]=ji w1:=by
     unfold wc;simp[c]
    have k1:=k H' sm;rw[e]at k1;exact k1
   .have e:wc [w0,w1]=false:=by
     unfold wc;simp[c]
    rw[e]at k0;exact k0
  .have e:wc ws=false:=by
    unfold wc;rw[cV ()];rfl
   rw[e]at k0;exact k0
def Lq:Sp:=λvs H Q _=>∃(L:Addr) (d:List (List Nat)) (ls:List (List (List Nat))),vs=[.ref L]/\GP H L (d::ls)/\∀H',aw H H'->Q (.int ((ls.takeWhile c7).length:Nat)) H'
def xS:aE ["lines","races","words"] ["lines"] (ao D_):=by ac_nf
theorem X8:Str.ofString "race"=S Lc:=by decide+kernel
theorem takeWhile_all{p:α->Bool}:∀{l:List α},(∀x∈l,p x=true)->l.takeWhile p=l
 |[],_=>rfl
 |a::l,h=>by
  rw[mC,ag (h a ∅),takeWhile_all λx hx=>h x (by simp[hx])]
theorem takeWhile_stop{p:α->Bool}:∀{l:List α}{i}{x},(∀y∈l.take i,p y=true)->l[i]?=some x->p x=false->(l.takeWhile p).length=i
 |[],i,x,_,h,_=>by simp at h
 |a::l,0,x,_,h,hp=>by
  have e:=Option.some.inj h;subst e;rw[mC,af (by rw[hp];exact cg)];rfl
 |a::l,i+1,x,h,hx,hp=>by
  rw[mC,ag (h a ∅),aZ,takeWhile_stop (i:=i) (λy hy=>h y (by simp[hy])) ‹hx› hp]
def Qs(D:Def K mg "count_races" D_ ["lines"]):Ok P w K mg base eY 1 "count_races" ["lines"] Lq:=by
 refine D.ok xS (λvs H Q E h=>?_) (λf cf A outer s H vs Q E hr h=>?_)
 .obtain⟨a,d,ls,rfl,_⟩:=h;rfl
 .obtain⟨L,d,ls,rfl,hL,k⟩:=h;refine⟨_,ah (aO (i:=1) xS.nd rfl (Or.inl rfl) aq)
   (ah (fI hU rfl (b8 (iP kz (pv 0) (iE aq) qg)) (aT (i:=2) xS.nd rfl (Or.inl rfl))
    (ah (cR (bq BK (bH aP (pv 2) aq (λ_ _=>rfl)) bu (aG _)) (au OZ) bx)
    (au (Dx (i:=1) xS.nd rfl (Or.inl rfl) aq O3))))
   (au (aI (pv 1)))),?_⟩
  obtain⟨hn,as,hA,hp⟩:=hL;cases hp with
  |@cons a0 d0 as ls0 h0 hp=>
  refine⟨_,aM.of hA,λp X9=>?_⟩;rw[show((1:Int))=((1:Nat):Int)from rfl,qu];have s1:aw H (upd H p (.lst as)):=aw.new X9;have hlen:=Paired.eM hp;refine⟨p,rfl,⟨_,aM.of ak⟩,iO (K:=K) (a:=p) (xs:=as) (λi σ H'=>∃v:Option V,σ=[some (.ref L),some (.int i),v]/\aw (upd H p (.lst as)) H'/\∀y∈ls.take i,c7 y=true)
   ⟨none,rfl,λ_ _ h=>h,by simp⟩ (λi σ H' _ ⟨_,_,s5,_⟩=>aM.of (s5 _ _ ak)) ?_ ?_⟩
  .rintro i y σ H' hi ⟨v,rfl,s5,ha⟩;obtain⟨ws,Qt,q,rfl,hw⟩:=Paired.at' hp hi;have hw:=(hw.same s1).same s5;obtain⟨w0,wr,rfl⟩:=exists_cons_of_ne_nil hw.2.1;have a0:=hw.at (i:=0) rfl;simp? only[];refine⟨_,aM.of hw.1,_,a0.1,?_⟩;simp only[qQ,V.str.injEq,X8,cS,true_and];refine bo (λb=>?_) (λb=>?_)
   .have e:=takeWhile_stop ha Qt (p:=c7) (by
     unfold c7;simpa using b)
    have k1:=k H' (s1.trans s5);rw[e]at k1;exact k1
   .refine⟨⟨_,rfl⟩,s5,λy hy=>?_⟩;rw[bz Qt]at hy;obtain h|h:=mem_append.mp hy
    .exact ha y h
    .have e:y=w0::wr:=by simpa using h
     subst e;unfold c7;have b:w0=Lc:=Classical.not_not.mp b;simp[b]
  .rintro σ H' ⟨v,rfl,s5,ha⟩;refine ?_;rw[hlen,eQ]at ha;have k1:=k H' (s1.trans s5);rw[takeWhile_all ha]at k1;rw[hlen];exact k1
end
noncomputable abbrev zk:Stmt:=top 68
def GU(kvs:List (Key×V))(ks:List Int):Prop:=∀k:Int,(eO kvs (Sum.inl k)).isSome=decide (k∈ks)
theorem GU.put{ks:List Int}{h:Int}(x:GU kvs ks):GU (putK kvs (Sum.inl h) v) (ks++ [h]):=λk=>by
 rw[Gb];by_cases e:k=h
 .subst e;rw[ag rfl];simp
 .rw[af (λz=>e (Sum.inl.inj z)),x k];simp[e]
def zl [DecidableEq κ] {kvs:List (κ×V)} {k:κ} :(putK kvs k v).length<=kvs.length+1:=by
 unfold putK;split<;>simp
section
def adU(a dh df:Addr)(n:Int)(H:Hp)(ws:List (List Nat))(i:Nat)(σ:L2.St)(H':Hp):Prop:=∃(v4 v5 v6:Option V) (hs fs:List Int) (kh kf:List (Key×V)),
 σ=[some (.ref a),some (.int n),some (.ref dh),some (.ref df),v4,v5,v6,none]/\aw H H'/\H' dh=some (.dK kh)/\H' df=some (.dK kf)/\GU kh hs/\GU kf fs/\kh.length<=i/\kf.length<=i/\
  cC n [] [] (ws.drop 2)=cC n hs fs (ws.drop (2+3*i))
def Words.atZ(h:Words H a ws){z:Int}{x:List Nat}(ez:z=(i:Int))(e:ws[i]?=some x):OH (ws.map λw=>V.str (S w)) z=some (.str (S x))/\Ul x:=by
 rw[ez];exact h.at e
def aaS{l:List α}(h:j+2<l.length):∃a b c,l[j]?=some a/\l[j+1]?=some b/\l[j+2]?=some c/\l.drop j=a::b::c::l.drop (j+3):=by
 refine⟨l[j],l[j+1],l[j+2],bt _,bt _,bt _,?_⟩;rw[mv (show j<l.length by omega),mv (show j+1<l.length by omega),mv (show j+1+1<l.length by omega)]
def GV n fs:fV (n+1) fs=if(1:Int)+(n:Int)∈fs then fV n fs else fV n fs++ [(1:Int)+(n:Int)]:=by
 unfold fV;rw[range_succ,ed,xi];simp only[map_cons,map_nil,filter_cons,filter_nil];by_cases h:(1:Int)+(n:Int)∈fs
 .simp[h]
 .simp[h]
def Qu(NC:Addr):Sp:=λvs H Q E=>∃(a:Addr) (ws:List (List Nat)),vs=[.ref a]/\Words H a ws/\(∀r,gB ws=some r->∀H' b,aw H H'->H' b=some (.lst (r.map V.int))->H b=none->Q (.ref b) H')/\(gB ws=none->∀H',aw H H'->E (.ref NC) none H')
def mY:aE ["words","runners","heads","followers","at","head","follower","runner"] ["words"] (ao zk):=by ac_nf
theorem Qv:Str.ofString "couple"=S xN:=by decide+kernel
def Ut(D:Def K mg "read_race" zk ["words"])(T:Tx mg)(aV:Ok P w K mg base (fU P w) 2 "number_within" ["word","lowest","highest"] (tN NC))(bg:Ok P w K mg base (fU P w) 1 "demand" ["holds"] (aD NC)):
  Ok P w K mg base (fU P w) 3 "read_race" ["words"] (Qu NC):=by
 refine D.Cj mY (λvs H Q E h=>?_) (λf cf A outer s H vs Q E hr h=>?_)
 .obtain⟨a,ws,rfl,_⟩:=h;rfl
 .obtain⟨a,ws,rfl,hw,kQ,kE⟩:=h;have hr1:dX 1 _:=hr.mono (show 1<=2 by decide);have hu:=vz hr;obtain⟨tT,hT,kT⟩:∃tT:TS,vW (kg (fU P w) P w K mg base ["words","runners","heads","followers","at","head","follower","runner"] "read_race" (ao zk) f cf A outer s H E) ((cq zk).drop 3) tT/\
    ∀(w0 w1:List Nat)(r:List (List Nat))(n:Int),ws=w0::w1::r->ws.length%3=2->ws.length<=26->2<=n->n<=24->(gB ws=match cC n [] [] r with|none=>none|some fs=>some (fV n.toNat fs))->tT {nx:=λ_ H'=>Q .cT H',rt:=Q} [some (.ref a),some (.int n),none,none,none,none,none,none] H:=by
   refine⟨_,(ah (aO (i:=2) mY.nd rfl (Or.inl rfl) yG) (ah (aO (i:=3) mY.nd rfl (Or.inr rfl) yG) (ah (fI PassesOwn.leaving rfl (B3 rfl T.iH (ae aq (ae (aC aA (by rfl) T.cv bO (ae (pv 0) ai)) (ae aq ai)))) (aT (i:=4) mY.nd rfl (Or.inl rfl)) (ah (aQ (ax (E:=E) bg (hr.mono ⋯) rfl (aW aH) (ae (aU cD (bH aP (pv 0) (pv 4) (λ_ _=>rfl)) bu (aG _)) ai))) (ah (aO (i:=5) mY.nd rfl (Or.inl rfl) (ax (E:=E) aV (hr.mono ⋯) rfl (aW aH) (ae (bH aP (pv 0) (bS gq (pv 4) aq) (λ_ _=>rfl)) (ae aq (ae (pv 1) ai))))) (ah (aO (i:=6) mY.nd rfl (Or.inl rfl) (ax (E:=E) aV (hr.mono ⋯) rfl (aW aH) (ae (bH aP (pv 0) (bS gq (pv 4) aq) (λ_ _=>rfl)) (ae (bS gq (pv 5) aq) (ae (pv 1) ai))))) (ah (aQ (ax (E:=E) bg (hr.mono ⋯) rfl (aW aH) (ae (yp (lQ hu (pv 5) (pv 3))) ai))) (ah (aQ (ax (E:=E) bg (hr.mono ⋯) rfl (aW aH) (ae (kW (yp (lQ hu (pv 6) (pv 2))) (i5 (yp (lQ hu (pv 6) (pv 3))))) ai))) (ah (xF hu (pv 2) (pv 5) vq rfl) (au (xF hu (pv 3) (pv 6) vq rfl))))))))) (au (aI (ib (own:=[("runner",7)]) rfl mY.nd (BI rfl T.iH (ae aq (ae (bS gq (pv 1) aq) ai))) (bY (N:=["words","runners","heads","followers","at","head","follower","runner"]) (sc:=ao zk) (by decide+kernel)) (λ_ _ _ _ _=>aT (i:=7) mY.nd rfl (Or.inl rfl)) (λ_ _ _ _ _=>(xE (WQ (lQ hu (pv 7) (pv 3))))) (λ_ _ _ _ _=>(pv 7)))))))),λw0 w1 r n ews b1 b2 hn1 Y_ eR=>?_⟩;subst ews;have hz:=bF;have Ci:=hw.2.2.1;simp? only[aD];intro dh hdh df XH;have ndf:df≠dh:=λz=>by rw[z,ak]at XH;cases XH
   have aaT:H df=none:=by rw[aB ndf]at XH;exact XH
   have s2:aw H (upd (upd H dh (.dK [])) df (.dK [])):=(aw.new hdh).kI aaT;have GW:=hw.same s2;obtain⟨m,hm⟩:∃m,r.length=3*m:=⟨r.length/3,by simp at b1;omega⟩;refine⟨a,rfl,_,.inl (aM.of GW.1),2,_,3,m,rfl,?_,?_⟩
   .rw[az];simp only[length_cons]at b2⊢;refine RgC.up ⋯ ⋯ ⋯ ⋯ () () ?_;split<;>omega
   refine yI (adU a dh df n H (w0::w1::r)) ⟨none,none,none,[],[],[],[],rfl,s2,by rw[aB (c6 ndf),ak],ak,λ_=>rfl,λ_=>rfl,aL _,aL _,rfl⟩ ?_ ?_
   .rintro i σ H' hi ⟨v4,v5,v6,hs,fs,kh,kf,rfl,sm,h1,h2,K1,K2,l1,l2,ec⟩;have SH:=hw.same sm;obtain⟨x0,x1,x2,g0,g1,g2,gd⟩:=aaS (l:=w0::w1::r) (j:=2+3*i) (by simp;omega);have q0:=SH.atZ (z:=2+(i:Int)*3) () g0;have q1:=SH.atZ (z:=2+(i:Int)*3+1) () g1;have q2:=SH.atZ (z:=2+(i:Int)*3+2) () g2;rw[gd]at ec;have Jr:∀{x},cC n hs fs (x0::x1::x2::(w0::w1::r).drop (2+3*i+3))=x->cC n [] [] r=x:=λz=>ec.trans z;have Ij:cC n [] [] r=none->E (.ref NC) none H':=λz=>kE (by rw[eR,z]) H' sm;simp? only[aD];refine⟨_,aM.of SH.1,_,q0.1,?_⟩;simp only[qQ,V.str.injEq,Qv,cS,true_and];rw[vD]at Jr;refine bo (λb3=>?_) (λb3=>Ij (Jr (by rw[af b3])));rw[ag b3]at Jr;refine⟨_,aM.of SH.1,_,q1.1,_,_,_,rfl,q1.2,?_⟩;cases e1:within x1 1 n with
    |none=>exact Ij (Jr (by rw[e1]))
    |some h=>
     rw[e1]at Jr;dsimp only at Jr⊢;simp? only[aD];refine⟨_,aM.of SH.1,_,q2.1,_,_,_,rfl,q2.2,?_⟩;cases e2:within x2 (h+1) n with
     |none=>exact Ij (Jr (by rw[e2]))
     |some g=>
      rw[e2]at Jr;dsimp only at Jr⊢;refine⟨_,oh.k (k:=Sum.inl h) h2,?_⟩;rw[K2 h];refine bo (λb4=>?_) (λb4=>Ij (Jr (by rw[ag ‹b4›])));have b4:¬h∈fs:=‹b4›
      rw[af b4]at Jr;refine⟨_,oh.k (k:=Sum.inl g) h1,?_⟩;rw[K1 g];refine bo (λb5=>?_) (λb5=>Ij (Jr (by rw[ag (.inl ‹b5›)])));refine⟨_,oh.k (k:=Sum.inl g) h2,?_⟩;rw[K2 g];refine bo (λb6=>?_) (λb6=>Ij (Jr (by rw[ag (.inr ‹b6›)])));have b5:¬g∈hs:=‹b5›
      have b6:¬g∈fs:=‹b6›
      rw[af (by rintro(z|z);exact b5 z;exact b6 z)]at Jr;have Qw:i<70000:=by simp at Ci;omega
      refine⟨_,Gd.k (k:=Sum.inl h) h1 (),_,Gd.k (k:=Sum.inl g) (by rw[aB ndf];exact h2) (),?_⟩;refine⟨_,_,_,hs++ [h],fs++ [g],_,_,rfl,(sm.kI hdh).kI aaT,by rw[aB (c6 ndf),ak],ak,K1.put,K2.put,?_,?_,Jr rfl⟩
      .have:=zl (kvs:=kh) (k:=Sum.inl h) (v:=V.bl true);omega
      .have:=zl (kvs:=kf) (k:=Sum.inl g) (v:=V.bl true);omega
   .rintro σ H' ⟨v4,v5,v6,hs,fs,kh,kf,rfl,sm,h1,h2,K1,K2,l1,l2,ec⟩;have e0:(w0::w1::r).drop (2+3*m)=[]:=wU (by simp;omega);rw[e0]at ec;have ec:cC n [] [] r=some fs:=ec;rw[ec]at eR;refine⟨1,n+1,rfl,⟨by decide,by decide,by omega,by omega⟩,λL hL=>?_⟩;have Qx:H L=none:=sm.free hL;refine F_ (lo:=1) (n:=(n+1-1).toNat) (λi H2=>aw H' H2/\H2 L=some (.lst ((fV i fs).map V.int))) ⟨aw.new hL,ak⟩ ?_ ?_
    .rintro i H2 hi ⟨OL,hL2⟩;refine⟨rfl,_,oh.k (k:=Sum.inl (1+(i:Int))) (OL _ _ h2),?_⟩;rw[K2];have hlen:(fV i fs).length<=i:=by
      unfold fV;refine aX (ou _ _) ?_;simp
     dsimp only;rw[GV];by_cases mq:(1:Int)+(i:Int)∈fs
     .rw[hX mq,ag mq];exact⟨OL,hL2⟩
     .rw[cV mq,af mq];refine⟨_,hL2,by rw[az];omega,λb o e=>by rw[aB (bG e hL)];exact OL _ _ e,?_⟩;rw[ak,ed];rfl
    .rintro H2 ⟨OL,hL2⟩;refine kQ _ eR _ L (sm.trans OL) ?_ Qx;rw[hL2];congr 4;omega
  refine⟨_,(ah (aQ (ax (E:=E) bg (hr.mono ⋯) rfl (aW aH) (ae (aU cD (bS O7 (aC aA (by rfl) T.cv bO (ae (pv 0) ai)) aq) aq (aG _)) ai))) (ah (aQ (ax (E:=E) bg (hr.mono ⋯) rfl (aW aH) (ae (aU jQ (aC aA (by rfl) T.cv bO (ae (pv 0) ai)) (bS gq aq (bS rq aq (cO T.fi rfl))) (aG _)) ai))) (ah (aO (i:=1) mY.nd rfl (Or.inl rfl) (ax (E:=E) aV (hr.mono ⋯) rfl (aW aH) (ae (bH aP (pv 0) aq (λ_ _=>rfl)) (ae (cO T.d8 rfl) (ae (cO T.fh rfl) ai))))) hT))),?_⟩;have hz:=bF;have Ci:=hw.2.2.1;have Zo:gB ws=none->E (.ref NC) none H:=λz=>kE z H λ_ _ h=>h;simp? only[aD];refine⟨_,.inl (aM.of hw.1),by omega,?_⟩;rw[az];refine bo (λb1=>?_) (λb1=>Zo (by unfold gB;rw[ag (.inl ())]));refine⟨_,.inl (aM.of hw.1),.inl ⋯,?_⟩;rw[az];refine bo (λb2=>?_) (λb2=>Zo (by unfold gB;rw[ag (.inr ())]));obtain⟨w0,w1,r,rfl⟩:∃w0 w1 r,ws=w0::w1::r:=by
   match ws,b1 with
   |[],b1=>simp at b1|[_],b1=>simp at b1
   |w0::w1::r,_=>exact⟨w0,w1,r,rfl⟩
  have a1:=hw.at (i:=1) rfl;refine⟨_,aM.of hw.1,_,a1.1,_,_,_,rfl,a1.2,?_⟩;have eR:gB (w0::w1::r)=match within w1 2 24 with|none=>none|some n=>match cC n [] [] r with|none=>none|some fs=>some (fV n.toNat fs):=by
   unfold gB;rw[af ()];rfl
  cases ew:within w1 2 24 with
  |none=>exact Zo (by rw[eR,ew])
  |some n=>
   have hn:=dn ew;rw[ew]at eR;dsimp only at eR⊢;exact kT w0 w1 r n rfl () () hn.1 hn.2.1 eR
end
noncomputable abbrev qv:Stmt:=top 70
noncomputable abbrev CA:Stmt:=top 69
noncomputable abbrev xT:Stmt:=top 71
noncomputable abbrev jA:Stmt:=inClass (top 62) 0
structure Tg(P:Program)(w:World)(K:PySem.W.Frag)(mg:Str->Option Value):Prop where
 kinds:∃d p1 p2 p3 p4,mg "KINDS"=some (.ref d)/\KD P w K d [(Sum.inr (S dA),.ref p1),(Sum.inr (S dB),.ref p2),(Sum.inr (S jt),.ref p3),(Sum.inr (S cu),.ref p4)]/\
  (∀H,jP K H p1 [.int 1,.int 4])/\(∀H,jP K H p2 [.int 2,.int 4])/\(∀H,jP K H p3 [.int 2,.int 3])/\(∀H,jP K H p4 [.int 2,.int 6])
 words:∃d,mg "POOL_WORDS"=some (.ref d)/\KD P w K d [(Sum.inl 0,.str (S yR)),(Sum.inl 4,.str (S yS)),(Sum.inl 6,.str (S yT)),(Sum.inl 8,.str (S rB)),(Sum.inl 10,.str (S rC)),(Sum.inl 12,.str (S yU)),(Sum.inl 14,.str (S yV))]
 aaU:∃t,mg "NONES"=some (.ref t)/\∀H,jP K H t [.str (S ju),.str (S mU),.str (S gA)]
section
variable {Cc:Addr}
def fW(H:Hp)(v:V)(r:List Int):Prop:=∃p,v=.ref p/\H p=some (.lst (r.map V.int))
def vJ(H:Hp)(R:Addr)(rs:List (List Int)):Prop:=∃as,H R=some (.lst as)/\Paired (fW H) as rs
def fW.same{r:List Int}(h:fW H v r)(s:aw H H'):fW H' v r:=by
 obtain⟨p,e,q⟩:=h;exact⟨p,e,s _ _ q⟩
theorem vJ.same(h:vJ H R rs)(s:aw H H'):vJ H' R rs:=by
 obtain⟨as,e,q⟩:=h;exact⟨as,s _ _ e,Paired.fT q λ_ _ z=>z.same s⟩
noncomputable def mZ{α:Type}(d:α)(l:List α)(kd:List Nat)(k r:Int):List α:=if kd=cu then(l.drop (r-1).toNat).take k.toNat else [l.getD (r-1).toNat d]
noncomputable def CB(Rr:Addr)(q:MP):List (Str×V):=[("name",.str (S q.name)),("kind",.str (S q.kind)),("k",.int q.k),("races",.ref Rr),("unit",.int q.u)]
def oO(Cp:Addr)(H:Hp)(as:List V)(v:V)(q:MP):Prop:=∃p dx Rr,v=.ref p/\H p=some (.ins Cp dx (CB Rr q))/\H Rr=some (.lst (mZ .cT as q.kind q.k q.race))
def jV(Cp:Addr)(H:Hp)(v:V)(rs:List (List Int))(q:MP):Prop:=∃p dx Rr,v=.ref p/\H p=some (.ins Cp dx (CB Rr q))/\vJ H Rr (mZ [] rs q.kind q.k q.race)
def zm(NC:Addr):Sp:=λvs H Q E=>∃(t kd:List Nat) (k:Int) (R:Addr) (as:List V) (rs:List (List Int)),vs=[.str (S t),.str (S kd),.int k,.ref R]/\Ul t/\H R=some (.lst as)/\Paired (fW H) as rs/\1<=k/\k<=6/\
 (∀r,fC t kd k rs=some r->∀H' Rr,aw H H'->H Rr=none->H' Rr=some (.lst (mZ .cT as kd k r))->Q (.ref Rr) H')/\(fC t kd k rs=none->E (.ref NC) none H)
def zo:aE ["word","kind","k","races","race"] ["word","kind","k","races"] (ao qv):=by ac_nf
theorem zp:Str.ofString "legs"=S cu:=by decide+kernel
def GX(D:Def K mg "read_pool_races" qv ["word","kind","k","races"])(T:Tx mg)(aV:Ok P w K mg base (fU P w) 2 "number_within" ["word","lowest","highest"] (tN NC))(bg:Ok P w K mg base (fU P w) 1 "demand" ["holds"] (aD NC)):
  Ok P w K mg base (fU P w) 3 "read_pool_races" ["word","kind","k","races"] (zm NC):=by
 refine D.Cj zo (λvs H Q E h=>?_) (λf cf A outer s H vs Q E hr h=>?_)
 .obtain⟨_,_,_,_,_,_,rfl,_⟩:=h;rfl
 .obtain⟨t,kd,k,R,as,rs,rfl,ht,hA,hp,k1,k6,kQ,kE⟩:=h;refine⟨_,(ah (aO (i:=4) zo.nd rfl (Or.inl rfl) (ax (E:=E) aV (hr.mono ⋯) rfl (aW aH) (ae (pv 0) (ae aq (ae (aC aA (by rfl) T.cv bO (ae (pv 3) ai)) ai))))) (ah (cR (bq cD (pv 1) bu (aG _)) (ah (aQ (ax (E:=E) bg (hr.mono ⋯) rfl (aW aH) (ae (aU jQ (bS gu (bS gq (pv 4) (pv 2)) aq) (aC aA (by rfl) T.cv bO (ae (pv 3) ai)) (aG _)) ai))) (au (aI (iP kz (pv 3) (iE (bS gu (pv 4) aq)) (iE (bS gq (bS gu (pv 4) aq) (pv 2))))))) bx) (ah (aQ (ax (E:=E) bg (hr.mono ⋯) rfl (aW aH) (ae (aU FT (aC aA (by rfl) T.cv bO (ae (bH aP (pv 3) (bS gu (pv 4) aq) (λ_ _=>rfl)) ai)) (pv 2) (aG _)) ai))) (au (aI (gv (ae (bH aP (pv 3) (bS gu (pv 4) aq) (λ_ _=>rfl)) ai))))))),?_⟩;have hlen:=Paired.eM hp;have hz:=bF;simp? only[aD];refine⟨_,.inl (aM.of hA),_,_,_,rfl,ht,?_⟩;unfold fC at kQ kE;rw[hlen];cases e1:within t 1 (rs.length:Int)with
  |none=>
   rw[e1]at kE;exact kE rfl
  |some r=>
   rw[e1]at kQ kE;have hn:=dn e1;obtain⟨j,hj⟩:∃j:Nat,r-1=(j:Int):=⟨(r-1).toNat,by omega⟩;have hjl:j<rs.length:=by omega
   dsimp only at kQ kE⊢;simp only[zp,cS];refine bo (λb=>?_) (λb=>?_)
   .simp only[if_pos b]at kQ kE;simp? only[cb,aD];refine⟨_,.inl (aM.of hA),?_⟩;rw[hlen];refine bo (λc=>?_) (λc=>kE (by rw[af c]));have ec:lN as (some (r-1)) (some (r-1+k))=mZ .cT as kd k r:=by
     have:=GR as j (j+k.toNat);rw[Nat.add_sub_cancel_left]at this;unfold mZ;rw[ag b,show(r-1).toNat=j by omega,<-this,hj];congr 2;omega
    refine⟨_,aM.of hA,λp X9=>?_⟩;rw[ec];exact kQ r (by rw[ag c]) _ p (aw.new X9) X9 ak
   .simp only[if_neg b]at kQ kE;simp? only[cb,aD,oA];obtain⟨v,hv,p,rfl,nX⟩:=Paired.KH hp (bt hjl);refine⟨_,aM.of hA,_,at_of hj hv,_,rfl,_,.inl (aM.of nX),?_⟩;rw[az];have e2:rs.getD (r-1).toNat []=rs[j]:=by
     rw[hj,gk,cU,bt hjl];rfl
    have e3:mZ .cT as kd k r=[V.ref p]:=by
     unfold mZ;rw[af b,hj,gk,cU,hv];rfl
    rw[e2]at kQ kE;refine bo (λc=>?_) (λc=>kE (by rw[af c]));refine⟨_,aM.of hA,_,at_of hj hv,?_,λx hx=>kQ r (by rw[ag c]) _ x (aw.new hx) hx (by rw[ak,e3])⟩;show 1<=_;omega
end
section
variable {Cc:Addr}
theorem gK{f:Str}{v:V}{n:Nat}:∀{fs:List (Str×V)},fs.length<n->(gW f v fs).length<n+1
 |[],h=>by simp[gW];omega
 |(g,x)::r,h=>by
  unfold gW;split
  .simp at h⊢;omega
  .have:=gK (f:=f) (v:=v) (n:=n-1) (fs:=r) (by simp at h;omega);simp at h⊢;omega
def Js{f:Str}:(gW f v []).length<1000:=gK (n:=999) ⋯
def Jt{f g:Str}{u:V}:(gW g u (gW f v [])).length<1000:=gK (n:=999) (gK (n:=998) ⋯)
def Qy{f g h:Str}{u t:V}:(gW h t (gW g u (gW f v []))).length<1000:=gK (n:=999) (gK (n:=998) (gK (n:=997) ⋯))
def X_{f g h j:Str}{u t z:V}:(gW j z (gW h t (gW g u (gW f v [])))).length<1000:=gK (n:=999) (gK (n:=998) (gK (n:=997) (gK (n:=996) ⋯)))
def dD(Cp:Addr):Sp:=λvs H Q _=>∃(p dx Rr:Addr) (q:MP),vs=[.ref p,.str (S q.name),.str (S q.kind),.int q.k,.ref Rr,.int q.u]/\H p=some (.ins Cp dx [])/\∀H',H' p=some (.ins Cp dx (CB Rr q))->(∀b o,H b=some o->b≠p->H' b=some o)->Q .cT H'
def Ju:aE ["self","name","kind","k","races","unit"] ["self","name","kind","k","races","unit"] (ao jA):=by ac_nf
def GY(F:K9 K "__init__" "Pool.__init__" jA f fd)(C:FV K Cp)(n1:cG K Cp "name")(n2:cG K Cp "kind")(n3:cG K Cp "k")(n4:cG K Cp "races")(n5:cG K Cp "unit"):
  oa P w K mg base eY 1 f fd ["self","name","kind","k","races","unit"] (dD Cp):=by
 refine F.ok Ju (λvs H Q E h=>?_) (λcf A outer s H vs Q E hr h=>?_)
 .obtain⟨p,dx,Rr,q,rfl,_⟩:=h;rfl
 .obtain⟨p,dx,Rr,q,rfl,hp,k⟩:=h;refine⟨_,(ah (i6 (pv 0) (pv 1) rfl) (ah (i6 (pv 0) (pv 2) rfl) (ah (i6 (pv 0) (pv 3) rfl) (ah (i6 (pv 0) (pv 4) rfl) (au (i6 (pv 0) (pv 5) rfl)))))),?_⟩;refine⟨p,Cp,dx,[],rfl,hp,C,n1,⋯,?_⟩;refine⟨p,Cp,dx,_,rfl,ak,C,n2,Js,?_⟩;rw[iC];refine⟨p,Cp,dx,_,rfl,ak,C,n3,Jt,?_⟩;rw[iC];refine⟨p,Cp,dx,_,rfl,ak,C,n4,Qy,?_⟩;rw[iC];refine⟨p,Cp,dx,_,rfl,ak,C,n5,X_,?_⟩;rw[iC];refine k _ ?_ λb o e hb=>by rw[aB hb];exact e
  rw[ak];rfl
def zq(Cp:Addr)(H:Hp)(L:Addr)(rv:List V)(ps:List MP):Prop:=ps.length<=70000/\∃as,H L=some (.lst as)/\Paired (oO Cp H rv) as ps
def oO.same(h:oO Cp H rv v q)(s:aw H H'):oO Cp H' rv v q:=by
 obtain⟨p,dx,Rr,e,z,y⟩:=h;exact⟨p,dx,Rr,e,s _ _ z,s _ _ y⟩
theorem jV.same(h:jV Cp H v rs q)(s:aw H H'):jV Cp H' v rs q:=by
 obtain⟨p,dx,Rr,e,z,y⟩:=h;exact⟨p,dx,Rr,e,s _ _ z,y.same s⟩
theorem zq.same{ps:List MP}(h:zq Cp H L rv ps)(s:aw H H'):zq Cp H' L rv ps:=by
 obtain⟨l,as,e,z⟩:=h;exact⟨l,as,s _ _ e,Paired.fT z λ_ _ y=>y.same s⟩
def Lr(kvs:List (Key×V))(ks:List (List Nat)):Prop:=∀k:List Nat,(eO kvs (Sum.inr (S k))).isSome=decide (k∈ks)
theorem Lr.put{ks:List (List Nat)}{h:List Nat}(x:Lr kvs ks):Lr (putK kvs (Sum.inr (S h)) v) (ks++ [h]):=λk=>by
 rw[Gb];by_cases e:k=h
 .subst e;rw[ag rfl];simp
 .rw[af (λz=>e (cS.mp (Sum.inr.inj z))),x k];simp[e]
def GZ(NC Cp:Addr):Sp:=λvs H Q E=>∃(L:Addr) (rv:List V) (ps:List MP),vs=[.ref L]/\zq Cp H L rv ps/\∀H',aw H H'->if(ps.map (·.name)).Nodup then Q .cT H' else E (.ref NC) none H'
def zr:aE ["pools","names","pool"] ["pools"] (ao xT):=by ac_nf
def nY{l:List α}{x:α}(hx:l[i]?=some x)(h:(l.take i).Nodup):(l.take (i+1)).Nodup↔x∉l.take i:=by
 rw[bz hx,pQ];constructor
 .rintro⟨_,_,z⟩ hm;exact z x hm x ∅ rfl
 .intro z;refine⟨h,by simp,λa ha b hb e=>?_⟩;have:b=x:=by simpa using hb
  subst this;subst e;exact z ha
def Be{l:List α}(h:l.Nodup):(l.take i).Nodup:=h.sublist (take_sublist i l)
def NM(D:Def K mg "check_names_differ" xT ["pools"])(C:FV K Cp)(n1:cG K Cp "name")(bg:Ok P w K mg base (fU P w) 1 "demand" ["holds"] (aD NC)):
  Ok P w K mg base (fU P w) 2 "check_names_differ" ["pools"] (GZ NC Cp):=by
 refine D.Cj zr (λvs H Q E h=>?_) (λf cf A outer s H vs Q E hr h=>?_)
 .obtain⟨_,_,_,rfl,_⟩:=h;rfl
 .obtain⟨L,rv,ps,rfl,hL,k⟩:=h;have hu:=vz hr;refine⟨_,(ah (aO (i:=1) zr.nd rfl (Or.inl rfl) yG) (au (fI PassesOwn.leaving rfl (b8 (pv 0)) (aT (i:=2) zr.nd rfl (Or.inl rfl)) (ah (aQ (ax (E:=E) bg (hr.mono ⋯) rfl (aW aH) (ae (yp (lQ hu (bC (pv 2) rfl) (pv 1))) ai))) (au (xF hu (pv 1) (bC (pv 2) rfl) vq rfl)))))),?_⟩;obtain⟨hl,as,hA,hp⟩:=hL;have hlen:=Paired.eM hp;have hz:=bF;intro d hd;refine⟨L,rfl,⟨_,aM.of (aw.new hd _ _ hA)⟩,iO (K:=K) (a:=L) (xs:=as) (λi σ H'=>∃(v:Option V) (kvs:List (Key×V)),σ=[some (.ref L),some (.ref d),v]/\aw H H'/\H' d=some (.dK kvs)/\Lr kvs ((ps.map (·.name)).take i)/\kvs.length<=i/\((ps.map (·.name)).take i).Nodup)
   ⟨none,[],rfl,aw.new hd,ak,λ_=>by simp[eO],aL _,by simp⟩ (λi σ H' _ ⟨_,_,_,s5,_⟩=>aM.of (s5 _ _ hA)) ?_ ?_⟩
  .rintro i y σ H' hi ⟨v,kvs,rfl,s5,h1,K1,l1,nd⟩;obtain⟨q,hq,p,dx,Rr,rfl,nX,_⟩:=Paired.at' hp hi;have nX:=s5 _ _ nX;have Qw:=(List.getElem?_eq_some_iff.mp hq).1;have hqn:(ps.map (·.name))[i]?=some q.name:=by rw[a_,hq];rfl
   refine⟨Cp,dx,_,nX,C,n1,_,rfl,_,oh.k (k:=Sum.inr (S q.name)) h1,?_⟩;rw[K1];refine bo (λb=>?_) (λb=>?_)
   .have b:¬q.name∈(ps.map (·.name)).take i:=by simpa using b
    refine⟨Cp,dx,_,nX,C,n1,_,rfl,_,Gd.k (k:=Sum.inr (S q.name)) h1 (),_,_,rfl,s5.kI hd,ak,?_,?_,(nY hqn nd).mpr b⟩
    .rw[bz hqn];exact K1.put
    .have:=zl (kvs:=kvs) (k:=Sum.inr (S q.name)) (v:=V.bl true);omega
   .have b:q.name∈(ps.map (·.name)).take i:=by simpa using b
    have k1:=k H' s5;rw[af (λz=>(nY hqn nd).mp (Be z) b)]at k1;exact k1
  .rintro σ H' ⟨v,kvs,rfl,s5,h1,K1,l1,nd⟩;have k1:=k H' s5;rw[hlen,<-az (f:=(·.name)),eQ]at nd;rw[ag nd]at k1;exact k1
end
section
variable {Cc:Addr}
noncomputable def PW:List (Int×List Nat):=[(0,yR),(4,yS),(6,yT),(8,rB),(10,rC),(12,yU),(14,yV)]
def zt ws:yW ws=true↔∀p∈PW,ws.getD p.1.toNat []=p.2:=by
 unfold yW PW;simp only[Bool.and_eq_true,decide_eq_true_eq,forall_mem_cons,not_mem_nil,false_imp_iff,implies_true,and_true];exact Iff.rfl
def aaV:∀p∈PW,0<=p.1/\p.1<16:=by decide
def Qz(tp1:∀H,jP K H p1 [.int 1,.int 4])(tp2:∀H,jP K H p2 [.int 2,.int 4])(tp3:∀H,jP K H p3 [.int 2,.int 3])(tp4:∀H,jP K H p4 [.int 2,.int 6]) t:
  (kindB t=none/\eO [((Sum.inr (S dA):Key),V.ref p1),(Sum.inr (S dB),.ref p2),(Sum.inr (S jt),.ref p3),(Sum.inr (S cu),.ref p4)] (Sum.inr (S t))=none)\/
  ∃(lh:Int×Int) (p:Addr),kindB t=some lh/\eO [((Sum.inr (S dA):Key),V.ref p1),(Sum.inr (S dB),.ref p2),(Sum.inr (S jt),.ref p3),(Sum.inr (S cu),.ref p4)] (Sum.inr (S t))=some (.ref p)/\∀H,jP K H p [.int lh.1,.int lh.2]:=by
 have ne:∀{u:List Nat},t≠u->¬((Sum.inr (S u):Key)=Sum.inr (S t)):=λh z=>h (cS.mp (Sum.inr.inj z)).symm;unfold kindB;by_cases h1:t=dA
 .rw[ag h1,h1];exact .inr ⟨_,p1,rfl,cz rfl,tp1⟩
 rw[af h1,cA (ne h1)];by_cases h2:t=dB
 .rw[ag h2,h2];exact .inr ⟨_,p2,rfl,cz rfl,tp2⟩
 rw[af h2,cA (ne h2)];by_cases h3:t=jt
 .rw[ag h3,h3];exact .inr ⟨_,p3,rfl,cz rfl,tp3⟩
 rw[af h3,cA (ne h3)];by_cases h4:t=cu
 .rw[ag h4,h4];exact .inr ⟨_,p4,rfl,cz rfl,tp4⟩
 rw[af h4,cA (ne h4)];exact .inl ⟨rfl,rfl⟩
def QA{t:List Nat}(hk:kindB t=some lh):1<=lh.1/\lh.2<=6:=by
 unfold kindB at hk;split at hk
 .cases hk;decide
 split at hk
 .cases hk;decide
 split at hk
 .cases hk;decide
 split at hk
 .cases hk;decide
 cases hk
noncomputable def V7(ws:List (List Nat))(k race:Int):Option MP:=match within (ws.getD 7 []) 0 400 with
    |none=>none
    |some _=>match within (ws.getD 9 []) 1 1000 with
     |none=>none
     |some _=>match within (ws.getD 13 []) 1 10000 with
      |none=>none
      |some u=>match within (ws.getD 11 []) 0 (2*u)with
       |none=>none
       |some l=>if¬(l=0\/l≥u)then none else if¬(ws.getD 15 []=ju\/ws.getD 15 []=mU\/ws.getD 15 []=gA)then none else
        if¬(ws.getD 15 []≠gA\/ws.getD 2 []≠dA)then none else some ⟨ws.getD 1 [],ws.getD 2 [],k,race,u⟩
def QB(NC Cp:Addr):Sp:=λvs H Q E=>∃(a R:Addr) (ws:List (List Nat)) (rv:List V) (rs:List (List Int)),vs=[.ref a,.ref R]/\Words H a ws/\H R=some (.lst rv)/\Paired (fW H) rv rs/\
 (∀q,eE ws rs=some q->∀H' p dx Rr,aw H H'->H' p=some (.ins Cp dx (CB Rr q))->H' Rr=some (.lst (mZ .cT rv q.kind q.k q.race))->H p=none->H Rr=none->Q (.ref p) H')/\(eE ws rs=none->∀H',aw H H'->E (.ref NC) none H')
def rM:aE ["words","races","at","kind","k","own_races","unit","least"] ["words","races"] (ao CA):=by ac_nf
def Uu(D:Def K mg "read_pool" CA ["words","races"])(T:Tx mg)(TG:Tg P w K mg)(qw:Ok P w K mg base eY 2 "is_name" ["word"] D9)(aV:Ok P w K mg base (fU P w) 2 "number_within" ["word","lowest","highest"] (tN NC))(bg:Ok P w K mg base (fU P w) 1 "demand" ["holds"] (aD NC))(gL:Ok P w K mg base (fU P w) 3 "read_pool_races" ["word","kind","k","races"] (zm NC))(aS:CL P w K mg base "Pool" Cp ["self","name","kind","k","races","unit"] (dD Cp) ["name","kind","k","races","unit"]):
  Ok P w K mg base (fU P w) 4 "read_pool" ["words","races"] (QB NC Cp):=by
 refine D.Cj rM (λvs H Q E h=>?_) (λf cf A outer s H vs Q E hr h=>?_)
 .obtain⟨_,_,_,_,_,rfl,_⟩:=h;rfl
 .obtain⟨a,R,ws,rv,rs,rfl,hw,hA,hR,kQ,kE⟩:=h;have hu:=vz hr;obtain⟨dk,p1,p2,p3,p4,Ea,kdk,tp1,tp2,tp3,tp4⟩:=TG.kinds;obtain⟨dw,tO,kdw⟩:=TG.words;obtain⟨tn,Uv,stn⟩:=TG.aaU;have uK:ws.length=16->∀i:Nat,i<16->ws[i]?=some (ws.getD i []):=λb1 i hi=>by
   rw[cU,bt ()];rfl
  obtain⟨tT,hT,kT⟩:∃tT:TS,vW (kg (fU P w) P w K mg base ["words","races","at","kind","k","own_races","unit","least"] "read_pool" (ao CA) f cf A outer s H E) ((cq CA).drop 7) tT/\
    ∀(v:Option V)(k race:Int)(H2:Hp)(Rr:Addr),ws.length=16->aw H H2->H Rr=none->H2 Rr=some (.lst (mZ .cT rv (ws.getD 2 []) k race))->eE ws rs=V7 ws k race->tT {nx:=λ_ H'=>Q .cT H',rt:=Q} [some (.ref a),some (.ref R),v,some (.str (S (ws.getD 2 []))),some (.int k),some (.ref Rr),none,none] H2:=by
   refine⟨_,(ah (aQ (ax (E:=E) aV (hr.mono ⋯) rfl (aW aH) (ae (bH aP (pv 0) aq (λ_ _=>rfl)) (ae aq (ae (cO T.iR rfl) ai))))) (ah (aQ (ax (E:=E) aV (hr.mono ⋯) rfl (aW aH) (ae (bH aP (pv 0) aq (λ_ _=>rfl)) (ae aq (ae (cO T.gJ rfl) ai))))) (ah (aO (i:=6) rM.nd rfl (Or.inl rfl) (ax (E:=E) aV (hr.mono ⋯) rfl (aW aH) (ae (bH aP (pv 0) aq (λ_ _=>rfl)) (ae aq (ae (cO T.iS rfl) ai))))) (ah (aO (i:=7) rM.nd rfl (Or.inl rfl) (ax (E:=E) aV (hr.mono ⋯) rfl (aW aH) (ae (bH aP (pv 0) aq (λ_ _=>rfl)) (ae aq (ae (bS rq aq (pv 6)) ai))))) (ah (aQ (ax (E:=E) bg (hr.mono ⋯) rfl (aW aH) (ae (KJ (aU cD (pv 7) aq (aG _)) (i5 (aU FT (pv 7) (pv 6) (aG _)))) ai))) (ah (aQ (ax (E:=E) bg (hr.mono ⋯) rfl (aW aH) (ae (aU uA (bH aP (pv 0) aq (λ_ _=>rfl)) (mX Uv rfl) rfl) ai))) (ah (aQ (ax (E:=E) bg (hr.mono ⋯) rfl (aW aH) (ae (KJ (aU BK (bH aP (pv 0) aq (λ_ _=>rfl)) bu (aG _)) (i5 (aU BK (pv 3) bu (aG _)))) ai))) (au (aI (V0 aS (hr.mono ⋯) rfl (ae (bH aP (pv 0) aq (λ_ _=>rfl)) (ae (pv 3) (ae (pv 4) (ae (pv 5) (ae (pv 6) ai))))))))))))))),λv k race H2 Rr b1 OL nR hRr pm=>?_⟩;replace uK:=uK b1;unfold V7 at pm;simp? only[aD];have GW:=hw.same OL;have Ij:eE ws rs=none->E (.ref NC) none H2:=λz=>kE z H2 OL;have q7:=GW.at (uK 7 ⋯);refine⟨_,aM.of GW.1,_,q7.1,_,_,_,rfl,q7.2,?_⟩;cases e7:within (ws.getD 7 []) 0 400 with
   |none=>exact Ij (by rw[pm,e7])
   |some tk=>
   rw[e7]at pm;dsimp only at pm⊢;have q9:=GW.at (uK 9 ⋯);refine⟨_,aM.of GW.1,_,q9.1,_,_,_,rfl,q9.2,?_⟩;cases e9:within (ws.getD 9 []) 1 1000 with
   |none=>exact Ij (by rw[pm,e9])
   |some bk=>
   rw[e9]at pm;dsimp only at pm⊢;have q13:=GW.at (uK 13 ⋯);refine⟨_,aM.of GW.1,_,q13.1,_,_,_,rfl,q13.2,?_⟩;cases e13:within (ws.getD 13 []) 1 10000 with
   |none=>exact Ij (by rw[pm,e13])
   |some u=>
   rw[e13]at pm;dsimp only at pm⊢;have hun:=dn e13;simp? only[aD];have q11:=GW.at (uK 11 ⋯);refine⟨_,aM.of GW.1,_,q11.1,?_⟩;refine⟨.inl ⋯,_,_,_,rfl,q11.2,?_⟩;cases e11:within (ws.getD 11 []) 0 (2*u)with
   |none=>exact Ij (by rw[pm,e11])
   |some l=>
   rw[e11]at pm;dsimp only at pm⊢;simp? only[aD,SD];have q15:=GW.at (uK 15 ⋯);refine bo (λc1=>?_) (λc1=>Ij (by rw[pm,ag c1]));rw[af (Classical.not_not.mpr c1)]at pm;refine⟨_,aM.of GW.1,_,q15.1,_,.inr (stn H2),rfl,rfl,?_⟩;have eN:Ze (.str (S (ws.getD 15 []))) [.str (S ju),.str (S mU),.str (S gA)]=decide (ws.getD 15 []=ju\/ws.getD 15 []=mU\/ws.getD 15 []=gA):=by
    simp only[Ze,any_cons,any_nil,X2,Bool.or_false];rw[jL];simp only[Bool.or_eq_true,beq_iff_eq,cS,decide_eq_true_eq];exact or_congr eq_comm (or_congr eq_comm eq_comm)
   rw[eN];simp only[decide_eq_true_eq];refine bo (λc2=>?_) (λc2=>Ij (by rw[pm,ag c2]));rw[af (Classical.not_not.mpr c2)]at pm;refine⟨_,aM.of GW.1,_,q15.1,rfl,?_⟩;have eF:Str.ofString "fewer"=S gA:=by decide+kernel
   have eP:Str.ofString "place"=S dA:=by decide+kernel
   simp only[eF,eP,V.str.injEq,cS,GJ];refine bo (λc3=>?_) (λc3=>Ij (by rw[pm,ag c3]));rw[af (Classical.not_not.mpr c3)]at pm;have q1':=GW.at (uK 1 ⋯);simp? only[];refine⟨_,aM.of GW.1,_,q1'.1,λx dx nx ndx nex=>?_⟩;refine⟨x,dx,Rr,⟨_,_,_,race,_⟩,rfl,ak,λH3 OM k2=>⟨rfl,?_⟩⟩;have s3:aw H2 H3:=aw.made nx ndx k2;exact kQ _ pm H3 x dx Rr (OL.trans s3) OM (s3 _ _ hRr) (OL.free nx) nR
  refine⟨_,(ah (aQ (ax (E:=E) bg (hr.mono ⋯) rfl (aW aH) (ae (aU cD (aC aA (by rfl) T.cv bO (ae (pv 0) ai)) (cO T.fM rfl) (aG _)) ai))) (ah (fI PassesOwn.leaving rfl (PX (mX tO rfl)) (aT (i:=2) rM.nd rfl (Or.inl rfl)) (au (aQ (ax (E:=E) bg (hr.mono ⋯) rfl (aW aH) (ae (aU cD (bH aP (pv 0) (pv 2) (λ_ _=>rfl)) (DZ (mX tO rfl) (pv 2) (λ_ _=>rfl)) (aG _)) ai))))) (ah (aQ (ax (E:=E) bg (hr.mono ⋯) rfl (aW aH) (ae (ax qw (hr.mono ⋯) rfl cB (ae (bH aP (pv 0) aq (λ_ _=>rfl)) ai)) ai))) (ah (aO (i:=3) rM.nd rfl (Or.inl rfl) (bH aP (pv 0) aq (λ_ _=>rfl))) (ah (aQ (ax (E:=E) bg (hr.mono ⋯) rfl (aW aH) (ae (yp (XQ (pv 3) (mX Ea rfl))) ai))) (ah (aO (i:=4) rM.nd rfl (Or.inl rfl) (ax (E:=E) aV (hr.mono ⋯) rfl (aW aH) (ae (bH aP (pv 0) aq (λ_ _=>rfl)) (ae (bH Pk (DZ (mX Ea rfl) (pv 3) (λ_ _=>rfl)) aq (λ_ _=>rfl)) (ae (bH Pk (DZ (mX Ea rfl) (pv 3) (λ_ _=>rfl)) aq (λ_ _=>rfl)) ai))))) (ah (aO (i:=5) rM.nd rfl (Or.inl rfl) (ax (E:=E) gL (hr.mono ⋯) rfl (aW aH) (ae (bH aP (pv 0) aq (λ_ _=>rfl)) (ae (pv 3) (ae (pv 4) (ae (pv 1) ai)))))) hT))))))),?_⟩;have Zo:eE ws rs=none->E (.ref NC) none H:=λz=>kE z H λ_ _ h=>h;simp? only[aD];refine⟨_,.inl (aM.of hw.1),?_⟩;rw[az];refine bo (λb1=>?_) (λb1=>Zo (by unfold eE;rw[ag ()]));have b1:ws.length=16:=by omega
  have uK:∀i:Nat,i<16->ws[i]?=some (ws.getD i []):=λi hi=>by
   rw[cU,bt ()];rfl
  refine⟨dw,_,rfl,kdw,Nj (λi σ H'=>∃v:Option V,σ=[some (.ref a),some (.ref R),v,none,none,none,none,none]/\H'=H/\∀p∈PW.take i,ws.getD p.1.toNat []=p.2) ⟨none,rfl,rfl,by simp⟩ ?_ ?_⟩
  .rintro i k v σ H' hk ⟨v2,rfl,e,hI⟩;subst e;obtain⟨p,hp,rfl,rfl⟩:∃p,PW[i]?=some p/\k=Sum.inl p.1/\v=.str (S p.2):=by
    have hk:(PW.map λp=>((Sum.inl p.1:Key),V.str (S p.2)))[i]?=some (k,v):=hk;rw[a_]at hk;cases q:PW[i]? with
    |none=>rw[q]at hk;cases hk
    |some p=>
     rw[q]at hk;cases hk;exact⟨p,rfl,rfl,rfl⟩
   have Ik:=bh hp;have dQ:=aaV p Ik;have g:=uK p.1.toNat ();have q:=hw.atZ (z:=p.1) () g;have hv:eO (PW.map λp=>((Sum.inl p.1:Key),V.str (S p.2))) (Sum.inl p.1)=some (.str (S p.2)):=by
    have:∀p∈PW,eO (PW.map λp=>((Sum.inl p.1:Key),V.str (S p.2))) (Sum.inl p.1)=some (.str (S p.2)):=by decide+kernel
    exact this p Ik
   refine⟨_,aM.of hw.1,_,q.1,dw,_,Sum.inl p.1,_,rfl,rfl,kdw,hv,?_⟩;simp only[VM,qQ,p_,IB,aD,append_nil,OW,V.str.injEq,cS];refine bo (λb=>?_) (λb=>?_)
   .have b:ws.getD p.1.toNat []=p.2:=by simpa using b
    refine⟨_,rfl,trivial,λx hx=>?_⟩;rw[bz hp]at hx;obtain z|z:=mem_append.mp hx
    .exact hI x z
    .have e:x=p:=by simpa using z
     subst e;exact b
   .have b:¬ws.getD p.1.toNat []=p.2:=by simpa using b
    refine Zo ?_;unfold eE;rw[af (),ag];cases z:yW ws with
    |false=>rfl|true=>exact absurd ((zt ws).mp z p Ik) b
  .rintro σ H' ⟨v2,rfl,e,hI⟩;subst e;have hF:yW ws=true:=(zt ws).mpr hI;have pm:eE ws rs=eE ws rs:=rfl
   conv at pm=>rhs;unfold eE
   rw[af (),af (by rw[hF];decide)]at pm;clear hI;simp? only[aD];have q1:=hw.at (uK 1 ⋯);refine⟨_,aM.of hw.1,_,q1.1,_,rfl,q1.2,λH1 sm=>⟨_,rfl,?_⟩⟩;have Qt:=hw.same sm;have hA1:=sm _ _ hA;have hR1:Paired (fW H1) rv rs:=Paired.fT hR λ_ _ z=>z.same sm;have kE1:eE ws rs=none->E (.ref NC) none H1:=λz=>kE z H1 sm;refine bo (λb2=>?_) (λb2=>kE1 (by rw[pm,ag ‹b2›]));rw[af (by rw[b2];decide)]at pm;have q2:=Qt.at (uK 2 ⋯);refine⟨_,aM.of Qt.1,_,q2.1,dk,_,Sum.inr (S (ws.getD 2 [])),rfl,rfl,kdk,_,rfl,?_⟩;obtain⟨ek,ev⟩|⟨lh,pk,ek,ev,tk⟩:=Qz tp1 tp2 tp3 tp4 (ws.getD 2 [])
   .rw[ev];exact kE1 (by rw[pm,ek])
   rw[ek]at pm;dsimp only at pm;rw[ev];have q3:=Qt.at (uK 3 ⋯);refine⟨_,aM.of Qt.1,_,q3.1,?_⟩;refine⟨dk,_,Sum.inr (S (ws.getD 2 [])),_,rfl,rfl,kdk,ev,?_⟩;refine⟨pk,rfl,_,tk H1,_,eC (j:=0) rfl,?_⟩;refine⟨dk,_,Sum.inr (S (ws.getD 2 [])),_,rfl,rfl,kdk,ev,pk,rfl,_,tk H1,_,eC (j:=1) rfl,_,_,_,rfl,q3.2,?_⟩;cases e3:within (ws.getD 3 []) lh.1 lh.2 with
   |none=>exact kE1 (by rw[pm,e3])
   |some k=>
   rw[e3]at pm;dsimp only at pm⊢;have q5:=Qt.at (uK 5 ⋯);have h3:=dn e3;have aeJ:1<=lh.1/\lh.2<=6:=QA ek;refine⟨_,aM.of Qt.1,_,q5.1,_,_,_,_,rv,rs,rfl,q5.2,hA1,hR1,by omega,by omega,λrace e5 H2 Rr s2 nR hRr=>?_,λe5=>kE1 (by rw[pm,e5])⟩;rw[e5]at pm;dsimp only at pm;exact kT _ k race H2 Rr b1 (sm.trans s2) (sm.free nR) hRr pm
end
noncomputable abbrev vK:Stmt:=top 65
theorem take_takeWhile p:∀l:List α,l.take (l.takeWhile p).length=l.takeWhile p
 |[]=>rfl
 |a::l=>by
  by_cases h:p a=true
  .rw[mC,ag h,aZ,take_succ_cons,take_takeWhile p l]
  .rw[mC,af h];rfl
theorem oP p:∀l:List α,l.drop (l.takeWhile p).length=l.dropWhile p
 |[]=>rfl
 |a::l=>by
  by_cases h:p a=true
  .rw[mC,ag h,aZ,drop_succ_cons,oP p l,mE,ag h]
  .rw[mC,af h,mE,af h];rfl
theorem zu{f:α->Option β}:∀{l}{i:Nat}{x},l[i]?=some x->f x=none->cK f l=none
 |[],i,x,h,_=>by simp at h
 |a::l,0,x,h,hf=>by
  have e:=Option.some.inj h;subst e;unfold cK;rw[hf]
 |a::l,i+1,x,h,hf=>by
  unfold cK;rw[zu (i:=i) (x:=x) ‹h› hf];cases f a<;>rfl
section
variable {Cc:Addr}
def zA(Cp:Addr)(H:Hp)(L:Addr)(rs:List (List Int))(ps:List MP):Prop:=∃rv,Paired (fW H) rv rs/\zq Cp H L rv ps
theorem zA.same{ps:List MP}(h:zA Cp H L rs ps)(s:aw H H'):zA Cp H' L rs ps:=by
 obtain⟨rv,h1,h2⟩:=h;exact⟨rv,Paired.fT h1 λ_ _ z=>z.same s,h2.same s⟩
noncomputable def ck(ns:List Int):List Nat:=ns.map λn=>sg n.toNat
noncomputable def V8(rs:List (List Int))(Eb:List (List (List Nat))):Option (List (List Int)×List MP):=match cK (λws=>eE ws rs) Eb with
 |none=>none|some pools=>if(pools.map (·.name)).Nodup then some (rs,pools)else none
def QC(K:PySem.W.Frag)(NC Cp:Addr):Sp:=λvs H Q E=>∃(a:Addr) (ns:List Int),vs=[.ref a]/\aM K H a (ns.map V.int)/\(∀n∈ns,0<=n/\n<=255)/\ns.length<=66000/\
 (∀rs ps,d6 (ck ns)=some (rs,ps)->∀H' c,aw H H'->zA Cp H' c rs ps->Q (.ref c) H')/\(d6 (ck ns)=none->∀H',aw H H'->E (.ref NC) none H')
def m5:aE ["codes","lines","race_count","races","pool_lines","pools","words"] ["codes"] (ao vK):=by ac_nf
def Uw(D:Def K mg "read_card" vK ["codes"])(T:Tx mg)(jB:Ok P w K mg base eY 2 "text_of" ["codes"] (Jn K))(ip:Ok P w K mg base eY 2 "lines_of" ["text"] D8)(bg:Ok P w K mg base (fU P w) 1 "demand" ["holds"] (aD NC))(oQ:Ok P w K mg base (fU P w) 3 "check_day" ["words"] (V6 NC))(k9:Ok P w K mg base eY 1 "count_races" ["lines"] Lq)(oR:Ok P w K mg base (fU P w) 3 "read_race" ["words"] (Qu NC))(oS:Ok P w K mg base (fU P w) 4 "read_pool" ["words","races"] (QB NC Cp))(fj:Ok P w K mg base (fU P w) 2 "check_names_differ" ["pools"] (GZ NC Cp)):
  Ok P w K mg base (fU P w) 5 "read_card" ["codes"] (QC K NC Cp):=by
 refine D.Cj m5 (λvs H Q E h=>?_) (λf cf A outer s H vs Q E hr h=>?_)
 .obtain⟨_,_,rfl,_⟩:=h;rfl
 .obtain⟨a,ns,rfl,hS,hb,hl,kQ,kE⟩:=h;obtain⟨tT,hT,kT⟩:∃tT:TS,vW (kg (fU P w) P w K mg base ["codes","lines","race_count","races","pool_lines","pools","words"] "read_card" (ao vK) f cf A outer s H E) ((cq vK).drop 8) tT/\
    ∀(L D1 p2:Addr)(m:Int)(H6:Hp)(ys xs2:List V)(rs:List (List Int))(Eb:List (List (List Nat))),aw H H6->H6 D1=some (.lst ys)->Paired (fW H6) ys rs->H6 p2=some (.lst xs2)->Paired (λv ws=>∃p,v=.ref p/\Words H6 p ws) xs2 Eb->Eb.length<=70000->d6 (ck ns)=V8 rs Eb->
     tT {nx:=λ_ H'=>Q .cT H',rt:=Q} [some (.ref a),some (.ref L),some (.int m),some (.ref D1),some (.ref p2),none,none] H6:=by
   refine⟨_,(ah (Ck (own:=[("words",6)]) (E:=E) rfl rfl rfl aH rfl m5.nd (i:=5) rfl rfl (tq rfl rfl rfl rfl) (b8 (pv 4)) (bY (N:=["codes","lines","race_count","races","pool_lines","pools","words"]) (sc:=ao vK) (by decide+kernel)) (λ_ _ _ _ _=>aT (i:=6) m5.nd rfl (Or.inl rfl)) (λ_ _ _ _ _=>dH) (λ_ _ _ _ _=>(ax (E:=E) oS (hr.mono ⋯) rfl (aW IX) (ae (pv 6) (ae (pv 3) ai))))) (ah (aQ (ax (E:=E) fj (hr.mono ⋯) rfl (aW aH) (ae (pv 5) ai))) (au (aI (pv 5))))),λL D1 p2 m H6 ys xs2 rs Eb s06 i9 hR5 V9 Ya Zg pm=>?_⟩;have hz:=bF;have zB:=Paired.eM Ya;unfold V8 at pm;refine⟨p2,rfl,⟨_,aM.of V9⟩,λD2 Ux=>?_⟩;refine fR (xs:=xs2) (λH v (r:MP)=>∃q dx Rr,v=.ref q/\q≠D2/\Rr≠D2/\H q=some (.ins Cp dx (CB Rr r))/\H Rr=some (.lst (mZ .cT ys r.kind r.k r.race))) Eb (λws=>eE ws rs) (by rw[zB]) (by rw[zB];omega) Ux (aM.of V9) ?_ ?_ ?_
   .rintro H7 H8 v r sb ⟨q,dx,Rr,e,n,n2,h1,h2⟩;exact⟨q,dx,Rr,e,n,n2,sb _ _ n h1,sb _ _ n2 h2⟩
   .intro i x u H' hx hu sm oN R k2;obtain⟨u',KY,q,rfl,hw⟩:=Paired.at' Ya hx;have eu:u'=u:=Option.some.inj (KY.symm.trans hu);subst eu;obtain⟨acc,oN⟩:=oN;refine⟨q,D1,u',ys,rs,rfl,hw.same sm,sm _ _ i9,Paired.fT hR5 λ_ _ z=>z.same sm,λr er H7 b dx Rr s7 hb hb2 hn Y_=>?_,λer H7 s7=>?_⟩
    .exact k2 _ _ _ er s7 ⟨b,dx,Rr,rfl,λz=>(by rw[z,oN]at hn;cases hn),λz=>(by rw[z,oN]at Y_;cases Y_),hb,hb2⟩
    .exact kE (by rw[pm,zu (f:=λws=>eE ws rs) hu er]) H7 (s06.trans (sm.trans s7))
   .intro H7 ys2 ps Yb adV Qp adW;rw[Qp]at pm;dsimp only at pm;have s07:=s06.trans Yb;have hP7:zq Cp H7 D2 ys ps:=⟨by rw[gD Qp];omega,ys2,adV,Paired.fT adW λv r ⟨q,dx,Rr,e,_,_,h,h'⟩=>⟨q,dx,Rr,e,h,h'⟩⟩;refine⟨D2,ys,ps,rfl,hP7,λH8 s8=>?_⟩;refine bo (λb4=>?_) (λb4=>kE (by rw[pm,af b4]) H8 (s07.trans s8));rw[ag b4]at pm;exact kQ rs ps pm H8 D2 (s07.trans s8) ⟨ys,Paired.fT hR5 λ_ _ z=>z.same (Yb.trans s8),hP7.same s8⟩
  refine⟨_,(ah (aO (i:=1) m5.nd rfl (Or.inl rfl) (ax ip (hr.mono ⋯) rfl cB (ae (ax jB (hr.mono ⋯) rfl cB (ae (pv 0) ai)) ai))) (ah (aQ (ax (E:=E) bg (hr.mono ⋯) rfl (aW aH) (ae (kW (aU KP (pv 1) ro (aG _)) (i5 (aU vt (aC aA (by rfl) T.cv bO (ae (pv 1) ai)) aq (aG _)))) ai))) (ah (aQ (ax (E:=E) oQ (hr.mono ⋯) rfl (aW aH) (ae (bH aP (pv 1) aq (λ_ _=>rfl)) ai))) (ah (aO (i:=2) m5.nd rfl (Or.inl rfl) (ax k9 (hr.mono ⋯) rfl cB (ae (pv 1) ai))) (ah (aQ (ax (E:=E) bg (hr.mono ⋯) rfl (aW aH) (ae (yy jQ jQ aq (pv 2) (cO T.gH rfl)) ai))) (ah (aO (i:=3) m5.nd rfl (Or.inr rfl) (IY (own:=[("words",6)]) (E:=E) rfl rfl rfl aH rfl m5.nd (b8 (iP kz (pv 1) (iE aq) (iE (bS gq aq (pv 2))))) (bY (N:=["codes","lines","race_count","races","pool_lines","pools","words"]) (sc:=ao vK) (by decide+kernel)) (λ_ _ _ _ _=>aT (i:=6) m5.nd rfl (Or.inl rfl)) (λ_ _ _ _ _=>dH) (λ_ _ _ _ _=>(ax (E:=E) oR (hr.mono ⋯) rfl (aW IX) (ae (pv 6) ai))))) (ah (aO (i:=4) m5.nd rfl (Or.inl rfl) (iP kz (pv 1) (iE (bS gq aq (pv 2))) qg)) (ah (aQ (ax (E:=E) bg (hr.mono ⋯) rfl (aW aH) (ae (aU jQ (aC aA (by rfl) T.cv bO (ae (pv 4) ai)) (cO T.gI rfl) (aG _)) ai))) hT)))))))),?_⟩;have hz:=bF;have A_:(ck ns).length<=66000:=by unfold ck;rw[az];exact hl
  have hc1:∀c∈ck ns,c<128:=λc hc=>by
   unfold ck at hc;obtain⟨n,_,rfl⟩:=mem_map.mp hc;exact V5 _
  simp? only[aD];refine⟨a,ns,rfl,hS,hb,hl,λH1 s1=>⟨ck ns,rfl,A_,hc1,?_⟩⟩;have pm:d6 (ck ns)=d6 (ck ns):=rfl
  conv at pm=>rhs;unfold d6
  cases eL:i7 (ck ns)with
  |none=>
   rw[eL]at pm;intro H2 s2;rw[af (Classical.not_not.mpr rfl)];exact kE pm H2 (s1.trans s2)
  |some ls=>
  rw[eL]at pm;intro H2 L s2 hL;have s02:=s1.trans s2;have Ij:d6 (ck ns)=none->E (.ref NC) none H2:=λz=>kE z H2 s02;simp? only[aD,reduceCtorEq,not_false_eq_true];obtain⟨hll,as,hA,hp⟩:=id hL;have hlen:=Paired.eM hp;refine⟨_,.inl (aM.of hA),?_⟩;cases ls with
  |nil=>
   have e0:as.length=0:=by rw[hlen];rfl
   rw[e0];exact Ij pm
  |cons d ls=>
  refine bo (λ_=>?_) (λz=>absurd (show(0:Int)<as.length by rw[hlen];simp) z);obtain⟨v0,NN,p0,rfl,hw0⟩:=Paired.KH hp (i:=0) rfl;refine⟨_,aM.of hA,_,eC NN,p0,d,rfl,hw0,λH3 s3=>?_⟩;have s03:=s02.trans s3;dsimp only at pm;refine bo (λb1=>?_) (λb1=>kE (by rw[pm,ag ‹b1›]) H3 s03);rw[af (by rw[b1];decide)]at pm;refine⟨L,d,ls,rfl,hL.same s3,λH4 s4=>?_⟩;have s04:=s03.trans s4;have s24:=s3.trans s4;have hL4:=hL.same s24;simp? only[aD];generalize hm0:(List.takeWhile c7 ls).length=m at*;have eT:ls.take m=ls.takeWhile c7:=by rw[<-hm0,take_takeWhile]
  have eD:ls.drop m=ls.dropWhile c7:=by rw[<-hm0,oP]
  refine bo (λb2=>?_) (λb2=>kE (by rw[pm,ag ()]) H4 s04);rw[af (),<-eT,<-eD]at pm;have hA4:=s24 _ _ hA;refine⟨_,aM.of hA4,λp X9=>⟨p,rfl,⟨_,aM.of ak⟩,λD1 V_=>?_⟩⟩;have ec:lN as (some 1) (some (1+(m:Int)))=(as.drop 1).take m:=by
   have:=GR as 1 (1+m);rw[Nat.add_sub_cancel_left]at this;rw[<-this];congr 2
  rw[ec]at V_⊢;have s5:aw H4 (upd H4 p (.lst ((as.drop 1).take m))):=aw.new X9;have s25:=s24.trans s5;have hpL:Paired (λv ws=>∃p,v=.ref p/\Words H2 p ws) (as.drop 1) ls:=Paired.drop' 1 hp;have aaW:=Paired.eM hpL;simp only[length_cons]at hll;refine fR (xs:=(as.drop 1).take m) (λH v (r:List Int)=>∃q,v=.ref q/\q≠D1/\H q=some (.lst (r.map V.int))) (ls.take m) gB (by rw[cW,cW,aaW]) (by rw[cW];omega) V_ (aM.of ak) ?_ ?_ ?_
  .rintro H5 H6 v r sb ⟨q,e,n,h1⟩;exact⟨q,e,n,sb _ _ n h1⟩
  .intro i x u H' hx hu sm oN R k2;obtain⟨u',KY,q,rfl,hw⟩:=Paired.at' (Paired.take' m hpL) hx;have eu:u'=u:=Option.some.inj (KY.symm.trans hu);subst eu;obtain⟨acc,oN⟩:=oN;refine⟨q,u',rfl,hw.same (s25.trans sm),λr er H6 b s6 hb hn=>?_,λer H6 s6=>?_⟩
   .exact k2 _ _ _ er s6 ⟨b,rfl,λz=>(by rw[z,oN]at hn;cases hn),hb⟩
   .exact kE (by rw[pm,zu hu er]) H6 ((s02.trans s25).trans (sm.trans s6))
  .intro H5 ys rs sm5 i9 hm SF;rw[hm]at pm;dsimp only at pm;have Yc:=s25.trans sm5;have s05:=s02.trans Yc;have hR5:Paired (fW H5) ys rs:=Paired.fT SF λv r ⟨q,e,_,h⟩=>⟨q,e,h⟩;refine⟨_,aM.of (Yc _ _ hA),λp2 IP=>?_⟩;have ec2:lN as (some (1+(m:Int))) none=(as.drop 1).drop m:=by
    rw[drop_drop,<-qu];congr 2
   rw[ec2];have Ya:=Paired.drop' m hpL;have zB:=Paired.eM Ya;refine⟨_,.inl (aM.of ak),?_⟩;rw[zB];have s6:aw H5 (upd H5 p2 (.lst ((as.drop 1).drop m))):=aw.new IP;have s06:=s05.trans s6;have s26:=Yc.trans s6;refine bo (λb3=>?_) (λb3=>kE (by rw[pm,ag ()]) _ s06);rw[af ()]at pm;refine kT L D1 p2 m _ ys _ rs (ls.drop m) s06 (s6 _ _ i9) (Paired.fT hR5 λ_ _ z=>z.same s6) ak (Paired.fT Ya λ_ _ adX=>?_) (by rw[dW];omega) pm;obtain⟨p,e,z⟩:=adX;exact⟨p,e,z.same s26⟩
end
noncomputable abbrev Ec:Stmt:=top 11
noncomputable abbrev Ed:Stmt:=top 10
noncomputable abbrev Ee:Stmt:=top 12
noncomputable abbrev Ef:Stmt:=top 9
noncomputable abbrev Eg:Stmt:=top 3
noncomputable abbrev Eh:Stmt:=top 4
section
variable {Cc:Addr}
def Ei:Sp:=λvs H Q _=>∃n k:Int,vs=[.int n,.int k]/\0<=n/\n<=70000/\0<=k/\k<=100/\Q (.int (jU n k.toNat)) H
def xU:aE ["interests","k","rows","taken"] ["interests","k"] (ao Ec):=by ac_nf
def QD(D:Def K mg "count_rows" Ec ["interests","k"])(T:Tx mg):Ok P w K mg base eY 1 "count_rows" ["interests","k"] Ei:=by
 refine D.ok xU (λvs H Q E h=>?_) (λf cf A outer s H vs Q E hr h=>?_)
 .obtain⟨_,_,rfl,_⟩:=h;rfl
 .obtain⟨n,k,rfl,n0,n1,k0,k1,kQ⟩:=h;refine⟨_,(ah (aO (i:=2) xU.nd rfl (Or.inl rfl) aq) (ah (fI hU rfl (BH rfl T.iH (ae (pv 1) ai)) (aT (i:=3) xU.nd rfl (Or.inl rfl)) (au (Dx (i:=2) xU.nd rfl (Or.inl rfl) (bS gu (pv 0) (pv 3)) PZ))) (au (aI (pv 2))))),?_⟩;refine⟨k,rfl,by omega,by omega,BJ (lo:=0) (n:=k.toNat) (λi σ H'=>∃v:Option V,σ=[some (.int n),some (.int k),some (.int (jU n i)),v]/\H'=H) ⟨none,rfl,rfl⟩ ?_ ?_⟩
  .rintro i σ H' hi ⟨v,rfl,e⟩;subst e;refine⟨.inr (),some (.int (0+(i:Int))),?_,rfl⟩;rw[y_,pS];rfl
  .rintro σ H' ⟨v,rfl,e⟩;subst e;exact kQ
def Ej:Sp:=λvs H Q _=>∃(R:Addr) (rs:List (List Int)),vs=[.ref R]/\vJ H R rs/\(∀r∈rs,r.length<=70000)/\Q (.int (jj rs)) H
def xV:aE ["lists","rows","choices"] ["lists"] (ao Ed):=by ac_nf
def QE(D:Def K mg "count_choices" Ed ["lists"])(T:Tx mg):Ok P w K mg base eY 1 "count_choices" ["lists"] Ej:=by
 refine D.ok xV (λvs H Q E h=>?_) (λf cf A outer s H vs Q E hr h=>?_)
 .obtain⟨_,_,rfl,_⟩:=h;rfl
 .obtain⟨R,rs,rfl,⟨as,hA,hp⟩,hb,kQ⟩:=h;refine⟨_,(ah (aO (i:=1) xV.nd rfl (Or.inl rfl) aq) (ah (fI hU rfl (b8 (pv 0)) (aT (i:=2) xV.nd rfl (Or.inl rfl)) (au (Dx (i:=1) xV.nd rfl (Or.inl rfl) (aC aA (by rfl) T.cv bO (ae (pv 2) ai)) PZ))) (au (aI (pv 1))))),?_⟩;have hlen:=Paired.eM hp;refine⟨R,rfl,⟨_,aM.of hA⟩,iO (K:=K) (a:=R) (xs:=as) (λi σ H'=>∃v:Option V,σ=[some (.ref R),some (.int (jj (rs.take i))),v]/\H'=H) ⟨none,rfl,rfl⟩ (λi σ H' _ ⟨_,_,e⟩=>by rw[e];exact aM.of hA) ?_ ?_⟩
  .rintro i y σ H' hi ⟨v,rfl,e⟩;subst e;obtain⟨r,GB,p,rfl,nX⟩:=Paired.at' hp hi;have:=hb r (bh GB);refine⟨_,.inl (aM.of nX),.inr (by rw[az];omega),some (.ref p),?_,rfl⟩;rw[az,bz GB];unfold jj;rw[sR];rfl
  .rintro σ H' ⟨v,rfl,e⟩;subst e;rw[hlen,eQ];exact kQ
noncomputable def CD(n k:Int):Int:=jU n k.toNat/jU k k.toNat
def Ls(h0:0<=k)(h6:k<=6):0<jU k k.toNat/\jU k k.toNat<1073741824:=by
 have:∀k:Fin 7,0<jU (k.val:Int) k.val/\jU (k.val:Int) k.val<1073741824:=by decide+kernel
 have h:=this ⟨k.toNat,by omega⟩;have e:((k.toNat:Nat):Int)=k:=by omega
 simpa[e]using h
def xW:Sp:=λvs H Q _=>∃n k:Int,vs=[.int n,.int k]/\0<=n/\n<=70000/\0<=k/\k<=6/\Q (.int (CD n k)) H
def Uy:aE ["interests","k"] ["interests","k"] (ao Ee):=by ac_nf
def QF(D:Def K mg "count_sets" Ee ["interests","k"])(dY:Ok P w K mg base eY 1 "count_rows" ["interests","k"] Ei):Ok P w K mg base eY 2 "count_sets" ["interests","k"] xW:=by
 refine D.ok Uy (λvs H Q E h=>?_) (λf cf A outer s H vs Q E hr h=>?_)
 .obtain⟨_,_,rfl,_⟩:=h;rfl
 .obtain⟨n,k,rfl,n0,n1,k0,k1,kQ⟩:=h;refine⟨_,(au (aI (bS TB (ax dY (hr.mono ⋯) rfl cB (ae (pv 0) (ae (pv 1) ai))) (ax dY (hr.mono ⋯) rfl cB (ae (pv 1) (ae (pv 1) ai)))))),?_⟩;have hd:=Ls k0 k1;unfold CD at kQ;exact⟨_,_,rfl,by omega,by omega,by omega,by omega,_,_,rfl,by omega,by omega,by omega,by omega,hd,kQ⟩
def Lv(K:PySem.W.Frag):Sp:=λvs H Q _=>∃(a:Addr) (ms:List Int),vs=[.ref a]/\aM K H a (ms.map V.int)/\∀H',aw H H'->Q (.int (D5 ms)) H'
def Uz:aE ["money"] ["money"] (ao Eh):=by ac_nf
theorem G0:∀ms:List Int,L2.oJ (ms.map V.int)=(za ms).map V.int
 |[]=>rfl|[_]=>rfl
 |_::b::r=>by
  rw[aJ,aJ,xM,G0 r];rfl
def QG(D:Def K mg "sum_of_cents" Eh ["money"])(T:Tx mg):Ok P w K mg base eY 1 "sum_of_cents" ["money"] (Lv K):=by
 refine D.ok Uz (λvs H Q E h=>?_) (λf cf A outer s H vs Q E hr h=>?_)
 .obtain⟨_,_,rfl,_⟩:=h;rfl
 .obtain⟨a,ms,rfl,hS,kQ⟩:=h;refine⟨_,(au (aI (aC (P0 rfl) (by rfl) T.GL boot_sum (ae (tG (pv 0) aq aq) ai)))),?_⟩;refine⟨a,_,1,rfl,rfl,rfl,hS,λp hp=>?_⟩;rw[show L2.bA ((ms.map V.int).drop 1)=L2.oJ (ms.map V.int)from rfl,G0];exact⟨_,aM.of ak,kQ _ (aw.new hp)⟩
def Lw(K:PySem.W.Frag):Sp:=λvs H Q _=>∃(a:Addr) (ms:List Int) (n:Int),vs=[.ref a,.int n]/\aM K H a (ms.map V.int)/\ms.length<=2000000/\ms.length%2=0/\∀H',aw H H'->Q (.bl (fg ms n)) H'
def xX:aE ["money","combinations","before","at"] ["money","combinations"] (ao Eg):=by ac_nf
def aaX{l:List α}(h:j+1<l.length):∃a b,l[j]?=some a/\l[j+1]?=some b/\l.drop j=a::b::l.drop (j+2):=by
 refine⟨l[j],l[j+1],bt _,bt _,?_⟩;rw[mv (show j<l.length by omega),mv (show j+1<l.length by omega)]
def Lx{z:Int}{x:Int}(e:z=(j:Int))(h:ms[j]?=some x):OH (ms.map V.int) z=some (.int x):=at_of e (by rw[a_,h];rfl)
def QH(D:Def K mg "is_right" Eg ["money","combinations"])(T:Tx mg)(jW:Ok P w K mg base eY 1 "sum_of_cents" ["money"] (Lv K)):Ok P w K mg base eY 2 "is_right" ["money","combinations"] (Lw K):=by
 refine D.ok xX (λvs H Q E h=>?_) (λf cf A outer s H vs Q E hr h=>?_)
 .obtain⟨_,_,_,rfl,_⟩:=h;rfl
 .obtain⟨a,ms,n,rfl,hS,hl,h2,kQ⟩:=h;refine⟨_,(ah (cR (bq vt (aC aA (by rfl) T.cv bO (ae (pv 0) ai)) (bS rq aq (cO T.gE rfl)) (aG _)) (au (aI vq)) bx) (ah (aO (i:=2) xX.nd rfl (Or.inl rfl) (qN kX aq)) (ah (fI hU rfl (B3 rfl T.iH (ae aq (ae (aC aA (by rfl) T.cv bO (ae (pv 0) ai)) (ae aq ai)))) (aT (i:=3) xX.nd rfl (Or.inl rfl)) (ah (cR (yr (yz yx yx (pv 2) (bH aP (pv 0) (pv 3) (λ_ _=>rfl)) (pv 1))) (au (aI vq)) bx) (ah (cR (bq yx (bH aP (pv 0) (bS gq (pv 3) aq) (λ_ _=>rfl)) aq (aG _)) (au (aI vq)) bx) (au (aO (i:=2) xX.nd rfl (Or.inl rfl) (bH aP (pv 0) (pv 3) (λ_ _=>rfl))))))) (au (aI (aU jQ (ax jW (hr.mono ⋯) rfl cB (ae (pv 0) ai)) (cO T.gF rfl) (aG _))))))),?_⟩;have G3:=kQ H λ_ _ h=>h;simp? only[];refine⟨_,.inl hS,.inl ⋯,?_⟩;rw[az];refine bo (λb=>?_) (λb0=>?_)
  .unfold fg at G3;rw[cV ()]at G3;exact G3
  have hl5:decide (ms.length<=524288)=true:=hX ();obtain⟨m,hm⟩:∃m,ms.length=2*m:=⟨ms.length/2,by omega⟩;simp? only[cb];refine⟨a,rfl,_,.inl hS,0,_,2,m,rfl,?_,?_⟩
  .rw[az];refine RgC.up ⋯ ⋯ ⋯ ⋯ () () ?_;split<;>omega
  refine yI (λi σ H'=>∃(v:Option V) (bf:Int),σ=[some (.ref a),some (.int n),some (.int bf),v]/\H'=H/\kH n (-1) ms=kH n bf (ms.drop (2*i))) ⟨none,-1,rfl,rfl,rfl⟩ ?_ ?_
  .rintro i σ H' hi ⟨v,bf,rfl,e,hg⟩;subst e;obtain⟨x,y,gx,gy,gd⟩:=aaX (l:=ms) (j:=2*i) ();rw[gd]at hg;have qx:=Lx (z:=0+(i:Int)*2) () gx;have qy:=Lx (z:=0+(i:Int)*2+1) () gy;simp? only[];have kF:kH n (-1) ms=false->Q (.bl false) H':=λz=>by
    have k1:=G3;unfold fg at k1;rw[z,Bool.false_and,Bool.and_false]at k1;exact k1
   have hg2:kH n bf (x::y::ms.drop (2*i+2))=(decide (bf<x)&&(decide (x<n)&&(decide (1<=y)&&kH n x (ms.drop (2*i+2))))):=rfl;rw[hg2]at hg;refine⟨_,hS,_,qx,x,rfl,?_⟩;refine bo (λb1=>⟨x,rfl,?_⟩) (λb1=>?_)
   .refine bo (λb2=>kF (by rw[hg,cV b2];simp)) (λb2=>?_);have b2:x<n:=Classical.not_not.mp b2;simp? only[cb];refine⟨_,hS,_,qy,y,rfl,?_⟩;refine bo (λb3=>kF (by rw[hg,cV (show¬1<=y by omega)];simp)) (λb3=>?_);refine⟨_,hS,_,qx,some (.int (0+(i:Int)*2)),x,⟨rfl,rfl⟩,?_⟩;rw[hg,hX b1,hX b2,hX (show 1<=y by omega)];rfl
   .exact kF (by rw[hg,cV b1];rfl)
  .rintro σ H' ⟨v,bf,rfl,e,hg⟩;subst e;rw[wU ()]at hg;refine⟨a,ms,rfl,hS,λH1 s1=>?_⟩;have k1:=kQ H1 s1;unfold fg at k1;rw[hg,hl5]at k1;exact k1
end
noncomputable abbrev dZ:Stmt:=inClass (top 75) 0
def Jv n fs:(fV n fs).length<=n:=by
 refine aX (ou _ _) ?_;simp
def NP{r:List Int}(h:gB ws=some r):r.length<=24:=by
 unfold gB at h;split at h
 .cases h
 split at h
 .cases h
 rename_i n hw;have hn:=dn hw;split at h
 .cases h
 cases h;exact aX (Jv _ _) ()
def Jw{ps:List MP}(h:d6 codes=some (rs,ps)):∀r∈rs,r.length<=24:=by
 unfold d6 at h;split at h
 .cases h
 .cases h
 split at h
 .cases h
 split at h
 .cases h
 split at h
 .cases h
 rename_i hr;split at h
 .cases h
 split at h
 .cases h
 split at h
 .cases h;intro r hm;obtain⟨ws,_,h1⟩:=oM hr r hm;exact NP h1
 .cases h
def QI{F:V->List Int->Prop}(h:Paired F rv rs)(pin:Nu rs q):Paired F (mZ .cT rv q.kind q.k q.race) (mZ [] rs q.kind q.k q.race):=by
 have r1:=pin.r1;have r2:=pin.r2;unfold mZ;by_cases b:q.kind=cu
 .rw[ag b,ag b];exact Paired.take' _ (Paired.drop' _ h)
 .rw[af b,af b];have hl:(q.race-1).toNat<rs.length:=by omega
  obtain⟨v,hv,hf⟩:=Paired.KH h (bt hl);rw[cU,cU,hv,bt hl];exact .cons hf .nil
section
theorem oO.at(h:oO Cp H rv v q)(hp:Paired (fW H) rv rs)(pin:Nu rs q):jV Cp H v rs q:=by
 obtain⟨p,dx,Rr,e,h1,h2⟩:=h;exact⟨p,dx,Rr,e,h1,_,h2,QI hp pin⟩
def Ly(Cp:Addr):Sp:=λvs H Q _=>∃(p:Addr) (rs:List (List Int)) (q:MP),vs=[.ref p]/\jV Cp H (.ref p) rs q/\Nu rs q/\(∀r∈rs,r.length<=24)/\∀H',aw H H'->Q (.int (countM rs q)) H'
def Lz:aE ["pool","interests"] ["pool"] (ao Ef):=by ac_nf
def Ek:Str.ofString "place"=S dA:=by decide+kernel
def LA:Str.ofString "order"=S dB:=by decide+kernel
def QJ(D:Def K mg "count_combinations" Ef ["pool"])(Pl:FV K Cp)(p2:cG K Cp "kind")(p3:cG K Cp "k")(p4:cG K Cp "races")(T:Tx mg)(dY:Ok P w K mg base eY 1 "count_rows" ["interests","k"] Ei)(fD:Ok P w K mg base eY 2 "count_sets" ["interests","k"] xW)(dg:Ok P w K mg base eY 1 "count_choices" ["lists"] Ej):Ok P w K mg base eY 3 "count_combinations" ["pool"] (Ly Cp):=by
 refine D.ok Lz (λvs H Q E h=>?_) (λf cf A outer s H vs Q E hr h=>?_)
 .obtain⟨_,_,_,rfl,_⟩:=h;rfl
 .obtain⟨p,rs,q,rfl,⟨p',dp,Rr,e,hp,hR⟩,pin,hb,kQ⟩:=h;cases e;refine⟨_,(ah (cR (bq cD (bC (pv 0) rfl) bu (aG _)) (au (aI (ax dg (hr.mono ⋯) rfl cB (ae (bC (pv 0) rfl) ai)))) bx) (ah (aO (i:=1) Lz.nd rfl (Or.inl rfl) (aC aA (by rfl) T.cv bO (ae (bH aP (bC (pv 0) rfl) aq (λ_ _=>rfl)) ai))) (ah (cR (bq cD (bC (pv 0) rfl) bu (aG _)) (au (aI (pv 1))) bx) (ah (cR (bq cD (bC (pv 0) rfl) bu (aG _)) (au (aI (ax dY (hr.mono ⋯) rfl cB (ae (pv 1) (ae (bC (pv 0) rfl) ai))))) bx) (au (aI (ax fD (hr.mono ⋯) rfl cB (ae (pv 1) (ae (bC (pv 0) rfl) ai))))))))),?_⟩;have G3:=kQ H λ_ _ h=>h;have k1:=pin.k1;have k2:=pin.k2;have r1:=pin.r1;have r2:=pin.r2;refine⟨Cp,dp,_,hp,Pl,p2,_,rfl,?_⟩;rw[zp];simp only[tC,VM,qQ,p_,FP,V.str.injEq,cS,decide_eq_true_eq];unfold countM at kQ G3;unfold mZ at hR;refine bo (λb=>?_) (λb=>?_)
  .simp only[if_pos b]at kQ G3 hR;refine⟨Cp,dp,_,hp,Pl,p4,_,rfl,Rr,_,rfl,hR,λr GB=>?_,G3⟩;have:=hb r (ox (mem_of_mem_take GB));omega
  .simp only[if_neg b]at kQ G3 hR;obtain⟨as,hA,LC⟩:=hR;obtain⟨v,hv,pr,rfl,nX⟩:=Paired.KH LC (i:=0) rfl;have Bf:(rs.getD (q.race-1).toNat []).length<=24:=by
    refine hb _ ?_;rw[cU,bt (show(q.race-1).toNat<rs.length by omega)];exact pY _
   refine⟨Cp,dp,_,hp,Pl,p4,_,rfl,_,aM.of hA,_,eC hv,_,.inl (aM.of nX),?_⟩;refine⟨Cp,dp,_,hp,Pl,p2,_,rfl,?_⟩;rw[Ek];simp only[tC,VM,qQ,p_,FP,V.str.injEq,cS,decide_eq_true_eq,length_map];refine bo (λb1=>?_) (λb1=>?_)
   .rw[ag b1]at G3;exact G3
   rw[af b1]at G3;refine⟨Cp,dp,_,hp,Pl,p2,_,rfl,?_⟩;rw[LA];simp only[tC,VM,qQ,p_,FP,V.str.injEq,cS,decide_eq_true_eq,length_map];refine bo (λb2=>?_) (λb2=>?_)
   .rw[ag b2]at G3;exact⟨Cp,dp,_,hp,Pl,p3,_,rfl,_,_,rfl,by omega,by omega,by omega,by omega,G3⟩
   rw[af b2]at G3;have hd:=Ls (k:=q.k) () ();rw[Int.fdiv_eq_ediv_of_nonneg _ ()]at G3;exact⟨Cp,dp,_,hp,Pl,p3,_,rfl,_,_,rfl,by omega,by omega,by omega,by omega,G3⟩
noncomputable def aaY(r c:Int)(v:V):List (Str×V):=[("refusal",.int r),("combinations",.int c),("bet",v)]
def oU(Ca:Addr):Sp:=λvs H Q _=>∃(p dx:Addr) (r c:Int) (v:V),vs=[.ref p,.int r,.int c,v]/\H p=some (.ins Ca dx [])/\∀H',H' p=some (.ins Ca dx (aaY r c v))->(∀b o,H b=some o->b≠p->H' b=some o)->Q .cT H'
def G4:aE ["self","refusal","combinations","bet"] ["self","refusal","combinations","bet"] (ao dZ):=by ac_nf
def El(F:Ue K "__init__" "Asked.__init__" dZ dV f fd)(C:FV K Ca)(n1:cG K Ca "refusal")(n2:cG K Ca "combinations")(n3:cG K Ca "bet"):
  Cm P w K mg base eY 1 f fd ["self","refusal","combinations","bet"] (oU Ca):=by
 refine F.okN G4 (λvs H Q E h=>?_) (λcf A outer s H vs Q E h=>?_)
 .obtain⟨p,dx,r,c,v,rfl,_⟩:=h;rfl
 .obtain⟨p,dx,r,c,v,rfl,hp,k⟩:=h;refine⟨_,(ah (i6 (pv 0) (pv 1) rfl) (ah (i6 (pv 0) (pv 2) rfl) (au (i6 (pv 0) (pv 3) rfl)))),?_⟩;refine⟨p,Ca,dx,[],rfl,hp,C,n1,⋯,?_⟩;refine⟨p,Ca,dx,_,rfl,ak,C,n2,Js,?_⟩;rw[iC];refine⟨p,Ca,dx,_,rfl,ak,C,n3,Jt,?_⟩;rw[iC];refine k _ ?_ λb o e hb=>by rw[aB hb];exact e
  rw[ak];rfl
def G5{T:Addr}{t:Tok}{kV dc pm cd ct:Value}(o:K.lookup T=some {cls:=.type "tuple",data:=.seq #[.int 0 t,.none] n}):
  ∀sY∈([[],[.cT],[.int 0,.cT]]:List (List V)),∃ds,Binds K (PySem.W.fnOf "__init__" "Asked.__init__" (fQ dZ) (cq dZ) (ao dZ) (.ref T) kV dc pm an cd ct) ["self","refusal","combinations","bet"] ds/\Vals sY ds:=by
 intro sY hd;simp only[mem_cons,not_mem_nil,or_false]at hd;obtain rfl|rfl|rfl:=hd
 .exact⟨[],λs us KX hl=>by obtain⟨_,_,_,_,rfl⟩:=Ui (show us.length=4 by simpa using hl);exact .of_defaults rfl (KX _ _ o) rfl rfl rfl,.nil⟩
 .exact⟨[.none],λs us KX hl=>by obtain⟨_,_,_,rfl⟩:=Jj (show us.length=3 by simpa using hl);exact .of_defaults rfl (KX _ _ o) rfl rfl rfl,.cons rfl .nil⟩
 .exact⟨[.int 0 t,.none],λs us KX hl=>by obtain⟨_,_,rfl⟩:=mW (show us.length=2 by simpa using hl);exact .of_defaults rfl (KX _ _ o) rfl rfl rfl,.cons ⟨_,rfl⟩ (.cons rfl .nil)⟩
abbrev CLA(P:Program)(w:World)(K:PySem.W.Frag)(mg:Str->Option Value)(base:Heap)(Ca:Addr):Prop:=CLD P w K mg base "Asked" Ca ["self","refusal","combinations","bet"] (oU Ca) ["refusal","combinations","bet"] [[],[.cT],[.int 0,.cT]]
end
def fm{g:β->α}:∀{ys}{zs},Paired (λv z=>v=g z) ys zs->ys=zs.map g:=by
 intro ys zs h
 induction h with
 |nil=>rfl|cons e _ ih=>rw[e,ih];rfl
end Pd
end
section
namespace L2
open PySem PySem.Spec PyProof.Rows
abbrev m6(h:Heap)(z TI TO T:Addr)(b:Bool):Prop:=
 h.get? z=some {cls:=.type "zip",dict:=none,data:=.fields #[rawInt T,.bool b,.bool false,.ref TI,.ref TO],slots:= #[]}
section
def tP{Q:Option Obj->Shared->Prop}(h:Q (s.heap.get? a) s):wpAny M A (loadIfAlive a) Q E s:=λΓ p _=>h
def G6{TI TO T:Addr}{b:Bool}{Q:Bool->Shared->Prop}(hz:m6 s.heap z TI TO T b)(hT:s.heap.get? T=some oT)(h:∀h',m6 h' z TI TO T true->Heap.SameBut z s.heap h'->Q false {s with heap:=h'}):wpAny (model prog w) A (Builtin.SmallTypes.ownedTupleIsFree (.ref z)) Q E s:=by
 unfold Builtin.SmallTypes.ownedTupleIsFree;refine aj (fF hz rfl rfl ?_);show wpAny _ _ (loadIfAlive (Int.toNat (T:Int))>>=_) _ _ _;rw[gk];refine aj (tP ?_);rw[hT,af ∅];refine aj (fF hz rfl (x:=.bool b) rfl ?_);cases b with
 |true=>
  rw[af ∅];exact ay (h s.heap hz ⟨rfl,λ_ _=>rfl⟩)
 |false=>
  rw[ag ⋯];refine aj (wpAny_setField_rec hz ∅ λh₁ hz₁ hs₁=>?_);exact ay (h h₁ hz₁ hs₁)
def Bg{TI TO T:Addr}{xs:Array Value}{x y:Value}{b:Bool}(D:ZipApart z TI TO i1 i2 l1 l2)(hz:m6 s.heap z TI TO T b)(hT:s.heap.get? T=some oT)(Ba:IsPair s.heap TI (.ref i1) (.ref i2))(h1:s.heap.IsListIter i1 l1 k1)(h2:s.heap.IsListIter i2 l2 k2)(QK:s.heap.IsList l1 xs)(Zg:s.heap.IsList l2 ys)(hx:xs[k1]?=some x)(hy:ys[k2]?=some y)(hQ:∀h',m6 h' z TI TO T true->h'.IsListIter i1 l1 (k1+1)->h'.IsListIter i2 l2 (k2+1)->IsPair h' s.heap.objs.size x y->
   (∀c o,c≠z->c≠i1->c≠i2->s.heap.get? c=some o->h'.get? c=some o)->Q (.ref s.heap.objs.size) {s with heap:=h'}):
  wpAny (model prog w) A (Builtin.«zip.__next__» ⟨[.ref z],[]⟩) (λfin s'=>∃v,fin=.done (.ret v)/\Q v s') E s:=by
 show wpAny _ _ (field (.ref z) 2>>=_) _ _ _;refine aj (fF hz rfl rfl ?_);refine aj (fF hz rfl rfl ?_);refine aj (mF Ba rfl ?_);refine aj (G6 hz hT λh₁ hz₁ hs₁=>?_);refine aj ?_;rw[<-wK];refine aj (aj (gm ?_));refine aj (wpAny_nextOf_list_item (h1.extBut hs₁.extBut D.i1z) (QK.extBut hs₁.extBut D.l1z) hx λh₂ h1₂ hs₂=>ay ?_);refine ay ?_;refine aj (aj (gm ?_));refine aj (wpAny_nextOf_list_item ((h2.extBut hs₁.extBut D.i2z).extBut hs₂.extBut D.i12.symm)
  ((Zg.extBut hs₁.extBut D.l2z).extBut hs₂.extBut D.l2i1) hy λh₃ h2₃ hs₃=>ay ?_)
 refine ay ?_;refine ay ?_;refine aj (wpAny_newTuple ?_ (by show 2<=sizeLine;rw[cE];decide));have fY:h₃.objs.size=s.heap.objs.size:=by rw[hs₃.1,hs₂.1,hs₁.1]
 refine ay ⟨_,rfl,?_⟩;rw[fY];have up:∀c o,h₃.get? c=some o->(h₃.push {cls:=.type "tuple",data:=.seq #[x,y]}).get? c=some o:=λc o e=>bR _ e;refine hQ _ (up _ _ (hs₃.extBut _ _ D.i2z.symm (hs₂.extBut _ _ D.i1z.symm hz₁))) ((h1₂.extBut hs₃.extBut D.i12).at λo e=>up _ o e) (h2₃.at λo e=>up _ o e) ?_ λc o c1 c2 c3 e=>up c o (hs₃.extBut _ _ c3 (hs₂.extBut _ _ c2 (hs₁.extBut _ _ c1 e)));rw[<-fY];exact bw _ rfl
def Em{TI TO T:Addr}{k1 k2:Nat}{xs ys:Array Value}{b:Bool}{Q:Fin->Shared->Prop}(hh:A.handled=none)(D:ZipApart z TI TO i1 i2 l1 l2)(hz:m6 s.heap z TI TO T b)(hT:s.heap.get? T=some oT)(Ba:IsPair s.heap TI (.ref i1) (.ref i2))(h1:s.heap.IsListIter i1 l1 k1)(QK:s.heap.IsList l1 xs)(hx:xs[k1]?=none)(hE:∀h' e,(∀c o,c≠z->c≠i1->s.heap.get? c=some o->h'.get? c=some o)->(∃o,h'.get? e=some o/\o.cls=.type "StopIteration")->E (.ref e) {s with heap:=h'}):
  wpAny (model prog w) A (Builtin.«zip.__next__» ⟨[.ref z],[]⟩) Q E s:=by
 show wpAny _ _ (field (.ref z) 2>>=_) _ _ _;refine aj (fF hz rfl rfl ?_);refine aj (fF hz rfl rfl ?_);refine aj (mF Ba rfl ?_);refine aj (G6 hz hT λh₁ hz₁ hs₁=>?_);refine aj ?_;rw[<-wK];refine aj (aj (gm ?_));refine aj (wpAny_nextOf_list_end hh (h1.extBut hs₁.extBut D.i1z) (QK.extBut hs₁.extBut D.l1z) hx λh₂ e hs₂ he=>?_);exact hE h₂ e (λc o c1 c3 x=>hs₂ _ _ c3 (hs₁.extBut _ _ c1 x)) he
def wd{TI TO T:Addr}{xs:Array Value}{x y:Value}{b:Bool}{Q:Option Value->Shared->Prop}(D:ZipApart z TI TO i1 i2 l1 l2)(hz:m6 s.heap z TI TO T b)(hT:s.heap.get? T=some oT)(Ba:IsPair s.heap TI (.ref i1) (.ref i2))(h1:s.heap.IsListIter i1 l1 k1)(h2:s.heap.IsListIter i2 l2 k2)(QK:s.heap.IsList l1 xs)(Zg:s.heap.IsList l2 ys)(hx:xs[k1]?=some x)(hy:ys[k2]?=some y)(hQ:∀h',m6 h' z TI TO T true->h'.IsListIter i1 l1 (k1+1)->h'.IsListIter i2 l2 (k2+1)->IsPair h' s.heap.objs.size x y->
   (∀c o,c≠z->c≠i1->c≠i2->s.heap.get? c=some o->h'.get? c=some o)->Q (some (.ref s.heap.objs.size)) {s with heap:=h'}):
  wpAny (model prog w) A (pyNext (.ref z)) Q E s:=by
 have hTy:s.TypeIs (.ref z) "zip":=⟨_,hz,rfl⟩;exact aj (sL (qY hTy wF
  (hG wF hTy PySem.F.entry_zip_next
   (Bg D hz hT Ba h1 h2 QK Zg hx hy λh' a1 a2 a3 a4 a5=>ay (hQ h' a1 a2 a3 a4 a5)) (PySem.F.args_zip_next_1 _))))
def we{TI TO T:Addr}{k1 k2:Nat}{xs ys:Array Value}{b:Bool}{Q:Option Value->Shared->Prop}(hh:A.handled=none)(D:ZipApart z TI TO i1 i2 l1 l2)(hz:m6 s.heap z TI TO T b)(hT:s.heap.get? T=some oT)(Ba:IsPair s.heap TI (.ref i1) (.ref i2))(h1:s.heap.IsListIter i1 l1 k1)(QK:s.heap.IsList l1 xs)(hx:xs[k1]?=none)(hQ:∀h',(∀c o,c≠z->c≠i1->s.heap.get? c=some o->h'.get? c=some o)->Q none {s with heap:=h'}):wpAny (model prog w) A (pyNext (.ref z)) Q E s:=by
 have hTy:s.TypeIs (.ref z) "zip":=⟨_,hz,rfl⟩;refine aj (sL (qY hTy wF
  (hG wF hTy PySem.F.entry_zip_next (Em (l2:=l2) (ys:=ys) (k2:=k2) hh D hz hT Ba h1 QK hx λh' e hk he=>?_) (PySem.F.args_zip_next_1 _))))
 obtain⟨o,ho,hc⟩:=he;refine aj (wX (b:=true) ⟨o,ho,hc⟩ isSubtype_stop ?_);exact ay (hQ _ hk)
def Bh:typeLookup (.type "zip") "keys"=pure none:=am_miss_of_fast (by first|decide+kernel|rfl)
theorem uL:typeLookup (.type "zip") "__getattr__"=pure none:=am_miss_of_fast (by first|decide+kernel|rfl)
theorem m7:entryFor table "zip.__getattribute__"=some Builtin.«object.__getattribute__»:=
 entryFor_alias (id':="object.__getattribute__") (by kernel_rfl) (by decide+kernel) (by decide+kernel) (by kernel_rfl)
theorem zC(a:Addr)(fs:Array Value)(sl:Array (Option Value))(name:Str)(u:Tok)(Wa:typeLookup (.type "zip") name=pure none)(QL:(["__module__","__name__","__qualname__","__doc__","__annotations__"]:List Str).contains name=false)(fY:name.length+100<=sizeLine:=by size_fits):
  Meets (Builtin.«object.__getattribute__» ⟨[.ref a,.str name u],[]⟩) (λA R s=>s.heap.get? a=some {cls:=.type "zip",dict:=none,data:=.fields fs,slots:=sl}/\raisesAttr (.ref a) name A R s):=
 Meets.of_wp λprog w A R s hs=>by
  obtain⟨hp,g,d,tk,os⟩:=s;obtain⟨hx,hs⟩:=hs
  repeat(any_goals(first|assumption|wp_step))
  simp-iota only[QL,OS,Dn]
  repeat(any_goals(first|assumption|wp_step))
  exact wpAny_raiseAttrError hs.1 hs.2 (attrMsg_fits (by decide+kernel) fY)
def QM{Q:Option Value->Shared->Prop}(hx:s.heap.get? a=some {cls:=.type "zip",dict:=none,data:=.fields fs,slots:= #[]})(hA:A.handled=none)(h:∀h' tk,(∀b ob,s.heap.get? b=some ob->h'.get? b=some ob)->Q none {s with heap:=h',toks:=tk}):wpAny (model prog w) A (getAttr? (.ref a) "keys") Q E s:=by
 obtain⟨hp,g,d,tk,os⟩:=s;have hT:∀SJ,(⟨hp,g,d,SJ,os⟩:Shared).TypeIs (.ref a) "zip":=λ_=>⟨_,hx,rfl⟩;have Wa:=Bh;have QL:(["__module__","__name__","__qualname__","__doc__","__annotations__"]:List Str).contains "keys"=false:=by decide+kernel
 have fY:("keys":Str).length+100<=sizeLine:=by first|size_fits|decide+kernel
 have f1:=sub_AttributeError;have f3:=PySem.F.slot_zip_getattribute.lookup;have f4:=PySem.F.slot_zip_getattribute.bind (.ref a);have f5:=uL;unfold getAttr? getAttrBy? getAttrBy
 repeat(any_goals(first|assumption|exact hT _|((with_reducible show wpAny _ _ (call (Value.builtin "zip.__getattribute__") _ _) _ _ _);refine iB PySem.F.slot_zip_getattribute (hT _) m7 (PySem.F.args_zip_getattribute_2 _ _) (zC a fs #[] "keys" _ Wa QL fY) ⟨hx,hA,λh' SJ e hx'=>?_⟩)|wp_step))
 obtain⟨t',u',he⟩:=hx'.there;show wpAny _ _ (getattributeRaised _ _ _ _ _ _ _) _ _ _;unfold getattributeRaised
 repeat(any_goals(first|assumption|wp_step))
 all_goals first|exact h _ _ hx'.keeps|(dsimp only;repeat(any_goals(first|assumption|exact h _ _ hx'.keeps|wp_step)))
end
def aaZ(h:Heap)(z TI TO:Addr):Prop:=(IsZip h z TI TO .none/\∃a b,IsPair h TO a b)\/∃T b oT,m6 h z TI TO T b/\h.get? T=some oT/\T≠z
structure tQ(h:Heap)(z TI TO i1 i2 l1 l2:Addr)(k:Nat)(xs ys:Array Value):Prop where
 st:aaZ h z TI TO
 ti:IsPair h TI (.ref i1) (.ref i2)
 i1:h.IsListIter i1 l1 k
 i2:h.IsListIter i2 l2 k
 l1:h.IsList l1 xs
 l2:h.IsList l2 ys
section
def QN{TI TO:Addr}{xs:Array Value}{x y:Value}{Q:Option Value->Shared->Prop}(D:ZipApart z TI TO i1 i2 l1 l2)(Z:tQ s.heap z TI TO i1 i2 l1 l2 k xs ys)(hx:xs[k]?=some x)(hy:ys[k]?=some y)(hQ:∀h',tQ h' z TI TO i1 i2 l1 l2 (k+1) xs ys->IsPair h' s.heap.objs.size x y->(∀c o,c≠z->c≠TO->c≠i1->c≠i2->s.heap.get? c=some o->h'.get? c=some o)->Q (some (.ref s.heap.objs.size)) {s with heap:=h'}):
  wpAny (model prog w) A (pyNext (.ref z)) Q E s:=by
 obtain⟨hz,a,b,DS⟩|⟨T,b,oT,hz,hT,hTz⟩:=Z.st
 .have Ig:=aN hz;refine wpAny_pyNext_zip_item D hz Z.ti DS Z.i1 Z.i2 Z.l1 Z.l2 hx hy λh' z' TO' xG vy hT fY hk=>?_;refine hQ h' ⟨.inr ⟨_,false,_,z',hT,jn Ig⟩,hk _ _ D.TIz D.TITO D.TIi1 D.TIi2 Z.ti,xG,vy,Z.l1.at λo e=>hk _ o D.l1z D.l1TO D.l1i1 D.l1i2 e,Z.l2.at λo e=>hk _ o D.l2z D.l2TO D.l2i1 D.l2i2 e⟩ hT hk
 .refine wd D hz hT Z.ti Z.i1 Z.i2 Z.l1 Z.l2 hx hy λh' z' xG vy hT' hk=>?_;have T4:∃oT',h'.get? T=some oT':=by
   by_cases c1:T=i1
   .subst c1;obtain⟨o,e,_⟩:=xG;exact⟨o,e⟩
   .by_cases c2:T=i2
    .subst c2;obtain⟨o,e,_⟩:=vy;exact⟨o,e⟩
    .exact⟨oT,hk _ _ hTz c1 c2 hT⟩
  obtain⟨oT',T4⟩:=T4;exact hQ h' ⟨.inr ⟨T,true,oT',z',T4,hTz⟩,hk _ _ D.TIz D.TIi1 D.TIi2 Z.ti,xG,vy,Z.l1.at λo e=>hk _ o D.l1z D.l1i1 D.l1i2 e,Z.l2.at λo e=>hk _ o D.l2z D.l2i1 D.l2i2 e⟩ hT' λc o c1 _ c3 c4 e=>hk c o c1 c3 c4 e
def QO{TI TO:Addr}{xs:Array Value}{Q:Option Value->Shared->Prop}(hh:A.handled=none)(D:ZipApart z TI TO i1 i2 l1 l2)(Z:tQ s.heap z TI TO i1 i2 l1 l2 k xs ys)(hx:xs[k]?=none)(hQ:∀h',(∀c o,c≠z->c≠TO->c≠i1->c≠i2->s.heap.get? c=some o->h'.get? c=some o)->Q none {s with heap:=h'}):
  wpAny (model prog w) A (pyNext (.ref z)) Q E s:=by
 obtain⟨hz,a,b,DS⟩|⟨T,b,oT,hz,hT,hTz⟩:=Z.st
 .exact wpAny_pyNext_zip_end hh D hz Z.ti DS Z.i1 Z.i2 Z.l1 Z.l2 (.inl hx) hQ
 .exact we (ys:=ys) (k2:=k) hh D hz hT Z.ti Z.i1 Z.l1 hx λh' hk=>hQ h' λc o c1 _ c3 _ e=>hk c o c1 c3 e
theorem tQ.at{TI TO:Addr}{xs:Array Value}(Z:tQ h z TI TO i1 i2 l1 l2 k xs ys)(hS:∀c,c=z\/c=TI\/c=TO\/c=i1\/c=i2\/c=l1\/c=l2->c≠S)(there:∀b,(∃o,h.get? b=some o)->∃o,h'.get? b=some o)(hk:∀c o,c≠S->h.get? c=some o->h'.get? c=some o):tQ h' z TI TO i1 i2 l1 l2 k xs ys:=by
 refine⟨?_,hk _ _ (hS _ ∅) Z.ti,Z.i1.at λo e=>hk _ o (hS _ ∅) e,Z.i2.at λo e=>hk _ o (hS _ ∅) e,Z.l1.at λo e=>hk _ o (hS _ ∅) e,Z.l2.at λo e=>hk _ o (hS _ ∅) e⟩;obtain⟨hz,a,b,DS⟩|⟨T,b,oT,hz,hT,hTz⟩:=Z.st
 .exact .inl ⟨hk _ _ (hS _ ∅) hz,a,b,hk _ _ (hS _ ∅) DS⟩
 .obtain⟨o',e'⟩:=there T ⟨_,hT⟩;exact .inr ⟨T,b,o',hk _ _ (hS _ ∅) hz,e',hTz⟩
theorem CF{S TI TO:Addr}{xs:Array Value}(hh:A.handled=none)(D:ZipApart z TI TO i1 i2 l1 l2)(hS:∀c,c=z\/c=TI\/c=TO\/c=i1\/c=i2\/c=l1\/c=l2->c≠S):
  ∀rest i acc ix t s,xs.size=i+rest.length->acc.length+rest.length<=sizeLine->
   (∀j q,rest[j]?=some q->∃u:Value,xs[i+j]?=some u/\ys[i+j]?=some q.2/\gY q.1 u=true)->
   tQ s.heap z TI TO i1 i2 l1 l2 i xs ys->s.heap.DictOf (bM prog w) S acc->
   (∀h' tk,h'.DictOf (bM prog w) S (merged acc rest)->(∀b o,b≠S->b≠z->b≠TO->b≠i1->b≠i2->s.heap.get? b=some o->h'.get? b=some o)->R (.ok (.ret res)) {s with heap:=h',toks:=tk})->
   codeAny (model prog w) A (.builtin "dict.update.loop" ⟨[.ref S,.ref z,.int ix t,res],[]⟩) R s
 |[],i,acc,ix,t,s,fY,Yd,ht,Z,hm,hR=>by
  refine kR Gf ?_;refine aj (QO hh D Z (by simp at fY;simp;omega) λh' he=>?_);refine aj (ay (ay ?_));exact hR h' s.toks (hm.at λo e=>he _ o (hS _ ∅).symm (hS _ ∅).symm (hS _ ∅).symm (hS _ ∅).symm e) λb o _ h1 h2 h3 h4 e=>he b o h1 h2 h3 h4 e
 |q::rest,i,acc,ix,t,s,fY,Yd,ht,Z,hm,hR=>by
  obtain⟨u,hxu,hyq,hk⟩:=ht 0 q rfl;rw[aZ]at fY Yd;refine kR Gf ?_;refine aj (QN D Z ‹hxu› ‹hyq› λh1 Z1 hT1 Zq=>?_);have hm1:=hm.at λo e=>Zq _ o (hS _ ∅).symm (hS _ ∅).symm (hS _ ∅).symm (hS _ ∅).symm e;refine aj (gm ?_);refine aj (wpAny_tryCatch ?_);refine aj (sS ⟨_,hT1,rfl⟩ ?_);refine aj (mF hT1 rfl (ay ?_));refine gm (wpAny_dictSet_pairs (k:=q.1) hk hm1 (λh2 Qp Tt=>?_) ());have Z2:=Z1.at hS (λb ⟨o,e⟩=>by
   by_cases c:b=S
   .subst c;obtain⟨o',_,_,xD,_⟩:=id Qp;exact⟨o',xD⟩
   .exact⟨o,Tt.extBut b o c e⟩) λc o h3 e=>Tt.extBut c o h3 e
  refine ay ⟨pO yH _,CF hh D hS rest (i+1) (stored acc q.1 q.2) (ix+1) 0 _ (show xs.size=i+1+rest.length by omega) ?_ (λj q' e=>?_) Z2 Qp λh' tk Iq k=>?_⟩
  .have z:=stored_length_le acc q.1 q.2;omega
  .obtain⟨u',e1,e2,e3⟩:=ht (j+1) q' ‹e›;rw[show i+1+j=i+(j+1) by omega];exact⟨u',e1,e2,e3⟩
  .exact hR h' tk Iq λc oc h3 h4 h5 h6 h7 e=>k c oc h3 h4 h5 h6 h7 (Tt.extBut c oc h3 (Zq c oc h4 h5 h6 h7 e))
def Bi{TI TO:Addr}{xs:Array Value}(hh:A.handled=none)(D:ZipApart z TI TO i1 i2 l1 l2)(hz:IsZip s.heap z TI TO .none)(Z:tQ s.heap z TI TO i1 i2 l1 l2 0 xs ys)(adY:TO<s.heap.objs.size)(fY:xs.size=prs.length)(Yd:prs.length<=sizeLine)(ht:∀(j:Nat) q,prs[j]?=some q->∃u:Value,xs[j]?=some u/\ys[j]?=some q.2/\gY q.1 u=true)(h:∀h' tk,h'.DictOf (bM prog w) s.heap.objs.size (merged [] prs)->(∀b o,b≠z->b≠TO->b≠i1->b≠i2->s.heap.get? b=some o->h'.get? b=some o)->Q (.ref s.heap.objs.size) {s with heap:=h',toks:=tk}):
  wpAny (model prog w) A (call (.type "dict") [.ref z]) Q E s:=by
 refine callType_codes (Q₁:=λobj s₁=>obj=.ref s.heap.objs.size/\s₁= {s with heap:=s.heap.push {cls:=.type "dict",data:=.dict #[]}}) PySem.F.kt_called_dict (PySem.F.kt_typeCall_dict_1 _) PySem.F.entry_dict_init (kt_code_dict_new _ ⟨rfl,rfl⟩) ?_;rintro obj s₁ ⟨rfl,rfl⟩;have Pr:(s.heap.push {cls:=.type "dict",data:=.dict #[]}).DictOf (bM prog w) s.heap.objs.size []:=Heap.DictOf.new s.heap;have k0:∀b o,s.heap.get? b=some o->(s.heap.push {cls:=.type "dict",data:=.dict #[]}).get? b=some o:=λb o e=>bR _ e;refine⟨Pr.typeIs,PySem.F.args_dict_init_2 _ _,?_⟩;refine aj ?_;refine aj (wpAny_notOrdered_dict Pr.typeIs ?_);refine ay ?_;show wpAny _ _ (Builtin.Dict.updateFrom "dict.__init__" s.heap.objs.size (.ref z) [] .none) _ _ _;refine aj (sS ⟨_,k0 _ _ hz,rfl⟩ ?_);refine aj (QM (k0 _ _ hz) hh λh1 tk1 Zq=>?_);refine aj (wpAny_rule ?_);have k1:∀b o,s.heap.get? b=some o->h1.get? b=some o:=λb o e=>Zq _ _ (k0 _ _ e);refine aj (wpAny_pyIter_zip (k1 _ _ hz) ?_);have lt:∀{c o},s.heap.get? c=some o->c≠s.heap.objs.size:=λe=>bB (aN e);have hS:∀c,c=z\/c=TI\/c=TO\/c=i1\/c=i2\/c=l1\/c=l2->c≠s.heap.objs.size:=by
  rintro c (e|e|e|e|e|e|e)<;>subst e
  .exact lt hz
  .exact lt Z.ti
  .exact bB adY
  .obtain⟨_,e,_⟩:=Z.i1;exact lt e
  .obtain⟨_,e,_⟩:=Z.i2;exact lt e
  .obtain⟨_,e,_⟩:=Z.l1;exact lt e
  .obtain⟨_,e,_⟩:=Z.l2;exact lt e
 have Z1:=Z.at hS (λb ⟨o,e⟩=>⟨o,k1 b o e⟩) λc o _ e=>k1 c o e;have key:=CF (prog:=prog) (w:=w) (A:=A.in1) (R:=wants (λr s₂=>r=.none/\Q (.ref s.heap.objs.size) s₂) E) (res:=Value.none) hh D hS prs 0 [] 0 0
  {s with heap:=h1,toks:=tk1} (by rw[fY,jN]) (by rw[pL,jN];exact Yd)
  (λj q e=>by rw[jN];exact ht j q e) Z1 (Pr.at λo e=>Zq _ _ e)
  (λh' tk Iq k=>⟨rfl,h h' tk Iq λb o c1 c2 c3 c4 e=>k b o (lt e) c1 c2 c3 c4 (k1 _ _ e)⟩)
 first
  |exact ay ⟨pO yH _,key⟩
  |exact aj (ay (ay ⟨pO yH _,key⟩))
end
def Jx:bootBuiltins "dict"=some (.type "dict"):=by decide+kernel
def QP(K:PySem.W.Frag)(ta:TA):TE:=λσ H Q=>ta σ H λvs H1=>∃(a b:Addr) (ks:List Key) (ys:List V),vs=[.ref a,.ref b]/\aM K H1 a (ks.map kV)/\aM K H1 b ys/\ks.length=ys.length/\∀p,H1 p=none->Q (.ref p) (upd H1 p (.dK (kY [] (ks.zip ys))))
theorem LD{P:Program}{w:World}:∀{ks:List Key}{aR}{j:Nat}{k},Vals (ks.map kV) aR->ks[j]?=some k->∃u,aR[j]?=some u/\gY k u=true
 |[],_,j,k,_,h=>by simp at h
 |k0::ks,_,j,k,.cons (b:=u) r t,h=>by
  cases j with
  |zero=>
   have e:=Option.some.inj h;subst e;exact⟨u,rfl,tD (P:=P) (w:=w) r⟩
  |succ j=>
   obtain⟨u',h1,h2⟩:=LD (P:=P) (w:=w) (k:=k) t ‹h›;exact⟨u',‹h1›,h2⟩
theorem QQ:∀{ks:List Key}{ys}{us},Vals ys us->KV (ks.zip ys) (ks.zip us)
 |[],_,_,_=>.nil|_::_,_,_,.nil=>.nil
 |_::ks,_,_,.cons r t=>.cons ⟨rfl,r⟩ (QQ t)
def Jy{e2:Expr}{ta:TA}{p p2 pos om:Pos}(zD:X.calm=true)(hgd:Gl X "dict")(hmd:X.mg "dict"=none)(hgz:Gl X "zip")(hmz:X.mg "zip"=none)(ha:PA X [e,e2] ta)(hs:starEach [e,e2] X.env=(false,eval e X.env)::starEach [e2] X.env:=by rfl)(iD:(backTo om (starEach [e2] X.env)).any (·.1)=false:=by rfl)(Ye:starEach [.Call (.Name "zip" p2) [e,e2] [] om] X.env=(false,eval (.Call (.Name "zip" p2) [e,e2] [] om) X.env)::starEach [] X.env:=by rfl)(hpd:(backTo pos (starEach [] X.env)).any (·.1)=false:=by rfl):
  PE X (.Call (.Name "dict" p) [.Call (.Name "zip" p2) [e,e2] [] om] [] pos) (QP X.K ta):=by
 intro pins s σ H Q I h;refine jG (gn I hgd hmd Jx ?_);refine jF ?_ Ye hpd;rw[Ye];show wpAny _ _ (spliced ((false,eval (.Call (.Name "zip" p2) [e,e2] [] om) X.env)::backTo pos (starEach [] X.env))) _ _ s;refine mw ?_;refine jG (gn I hgz hmz B4 ?_);refine jF (cI (ha om pins s σ H _ I h) λus s1 adZ=>?_) hs iD;obtain⟨vs,H1,I1,r1,q1⟩:=adZ;obtain⟨a,b,ks,ys,ex,VR,VS,hlen,q⟩:=q1;subst ex;cases r1 with
 |cons r rr=>
  cases rr with
  |cons r' rr=>
   cases rr;cases r;cases r';obtain⟨aR,rv,p1,z1⟩:=I1.list VR;obtain⟨og,XA,p2,z2⟩:=I1.list VS;have la:=p1.lt;have lb:=p2.lt;have l1:=rv.length;have l2:=XA.length;rw[az]at l1 z1;refine call_zip_2 p1.isList p2.isList λh' hz Ba DS h1 h2 fY hk=>rh ?_;have I2:=I1.kept (t':=s1.toks) hk;have D:=PySem.W.ktu_apart s1.heap.objs.size a b la lb;have Z:tQ h' (s1.heap.objs.size+4) (s1.heap.objs.size+2) (s1.heap.objs.size+3) s1.heap.objs.size (s1.heap.objs.size+1) a b 0 aR.toArray og.toArray:=
    ⟨.inl ⟨hz,_,_,DS⟩,Ba,h1,h2,p1.isList.at λo e=>hk _ o e,p2.isList.at λo e=>hk _ o e⟩
   refine Bi (prs:=ks.zip og) (I2.ok.hd zD) D hz Z (aN DS) ?_ ?_ (λj q' e'=>?_) λPB tk Iq k=>?_
   .rw[cN,mM];omega
   .rw[mM];omega
   .obtain⟨k1,k2⟩:=q';have e1:ks[j]?=some k1/\og[j]?=some k2:=by
     rw[uv]at e';exact e'
    obtain⟨u,hu,hku⟩:=LD (P:=X.prog) (w:=X.w) rv e1.1;exact⟨u,‹hu›,‹e1.2›,hku⟩
   .have rel:KV (ks.zip ys) (ks.zip og):=QQ XA;have hm:=beq_eq_false_iff_ne.mpr (jn I2.big);have Ig:(kY [] (ks.zip ys)).length<=sizeLine:=by
     refine aX (qO _ []) ?_;rw[pL,jN,mM];omega
    have hn:∀c,s1.heap.objs.size<=c->H1 c=none:=λc hc=>I1.bL.fresh hc;have fp:=λc hc=>I1.Dy hc (hn c hc);have hle:∀c∈ [s1.heap.objs.size+4,s1.heap.objs.size+3,s1.heap.objs.size,s1.heap.objs.size+1],s1.heap.objs.size<=c:=by
     intro c hc;have e':c=s1.heap.objs.size+4\/c=s1.heap.objs.size+3\/c=s1.heap.objs.size\/c=s1.heap.objs.size+1:=‹hc›
     obtain z|z|z|z:=e'
     .rw[z];exact kP _ _
     .rw[z];exact kP _ _
     .rw[z];exact aL _
     .rw[z];exact kP _ _
    have I3:Inv X pins σ (upd H1 h'.objs.size (.dK (kY [] (ks.zip ys)))) {s1 with heap:=PB,toks:=tk} :=
     I2.qk (t':=tk) (λc o hb e=>k c o (λz=>hb (by simp[z])) (λz=>hb (by simp[z])) (λz=>hb (by simp[z])) (λz=>hb (by simp[z])) e)
      (λc hc=>fp c (hle c hc)) (aL _) (show dF X.prog X.w _ _ _ (.dK (kY [] (ks.zip ys)))from⟨Ig,hm,merged [] (ks.zip og),KV.merge rel .nil,Iq⟩)
    exact⟨.ref h'.objs.size,_,I3,rfl,q _ (I2.bL.fresh (aL _))⟩
section
def vL{r d:Addr}{P:Nat->Value->Prop}(K:PySem.W.KdlSrc prog w T r d n P OK)(hh:A.handled=none)(bL:OK s.heap)(hn:n<=sizeLine)(go:∀hp tk us,s.heap.objs.size<hp.objs.size->(∀b o,s.heap.get? b=some o->hp.get? b=some o)->ItemsOf P us n->R us.toList {s with heap:=hp,toks:=tk}):
  wpAny (model prog w) A (collect (.ref r)) R E s:=by
 have lts:=K.there _ bL;refine aj (wpAny_runValue (kR entry_proto_collect' ?_));refine aj (jI (ay ⟨pO PySem.F.plain_list_iadd _,kR entry_list_iadd' ?_⟩));have new:(s.heap.push {cls:=.type "list",data:=.seq ([]:List Value).toArray}).get? s.heap.objs.size=some {cls:=.type "list",data:=.seq #[]} :=bw _ rfl;have run:=PySem.W.kdl_extend (s:= {s with heap:=s.heap.push {cls:=.type "list",data:=.seq ([]:List Value).toArray}})
  (R:=λ(q:Result)(s2:Shared)=>∃(hp:Heap) (tk:Nat) (us:Array Value) (c:Nat),q=.ok (.ret (.ref s.heap.objs.size))/\s2= {s with heap:=hp,toks:=tk}/\(∀b o,s.heap.get? b=some o->hp.get? b=some o)/\
   hp.get? s.heap.objs.size=some {cls:=.type "list",dict:=none,data:=.seq us c,slots:= #[]}/\ItemsOf P us n)
  K hh (K.keep _ _ bL λb _ o e=>bR _ e) s.heap.objs.size (jn lts.1) (jn lts.2) (.ref s.heap.objs.size) 0 new
  (λhp tk us c hk hu it=>⟨hp,tk,us,c,rfl,rfl,λb o e=>hk b o (bB (aN e)) (bR _ e),hu,it⟩) hn
 refine da run (λfin s2 x=>?_) λe s2 ⟨_,_,_,_,z,_⟩=>by cases z
 cases fin with
 |again code=>
  refine⟨x.1,jo x.2 λq s3 ad0=>?_⟩;obtain⟨hp,tk,us,c,e1,e2,hk,hu,it⟩:=ad0;subst e1 e2;exact aj (wpAny_load hu (ay (go hp tk us (aN hu) hk it)))
 |done f=>
  obtain⟨hp,tk,us,c,e1,e2,hk,hu,it⟩:=x;cases e1;subst e2;exact aj (wpAny_load hu (ay (go hp tk us (aN hu) hk it)))
def zE{r d:Addr}{P:Nat->Value->Prop}(K:PySem.W.KdlSrc prog w T r d n P OK)(hh:A.handled=none)(bL:OK s.heap)(hn:n<=sizeLine)(hP:∀vs:List Value,vs.length=n->(∀j v,vs[j]?=some v->P j v)->IntsAre vs ns)(h:∀(D:Addr) hp tk out ep jk,s.heap.objs.size<=D->(∀b o,s.heap.get? b=some o->hp.get? b=some o)->hp.get? D=some (seqObj "list" out ep)->IntsAre out.toList jk->jk.Perm ns->jk.Pairwise (·<=·)->Q (.ref D) {s with heap:=hp,toks:=tk}):
  wpAny (model prog w) A (call (.builtin "sorted") [.ref r]) Q E s:=by
 refine Calls.call_function_entry kind_sorted plain_sorted entry_sorted (args_sorted1 _) ?_;refine aj (ay (aj (vL (A:=A.in1) K hh bL hn λhp tk us lt hk it=>?_)));have hl:us.toList.length=n:=by rw[cM];exact it.1
 refine aj (xj ?_ (by rw[hl];exact hn));have hi:=hP _ hl λj v e=>it.2 j v (by rw[<-dv];exact e);have OC:(hp.push (seqObj "list" us.toList.toArray 0)).get? hp.objs.size=some (seqObj "list" us.toList.toArray 0):=bw _ rfl;refine aj (gm (hG slot_list_sort ⟨_,OC,rfl⟩ entry_list_sort (list_sort_treeAny OC hi (by rw[hl];exact hn) λout jk a1 a2 a3=>⟨_,rfl,ay ⟨_,rfl,?_⟩⟩) (args_list_sort _)));obtain⟨ep,M9⟩:=PyProof.Rows.sortedHeap_at (out:=out) OC;refine h _ _ _ out ep jk (iA lt) (λb o e=>?_) M9 a1 a2 a3;have hb:=aN (hk _ _ e);rw[PyProof.Rows.sortedHeap_old (bB hb) (by rw[dU];exact my hb)];exact bR _ (hk _ _ e)
end
section
def tR:∀{ns}{vs},vs.length=ns.length->(∀(j:Nat) v n,vs[j]?=some v->ns[j]?=some n->gY (Sum.inl n) v=true)->IntsAre vs ns:=by
 intro ns
 induction ns with
 |nil=>
  intro vs hl h;cases vs with
  |nil=>exact .nil|cons _ _=>cases hl
 |cons n ns ih=>
  intro vs hl h;cases vs with
  |nil=>cases hl
  |cons v vs=>
   have h0:=h 0 v n rfl rfl;obtain⟨t,rfl⟩:∃t,v=.int n t:=Gi h0;exact .cons n t (ih ‹hl› λj v' n' e1 e2=>h (j+1) v' n' ‹e1› ‹e2›)
def En(zD:X.calm=true):ku X (.builtin "sorted") (λxs H Q=>eL xs λa=>∃(kvs:List (Key×V)) (ns:List Int),H a=some (.dK kvs)/\kvs.map (·.1)=ns.map Sum.inl/\
  ∀(jk:List Int) p,jk.Perm ns->jk.Pairwise (·<=·)->H p=none->Q (.ref p) (upd H p (.lst (jk.map V.int)))):=by
 intro pins s σ H xs us Q I r q0;obtain⟨a,ex,kvs,ns,ha,hk,q⟩:=rm.mp q0;subst ex;rw[Vals.TY r];obtain⟨hz,hd,vs,rel,dd⟩:=VP I.bL ha;obtain⟨ep,hat⟩:=dd.dictAt;have e1:=rel.length;have e2:kvs.length=ns.length:=‹b_ List.length hk›
 refine zE (PySem.W.kdl_dict (kvs:=vs) (ep:=ep) hd) (I.ok.hd zD) hat (by rw[<-e1];exact hz) (ns:=ns) (λus' hl hp=>tR () λj v n h1 h2=>?_) λD hp tk out MQ jk hD keep zF a1 a2 a3=>?_
 .obtain⟨k,x,hx,hkx⟩:=hp j v h1;have e3:(kvs.map (·.1))[j]?=some k:=by
   have:(vs.map (·.1))[j]?=some k:=by rw[a_,hx];rfl
   rw[<-rel.keys]at this;exact this
  rw[hk,a_,h2]at e3;cases e3;exact hkx
 .have hlen:(jk.map V.int).length<=sizeLine:=by rw[az,a2.length_eq];omega
  exact⟨.ref D,upd H D (.lst (jk.map V.int)),I.laid keep hD ⟨hlen,out.toList,MQ,js a1,zF⟩,rfl,q jk D a2 a3 (I.bL.fresh hD)⟩
end
end L2
end
section
namespace Pd
open Tote TotePoolCalls
abbrev tS:=List (Int×Int)
noncomputable def aY(g:tS)(k:Int):Option Int:=(g.find? λp=>decide (p.1=k)).map (·.2)
noncomputable def mj(g:tS)(k v:Int):tS:=if(g.any λp=>decide (p.1=k))=true then g.map (λp=>if p.1=k then(p.1,v)else p)else g++ [(k,v)]
noncomputable def bp(g:tS):List Int:=g.map (·.1)
def cH p (g:tS) k:aY (p::g) k=if p.1=k then some p.2 else aY g k:=by
 unfold aY;by_cases h:p.1=k
 .simp[h]
 .simp[h]
def jX{g:tS}:aY g k=none↔k∉bp g:=by
 induction g with
 |nil=>simp[aY,bp]
 |cons p g ih=>
  rw[cH];by_cases h:p.1=k
  .rw[ag h];simp[bp,h]
  .rw[af h,ih];simp only[bp,map_cons,mem_cons,not_or];exact⟨λz=>⟨λe=>h e.symm,z⟩,λz=>z.2⟩
def Eo g h k:aY (g++h) k=(aY g k).or (aY h k):=by
 induction g with
 |nil=>rfl
 |cons p g ih=>
  rw[cons_append,cH,cH,ih];by_cases e:p.1=k
  .rw[ag e,ag e];rfl
  .rw[af e,af e]
def NQ{g:tS}{k v j:Int}:aY (g.map (λp=>if p.1=k then(p.1,v)else p)) j=if j=k then(aY g k).map (λ_=>v)else aY g j:=by
 induction g with
 |nil=>simp[aY]
 |cons p g ih=>
  rw[aJ,cH,ih,cH,cH];by_cases h:p.1=k
  .rw[ag h];by_cases hj:j=k
   .subst hj;rw[ag h,ag rfl,ag h];rfl
   .rw[af (λz=>hj (z.symm.trans h)),af hj,af hj,af (λz=>hj (z.symm.trans h))]
  .rw[af h];by_cases hj:p.1=j
   .rw[ag hj,af (λz=>h (hj.trans z)),ag hj]
   .rw[af hj,af hj,af h]
def any_keys{g:tS}:(g.any λp=>decide (p.1=k))=true↔k∈bp g:=by
 rw[pX];constructor
 .rintro⟨p,hp,e⟩;exact mem_map.mpr ⟨p,hp,‹e›⟩
 .intro h;obtain⟨p,hp,e⟩:=mem_map.mp h;exact⟨p,hp,‹e›⟩
def uM g k v j:aY (mj g k v) j=if j=k then some v else aY g j:=by
 unfold mj;split
 .rename_i h;rw[NQ];by_cases hj:j=k
  .cases e:aY g k with
   |none=>exact absurd (any_keys.mp h) (jX.mp e)|some x=>rfl
  .rw[af hj,af hj]
 .rename_i h;rw[Eo];by_cases hj:j=k
  .subst hj;rw[ag rfl,jX.mpr (λz=>h (any_keys.mpr z)),cH,ag rfl];rfl
  .rw[af hj,cH,af (λz=>hj z.symm)];cases aY g j<;>rfl
def CH g k v:bp (mj g k v)=if k∈bp g then bp g else bp g++ [k]:=by
 unfold mj;by_cases h:k∈bp g
 .rw[ag (any_keys.mpr h),ag h];unfold bp;rw[bQ];apply fE;intro p _;show(if p.1=k then(p.1,v)else p).1=p.1;split<;>rfl
 .rw[af (λz=>h (any_keys.mp z)),af h];simp[bp]
def CI{g:tS} k v (h:(bp g).Nodup):(bp (mj g k v)).Nodup:=by
 rw[CH];split
 .exact h
 .rename_i hk;rw[pQ];refine⟨h,by simp,λa ha b hb e=>?_⟩;have:b=k:=by simpa using hb
  subst this;subst e;exact hk ha
def UA g k v:(mj g k v).length<=g.length+1:=by
 unfold mj;split<;>simp
def UB{g:tS}{k v x:Int}(h:x∈bp (mj g k v)):x=k\/x∈bp g:=by
 rw[CH]at h;split at h
 .exact .inr h
 .obtain z|z:=mem_append.mp h
  .exact .inr z
  .exact .inl ‹z›
noncomputable def bj:List Int->tS
 |a::b::r=>(a,b)::bj r|_=>[]
theorem zG k:∀l:List Int,aY (bj l) k=atM k l
 |[]=>rfl|[_]=>rfl
 |a::b::r=>by
  show aY ((a,b)::bj r) k=if a=k then some b else atM k r
  rw[cH,zG k r]
theorem rN:∀l:List Int,(bj l).length=l.length/2
 |[]=>by simp[bj]|[_]=>by simp[bj]
 |a::b::r=>by
  show(bj r).length+1=(r.length+1+1)/2;rw[rN r];omega
theorem LJ:∀{l}{bf},kH n bf l=true->(bp (bj l)).Pairwise (·<·)/\∀x∈bp (bj l),bf<x
 |[],_,_=>⟨List.Pairwise.nil,by simp[bj,bp]⟩|[_],_,_=>⟨List.Pairwise.nil,by simp[bj,bp]⟩
 |a::b::r,bf,h=>by
  have h:(decide (bf<a)&&(decide (a<n)&&(decide (1<=b)&&kH n a r)))=true:=h;simp only[Bool.and_eq_true,decide_eq_true_eq]at h;obtain⟨h1,h2,h3,h4⟩:=h;obtain⟨i1,i2⟩:=LJ h4;show(a::bp (bj r)).Pairwise (·<·)/\∀x∈a::bp (bj r),bf<x;refine⟨pairwise_cons.mpr ⟨i2,i1⟩,λx hx=>?_⟩;obtain e|e:=mem_cons.mp hx
  .omega
  .have:=i2 x e;omega
def Jz{l:List Int}(h:fg l n=true):kH n (-1) l=true:=by
 unfold fg at h;simp only[Bool.and_eq_true]at h;exact h.2.1
def QR{l:List Int}(h:l.Pairwise (·<·)):l.Nodup:=h.imp (λz e=>by omega)
def vM{l:List Int}(h:fg l n=true):(bp (bj l)).Nodup:=QR (LJ (Jz h)).1
noncomputable def G7(g:tS)(l:tS):tS:=l.foldl (λg p=>mj g p.1 ((aY g p.1).getD 0+p.2)) g
theorem CJ:∀l g,(bp g).Nodup->(bp (G7 g l)).Nodup
 |[],_,h=>h|p::l,g,h=>CJ l _ (CI _ _ h)
theorem Ep:∀l g,(G7 g l).length<=g.length+l.length
 |[],g=>aL _
 |p::l,g=>by
  have h1:=Ep l (mj g p.1 ((aY g p.1).getD 0+p.2));have h2:=UA g p.1 ((aY g p.1).getD 0+p.2);show(G7 (mj g p.1 ((aY g p.1).getD 0+p.2)) l).length<=g.length+(l.length+1);omega
theorem G8{P:Int->Prop}:∀l g,(∀x∈bp g,P x)->(∀p∈l,P p.1)->∀x∈bp (G7 g l),P x
 |[],_,h,_=>h
 |p::l,g,h,hl=>G8 l _ (λx hx=>by
   obtain e|e:=UB hx
   .rw[e];exact hl p ∅
   .exact h x e) (λq hq=>hl q (by simp[hq]))
theorem G9 k:∀l g,(bp l).Nodup->(aY (G7 g l) k).getD 0=(aY g k).getD 0+(aY l k).getD 0
 |[],g,_=>by show(aY g k).getD 0=_;simp[aY]
 |p::l,g,h=>by
  have hn:=h;have hp:=(nodup_cons.mp hn);show(aY (G7 (mj g p.1 ((aY g p.1).getD 0+p.2)) l) k).getD 0=_;rw[G9 k l _ hp.2,uM,cH];by_cases e:k=p.1
  .have hl:aY l k=none:=jX.mpr (by rw[e];exact hp.1);rw[ag e,ag e.symm,hl,e];simp
  .rw[af e,af (λz=>e z.symm)]
noncomputable def dR(g:tS):List Int->List Int
 |[]=>[]|k::ns=>(if 0<(aY g k).getD 0 then [k,(aY g k).getD 0]else [])++dR g ns
theorem tU g:∀l m:List Int,dR g (l++m)=dR g l++dR g m
 |[],m=>rfl
 |k::l,m=>by
  show _++dR g (l++m)=(_++dR g l)++dR g m;rw[tU g l m,g_]
def zH g l k:dR g (l++ [k])=dR g l++(if 0<(aY g k).getD 0 then [k,(aY g k).getD 0]else []):=by
 rw[tU];show _++(_++ [])=_;rw[hZ]
theorem zI g:∀l:List Int,(dR g l).length%2=0
 |[]=>rfl
 |k::l=>by
  have:=zI g l;show((if 0<(aY g k).getD 0 then [k,(aY g k).getD 0]else [])++dR g l).length%2=0;split<;>(simp;omega)
theorem uN g:∀l:List Int,(dR g l).length<=2*l.length
 |[]=>aL _
 |k::l=>by
  have:=uN g l;show((if 0<(aY g k).getD 0 then [k,(aY g k).getD 0]else [])++dR g l).length<=2*(l.length+1);rw[c9];split
  .show 2+_<=_;omega
  .show 0+_<=_;omega
theorem tV g:∀l:List Int,(∀x∈l,0<=x)->∀x∈dR g l,0<=x
 |[],_,x,hx=>by simp[dR]at hx
 |k::l,h,x,hx=>by
  have hx:=hx;obtain z|z:=mem_append.mp hx
  .split at z
   .simp only[mem_cons,not_mem_nil,or_false]at z;obtain z|z:=z
    .rw[z];exact h k ∅
    .omega
   .simp at z
  .exact tV g l (λy hy=>h y (by simp[hy])) x z
def zJ(g:tS)(out:List Int):Prop:=∃ns:List Int,ns.Perm (bp g)/\ns.Pairwise (·<=·)/\out=dR g ns
def JA{g:tS}(h:zJ g out):out.length%2=0:=by
 obtain⟨ns,_,_,e⟩:=h;rw[e];exact zI g ns
def NR{g:tS}(h:zJ g out):out.length<=2*g.length:=by
 obtain⟨ns,p,_,e⟩:=h;rw[e];have h1:=uN g ns;have h2:=p.length_eq;unfold bp at h2;rw[az]at h2;omega
end Pd
end
section
namespace L2
open PySem PySem.Spec PyProof.Rows
def UC{ys:List V}{D:Ends}(Pv:Nat->St->Hp->Prop)(hlen:xs.length=ys.length)(h0:Pv 0 σ H)(hl:∀i σ H,i<=xs.length->Pv i σ H->aM K H a xs/\aM K H b ys)(hs:∀i x y T σ H,xs[i]?=some x->ys[i]?=some y->Pv i σ H->H T=none->g (.ref T) σ (upd H T (.tup [x,y])) λσ2 H2=>tb {D with nx:=Pv (i+1),ct:=Pv (i+1),bk:=D.nx} σ2 H2)(hd:∀σ H,Pv xs.length σ H->D.nx σ H):
  ∃W:Nat->Nat->St->Hp->Prop,(∃m,W 0 m σ H)/\∀i m σ H,W i m σ H->
   ((Itz K a b).stop i H/\D.nx σ H)\/((Itz K a b).go i H/\∃N:St->Hp->Prop,(∀σ' H',N σ' H'->∃m',m'<m/\W (i+1) m' σ' H')/\∀x H',(Itz K a b).FD i H x H'->g x σ H' λσ2 H2=>tb {D with nx:=N,ct:=N,bk:=D.nx} σ2 H2):=by
 refine⟨λi m σ H=>m=xs.length-i/\i<=xs.length/\Pv i σ H,⟨xs.length,by simp,cj _,h0⟩,?_⟩;rintro i m σ H ⟨rfl,hi,p⟩;obtain⟨qa,qb⟩:=hl i σ H hi p;by_cases dQ:i<xs.length
 .have ad1:i<ys.length:=by omega
  refine .inr ⟨⟨xs,ys,xs[i],ys[i],qa,qb,bt dQ,bt ad1⟩,Pv (i+1),λσ' H' p'=>⟨xs.length-(i+1),by omega,rfl,dQ,p'⟩,λx H' y=>?_⟩;obtain⟨T,u,v,e1,nT,e2,k1,k2⟩:=y;subst e1 e2;exact hs i u v T σ _ (k1 xs qa) (k2 ys qb) p nT
 .have e:i=xs.length:=by omega
  subst e;exact .inl ⟨⟨xs,ys,qa,qb,.inl (aL _)⟩,hd σ H p⟩
end L2
end
section
namespace Pd
open PySem PySem.SetTable
noncomputable def stp(m:Nat)(i:Nat):Nat:=(i*5+1)%m
noncomputable def QS(m:Nat):Nat->Nat->Nat
 |0,i=>i|n+1,i=>QS m n (stp m i)
theorem m8 m:∀a b i:Nat,QS m (a+b) i=QS m b (QS m a i)
 |0,b,i=>by rw[jN];rfl
 |a+1,b,i=>by
  rw[Nat.add_right_comm];exact m8 m a b (stp m i)
noncomputable def vZ(m:Nat):Nat->Nat×Nat->Nat×Nat
 |0,s=>(stp m s.1,s.2|||(1<<<s.1))
 |k+1,s=>vZ m k (vZ m k s)
theorem Er m:∀k s,(vZ m k s).1=QS m (2^k) s.1
 |0,s=>rfl
 |k+1,s=>by
  show(vZ m k (vZ m k s)).1=_;rw[Er m k,Er m k,<-m8,km,Nat.mul_two]
theorem JB m:∀k s x,(vZ m k s).2.testBit x=true↔s.2.testBit x=true\/∃n,n<2^k/\QS m n s.1=x
 |0,s,x=>by
  show(s.2|||(1<<<s.1)).testBit x=true↔_;rw[Nat.testBit_or,Dk];have e:(1<<<s.1).testBit x=true↔s.1=x:=by
   rw[Nat.one_shiftLeft,Nat.testBit_two_pow];simp
  rw[e];constructor
  .rintro(h|h)
   .exact .inl h
   .exact .inr ⟨0,by decide,h⟩
  .rintro(h|⟨n,hn,h⟩)
   .exact .inl h
   .have:n=0:=by simpa using hn
    subst this;exact .inr h
 |k+1,s,x=>by
  show(vZ m k (vZ m k s)).2.testBit x=true↔_;rw[JB m k,JB m k,Er];constructor
  .rintro((h|⟨n,hn,h⟩)|⟨n,hn,h⟩)
   .exact .inl h
   .exact .inr ⟨n,by rw[km];omega,h⟩
   .refine .inr ⟨2^k+n,by rw[km];omega,?_⟩;rw[m8];exact h
  .rintro(h|⟨n,hn,h⟩)
   .exact .inl (.inl h)
   .by_cases c:n<2^k
    .exact .inl (.inr ⟨n,c,h⟩)
    .refine .inr ⟨n-2^k,by rw[km]at hn;omega,?_⟩;rw[<-m8,show 2^k+(n-2^k)=n by omega];exact h
def Full(k:Nat):Prop:=vZ (2^k) k (0,0)=(0,2^2^k-1)
def aa0:Full 3:=by unfold Full;decide+kernel
def aa1:Full 5:=by unfold Full;decide+kernel
def aa2:Full 7:=by unfold Full;decide+kernel
def aa3:Full 9:=by unfold Full;decide+kernel
def Yf:Full 11:=by unfold Full;decide+kernel
def Yg:Full 13:=by unfold Full;decide+kernel
def zK(h:Full k){x:Nat}(hx:x<2^k):∃n,n<2^k/\QS (2^k) n 0=x:=by
 have e:(vZ (2^k) k (0,0)).2.testBit x=true:=by
  rw[h];simpa using hx
 obtain h1|h1:=(JB (2^k) k (0,0) x).mp e
 .simp at h1
 .exact h1
def NT(h:Full k):QS (2^k) (2^k) 0=0:=by
 have e:=Er (2^k) k (0,0);rw[h]at e;exact e.symm
def CK(h:Full k){x y:Nat}(hx:x<2^k)(hy:y<2^k):∃n,n<2^k/\QS (2^k) n y=x:=by
 obtain⟨a,ha,rfl⟩:=zK h hy;obtain⟨b,hb,rfl⟩:=zK h hx;by_cases c:a<=b
 .exact⟨b-a,by omega,by rw[<-m8,show a+(b-a)=b by omega]⟩
 .exact⟨b+2^k-a,by omega,by rw[<-m8,show a+(b+2^k-a)=2^k+b by omega,m8,NT h]⟩
noncomputable def gX(t:SetTable):Nat->Probe->Probe
 |0,p=>p|n+1,p=>gX t n (t.advance p)
theorem eG t:∀a b p,gX t (a+b) p=gX t b (gX t a p)
 |0,b,p=>by rw[jN];rfl
 |a+1,b,p=>by
  rw[Nat.add_right_comm];exact eG t a b (t.advance p)
theorem uO t:∀n p,(gX t n p).dummy=p.dummy
 |0,p=>rfl
 |n+1,p=>by
  show(gX t n (t.advance p)).dummy=_;rw[uO t n];unfold advance;split<;>rfl
noncomputable def Lp(mask i pt:Nat)(d:Option Nat):Probe:= {j:=i,more:=runEnd mask i-i,i:=i,perturb:=pt,dummy:=d}
def zL(t:SetTable) h:t.probeStart h=Lp t.mask (bits h%(t.mask+1)) (bits h) none:=rfl
theorem tW t i pt d:∀e,e<=runEnd t.mask i-i->gX t e (Lp t.mask i pt d)= {Lp t.mask i pt d with j:=i+e,more:=runEnd t.mask i-i-e}
 |0,_=>rfl
 |e+1,h=>by
  rw[eG,tW t i pt d e ()];show t.advance _=_;unfold advance;rw[ag (by show runEnd t.mask i-i-e>0;omega)];congr 1
def zM t i pt d:gX t (runEnd t.mask i-i+1) (Lp t.mask i pt d)=Lp t.mask (leap t.mask i pt).1 (leap t.mask i pt).2 d:=by
 rw[eG,tW t i pt d _ (aL _)];show t.advance _=_;unfold advance;rw[af (by show¬(runEnd t.mask i-i-(runEnd t.mask i-i)>0);omega)];rfl
noncomputable def FH(mask:Nat):Nat->Nat×Nat->Nat×Nat
 |0,s=>s|n+1,s=>FH mask n (leap mask s.1 s.2)
def Yh mask i:runEnd mask i-i<=9:=by unfold runEnd;split<;>omega
theorem LK t d:∀T s,∃n,n<=10*T/\gX t n (Lp t.mask s.1 s.2 d)=Lp t.mask (FH t.mask T s).1 (FH t.mask T s).2 d
 |0,s=>⟨0,by omega,rfl⟩
 |T+1,s=>by
  obtain⟨n,hn,e⟩:=LK t d T (leap t.mask s.1 s.2);have:=Yh t.mask s.1;refine⟨runEnd t.mask s.1-s.1+1+n,by omega,?_⟩;rw[eG,zM];exact e
theorem JC mask:∀T s,(FH mask T s).2=s.2/32^T
 |0,s=>by simp[FH]
 |T+1,s=>by
  show(FH mask T (leap mask s.1 s.2)).2=_;rw[JC mask T];show s.2/32/32^T=_;rw[Nat.div_div_eq_div_mul,km,mI]
theorem Es mask:∀a b s,FH mask (a+b) s=FH mask b (FH mask a s)
 |0,b,s=>by rw[jN];rfl
 |a+1,b,s=>by
  rw[Nat.add_right_comm];exact Es mask a b (leap mask s.1 s.2)
theorem zN mask:∀n i,(FH mask n (i,0)).1=QS (mask+1) n i
 |0,i=>rfl
 |n+1,i=>by
  show(FH mask n ((i*5+1+0/32)%(mask+1),0/32)).1=QS (mask+1) n (stp (mask+1) i);rw[Nat.zero_div,zN mask n];rfl
theorem JD mask:∀n s,s.1<mask+1->(FH mask n s).1<mask+1
 |0,s,h=>h|n+1,s,h=>JD mask n _ (kq _ (jq _))
def LL h:bits h<2^64:=by
 unfold bits;omega
structure Pow(t:SetTable):Prop where
 ex:∃k,t.mask+1=2^k/\Full k
def cover(P:Pow t) h {x:Nat} (hx:x<=t.mask):∃n,n<10*turns t.mask/\(gX t n (t.probeStart h)).j=x:=by
 obtain⟨k,ek,fk⟩:=P.ex;have h0:bits h%(t.mask+1)<t.mask+1:=kq _ (jq _);have hz:(FH t.mask 13 (bits h%(t.mask+1),bits h)).2=0:=by
  rw[JC];have hb:=LL h;exact Nat.div_eq_of_lt (by show bits h<32^13;omega)
 have hy:=JD t.mask 13 (bits h%(t.mask+1),bits h) h0;generalize hs:FH t.mask 13 (bits h%(t.mask+1),bits h)=s at hz hy;obtain⟨n,hn,e⟩:=CK fk (x:=x) (y:=s.1) () ();obtain⟨a,ha,ea⟩:=LK t none (13+n) (bits h%(t.mask+1),bits h);refine⟨a,by unfold turns;omega,?_⟩;rw[zL];rw[ea];rw[Es,hs,show s=(s.1,0)from by rw[<-hz],zN,ek];exact e
structure Et(xs:Array Nat):Prop where
 lt:∀(i j a b:Nat),i<j->xs[i]?=some a->xs[j]?=some b->a<b
def Eu{xs:Array Nat}{a d:Nat}(h:xs[i]?=some a):xs.getD i d=a:=by
 rw[yd,h];rfl
theorem zO{xs:Array Nat}(R:Et xs) j:∀fuel lo hi,lo<=hi->hi<=xs.size->hi-lo<=fuel->(∀i a,i<lo->xs[i]?=some a->a<j)->(∀i a,hi<=i->xs[i]?=some a->j<=a)->
  (∀i a,i<below.go xs j fuel lo hi->xs[i]?=some a->a<j)/\(∀i a,below.go xs j fuel lo hi<=i->xs[i]?=some a->j<=a)/\below.go xs j fuel lo hi<=xs.size
 |0,lo,hi,h1,h2,h3,h4,h5=>by
  have:lo=hi:=by omega
  subst this;exact⟨h4,h5,h2⟩
 |fuel+1,lo,hi,h1,h2,h3,h4,h5=>by
  have eg:below.go xs j (fuel+1) lo hi=(if lo<hi then(if xs.getD ((lo+hi)/2) j<j then below.go xs j fuel ((lo+hi)/2+1) hi else below.go xs j fuel lo ((lo+hi)/2))else lo):=rfl;rw[eg];by_cases c:lo<hi
  .rw[ag c];have hm:(lo+hi)/2<xs.size:=by omega
   obtain⟨v,hv⟩:∃v,xs[(lo+hi)/2]?=some v:=⟨_,iX hm⟩;rw[Eu hv];by_cases d:v<j
   .rw[ag d];refine zO R j fuel ((lo+hi)/2+1) hi () h2 () (λi a UD ha=>?_) h5;by_cases e:i=(lo+hi)/2
    .subst e;rw[hv]at ha;cases ha;exact d
    .have:=R.lt i ((lo+hi)/2) a v () ha hv;omega
   .rw[af d];refine zO R j fuel lo ((lo+hi)/2) () () () h4 (λi a UD ha=>?_);by_cases e:i=(lo+hi)/2
    .subst e;rw[hv]at ha;cases ha;omega
    .have:=R.lt ((lo+hi)/2) i v a () hv ha;omega
  .rw[af c];have:lo=hi:=by omega
   subst this;exact⟨h4,h5,h2⟩
def fX{xs:Array Nat}(R:Et xs) j:(∀i a,i<below xs j->xs[i]?=some a->a<j)/\(∀i a,below xs j<=i->xs[i]?=some a->j<=a)/\below xs j<=xs.size:=
 zO R j xs.size 0 xs.size (cj _) (aL _) () (λi a h _=>absurd h (mD _)) (λi a h ha=>by
  have:=(Array.getElem?_eq_some_iff.mp ha).1;omega)
def below_at{xs:Array Nat}(R:Et xs)(h:xs[i]?=some j):below xs j=i:=by
 obtain⟨h1,h2,h3⟩:=fX R j;have hi:=(Array.getElem?_eq_some_iff.mp h).1;obtain c|c|c:=pK (below xs j) i
 .obtain⟨v,hv⟩:∃v,xs[below xs j]?=some v:=⟨_,iX ()⟩;have a:=R.lt _ _ v j c hv h;have b:=h2 _ v (aL _) hv;omega
 .exact c
 .have:=h1 i j c h;omega
def qz(R:Et t.place)(hd:t.dummies= #[]):t.slot j=.live i↔t.place[i]?=some j:=by
 have e:t.slot j=if(t.place[below t.place j]?==some j)=true then .live (below t.place j)else if has t.dummies j=true then .dummy else .empty:=rfl
 rw[e];constructor
 .intro h;by_cases c:(t.place[below t.place j]?==some j)=true
  .rw[ag c]at h;cases h;simpa using c
  .rw[af c]at h;by_cases d:has t.dummies j=true
   .rw[ag d]at h;cases h
   .rw[af d]at h;cases h
 .intro h;rw[below_at R h,h,ag ∅]
def iq(R:Et t.place)(hd:t.dummies= #[]):t.slot j=.empty↔∀i:Nat,t.place[i]?≠some j:=by
 constructor
 .intro h i hi;rw[(qz R hd).mpr hi]at h;cases h
 .intro h;have e:t.slot j=if(t.place[below t.place j]?==some j)=true then .live (below t.place j)else if has t.dummies j=true then .dummy else .empty:=rfl
  rw[e,af ‹h _›,af];rw[hd];unfold has;simp
def JE(R:Et t.place)(hd:t.dummies= #[]) j:t.slot j=.empty\/∃i,t.slot j=.live i:=by
 by_cases c:∃i:Nat,t.place[i]?=some j
 .obtain⟨i,hi⟩:=c;exact .inr ⟨i,(qz R hd).mpr hi⟩
 .exact .inl ((iq R hd).mpr λi hi=>c ⟨i,hi⟩)
theorem Ew(R:Et t.place)(hd:t.dummies= #[]) hashAt h:∀n fuel p,n<fuel->t.slot (gX t n p).j=.empty->(∀m,m<n->t.slot (gX t m p).j≠ .empty)->
  (probe.go t hashAt h fuel p=some (.empty (gX t n p).j p.dummy)/\∀m,m<n->∃i,t.slot (gX t m p).j=.live i/\hashAt i≠h)\/
  ∃m i,m<n/\t.slot (gX t m p).j=.live i/\hashAt i=h/\probe.go t hashAt h fuel p=some (.candidate (gX t m p).j i (gX t (m+1) p))/\∀l,l<m->∃i,t.slot (gX t l p).j=.live i/\hashAt i≠h
 |0,0,p,hf,_,_=>by omega
 |0,fuel+1,p,_,he,_=>by
  refine .inl ⟨?_,λm hm=>absurd hm (mD _)⟩;have he:t.slot p.j=.empty:=he;unfold probe.go;rw[he];rfl
 |n+1,0,p,hf,_,_=>by omega
 |n+1,fuel+1,p,hf,he,hm=>by
  have h0:=hm 0 (jq _);obtain⟨i,hi⟩:∃i,t.slot p.j=.live i:=by
   obtain c|c:=JE R hd p.j
   .exact absurd c h0
   .exact c
  have gd:(t.advance p).dummy=p.dummy:=uO t 1 p;by_cases c:hashAt i=h
  .refine .inr ⟨0,i,jq _,hi,c,?_,λl hl=>absurd hl (mD _)⟩;unfold probe.go;rw[hi];simp only[c,BEq.rfl,if_true];rfl
  .have eg:probe.go t hashAt h (fuel+1) p=probe.go t hashAt h fuel (t.advance p):=by
    conv=>lhs;unfold probe.go
    rw[hi];have:(hashAt i==h)=false:=‹c›
    simp only[this,Bool.false_eq_true,if_false]
   obtain⟨g1,g2⟩|⟨m,i',g1,g2,g3,g4,g5⟩:=Ew R hd hashAt h n fuel (t.advance p) () he (λm h1=>hm (m+1) ())
   .refine .inl ⟨by rw[eg,g1,gd];rfl,λm h1=>?_⟩;cases m with
    |zero=>exact⟨i,hi,c⟩|succ m=>exact g2 m ()
   .refine .inr ⟨m+1,i',by omega,g2,g3,by rw[eg,g4];rfl,λl h1=>?_⟩;cases l with
    |zero=>exact⟨i,hi,c⟩|succ l=>exact g5 l ()
theorem len_sub:∀{l m:List Nat},l.Nodup->(∀x∈l,x∈m)->l.length<=m.length
 |[],m,_,_=>cj _
 |x::l,m,nd,h=>by
  obtain⟨h1,h2⟩:=nodup_cons.mp nd;have hx:=h x ∅;have:=len_sub (l:=l) h2 λy hy=>by
   have iF:y≠x:=λe=>h1 (e▸hy);exact(xa iF).mpr (h y (by simp[hy]))
  rw[rg hx]at this;have:=wV hx;rw[aZ];omega
def JF(m:Nat):Prop:=m=7\/m=31\/m=127\/m=511\/m=2047\/m=8191
def JF.pow(h:JF t.mask):Pow t:=by
 obtain e|e|e|e|e|e:=h
 .exact⟨3,by rw[e],aa0⟩
 .exact⟨5,by rw[e],aa1⟩
 .exact⟨7,by rw[e],aa2⟩
 .exact⟨9,by rw[e],aa3⟩
 .exact⟨11,by rw[e],Yf⟩
 .exact⟨13,by rw[e],Yg⟩
theorem zP{t t':SetTable}(h:t.mask=t'.mask):∀n p,gX t n p=gX t' n p
 |0,p=>rfl
 |n+1,p=>by
  have e:t.advance p=t'.advance p:=by unfold advance;rw[h]
  show gX t n (t.advance p)=gX t' n (t'.advance p);rw[e,zP h]
def JG{t':SetTable}(h:t.mask=t'.mask) x:t.probeStart x=t'.probeStart x:=by
 rw[zL,zL,h]
theorem G_{p:Nat->Prop} [DecidablePred p]:∀{n},p n->∃m,m<=n/\p m/\∀l,l<m->¬p l
 |0,h=>⟨0,aL _,h,λl hl=>absurd hl (mD _)⟩
 |n+1,h=>by
  by_cases c:∃m,m<=n/\p m
  .obtain⟨m,hm,hp⟩:=c;obtain⟨k,h1,h2,h3⟩:=G_ hp;exact⟨k,by omega,h2,h3⟩
  .exact⟨n+1,aL _,h,λl hl hp=>c ⟨l,by omega,hp⟩⟩
def JH(R:Et t.place)(hd:t.dummies= #[])(hs:t.place.size<=t.mask):∃x,x<=t.mask/\t.slot x=.empty:=by
 by_cases c:∃x,x<=t.mask/\∀i:Nat,t.place[i]?≠some x
 .obtain⟨x,hx,h⟩:=c;exact⟨x,hx,(iq R hd).mpr h⟩
 .exfalso;have:(List.range (t.mask+1)).length<=t.place.toList.length:=len_sub nodup_range λx hx=>by
   have hx:x<t.mask+1:=mem_range.mp hx;by_cases d:∃i:Nat,t.place[i]?=some x
   .obtain⟨i,hi⟩:=d;exact bh (by rw[dv];exact hi)
   .exact absurd ⟨x,by omega,λi hi=>d ⟨i,hi⟩⟩ c
  rw[sE,cM]at this;omega
def vN(M:JF t.mask)(R:Et t.place)(hd:t.dummies= #[])(hs:t.place.size<=t.mask) h:
  ∃n,n<10*turns t.mask/\t.slot (gX t n (t.probeStart h)).j=.empty/\∀m,m<n->t.slot (gX t m (t.probeStart h)).j≠ .empty:=by
 obtain⟨x,hx,he⟩:=JH R hd hs;obtain⟨n,hn,e⟩:=cover M.pow h hx;obtain⟨m,h1,h2,h3⟩:=G_ (p:=λn=>t.slot (gX t n (t.probeStart h)).j=.empty) (by rw[e];exact he);exact⟨m,by omega,h2,h3⟩
def iI(xs:Array α)(hp:p<=xs.size) x:(insertAt xs p x).toList=xs.toList.take p++x::xs.toList.drop p:=by
 unfold insertAt;simp[Array.toList_extract,extract_eq_take_drop,take_of_length_le]
def d4(xs:Array α)(hp:p<=xs.size) x i:(insertAt xs p x)[i]?=if i<p then xs[i]? else if i=p then some x else xs[i-1]?:=by
 rw[<-dv,iI xs hp];have hl:(xs.toList.take p).length=p:=by rw[cW,cM];omega
 by_cases c:i<p
 .rw[ag c,sv (),getElem?_take_of_lt c,dv]
 .rw[af c,sq (),hl];by_cases d:i=p
  .subst d;rw[ag rfl,Dq];rfl
  .rw[af d];obtain⟨k,hk⟩:∃k,i-p=k+1:=⟨i-p-1,by omega⟩;rw[hk,getElem?_cons_succ,pN,dv];congr 1;omega
def QT(hd:t.dummies= #[]) j:t.put j=({t with place:=insertAt t.place (below t.place j) j},below t.place j):=by
 unfold put;rw[hd];have:has #[] j=false:=by unfold has;simp
 simp only[this,Bool.false_eq_true,if_false]
def UE{xs:Array Nat}(R:Et xs)(hn:∀i:Nat,xs[i]?≠some j):Et (insertAt xs (below xs j) j):=by
 obtain⟨h1,h2,h3⟩:=fX R j;refine⟨λa b x y FI hx hy=>?_⟩;rw[d4 xs h3]at hx hy;have gt:∀(i v:Nat),below xs j<=i->xs[i]?=some v->j<v:=λi v hi hv=>by
  have:=h2 i v hi hv;have:v≠j:=λe=>hn i (e▸hv);omega
 by_cases c1:a<below xs j
 .rw[ag c1]at hx;by_cases c2:b<below xs j
  .rw[ag c2]at hy;exact R.lt a b x y FI hx hy
  .rw[af c2]at hy;have l1:=h1 a x c1 hx;by_cases c3:b=below xs j
   .rw[ag c3]at hy;cases hy;exact l1
   .rw[af c3]at hy;have:=gt (b-1) y () hy;omega
 .rw[af c1]at hx;rw[af ()]at hy;by_cases c3:a=below xs j
  .rw[ag c3]at hx;cases hx;rw[af ()]at hy;exact gt (b-1) y () hy
  .rw[af c3]at hx;rw[af ()]at hy;exact R.lt (a-1) (b-1) x y () hx hy
def UG{xs:Array Nat}(R:Et xs){x:Nat}:(∃i:Nat,(insertAt xs (below xs j) j)[i]?=some x)↔x=j\/∃i:Nat,xs[i]?=some x:=by
 obtain⟨_,_,h3⟩:=fX R j;constructor
 .rintro⟨i,hi⟩;rw[d4 xs h3]at hi;split at hi
  .exact .inr ⟨i,hi⟩
  .split at hi
   .cases hi;exact .inl rfl
   .exact .inr ⟨_,hi⟩
 .rintro(e|⟨i,hi⟩)
  .subst e;exact⟨below xs x,by rw[d4 xs h3,af (iZ _),ag rfl]⟩
  .by_cases c:i<below xs j
   .exact⟨i,by rw[d4 xs h3,ag c];exact hi⟩
   .exact⟨i+1,by rw[d4 xs h3,af (),af ()];exact hi⟩
end Pd
end
section
namespace Pd
open PySem PySem.SetTable PySem.Spec PyProof.Rows
def JI{l:List α}{x:α}(h:l[i]?=some x):(x::l.eraseIdx i).Perm l:=by
 obtain⟨hl,hx⟩:=List.getElem?_eq_some_iff.mp h;have e:l=l.take i++x::l.drop (i+1):=by
  rw[<-hx,<-mv hl,sG]
 rw[eraseIdx_eq_take_drop_succ]
 conv=>rhs;rw[e]
 exact perm_middle.symm
theorem LN next:∀fuel k (left:List α) out,left.length<=fuel->(pickOrder.go next fuel k left out).toList.Perm (out.toList++left)
 |0,k,left,out,h=>by
  have:=length_eq_zero_iff.mp (Nat.le_zero.mp h);subst this;rw[hZ];exact List.Perm.refl _
 |fuel+1,k,left,out,h=>by
  unfold pickOrder.go;cases e:left[next k%left.length]? with
  |none=>
   have h1:=List.getElem?_eq_none_iff.mp e;have:left=[]:=by
    cases left with
    |nil=>rfl|cons a l=>exact absurd (kq _ (jq l.length)) (Nat.not_lt.mpr h1)
   subst this;rw[hZ]
  |some x=>
   obtain⟨hl,hx⟩:=List.getElem?_eq_some_iff.mp e;have ih:=LN next fuel (k+1) (left.eraseIdx (next k%left.length)) (out.push x) (by rw[length_eraseIdx_of_lt hl];omega)
   refine ih.trans ?_;rw[Array.toList_push,g_];refine List.Perm.append_left _ ?_;exact JI e
def NU next(xs:Array α):(pickOrder next xs).toList.Perm xs.toList:=by
 have:=LN next xs.size 0 xs.toList #[] (by rw[cM];exact aL _)
 exact this
noncomputable def cX(w:World):Bool:=w.params.followText "set-order"
noncomputable def gM(es:Array (Int×Value))(ep:Nat)(t:SetTable):Obj:= {cls:=.type "set",dict:=none,data:=.set es ep t,slots:= #[]}
structure zQ(w:World)(h:Heap)(a:Addr)(es:Array (Int×Value))(ep:Nat)(t:SetTable):Prop where
 ob:h.get? a=some (gM es ep t)
 fit:t.fits es.size=true
 vO:Et t.place
 plain:t.plain=true
 led:t.led=!cX w
noncomputable def tX(w:World)(a:Addr)(ep:Nat)(es:Array (Int×Value)):Array (Int×Value):=if cX w then pickOrder (w.params.setOrder a ep) es else es
def gb w a ep es:(tX w a ep es).toList.Perm es.toList:=by
 unfold tX;split
 .exact NU _ _
 .exact List.Perm.refl _
noncomputable def slotAt(w:World)(t:SetTable):Nat->Nat
 |0=>0|i+1=>if cX w then 0 else t.place.getD i 0+1
def tY w t i:slotAt w t (i+1)=if cX w then 0 else t.place.getD i 0+1:=rfl
def d_(h:Heap)(I a:Addr)(slot i n ep:Nat):Prop:=∃o,h.get? I=some o/\o.cls=.type "set_iterator"/\o.data=.fields #[.int slot 0,.int i 0,.ref a,.int n 0,.int ep 0]
def d_.typeIs{slot n:Nat}(x:d_ s.heap I a slot i n ep):s.TypeIs (.ref I) "set_iterator":=let⟨o,ho,hc,_⟩:=x;⟨o,ho,hc⟩
namespace F
def di:Slot "set_iterator" "__next__" "set_iterator.__next__":=
 .of (owner:="set_iterator") (n:="__next__") (by rw[typeLookup_type,builtinLookup_eq_fast];kernel_rfl) (by decide+kernel) (by decide+kernel) (by decide+kernel)
  (by first|exact .inl (by decide+kernel)|exact .inr (by decide+kernel)) (by rw[isSubtype_type];kernel_rfl)
def nZ:Slot "set_iterator" "__iter__" "set_iterator.__iter__":=
 .of (owner:="set_iterator") (n:="__iter__") (by rw[typeLookup_type,builtinLookup_eq_fast];kernel_rfl) (by decide+kernel) (by decide+kernel) (by decide+kernel)
  (by first|exact .inl (by decide+kernel)|exact .inr (by decide+kernel)) (by rw[isSubtype_type];kernel_rfl)
def mm:entryFor table "set_iterator.__next__"=some Builtin.«set_iterator.__next__»:=entryFor_of_tree (by kernel_rfl)
def uP:entryFor table "set_iterator.__iter__"=some Builtin.«dict_keyiterator.__iter__»:=
 entryFor_alias (id':="dict_keyiterator.__iter__") (by kernel_rfl) (by decide+kernel) (by decide+kernel) (by kernel_rfl)
def zR:entryFor table "set.__iter__"=some Builtin.«frozenset.__iter__»:=
 entryFor_alias (id':="frozenset.__iter__") (by kernel_rfl) (by decide+kernel) (by decide+kernel) (by kernel_rfl)
def vP:Manifest.owners.lookup (String.ofList ['r', 'o', 't', 'a', 'r', 'e', 't', 'i', '_', 't', 'e', 's'].reverse)=some Manifest.sig_set_iterator:=by kernel_rfl
def n6 a:argsOk "set_iterator.__next__" ⟨[a],[]⟩:=by
 unfold argsOk;rw[signature?_of (id:="set_iterator.__next__") (n:=['_', '_', 't', 'x', 'e', 'n', '_', '_']) (by kernel_rfl) vP];kernel_rfl
def wg a:argsOk "set_iterator.__iter__" ⟨[a],[]⟩:=by
 unfold argsOk;rw[signature?_of (id:="set_iterator.__iter__") (n:=['_', '_', 'r', 'e', 't', 'i', '_', '_']) (by kernel_rfl) vP];kernel_rfl
end F
section
def rO{Q:Bool->Shared->Prop}(h:Q (cX w) s):wpAny (model prog w) A setsByText Q E s:=by
 exact aj (wpAny_askSetting (ay h))
def JK(R:Et t.place)(hi:i<=t.place.size)(hb:¬cX w=true):below t.place (slotAt w t i)=i:=by
 obtain⟨h1,h2,h3⟩:=fX R (slotAt w t i);cases i with
 |zero=>
  obtain z|z:=wL (below t.place (slotAt w t 0))
  .exact z
  .have h0:t.place[0]?=some t.place[0]:=iX ();exact absurd (h1 0 _ z h0) (mD _)
 |succ i=>
  have hp:t.place[i]?=some t.place[i]:=iX ();have es:slotAt w t (i+1)=t.place[i] +1:=by
   rw[tY,af hb,Eu hp]
  rw[es]at h1 h2 h3⊢;obtain z|z|z:=pK (below t.place (t.place[i] +1)) (i+1)
  .have:=h2 i _ () hp;omega
  .exact z
  .have hq:t.place[i+1]?=some t.place[i+1]:=iX ();have:=h1 (i+1) _ z hq;have:=R.lt i (i+1) _ _ (kO _) hp hq;omega
def zS{Q:Option (Value×Nat)->Shared->Prop}(S:zQ w s.heap a es ep t)(hi:i<=es.size)(h:Q (((tX w a ep es)[i]?).map λe=>(e.2,slotAt w t (i+1))) s):wpAny (model prog w) A (setNext a (slotAt w t i) i ep) Q E s:=by
 refine aj (jJ S.ob rfl S.fit ?_);refine aj (rO ?_);by_cases hb:cX w=true
 .rw[ag hb,af ∅];refine aj ?_;refine aj (jJ S.ob rfl S.fit ?_);refine aj (rO ?_);rw[ag hb];refine aj (wpAny_askSetting (ay ?_));refine ay ?_;have e0:slotAt w t i=0:=by cases i with
   |zero=>rfl|succ i=>rw[tY,ag hb]
  have e1:slotAt w t (i+1)=0:=by rw[tY,ag hb]
  rw[e1]at h;rw[e0];unfold tX at h;rw[ag hb]at h;exact h
 .rw[af hb];show wpAny _ _ (if(!t.plain&&decide (es.size>1))=true then _ else _) _ _ _;rw[af (by rw[S.plain];simp)];refine aj ?_;show wpAny _ _ (if(!t.led&&!es.isEmpty)=true then _ else _) _ _ _;rw[af (by rw[S.led];simp[hb])];refine ay ?_;have Il:t.place.size=es.size:=by
   have:=S.fit;unfold SetTable.fits at this;simp only[Bool.and_eq_true,beq_iff_eq]at this;exact this.1
  rw[JK S.vO () hb];refine ay ?_;unfold tX at h;rw[af hb]at h;by_cases hl:i<es.size
  .have e1:=iX hl;have e2:t.place[i]?=some t.place[i]:=iX ();rw[e1]at h⊢;rw[e2];have e3:slotAt w t (i+1)=t.place[i] +1:=by rw[tY,af hb,Eu e2]
   rw[e3]at h;exact h
  .have e1:es[i]?=none:=qZ ();have e2:t.place[i]?=none:=qZ ();rw[e1]at h⊢;exact h
def k_{Q:Array (Int×Value)->Shared->Prop}(S:zQ w s.heap a es ep t)(h:Q es s):wpAny (model prog w) A (setEntries a) Q E s:=by
 unfold setEntries;exact aj (jJ S.ob rfl S.fit (ay h))
def Bj{e:Int×Value}{Q:Option Value->Shared->Prop}(hit:d_ s.heap it a (slotAt w t i) i es.size ep)(S:zQ w s.heap a es ep t)(hx:(tX w a ep es)[i]?=some e)(hQ:∀h',d_ h' it a (slotAt w t (i+1)) (i+1) es.size ep->Heap.SameBut it s.heap h'->Q (some e.2) {s with heap:=h'}):wpAny (model prog w) A (pyNext (.ref it)) Q E s:=by
 obtain⟨o,ho,hc,hd⟩:=id hit;have hi:i<es.size:=by
  have h1:(tX w a ep es).size=es.size:=by
   have:=(gb w a ep es).length_eq;simpa using this
  obtain⟨h2,_⟩:=Array.getElem?_eq_some_iff.mp hx;omega
 refine aj (sL (qY hit.typeIs F.di
  (hG F.di hit.typeIs F.mm ?_ (F.n6 _))))
 refine aj (ay ?_);refine aj (wpAny_fieldsOf ho hd ?_);refine aj (k_ S ?_);rw[af ∅];show wpAny _ _ (setNext a (slotAt w t i) i ep>>=_) _ _ _;refine aj (zS S () ?_);rw[hx];refine aj (mB ho hd ∅ ?_);have xD:=mr (Obj.mapFields (·.setIfInBounds 0 (rawInt (slotAt w t (i+1):Nat)))) ho (oq (jH hd _));have Iq:=jH hd (·.setIfInBounds 0 (rawInt (slotAt w t (i+1):Nat)));refine aj (mB xD Iq ∅ ?_);refine ay ⟨_,rfl,ay (hQ _ ⟨_,mr _ xD (oq (jH Iq _)),(wR ..).trans ((wR ..).trans hc),by rw[jH Iq];simp[rawInt]⟩ ((kL ..).trans (kL ..)))⟩
def Ex{Q:Option Value->Shared->Prop}(hh:A.handled=none)(hit:d_ s.heap it a (slotAt w t es.size) es.size es.size ep)(S:zQ w s.heap a es ep t)(hQ:∀h',Heap.ExtBut it s.heap h'->Q none {s with heap:=h'}):wpAny (model prog w) A (pyNext (.ref it)) Q E s:=by
 obtain⟨o,ho,hc,hd⟩:=id hit;have hx:(tX w a ep es)[es.size]?=none:=by
  have:=(gb w a ep es).length_eq;refine qZ ?_;simpa using sP this
 unfold pyNext;refine aj (sL (qY (name:=Str.ofString "__next__") hit.typeIs F.di
  (hG F.di hit.typeIs F.mm ?_ (F.n6 _))))
 unfold Builtin.«set_iterator.__next__»;refine aj (ay ?_);refine aj (wpAny_fieldsOf ho hd ?_);show wpAny _ _ (setEntries a>>=_) _ _ _;refine aj (k_ S ?_);rw[af ∅];show wpAny _ _ (setNext a (slotAt w t es.size) es.size ep>>=_) _ _ _;refine aj (zS S (aL _) ?_);rw[hx];show wpAny _ _ (setField (.ref it) 2 .none>>=_) _ _ s;refine aj (mB ho hd ∅ ?_);show wpAny _ _ (newExc (.type "StopIteration") [] >>=_) _ _ _;refine aj ?_;delta newExc newTuple;refine aj (jI ?_ (by size_fits));refine aj (m:=firstArgMember _ _) (wpAny_of_eq (a:=Value.none) (by first|rfl|(simp only[firstArgMember];rfl)) ?_);refine jI ?_ (by size_fits);delta raiseNew;refine aj (wpAny_handled ?_);rw[show A.in1.handled=none from hh];refine aj (ay (sU ?_));refine aj (wX (T:="StopIteration") (b:=true) ⟨_,bw _ rfl,rfl⟩ isSubtype_stop ?_);exact ay (hQ _ (((kL ..).extBut.push _).push _))
def QU(S:zQ w s.heap a es ep t)(hQ:Q (.ref s.heap.objs.size) {s with heap:=s.heap.push {cls:=.type "set_iterator",data:=.fields #[.int 0 0,.int 0 0,.ref a,.int es.size 0,.int ep 0]}}):wpAny (model prog w) A (pyIter (.ref a)) Q E s:=by
 have hT:s.TypeIs (.ref a) "set":=⟨_,S.ob,rfl⟩;refine wpAny_pyIter_slot hT PySem.F.slot_set_iter (hG PySem.F.slot_set_iter hT F.zR ?_ (PySem.F.args_set_iter_1 _));refine aj (ay ?_);refine aj (aj (k_ S (ay ?_)));refine aj (aj (jJ S.ob rfl S.fit (aj (rO (ay ?_)))));show wpAny _ _ (if(!cX w&&(!t.plain&&decide (es.size>1)))=true then _ else _) _ _ _;rw[af (by rw[S.plain];simp)];refine aj (ay ?_);refine aj ?_;refine aj (jJ S.ob rfl S.fit (ay ?_));refine aj (jI (ay ⟨_,rfl,"set_iterator",_,⟨_,bw _ rfl,rfl⟩,F.di.lookup,?_⟩));simpa[rawInt]using hQ
def JL{slot n:Nat}(hit:d_ s.heap it a slot i n ep)(h:Q (.ref it) s):wpAny (model prog w) A (pyIter (.ref it)) Q E s:=by
 refine wpAny_pyIter_slot hit.typeIs F.nZ (hG F.nZ hit.typeIs F.uP ?_ (F.wg _));exact ay ⟨_,rfl,"set_iterator",_,hit.typeIs,F.di.lookup,h⟩
def QV{r:Addr}{Q:Bool->Shared->Prop}(hT:s.TypeIs (.ref r) "set")(h:Q false s):wpAny (model prog w) A (Builtin.List.listLengthHint (.ref r)) Q E s:=by
 refine aj (wpAny_specialOf hT PySem.F.slot_set_len.lookup ?_);generalize hid:("set.__len__":String)=id0
 wp_delta
 subst hid;refine aj (wX (b:=true) hT (by rw[isSubtype_type];kernel_rfl) ?_);refine wpAny_ite_split (λFI=>absurd FI ⋯) (λ_=>?_);refine aj (sS hT ?_);exact ay h
def zQ.keep(S:zQ w h a es ep t)(k:∀o,h.get? a=some o->h'.get? a=some o):zQ w h' a es ep t:=⟨k _ S.ob,S.fit,S.vO,S.plain,S.led⟩
def d_.keep{slot n:Nat}(x:d_ h it a slot i n ep)(k:∀o,h.get? it=some o->h'.get? it=some o):d_ h' it a slot i n ep:=let⟨o,ho,q⟩:=x;⟨o,k _ ho,q⟩
def NV(hh:A.handled=none) I a (iF:a≠I) es ep t:
  Walks prog w A I [I,a] [I] es.size (λi v=>∃e,(tX w a ep es)[i]?=some e/\v=e.2) (λi h=>d_ h I a (slotAt w t i) i es.size ep/\zQ w h a es ep t)where
 sub:=λb hb=>by simp at hb;simp[hb]
 frame:=λ_ _ _ st hk=>⟨st.1.keep λo e=>hk I ∅ o e,st.2.keep λo e=>hk a ∅ o e⟩
 item:=λi s Q E hi st hQ=>by
  have h1:(tX w a ep es).size=es.size:=by
   have:=(gb w a ep es).length_eq;simpa using this
  have hx:(tX w a ep es)[i]?=some (tX w a ep es)[i]:=iX ();refine Bj st.1 st.2 hx λh' IQ Ii=>?_;exact hQ _ h' s.toks ⟨_,hx,rfl⟩ ⟨IQ,st.2.keep λo e=>Ii.extBut a o iF e⟩ λb o hb e=>Ii.extBut b o (λh=>hb (by simp[h])) e
 done:=λs Q E st hQ=>Ex hh st.1 st.2 λh' M9=>hQ h' s.toks λb o hb e=>M9 b o (λh=>hb (by simp[h])) e
 self:=λ_ _ _ _ st hQ=>JL st.1 hQ
def LO a es ep t:PySem.W.KdlSrc prog w "set" a a es.size (λi v=>∃e,(tX w a ep es)[i]?=some e/\v=e.2) (λh=>zQ w h a es ep t)where
 type:=λ_ S=>⟨_,S.ob,rfl⟩
 there:=λ_ S=>⟨aN S.ob,aN S.ob⟩
 keep:=λ_ _ S hk=>S.keep λo e=>hk a (.inl rfl) o e
 notList:=by decide
 notTuple:=by decide
 hint:=λ_ _ _ _ S hq=>QV ⟨_,S.ob,rfl⟩ hq
 iter:=λ_ _ hh S=>⟨_,_,(λ_ _ hq=>QU S hq),NV hh _ a (bB (aN S.ob)) es ep t,⟨⟨_,bw _ rfl,rfl,rfl⟩,S.keep λ_ e=>bR _ e⟩⟩
end
end Pd
end
section
namespace Pd
open PySem PySem.SetTable
structure Tb{α:Type}(t:SetTable)(es:Array (Int×α)):Prop where
 Yi:JF t.mask
 vO:Et t.place
 Im:t.dummies= #[]
 len:t.place.size=es.size
 reach:∀(i:Nat)(e:Int×α),es[i]?=some e->∃j n,t.place[i]?=some j/\(gX t n (t.probeStart e.1)).j=j/\∀m,m<n->t.slot (gX t m (t.probeStart e.1)).j≠ .empty
def iJ(xs:Array α)(hp:p<=xs.size) x:(insertAt xs p x).size=xs.size+1:=by
 rw[<-cM,iI xs hp,c9,aZ,cW,dW,cM];omega
theorem Tb.put{es:Array (Int×α)}(T:Tb t es){h:Int}{x:α}{N:Nat}(he:t.slot (gX t N (t.probeStart h)).j=.empty)(hm:∀m,m<N->t.slot (gX t m (t.probeStart h)).j≠ .empty):
  Tb (t.put (gX t N (t.probeStart h)).j).1 (insertAt es (t.put (gX t N (t.probeStart h)).j).2 (h,x)):=by
 have hn:=(iq T.vO T.Im).mp he;generalize hJ:(gX t N (t.probeStart h)).j=J at*;obtain⟨_,_,h3⟩:=fX T.vO J;have hp:below t.place J<=es.size:=by rw[<-T.len];exact h3
 rw[QT T.Im];generalize ht:({t with place:=insertAt t.place (below t.place J) J} :SetTable)=t';have m':t'.mask=t.mask:=by rw[<-ht]
 have p':t'.place=insertAt t.place (below t.place J) J:=by rw[<-ht]
 have d':t'.dummies= #[]:=by rw[<-ht];exact T.Im
 have R':Et t'.place:=by rw[p'];exact UE T.vO hn
 have ea:=λn p=>zP m' n p;have eb:=λx=>JG m' x;have ne:∀y,t.slot y≠ .empty->t'.slot y≠ .empty:=λy hy h'=>by
  refine hy ((iq T.vO T.Im).mpr λi hi=>?_);obtain⟨k,hk⟩:=(UG T.vO (x:=y)).mpr (.inr ⟨i,hi⟩);rw[<-p']at hk;exact(iq R' d').mp h' k hk
 refine⟨by rw[m'];exact T.Yi,R',d',?_,λi e hi=>?_⟩
 .rw[p',iJ _ h3,iJ _ hp,T.len]
 .rw[d4 es hp]at hi;rw[p',d4 t.place h3];simp only[ea,eb];have old:∀k,es[k]?=some e->∃j n,t.place[k]?=some j/\(gX t n (t.probeStart e.1)).j=j/\∀m,m<n->t'.slot (gX t m (t.probeStart e.1)).j≠ .empty:=λk hk=>by
   obtain⟨j,n,q1,q2,q3⟩:=T.reach k e hk;exact⟨j,n,q1,q2,λm hm=>ne _ (q3 m hm)⟩
  by_cases c:i<below t.place J
  .rw[ag c]at hi⊢;exact old i hi
  .rw[af c]at hi⊢;by_cases d:i=below t.place J
   .rw[ag d]at hi⊢;cases hi;exact⟨J,N,rfl,hJ,λm UH=>ne _ (hm m UH)⟩
   .rw[af d]at hi⊢;exact old _ hi
def CM{mask:Nat}(h:i<=mask):i<=runEnd mask i/\runEnd mask i<=mask:=by unfold runEnd;split<;>omega
theorem QW t:∀n p,p.j+p.more<=t.mask->(gX t n p).j<=t.mask
 |0,p,h=>by show p.j<=_;omega
 |n+1,p,h=>by
  refine QW t n (t.advance p) ?_;unfold advance;split
  .show p.j+1+(p.more-1)<=_;omega
  .have hi:(leap t.mask p.i p.perturb).1<=t.mask:=Nat.lt_succ_iff.mp (kq _ (jq _));have:=CM hi;show(leap t.mask p.i p.perturb).1+(runEnd t.mask (leap t.mask p.i p.perturb).1-(leap t.mask p.i p.perturb).1)<=_;omega
def Ey t n h:(gX t n (t.probeStart h)).j<=t.mask:=by
 refine QW t n _ ?_;have hi:bits h%(t.mask+1)<=t.mask:=Nat.lt_succ_iff.mp (kq _ (jq _));have:=CM hi;show bits h%(t.mask+1)+(runEnd t.mask (bits h%(t.mask+1))-bits h%(t.mask+1))<=_;omega
def m9{owner:Array (Option Nat)}:(owner.getD j (some 0)).isNone=true↔owner[j]?=some none:=by
 rw[yd];cases owner[j]? with
 |none=>simp|some o=>simp
theorem CO:∀fuel i pt {j},layClean.free t.mask owner fuel i pt=some j->∃n,(gX t n (Lp t.mask i pt none)).j=j/\owner[j]?=some none/\∀m,m<n->owner[(gX t m (Lp t.mask i pt none)).j]?≠some none
 |0,i,pt,j,h=>by cases h
 |fuel+1,i,pt,j,h=>by
  unfold layClean.free at h;have hre:i<=runEnd t.mask i:=by unfold runEnd;split<;>omega
  cases e:(List.range (runEnd t.mask i+1-i)).find? (λk=>(owner.getD (i+k) (some 0)).isNone)with
  |some k=>
   rw[e]at h;cases h;obtain⟨h1,h2,h3⟩:=find?_range_eq_some.mp e;have hk:k<=runEnd t.mask i-i:=by have:=mem_range.mp h2;omega
   refine⟨k,by rw[tW t i pt none k hk],m9.mp h1,λm hm=>?_⟩;rw[tW t i pt none m ()];intro q;have:=h3 m hm;rw[m9.mpr q]at this;cases this
  |none=>
   rw[e]at h;have h4:=find?_range_eq_none.mp e;obtain⟨n,q1,q2,q3⟩:=CO fuel _ _ h;refine⟨runEnd t.mask i-i+1+n,by rw[eG,zM];exact q1,q2,λm hm=>?_⟩;by_cases c:m<=runEnd t.mask i-i
   .rw[tW t i pt none m c];intro q;have:=h4 m ();rw[m9.mpr q]at this;cases this
   .obtain⟨m',rfl⟩:∃m',m=runEnd t.mask i-i+1+m':=⟨m-(runEnd t.mask i-i+1),by omega⟩;rw[eG,zM];exact q3 m' ()
theorem LQ{mask:Nat}:∀fuel i pt T,T<fuel->owner[(FH mask T (i,pt)).1]?=some none->∃j,layClean.free mask owner fuel i pt=some j
 |0,_,_,_,h,_=>absurd h (mD _)
 |fuel+1,i,pt,T,hT,ho=>by
  unfold layClean.free;have hre:i<=runEnd mask i:=by unfold runEnd;split<;>omega
  cases e:(List.range (runEnd mask i+1-i)).find? (λk=>(owner.getD (i+k) (some 0)).isNone)with
  |some k=>exact⟨_,rfl⟩
  |none=>
   cases T with
   |zero=>
    have:=find?_range_eq_none.mp e 0 ();rw[m9.mpr (show owner[i+0]?=some none from ho)]at this;cases this
   |succ T=>exact LQ fuel _ _ T () ho
def NW(P:Pow t) h {x:Nat} (hx:x<=t.mask):∃T,T<turns t.mask/\(FH t.mask T (bits h%(t.mask+1),bits h)).1=x:=by
 obtain⟨k,ek,fk⟩:=P.ex;have h0:bits h%(t.mask+1)<t.mask+1:=kq _ (jq _);have hz:(FH t.mask 13 (bits h%(t.mask+1),bits h)).2=0:=by
  rw[JC];have hb:=LL h;have:(2:Nat)^64<=32^13:=by decide
  exact Nat.div_eq_of_lt (by show bits h<32^13;omega)
 have hy:=JD t.mask 13 (bits h%(t.mask+1),bits h) h0;generalize hs:FH t.mask 13 (bits h%(t.mask+1),bits h)=s at hz hy;obtain⟨n,hn,e⟩:=CK fk (x:=x) (y:=s.1) () ();refine⟨13+n,by unfold turns;omega,?_⟩;rw[Es,hs,show s=(s.1,0)from by rw[<-hz],zN,ek];exact e
structure Lay(t:SetTable)(hs:List Int)(owner:Array (Option Nat)):Prop where
 size:owner.size=t.mask+1
 lt:∀j l:Nat,owner[j]?=some (some l)->l<hs.length
 inj:∀j j' l:Nat,owner[j]?=some (some l)->owner[j']?=some (some l)->j=j'
 all:∀(l:Nat)(h:Int),hs[l]?=some h->∃n,owner[(gX t n (t.probeStart h)).j]?=some (some l)/\∀m,m<n->owner[(gX t m (t.probeStart h)).j]?≠some none
theorem Lay.free(L:Lay t hs owner)(hl:hs.length<=t.mask):∃x,x<=t.mask/\owner[x]?=some none:=by
 by_cases c:∃x,x<=t.mask/\owner[x]?=some none
 .exact c
 .have hx:∀x,x<=t.mask->∃l,owner[x]?=some (some l):=λx hx=>by
   cases e:owner[x]? with
   |none=>
    have h1:=Array.getElem?_eq_none_iff.mp e;have h2:=L.size;omega
   |some o=>
    cases o with
    |none=>exact absurd ⟨x,hx,e⟩ c|some l=>exact⟨l,rfl⟩
  have:=len_sub (l:=(List.range (t.mask+1)).map λx=>(owner.getD x none).getD 0) (m:=List.range hs.length) ?_ ?_
  .rw[az,sE,sE]at this;omega
  .rw[wG,mJ];refine nodup_range.imp_of_mem λ{a b} ha hb FI e=>FI ?_;have ha:=mem_range.mp ha;have hb:=mem_range.mp hb;obtain⟨la,ea⟩:=hx a ();obtain⟨lb,eb⟩:=hx b ();simp only[Array.getD_eq_getD_getElem?,ea,eb,Option.getD_some]at e;subst e;exact L.inj a b la ea eb
  .intro l FO;obtain⟨x,h1,h2⟩:=mem_map.mp FO;have h1:=mem_range.mp h1;obtain⟨la,ea⟩:=hx x ();rw[yd,ea]at h2;subst h2;exact mem_range.mpr (L.lt x la ea)
def Lay.step(M:JF t.mask)(L:Lay t hs owner)(hl:hs.length<=t.mask) h:
  ∃j,layClean.free t.mask owner (turns t.mask) (bits h%(t.mask+1)) (bits h)=some j/\Lay t (hs++ [h]) (owner.setIfInBounds j (some hs.length)):=by
 obtain⟨x,hx,ex⟩:=L.free hl;obtain⟨T,hT,eT⟩:=NW M.pow h hx;obtain⟨j,hj⟩:=LQ (mask:=t.mask) (owner:=owner) (turns t.mask) (bits h%(t.mask+1)) (bits h) T hT (by rw[eT];exact ex);obtain⟨n,q1,q2,q3⟩:=CO _ _ _ hj;have hjs:j<owner.size:=(Array.getElem?_eq_some_iff.mp q2).1;have g:∀y:Nat,(owner.setIfInBounds j (some hs.length))[y]?=if j=y then some (some hs.length)else owner[y]?:=λy=>by
  rw[Array.getElem?_setIfInBounds];by_cases c:j=y
  .subst c;simp[hjs]
  .simp[c]
 have keep:∀y:Nat,owner[y]?≠some none->(owner.setIfInBounds j (some hs.length))[y]?≠some none:=λy hy z=>by
  rw[g]at z;split at z
  .cases z
  .exact hy z
 refine⟨j,hj,⟨by rw[Array.size_setIfInBounds];exact L.size,λy l hy=>?_,λy y' l hy M0=>?_,λl h' FO=>?_⟩⟩
 .rw[g]at hy;rw[c9];split at hy
  .cases hy;exact kO _
  .have:=L.lt y l hy;show l<hs.length+1;omega
 .rw[g]at hy M0;split at hy
  .next c1=>
   cases hy;split at M0
   .next c2=>rw[<-c1,<-c2]
   .exact absurd (L.lt _ _ M0) (iZ _)
  .split at M0
   .cases M0;exact absurd (L.lt _ _ hy) (iZ _)
   .exact L.inj _ _ _ hy M0
 .by_cases c:l<hs.length
  .rw[sv c]at FO;obtain⟨n',r1,r2⟩:=L.all l h' FO;refine⟨n',?_,λm hm=>keep _ (r2 m hm)⟩;rw[g];split
   .next c2=>
    rw[<-c2,q2]at r1;cases r1
   .exact r1
  .obtain⟨dQ,e⟩:=List.getElem?_eq_some_iff.mp FO;rw[c9]at dQ;have hll:l=hs.length:=by
    have:l<hs.length+1:=dQ;omega
   subst hll;rw[sq (aL _),Dq]at FO;cases FO;refine⟨n,?_,λm hm=>keep _ (q3 m hm)⟩;rw[g];exact ag q1.symm
theorem Ha(M:JF t.mask):∀l hs owner,Lay t hs owner->hs.length+l.length<=t.mask->
  ∃QX,l.foldl (λ(acc:Option (Array (Option Nat)×Nat)) h=>do
   let(owner,k)<-acc
   let j<-layClean.free t.mask owner (turns t.mask) (bits h%(t.mask+1)) (bits h)
   pure (owner.setIfInBounds j (some k),k+1)) (some (owner,hs.length))=some (QX,hs.length+l.length)/\Lay t (hs++l) QX
 |[],hs,owner,L,_=>⟨owner,rfl,by rw[hZ];exact L⟩
 |h::l,hs,owner,L,hl=>by
  rw[aZ]at hl;obtain⟨j,hj,L'⟩:=L.step M () h;obtain⟨o',q1,q2⟩:=Ha M l (hs++ [h]) _ L' (by rw[c9];show hs.length+1+l.length<=_;omega);refine⟨o',?_,by rw[g_]at q2;exact q2⟩;rw[fG];rw[c9,show [h].length=1 from rfl]at q1;simp only[bind,Option.bind,hj,pure];rw[aZ,show hs.length+(l.length+1)=hs.length+1+l.length by omega];exact q1
def NX(M:JF t.mask) hs (hl:hs.size<=t.mask):∃owner,layClean t.mask hs=some owner/\Lay t hs.toList owner:=by
 have L0:Lay t [] (Array.replicate (t.mask+1) none):=⟨by simp,λj l h=>(by rw[Array.getElem?_replicate]at h;split at h<;>exact nomatch h),λj j' l h=>(by rw[Array.getElem?_replicate]at h;split at h<;>exact nomatch h),λl h hl=>(by cases hl)⟩;obtain⟨o,q1,q2⟩:=Ha M hs.toList [] _ L0 (by rw[pL,jN,cM];exact hl);refine⟨o,?_,by rw[pP]at q2;exact q2⟩;unfold layClean;rw[<-Array.foldl_toList];rw[show([]:List Int).length=0 from rfl]at q1;rw[q1];rfl
theorem JM{f:Nat->Option Nat}:∀l:List Nat,(l.filterMap λj=>(f j).map λ(k:Nat)=>(j,k)).map (·.1)=l.filter λj=>(f j).isSome
 |[]=>rfl
 |x::l=>by
  rw[jM,xf];cases f x with
  |none=>exact JM l
  |some k=>
   show x::_=x::_;rw[JM l]
theorem JN{f:Nat->Option Nat}:∀l:List Nat,(l.filterMap λj=>(f j).map λ(k:Nat)=>(j,k)).map (·.2)=l.filterMap f
 |[]=>rfl
 |x::l=>by
  rw[jM,jM];cases f x with
  |none=>exact JN l
  |some k=>
   show k::_=k::_;rw[JN l]
theorem JO{f:α->Option β}:∀{l:List α},(∀x∈l,∃y,f x=some y)->∀i:Nat,(l.filterMap f)[i]?=(l[i]?).bind f
 |[],_,i=>by simp
 |x::l,h,i=>by
  obtain⟨y,hy⟩:=h x ∅;rw[filterMap_cons_some hy];cases i with
  |zero=>simp[hy]|succ i=>simpa using JO (λz hz=>h z (by simp[hz])) i
def LR{mask finger moves:Nat}{led plain:Bool}(M:JF mask)(es:Array (Int×α))(hl:es.size<=mask):
  ∃t' order,laid mask finger moves led plain (es.map (·.1))=some (t',order)/\(order.filterMap (es[·]?)).toList.Perm es.toList/\Tb t' (order.filterMap (es[·]?))/\t'.mask=mask/\t'.led=led/\t'.plain=plain/\order.toList.Perm (List.range es.size):=by
 obtain⟨owner,q1,L⟩:=NX (t:= {mask,place:= #[],dummies:= #[],finger,led,moves,plain}) M (es.map (·.1)) (by rw[Array.size_map];exact hl);unfold laid;rw[q1];dsimp only[bind,Option.bind,pure];generalize hlv:(List.range (mask+1)).filterMap (λj=>(owner.getD j none).map λ(x:Nat)=>(j,x))=live;have e1:live.map (·.1)=(List.range (mask+1)).filter λj=>(owner.getD j none).isSome:=by rw[<-hlv];exact JM _
 have e2:live.map (·.2)=(List.range (mask+1)).filterMap λj=>owner.getD j none:=by rw[<-hlv];exact JN _
 have fY:(es.map (·.1)).toList.length=es.size:=by simp
 have gd:∀j l:Nat,owner.getD j none=some l↔owner[j]?=some (some l):=λj l=>by
  rw[yd];cases owner[j]? with
  |none=>simp|some o=>simp
 have aa4:∀(i j l:Nat),live[i]?=some (j,l)->owner[j]?=some (some l)/\j<mask+1:=λi j l h=>by
  have:=bh h;rw[<-hlv]at this;obtain⟨x,hx,ex⟩:=mem_filterMap.mp this;cases eo:owner.getD x none with
  |none=>rw[eo]at ex;cases ex
  |some k=>
   rw[eo]at ex;cases ex;exact⟨(gd _ _).mp eo,mem_range.mp hx⟩
 have dQ:∀l∈live.map (·.2),l<es.size:=λl h=>by
  rw[e2]at h;obtain⟨x,hx,ex⟩:=mem_filterMap.mp h;have:=L.lt x l ((gd _ _).mp ex);omega
 have fB:∀l∈live.map (·.2),∃y,es[l]?=some y:=λl h=>⟨es[l]'(dQ l h),iX (dQ l h)⟩;have Wb:(live.map (·.2)).Perm (List.range es.size):=by
  refine(perm_ext_iff_of_nodup ?_ nodup_range).mpr λl=>⟨λh=>mem_range.mpr (dQ l h),λh=>?_⟩
  .rw[e2,wG,pairwise_filterMap];refine nodup_range.imp_of_mem λ{a b} ha hb FI x hx y hy e=>FI ?_;subst e;exact L.inj a b x ((gd _ _).mp hx) ((gd _ _).mp hy)
  .have FO:=mem_range.mp h;obtain⟨n,r1,_⟩:=L.all l (es[l]).1 (by rw[dv,Array.getElem?_map,iX FO];rfl);rw[e2];refine mem_filterMap.mpr ⟨_,mem_range.mpr ?_,(gd _ _).mpr r1⟩;have:=(Array.getElem?_eq_some_iff.mp r1).1;rw[L.size]at this;exact this
 have hfm:((live.map (·.2)).toArray.filterMap (es[·]?)).toList=(live.map (·.2)).filterMap (es[·]?):=by simp
 refine⟨_,_,rfl,?_,⟨M,?_,rfl,?_,λi e hi=>?_⟩,rfl,rfl,rfl,by rw[sJ];exact Wb⟩
 .rw[hfm];refine(Wb.filterMap _).trans (List.Perm.of_eq ?_);refine pU λi=>?_;rw[JO (λx hx=>⟨es[x]'(mem_range.mp hx),iX (mem_range.mp hx)⟩),show es.toList[i]?=es[i]? from dv];by_cases c:i<es.size
  .rw[xc c];rfl
  .rw[ot (by rw[sE];omega),qZ ()];rfl
 .refine⟨λa b x y FI hx hy=>?_⟩;have hp:(live.map (·.1)).Pairwise (·<·):=by rw[e1];exact pairwise_lt_range.filter _
  rw[wZ]at hx hy;obtain⟨h1,e3⟩:=List.getElem?_eq_some_iff.mp hx;obtain⟨h2,e4⟩:=List.getElem?_eq_some_iff.mp hy;rw[<-e3,<-e4];exact pairwise_iff_getElem.mp hp a b h1 h2 FI
 .rw[show(Array.filterMap (es[·]?) (live.map (·.2)).toArray).size=((live.map (·.2)).filterMap (es[·]?)).length by rw[<-hfm,cM],cN,az];have h1:((live.map (·.2)).filterMap (es[·]?)).length=(live.map (·.2)).length:=by
   have:∀{l:List Nat},(∀x∈l,∃y,es[x]?=some y)->(l.filterMap (es[·]?)).length=l.length:=λ{l} =>by
    induction l with
    |nil=>intro _;rfl
    |cons x l ih=>
     intro h;obtain⟨y,hy⟩:=h x ∅;rw[filterMap_cons_some hy,aZ,aZ,ih λz hz=>h z (by simp[hz])]
   exact this fB
  rw[h1,az]
 .rw[<-dv,hfm,JO fB,a_]at hi;cases ei:live[i]? with
  |none=>rw[ei]at hi;cases hi
  |some jl=>
   obtain⟨j,l⟩:=jl;rw[ei]at hi;have hi:es[l]?=some e:=hi;obtain⟨ho,hj⟩:=aa4 i j l ei;obtain⟨n,r1,r2⟩:=L.all l e.1 (by rw[dv,Array.getElem?_map,hi];rfl);have iD:∀x:Nat,x<=mask->owner[x]?≠some none->∃i:Nat,(live.map (·.1)).toArray[i]?=some x:=λx hx iF=>by
    have hm:x∈live.map (·.1):=by
     rw[e1];refine mem_filter.mpr ⟨mem_range.mpr (),?_⟩;rw[yd];cases eo:owner[x]? with
     |none=>
      have h1:=Array.getElem?_eq_none_iff.mp eo;have h2:owner.size=mask+1:=L.size;omega
     |some o=>
      cases o with
      |none=>exact absurd eo iF|some k=>rfl
    obtain⟨i,hi⟩:=mem_iff_getElem?.mp hm;exact⟨i,by rw[wZ];exact hi⟩
   have em:∀n p,gX {mask:=mask,place:=(live.map (·.1)).toArray,dummies:= #[],finger:=finger,led:=led,moves:=moves,plain:=plain} n p=gX {mask:=mask,place:= #[],dummies:= #[],finger:=finger,led:=led,moves:=moves,plain:=plain} n p:=λn p=>(by refine zP ?_ n p;rfl);refine⟨j,n,?_,?_,λm hm z=>?_⟩
   .rw[wZ,a_,ei];rfl
   .rw[em];exact(L.inj _ _ _ ho r1).symm
   .rw[em]at z;have hR:Et (live.map (·.1)).toArray:=by
     refine⟨λa b x y FI hx hy=>?_⟩;have hp:(live.map (·.1)).Pairwise (·<·):=by rw[e1];exact pairwise_lt_range.filter _
     rw[wZ]at hx hy;obtain⟨h1,e3⟩:=List.getElem?_eq_some_iff.mp hx;obtain⟨h2,e4⟩:=List.getElem?_eq_some_iff.mp hy;rw[<-e3,<-e4];exact pairwise_iff_getElem.mp hp a b h1 h2 FI
    obtain⟨i',UD⟩:=iD _ (Ey {mask:=mask,place:= #[],dummies:= #[],finger:=finger,led:=led,moves:=moves,plain:=plain} m e.1) (r2 m hm);exact(iq hR rfl).mp z i' UD
end Pd
end
section
namespace Pd
open PySem PySem.SetTable PySem.Spec PyProof.Rows
abbrev oV(prog:Program)(w:World)(h:Heap)(k:List Int)(p:Addr):Prop:=IsTupleKey (intKind prog w) h k p
noncomputable abbrev th(prog:Program)(w:World)(k:List Int):Int:=tupleKeyHash (intKind prog w) k
def SK(prog:Program)(w:World)(h:Heap)(e:Int×Value)(k:List Int):Prop:=∃p,e=(th prog w k,.ref p)/\oV prog w h k p
section
def items_int(h:ItemsAre (intKind prog w) k vs):∀v∈vs,∃n t,v=.int n t:=by
 induction h with
 |nil=>intro v hv;cases hv
 |@cons a v' ks vs h1 _ ih=>
  intro v hv;obtain rfl|hv:=mem_cons.mp hv
  .obtain⟨t,e⟩:=wM (v:=v) h1;exact⟨a,t,e⟩
  .exact ih v hv
def Hb n t d:ofAClassStatement d (.int n t)=pure false:=by
 cases d<;>rfl
def vQ{Q:Bool->Shared->Prop}(hk:oV prog w s.heap k a)(h:Q false s):wpAny (model prog w) A (ofAClassStatement 8 (.ref a)) Q E s:=by
 have hT:=hk.typeIs;obtain⟨o,items,n,ho,_,hd,hi⟩:=hk;unfold ofAClassStatement;refine aj (sS hT ?_);show wpAny _ _ (pure true>>=_) _ _ s;refine aj (ay ?_);show wpAny _ _ (seqItems? (.ref a)>>=_) _ _ s;refine aj (mF ho hd ?_);refine aj ?_;show wpAny _ _ (forIn items _ _) _ _ s;rw[<-wK];refine wpAny_forIn_list _ (λrest r s'=>r.1=none/\s'=s/\∀v∈rest,∃n t,v=Value.int n t) _ ?_ ?_ _ _ ⟨rfl,rfl,items_int hi⟩
 .rintro v rest r s' ⟨hr,rfl,fB⟩;obtain⟨n,t,rfl⟩:=fB v b9;rw[Hb];refine aj (ay ?_);simp only[Bool.false_eq_true,if_false];exact ay ⟨rfl,rfl,λu KY=>fB u (bJ _ KY)⟩
 .rintro⟨r1,r2⟩ s' ⟨hr,rfl,_⟩;simp only at hr;subst hr;exact ay h
def Hc{Q:Bool->Shared->Prop}(hk:oV prog w s.heap k a)(h:Q true s):wpAny (model prog w) A (hashByValue 8 (.ref a)) Q E s:=by
 have hT:=hk.typeIs;obtain⟨o,items,n,ho,_,hd,hi⟩:=hk;unfold hashByValue;refine aj (wpAny_specialOf hT PySem.F.slot_tuple_hash.lookup ?_);show wpAny _ _ (seqItems? (.ref a)>>=_) _ _ s;refine aj (mF ho hd ?_);refine aj ?_;show wpAny _ _ (forIn items _ _) _ _ s;rw[<-wK];refine wpAny_forIn_list _ (λrest r s'=>r.1=none/\s'=s/\∀v∈rest,∃n t,v=Value.int n t) _ ?_ ?_ _ _ ⟨rfl,rfl,items_int hi⟩
 .rintro v rest r s' ⟨hr,rfl,fB⟩;obtain⟨n,t,rfl⟩:=fB v b9;rw[show hashByValue 7 (.int n t)=pure true from rfl];refine aj (ay ?_);simp only[Bool.not_true,Bool.false_eq_true,if_false];exact ay ⟨rfl,rfl,λu KY=>fB u (bJ _ KY)⟩
 .rintro⟨r1,r2⟩ s' ⟨hr,rfl,_⟩;simp only at hr;subst hr;exact ay h
def UI{Q:Bool->Shared->Prop}(hk:oV prog w s.heap k a)(QY:∀v∈vs,∃p k',v=.ref p/\oV prog w s.heap k' p)(h:Q false s):wpAny (model prog w) A (searchCouldBeSeen (.ref a) vs) Q E s:=by
 refine aj ?_;refine wpAny_forIn_list _ (λrest r s'=>r.1=none/\s'=s/\∀v∈rest,∃p k',v=Value.ref p/\oV prog w s.heap k' p) _ ?_ ?_ _ _ ⟨rfl,rfl,QY⟩
 .rintro v rest r s' ⟨hr,rfl,fB⟩;obtain⟨p,k',rfl,hp⟩:=fB v b9;have tl:=λu KY=>fB u (bJ _ KY);by_cases c:(a==p)=true
  .simp only[c,Bool.true_or,if_true];exact ay ⟨rfl,rfl,tl⟩
  .simp only[c,Bool.false_or,carriedByValue,Bool.and_self,Bool.false_eq_true,if_false];refine aj (wpAny_eqIsQuiet_tuple hk ?_);refine aj (wpAny_eqIsQuiet_tuple hp ?_);refine aj (vQ hk ?_);refine aj (vQ hp ?_);exact ay ⟨rfl,rfl,tl⟩
 .rintro⟨r1,r2⟩ s' ⟨hr,rfl,_⟩;subst hr;exact ay h
def UJ{X Z:Sem α}{b:Bool}{Q:α->Shared->Prop}(h:wpAny M A X Q E s)(hy:∀Q':Bool->Shared->Prop,Q' false s->wpAny M A Y Q' E s):
  wpAny M A (if b=true then Y>>=λc=>if c=true then Z else X else X) Q E s:=by
 cases b
 .exact h
 .refine aj (hy _ ?_);exact h
def UK(T:Tb t es)(h:t.slot j=.live i):∃e,es[i]?=some e/\t.place[i]?=some j:=by
 have hp:=(qz T.vO T.Im).mp h;have hi:i<es.size:=by rw[<-T.len];exact(Array.getElem?_eq_some_iff.mp hp).1
 exact⟨_,iX hi,hp⟩
def Hd{Q:SetFound->Shared->Prop}(hu:A.units<cLine)(S:zQ w s.heap a es ep t)(T:Tb t es)(P:Paired (SK prog w s.heap) es.toList ks)(hx:oV prog w s.heap k px){N:Nat}(hN:N<10*turns t.mask)(he:t.slot (gX t N (t.probeStart (th prog w k))).j=.empty)(hm:∀m,m<N->t.slot (gX t m (t.probeStart (th prog w k))).j≠ .empty)(yes:k∈ks->Q (.there none) s)(no:k∉ks->Q (.free (gX t N (t.probeStart (th prog w k))).j false) s):
  ∀d c fuel QZ,c+d=N->d<fuel->QZ.getD (t.probeStart (th prog w k))=gX t c (t.probeStart (th prog w k))->
   (∀m i e,m<c->t.slot (gX t m (t.probeStart (th prog w k))).j=.live i->es[i]?=some e->¬SK prog w s.heap e k)->wpAny (model prog w) A (setSearchFrom a (.ref px) (th prog w k) true fuel QZ) Q E s:=by
 intro d
 induction d using Nat.strongRecOn with
 |ind d ih=>
 intro c fuel QZ hc hf qe Zh;obtain⟨fuel,rfl⟩:∃f,fuel=f+1:=⟨fuel-1,by omega⟩;refine aj (jJ S.ob rfl S.fit ?_);dsimp only;have hg:t.gaveWay=false:=by
  unfold SetTable.gaveWay;obtain e|e|e|e|e|e:=T.Yi<;>rw[e] <;>rfl
 rw[af (by rw[hg];exact cg),qe];have g:=Ew T.vO T.Im (λi=>(es[i]?.map (·.1)).getD 0) (th prog w k) d (10*turns t.mask) (gX t c (t.probeStart (th prog w k))) ()
  (by rw[<-eG,hc];exact he) (λm h=>by rw[<-eG];exact hm _ ())
 obtain⟨g1,g2⟩|⟨m,i,g1,g2,g3,g4,g5⟩:=g
 .have gp:t.probe (λi=>(es[i]?.map (·.1)).getD 0) (th prog w k) (gX t c (t.probeStart (th prog w k)))=some (.empty (gX t N (t.probeStart (th prog w k))).j none):=by
   unfold probe;rw[g1,<-eG,hc,uO];rfl
  split
  case h_2=>rename_i LC;exact(LC _ gp).elim
  rename_i met LC;obtain rfl:=Option.some.inj (LC.symm.trans gp);refine ay (no λhk=>?_);obtain⟨i,hi⟩:=mem_iff_getElem?.mp hk;obtain⟨e,ei,K4⟩:=L2.Paired.KH P hi;rw[dv]at ei;obtain⟨j,n',r1,r2,r3⟩:=T.reach i e ei;obtain⟨p,rfl,hp⟩:=id K4;have Xo:t.slot (gX t n' (t.probeStart (th prog w k))).j=.live i:=by rw[r2];exact(qz T.vO T.Im).mpr r1
  have dQ:n'<N:=by
   obtain z|z|z:=pK n' N
   .exact z
   .rw[z,he]at Xo;cases Xo
   .exact absurd he (r3 N z)
  by_cases cc:n'<c
  .exact Zh n' i _ cc Xo ei K4
  .obtain⟨m,rfl⟩:∃m,n'=c+m:=⟨n'-c,by omega⟩;obtain⟨i',q1,q2⟩:=g2 m ();rw[<-eG,Xo]at q1;cases q1;rw[ei]at q2;exact q2 rfl
 .have gp:t.probe (λi=>(es[i]?.map (·.1)).getD 0) (th prog w k) (gX t c (t.probeStart (th prog w k)))=some (.candidate (gX t (c+m) (t.probeStart (th prog w k))).j i (gX t (c+(m+1)) (t.probeStart (th prog w k)))):=by
   unfold probe;rw[g4,<-eG,<-eG]
  split
  case h_2=>rename_i LC;exact(LC _ gp).elim
  rename_i met LC;obtain rfl:=Option.some.inj (LC.symm.trans gp);dsimp only;rw[<-eG]at g2;obtain⟨e,ei,iD⟩:=UK T g2;obtain⟨k',qi,K4⟩:=L2.Paired.at' P (by rw[dv];exact ei);obtain⟨p,rfl,hp⟩:=id K4;rw[ei]at g3;have seen:∀v∈(List.map (λx=>x.snd) (Array.filter (λx=>x.fst==th prog w k) es).toList),∃p k',v=Value.ref p/\oV prog w s.heap k' p:=λv hv=>by
   obtain⟨e,he1,rfl⟩:=mem_map.mp hv;have he2:e∈es.toList:=by
    have:=Array.mem_toList_iff.mp he1;exact Array.mem_toList_iff.mpr (Array.mem_filter.mp this).1
   obtain⟨i2,Qw⟩:=mem_iff_getElem?.mp he2;obtain⟨k2,_,p2,rfl,IP⟩:=L2.Paired.at' P Qw;exact⟨p2,k2,rfl,IP⟩
  rw[ei];refine UJ ?_ λQ' h=>UI hx seen h;refine aj (gm (wpAny_eqBool_tuple hu hp hx ?_));refine aj (jJ S.ob rfl S.fit ?_);by_cases kk:k'=k
  .rw[ag (by simp[kk])];refine ay (yes ?_);rw[<-kk];exact bh qi
  .rw[af (by simp[kk])];have sm:t.sameMemory t.moves t.mask=some true:=by unfold sameMemory;simp
   rw[sm];dsimp only;rw[ag rfl,g2];dsimp only;rw[ei];refine aj ?_;unfold isSame;dsimp only;rw[ag ∅];refine ay (aj (ay ?_));rw[ag rfl];dsimp only;rw[af (by simp[kk])];refine ih (d-(m+1)) () (c+(m+1)) fuel _ () () rfl λm2 i2 e2 h2 q1 q2 q3=>?_;by_cases cc:m2<c
   .exact Zh m2 i2 e2 cc q1 q2 q3
   .obtain⟨l,rfl⟩:∃l,m2=c+l:=⟨m2-c,by omega⟩;by_cases cd:l<m
    .obtain⟨i3,r1,r2⟩:=g5 l cd;rw[<-eG,q1]at r1;cases r1;rw[q2]at r2;obtain⟨p3,rfl,_⟩:=q3;exact r2 rfl
    .have el:l=m:=by omega
     subst el;rw[g2]at q1;cases q1;rw[ei]at q2;cases q2;obtain⟨p3,e3,Q0⟩:=q3;have e4:=b_ Prod.snd e3;cases e4;exact kk (hp.inj Q0)
def fq{l m:List α}(p:l.Perm m):∀{ks},Paired F l ks->∃qK,Paired F m qK/\qK.Perm ks:=by
 induction p with
 |nil=>intro ks h;cases h;exact⟨[],.nil,.refl _⟩
 |cons x _ ih=>
  intro ks h;cases h with
  |cons r t=>
   obtain⟨k2,h1,h2⟩:=ih t;exact⟨_,.cons r h1,h2.cons _⟩
 |swap x y l=>
  intro ks h;cases h with
  |cons r t=>
   cases t with
   |cons r2 t2=>exact⟨_,.cons r2 (.cons r t2),.swap _ _ _⟩
 |trans _ _ ih1 ih2=>
  intro ks h;obtain⟨k2,h1,h2⟩:=ih1 h;obtain⟨k3,h3,h4⟩:=ih2 h1;exact⟨k3,h3,h4.trans h2⟩
def zT(M:JF m)(h1:n*5<m*3)(h2:(n+1)*5≥m*3)(h3:n<2100):JF (sizeAbove (grown (n+1))-1)/\sizeAbove (grown (n+1))<=sizeLine/\(n+1)*5<(sizeAbove (grown (n+1))-1)*3/\n+1<=sizeAbove (grown (n+1))-1:=by
 have hz:=cE;obtain e|e|e|e|e|e:=M
 .obtain rfl:n=4:=by omega
  rw[show sizeAbove (grown (4+1))=32 by decide+kernel,hz];exact⟨by unfold JF;omega,by omega,by omega,by omega⟩
 .obtain rfl:n=18:=by omega
  rw[show sizeAbove (grown (18+1))=128 by decide+kernel,hz];exact⟨by unfold JF;omega,by omega,by omega,by omega⟩
 .obtain rfl:n=76:=by omega
  rw[show sizeAbove (grown (76+1))=512 by decide+kernel,hz];exact⟨by unfold JF;omega,by omega,by omega,by omega⟩
 .obtain rfl:n=306:=by omega
  rw[show sizeAbove (grown (306+1))=2048 by decide+kernel,hz];exact⟨by unfold JF;omega,by omega,by omega,by omega⟩
 .obtain rfl:n=1228:=by omega
  rw[show sizeAbove (grown (1228+1))=8192 by decide+kernel,hz];exact⟨by unfold JF;omega,by omega,by omega,by omega⟩
 .omega
def xY{t':SetTable}(ho:h.get? a=some (gM es ep t)):(h.update a (Obj.putSet A2 t')).get? a=some (gM A2 (ep+1) t'):=by
 have:=mr (Obj.putSet A2 t') ho (by rw[putSet_of A2 t' rfl];rfl);exact this
theorem Tb.fits{es:Array (Int×α)}(T:Tb t es)(h:es.size<=t.mask):t.fits es.size=true:=by
 unfold SetTable.fits SetTable.fill;rw[T.Im,T.len];simpa using h
def UL{Q:Bool->Shared->Prop}(hu:A.units<cLine)(S:zQ w s.heap a es ep t)(T:Tb t es)(P:Paired (SK prog w s.heap) es.toList ks)(nd:ks.Nodup)(hx:oV prog w s.heap k px)(room:es.size*5<t.mask*3)(hlen:es.size<2100)(yes:k∈ks->Q false s)(no:k∉ks->∀h' A2 MQ t' qK,Heap.SameBut a s.heap h'->zQ w h' a A2 MQ t'->Tb t' A2->Paired (SK prog w s.heap) A2.toList qK->qK.Perm (k::ks)->A2.size*5<t'.mask*3->A2.toList.Perm ((th prog w k,.ref px)::es.toList)->Q true {s with heap:=h'}):
  wpAny (model prog w) A (setAddHashed a (.ref px) (th prog w k)) Q E s:=by
 have Il:t.place.size<=t.mask:=by
  rw[T.len];omega
 obtain⟨N,hN,he,hm⟩:=vN T.Yi T.vO T.Im Il (th prog w k);refine gm (aj (jJ S.ob rfl S.fit ?_));dsimp only;refine aj ?_;refine Hd hu S T P hx hN he hm (λh=>?_) (λh=>?_) N 0 100000 none () ?_ rfl (λm i e h=>absurd h (mD _))
 .exact ay (yes h)
 .refine aj (jJ S.ob rfl S.fit ?_);have T':=T.put (x:=Value.ref px) he hm;generalize hJ:(gX t N (t.probeStart (th prog w k))).j=J at*;have fp:(t.put J).1.plain=true/\(t.put J).1.mask=t.mask/\(t.put J).1.led=t.led/\(t.put J).2<=es.size:=by
   refine⟨S.plain,rfl,rfl,?_⟩;have:=(fX T.vO J).2.2;rw[T.len]at this;exact this
  generalize hP:t.put J=tp at*;obtain⟨t1,p⟩:=tp;obtain⟨f1,f2,f3,f4⟩:=fp;have fY:(insertAt es p (th prog w k,Value.ref px)).size=es.size+1:=iJ es f4 _;have Ik:(insertAt es p (th prog w k,Value.ref px)).toList.Perm ((th prog w k,Value.ref px)::es.toList):=by
   rw[iI es f4];refine perm_middle.trans ?_;rw[sG]
  have P1:Paired (SK prog w s.heap) ((th prog w k,Value.ref px)::es.toList) (k::ks):=.cons ⟨px,rfl,hx⟩ P;generalize hes:insertAt es p (th prog w k,Value.ref px)=oo at*;rw[ag f1];refine aj (Hc hx ?_);rw[ag rfl];have Ig:=cE;refine aj (wW S.ob rfl ?_ (by rw[fY,Ig];omega));have Wc:(s.heap.update a (Obj.putSet oo t1)).get? a=some (gM oo (ep+1) t1):=xY S.ob;have hsb:=kL s.heap a (Obj.putSet oo t1);have hmk:oo.size<=t1.mask:=by rw[fY,f2];omega
  have S1:zQ w (s.heap.update a (Obj.putSet oo t1)) a oo (ep+1) t1:=⟨Wc,T'.fits hmk,T'.vO,f1,by rw[f3];exact S.led⟩;by_cases tf:t1.tooFull=true
  .rw[ag (by rw[tf];rfl)];have tf2:(es.size+1)*5≥t.mask*3:=by
    unfold tooFull SetTable.fill at tf;rw[T'.Im,T'.len,fY,f2]at tf;simpa using tf
   obtain⟨M1,M2,M3,M4⟩:=zT T.Yi room tf2 hlen;obtain⟨t2,ord,L1,Zr,L3,L4,L5,L6,_⟩:=LR (finger:=t1.finger) (led:=t1.led) (plain:=t1.plain) M1 oo (by rw[fY];exact M4);refine aj ?_;refine aj (jJ Wc rfl S1.fit ?_);dsimp only;rw[af ()];have Bf:t1.relaid (oo.map (·.1)) (grown (es.size+1))=some (t2,ord):=L1;rw[Bf];have He:(ord.filterMap (oo[·]?)).size=oo.size:=by
    have:=Zr.length_eq;exact this
   refine aj ?_;show wpAny _ _ (if((ord.filterMap (oo[·]?)).size !=oo.size)=true then _ else _) _ _ _;rw[af (by rw[He];simp)];refine ay ?_;generalize ad2:ord.filterMap (oo[·]?)=es2 at*;refine wW Wc rfl ?_ (by rw[He,fY,Ig];omega);refine ay ?_;obtain⟨qK,q1,q2⟩:=fq (Ik.symm.trans Zr.symm) P1;have UM:es2.size<=t2.mask:=by rw[He,fY,L4];exact M4
   refine no h _ es2 (ep+1+1) t2 qK (hsb.trans (kL ..)) ⟨xY Wc,L3.fits UM,L3.vO,by rw[L6];exact f1,by rw[L5,f3];exact S.led⟩ L3 q1 q2 ?_ (Zr.trans Ik);rw[He,fY,L4];exact M3
  .rw[af ‹tf›];refine ay ?_;obtain⟨qK,q1,q2⟩:=fq Ik.symm P1;refine no h _ oo (ep+1) t1 qK hsb S1 T' q1 q2 ?_ Ik;unfold tooFull SetTable.fill at tf;rw[T'.Im,T'.len]at tf;simp only[Array.size_empty,Nat.add_zero,decide_eq_true_eq]at tf;omega
 .have:=T.Yi;unfold turns at hN;obtain e|e|e|e|e|e:=this<;>rw[e]at hN<;>omega
end
section
def UN a (h:Q₁ (.ref s.heap.objs.size) {s with heap:=s.heap.push (gM #[] 0 (.fresh 0 0 (!cX w)))}):
  codeAny (model prog w) A (.call (.builtin "set.__new__") ⟨[.type "set",a],[]⟩) (wants Q₁ E) s:=by
 refine codeAny_of_tree ?_;refine aj (wpAny_of_eq (PySem.F.newCall_set_1 a) (ay ⟨pO PySem.F.plain_set_new _,kR PySem.F.entry_set_new ?_⟩));unfold Builtin.«set.__new__» Builtin.Frozenset.newClass;have qM:=sub_set_self
 wp_walk
 refine wpAny_askSetting (ay ?_);refine aj (wpAny_alloc (ay ?_));exact ay h
def Q5{S I:Addr}{J:Nat->Shared->Prop}{Jm:Nat->Value->Shared->Prop}{Jd:Shared->Prop}(item:∀i s Q E,i<n->J i s->(∀v s',Jm i v s'->Q (some v) s')->wpAny (model prog w) A.in1 (pyNext (.ref I)) Q E s)(add:∀i v s Q E,i<n->Jm i v s->(∀b s',J (i+1) s'->Q b s')->wpAny (model prog w) A.in1 (setAdd S v) Q E s)(done:∀s Q E,J n s->(∀s',Jd s'->Q none s')->wpAny (model prog w) A.in1 (pyNext (.ref I)) Q E s)(fin:∀s,Jd s->R (.ok (.ret .none)) s):∀k i s,n-i=k->i<=n->J i s->codeAny (model prog w) A (.builtin "set.update.loop" ⟨[.ref S,.ref I],[]⟩) R s:=by
 intro k
 induction k with
 |zero=>
  intro i s hk hi hj;obtain rfl:i=n:=by omega
  refine kR PyProof.Rows.F.entry_set_update_loop ?_;refine aj (done s _ _ hj λs' hd=>?_);exact ay (fin s' hd)
 |succ k ih=>
  intro i s hk hi hj;refine kR PyProof.Rows.F.entry_set_update_loop ?_;refine aj (item i s _ _ () hj λv s' hm=>?_);refine aj (gm (add i v s' _ _ () hm λb s2 hj2=>?_));exact ay ⟨pO PyProof.Rows.F.plain_set_update_loop _,ih (i+1) s2 () () hj2⟩
def Hf{J:Nat->Shared->Prop}{Jm:Nat->Value->Shared->Prop}{Jd:Shared->Prop}(hl:s.heap.IsList l items)(item:∀i s' Q E,i<items.size->J i s'->(∀v s',Jm i v s'->Q (some v) s')->wpAny (model prog w) A.in1.in1.in1 (pyNext (.ref (s.heap.objs.size+1))) Q E s')(add:∀i v s' Q E,i<items.size->Jm i v s'->(∀b s',J (i+1) s'->Q b s')->wpAny (model prog w) A.in1.in1.in1 (setAdd s.heap.objs.size v) Q E s')(done:∀s' Q E,J items.size s'->(∀s',Jd s'->Q none s')->wpAny (model prog w) A.in1.in1.in1 (pyNext (.ref (s.heap.objs.size+1))) Q E s')(start:J 0 {s with heap:=(s.heap.push (gM #[] 0 (.fresh 0 0 (!cX w)))).push {cls:=.type "list_iterator",data:=.fields #[.ref l,.int 0 0]}})(h:∀s',Jd s'->Q (.ref s.heap.objs.size) s'):wpAny (model prog w) A (call (.type "set") [.ref l]) Q E s:=by
 obtain⟨c,tl,aeK⟩:=PySem.F.called_set.mro;have aeE:=PySem.F.called_set.made;have qM:=PySem.F.called_set.sub;refine wpAny_call (codeAny_of_tree ?_);show wpAny _ _ (callAny (.type "set") _) _ _ _;refine ay ⟨Code.quiet_builtin _ (by decide+kernel),kR PySem.F.entry_type_call ?_⟩;rw[Around.under_plain (weight_type_call_type "set" [.ref l] []) rfl];have h1:=PySem.F.called_set.notType;have h2:=PySem.F.called_set.canCreate;have hct:=PySem.F.typeCall_set_1 (.ref l)
 repeat(any_goals(first|assumption|wp_step))
 refine jo (UN (.ref l) (E:=E) (Q₁:=λobj s₁=>obj=.ref s.heap.objs.size/\s₁= {s with heap:=s.heap.push (gM #[] 0 (.fresh 0 0 (!cX w)))}) ⟨rfl,rfl⟩) λr s₁ hr=>?_;cases r with
 |error e=>exact hr
 |ok fl=>
  cases fl with
  |ret obj=>
   obtain⟨rfl,rfl⟩:=hr;have hS:(s.heap.push (gM #[] 0 (.fresh 0 0 (!cX w)))).get? s.heap.objs.size=some (gM #[] 0 (.fresh 0 0 (!cX w))):=bw _ rfl;have hT:Shared.TypeIs {s with heap:=s.heap.push (gM #[] 0 (.fresh 0 0 (!cX w)))} (.ref s.heap.objs.size) "set":=⟨_,hS,rfl⟩;have hli:=PySem.F.called_set.init.lookup;have hbi:=PySem.F.called_set.init.bind (.ref s.heap.objs.size)
   repeat(any_goals(first|assumption|wp_step))
   refine jo (codeAny_call_builtin (R:=wants (λr s₂=>r=.none/\Jd s₂) E) PySem.F.called_set.init.plain PySem.F.entry_set_init (check_set_init_1 hT ?_)) λr₂ s₂ hr₂=>?_
   .obtain⟨ol,Wd,A_,nl,Zt⟩:=hl;obtain⟨aeL,aa5,aeF,Yj⟩:=ol;simp only at A_ Zt;subst A_;subst Zt;unfold gM at*;have ad3:(s.heap.push {cls:=.type "set",dict:=none,data:=.set #[] 0 (.fresh 0 0 (!cX w))}).get? l=some {cls:=.type "list",dict:=aa5,data:=.seq items nl,slots:=Yj} :=bR _ Wd;have aeM:=PySem.F.sub_list_set;have aeN:=PySem.F.sub_list_frozenset;have iF:(Value.type "list"==Value.type "dict")=false:=by decide
    have QK:(s.heap.push {cls:=.type "set",dict:=none,data:=.set #[] 0 (.fresh 0 0 (!cX w))}).IsList l items:=⟨_,ad3,rfl,nl,rfl⟩;unfold Builtin.«set.__init__» noKeywords Builtin.Frozenset.updateFrom;generalize hPI:pyIter=PI
    wp_walk
    subst hPI;refine wpAny_pyIter_list QK ?_;refine aj (wpAny_runValue ?_);have e1:(s.heap.push {cls:=.type "set",dict:=none,data:=.set #[] 0 (.fresh 0 0 (!cX w))}).objs.size=s.heap.objs.size+1:=dU ..;rw[e1];refine jo (Q5 (R:=λr s2=>r=.ok (.ret .none)/\Jd s2) item add done (λs2 hd=>⟨rfl,hd⟩) items.size 0 _ rfl (cj _) start) λr s2 hr=>?_;obtain⟨rfl,hd⟩:=hr;show wpAny _ _ _ _ _ _;refine ay ?_;show wpAny _ _ (ret Value.none) _ _ _;exact ay ⟨rfl,hd⟩
   .cases r₂ with
    |error e=>exact hr₂
    |ok fl₂=>
     cases fl₂ with
     |ret r=>
      obtain⟨rfl,hd⟩:=hr₂
      repeat(any_goals(first|assumption|wp_step))
      exact h _ hd
     |_=>exact hr₂.elim
  |_=>exact hr.elim
end
def oV.keep(x:oV prog w h k p)(f:∀o,h.get? p=some o->o.cls=.type "tuple"->h'.get? p=some o):oV prog w h' k p:=
 let⟨o,aR,n,ho,hc,q⟩:=x
 ⟨o,aR,n,f o ho hc,hc,q⟩
def Hg{l:List (Int×Value)}(x:Paired (SK prog w h) l ks)(f:∀p o,h.get? p=some o->o.cls=.type "tuple"->h'.get? p=some o):Paired (SK prog w h') l ks:=
 L2.Paired.fT x λ_ _ ⟨p,e,q⟩=>⟨p,e,q.keep (f p)⟩
structure LT(prog:Program)(w:World)(h0:Heap)(l:Addr)(items:Array Value)(kk:List (List Int))(S:Addr)(i:Nat)(hp:Heap)(es:Array (Int×Value))(ep:Nat)(t:SetTable)(ks:List (List Int)):Prop where
 li:hp.IsList l items
 fr:∀b o,h0.get? b=some o->hp.get? b=some o
 sa:zQ w hp S es ep t
 tb:Tb t es
 pr:Paired (SK prog w hp) es.toList ks
 nd:ks.Nodup
 mem:∀k,k∈ks↔k∈kk.take i
 room:es.size*5<t.mask*3
 src:∀e∈es.toList,e.2∈items.toList
section
def LT.but{kk:List (List Int)}{S:Addr}(L:LT prog w h0 l items kk S i hp es ep t ks)(hI:h0.get? I=none)(hl:l≠I)(hS:S≠I)(hc:∀o,hp.get? I=some o->o.cls≠ .type "tuple")(f:∀b o,b≠I->hp.get? b=some o->h'.get? b=some o):LT prog w h0 l items kk S i h' es ep t ks:=
 ⟨L.li.at λo e=>f l o hl e,λb o e=>f b o (λz=>by rw[z,hI]at e;cases e) (L.fr b o e),L.sa.keep λo e=>f S o hS e,L.tb,Hg L.pr λp o e1 e2=>f p o (λz=>hc o (z▸e1) e2) e1,L.nd,L.mem,L.room,L.src⟩
def Ez{kk:List (List Int)}(hh:A.handled=none)(hu:A.units+10<cLine)(hl:s.heap.IsList l items)(hi:Paired (λv k=>∃p,v=Value.ref p/\oV prog w s.heap k p) items.toList kk)(hb:∀ks:List (List Int),ks.Nodup->(∀k∈ks,k∈kk)->ks.length<2100)(h:∀h' tk es ep t ks,zQ w h' s.heap.objs.size es ep t->Paired (SK prog w h') es.toList ks->ks.Nodup->(∀k,k∈ks↔k∈kk)->(∀e∈es.toList,e.2∈items.toList)->(∀b o,s.heap.get? b=some o->h'.get? b=some o)->Q (.ref s.heap.objs.size) {s with heap:=h',toks:=tk}):
  wpAny (model prog w) A (call (.type "set") [.ref l]) Q E s:=by
 have dQ:l<s.heap.objs.size:=by obtain⟨o,ho,_⟩:=hl;exact aN ho
 have hlen:kk.length=items.size:=by
  have:=L2.Paired.eM hi;exact this.symm
 have Yk:s.heap.get? (s.heap.objs.size+1)=none:=by
  cases e:s.heap.get? (s.heap.objs.size+1)with
  |none=>rfl|some o=>exact absurd (aN e) (Nat.not_lt.mpr (pW _))
 have nl:=bB (my dQ);have ns:s.heap.objs.size≠s.heap.objs.size+1:=bB (kO _);have hh3:A.in1.in1.in1.handled=none:=by simp[hh]
 have W:=Walks.list (prog:=prog) (w:=w) hh3 (s.heap.objs.size+1) l nl items;have nt:∀(hp:Heap)(i:Nat),hp.IsListIter (s.heap.objs.size+1) l i->∀o,hp.get? (s.heap.objs.size+1)=some o->o.cls≠ .type "tuple":=λhp i x o e z=>by
  obtain⟨o',xD,VG,_⟩:=x;rw[xD]at e;cases e;rw[VG]at z;exact absurd z ⋯
 refine Hf (J:=λi s'=>∃hp tk es ep t ks,s'= {s with heap:=hp,toks:=tk}/\hp.IsListIter (s.heap.objs.size+1) l i/\LT prog w s.heap l items kk s.heap.objs.size i hp es ep t ks)
  (Jm:=λi v s'=>∃hp tk es ep t ks,s'= {s with heap:=hp,toks:=tk}/\items[i]?=some v/\hp.IsListIter (s.heap.objs.size+1) l (i+1)/\LT prog w s.heap l items kk s.heap.objs.size i hp es ep t ks)
  (Jd:=λs'=>∃hp tk es ep t ks,s'= {s with heap:=hp,toks:=tk}/\LT prog w s.heap l items kk s.heap.objs.size items.size hp es ep t ks) hl ?_ ?_ ?_ ?_ ?_
 .rintro i s' Q E UD ⟨hp,tk,es,ep,t,ks,rfl,it,L⟩ k;refine W.item i _ Q E UD ⟨it,L.li⟩ λv h' SJ hv st f=>?_;exact k v _ ⟨h',SJ,es,ep,t,ks,rfl,hv,st.1,L.but Yk nl ns (nt _ _ it) λb o hb e=>f b o ‹hb› e⟩
 .rintro i v s' Q E UD ⟨hp,tk,es,ep,t,ks,rfl,hv,it,L⟩ k;obtain⟨key,hk,p,rfl,tp⟩:=L2.Paired.at' hi (by rw[dv];exact hv);have tp':=tp.keep λo e _=>L.fr p o e;have CP:kk.take (i+1)=kk.take i++ [key]:=by
   rw[take_succ,hk];rfl
  have hks:∀qK:List (List Int),qK.Perm (key::ks)->∀x,x∈qK↔x∈kk.take (i+1):=λqK pm x=>by
   rw[pm.mem_iff,CP,sk,jr,L.mem,sO];exact or_comm
  refine gm (aj (wpAny_pyHash_tuple (by simp;omega) tp' ?_));have fY:es.size=ks.length:=by
   have:=L2.Paired.eM L.pr;exact this
  refine UL (by simp;omega) L.sa L.tb L.pr L.nd tp' L.room ?_ (λmq=>?_) λYl h' A2 MQ t' qK sb S' T' P' pm Q6 pe=>?_
  .rw[fY];exact hb ks L.nd λx hx=>mem_of_mem_take ((L.mem x).mp hx)
  .refine k false _ ⟨hp,_,es,ep,t,ks,rfl,it,⟨L.li,L.fr,L.sa,L.tb,L.pr,L.nd,λx=>?_,L.room,L.src⟩⟩;rw[L.mem,CP,jr,sO];exact⟨.inl,λz=>z.elim id λe=>e▸(L.mem key).mp mq⟩
  .have f:=λb o hb e=>sb.extBut b o hb e;have hns:∀o,hp.get? s.heap.objs.size=some o->o.cls≠ .type "tuple":=λo e z=>by
    rw[L.sa.ob]at e;cases e;exact absurd z (by show¬(Value.type "set"=Value.type "tuple");decide)
   refine k true _ ⟨h',_,A2,MQ,t',qK,rfl,it.at λo e=>f _ o ns.symm e,⟨L.li.at λo e=>f l o (bB dQ) e,λb o e=>f b o (bB (aN e)) (L.fr b o e),S',T',Hg P' λq o e1 e2=>f q o (λz=>hns o (z▸e1) e2) e1,?_,hks qK pm,Q6,λe he=>?_⟩⟩
   .exact pm.nodup_iff.mpr (nodup_cons.mpr ⟨Yl,L.nd⟩)
   .obtain z|z:=mem_cons.mp (pe.mem_iff.mp he)
    .rw[z];exact bh (by rw[dv];exact hv)
    .exact L.src e z
 .rintro s' Q E ⟨hp,tk,es,ep,t,ks,rfl,it,L⟩ k;refine W.done _ Q E ⟨it,L.li⟩ λh' SJ f=>?_;exact k _ ⟨h',SJ,es,ep,t,ks,rfl,L.but Yk nl ns (nt _ _ it) λb o hb e=>f b o ‹hb› e⟩
 .have fit:(SetTable.fresh 0 0 (!cX w)).fits (#[]:Array (Int×Value)).size=true:=rfl;have vO:Et (#[]:Array Nat):=⟨λi j a b _ h=>by simp at h⟩;have e1:(s.heap.push (gM #[] 0 (SetTable.fresh 0 0 (!cX w)))).objs.size=s.heap.objs.size+1:=dU ..;refine⟨_,s.toks, #[],0,.fresh 0 0 (!cX w),[],rfl,?_,⟨(hl.push _).push _,λb o e=>bR _ (bR _ e),⟨bR _ (bw _ rfl),fit,vO,rfl,rfl⟩,⟨.inl rfl,vO,rfl,rfl,λi e h=>by simp at h⟩,.nil,nodup_nil,λx=>by simp,by show 0*5<7*3;decide,λe he=>by simp at he⟩⟩;rw[<-e1];exact⟨_,bw _ rfl,rfl,rfl⟩
 .rintro s' ⟨hp,tk,es,ep,t,ks,rfl,L⟩;refine h hp tk es ep t ks L.sa L.pr L.nd (λx=>?_) L.src L.fr;rw[L.mem,<-hlen,eQ]
end
theorem tZ:∀{l m:List Int},l.Nodup->(∀x∈l,x∈m)->l.length<=m.length
 |[],m,_,_=>cj _
 |x::l,m,nd,h=>by
  obtain⟨h1,h2⟩:=nodup_cons.mp nd;have hx:=h x ∅;have:=tZ (l:=l) (m:=m.erase x) h2 λy hy=>by
   have iF:y≠x:=λe=>h1 (e▸hy);exact(xa iF).mpr (h y (by simp[hy]))
  rw[rg hx]at this;have:=wV hx;rw[aZ];omega
def Wf(e:Int×Value)(n:Int):Prop:=∃t,e=(hashInt n,.int n t)
section
def NY{l:List (Int×Value)}(P:Paired Wf l ns):ElemsOf (intKind prog w) l:=λe he=>by
 obtain⟨i,hi⟩:=mem_iff_getElem?.mp he;obtain⟨n,_,t,rfl⟩:=L2.Paired.at' P hi;exact⟨⟨n,p6 _ _ _ _,rfl⟩,rfl⟩
def Hh{l:List (Int×Value)}(P:Paired Wf l ns):(l.findIdx? λe=>(intKind prog w).is n e.2)=none↔n∉ns:=by
 rw[findIdx?_eq_none_iff];constructor
 .intro h hn;obtain⟨i,hi⟩:=mem_iff_getElem?.mp hn;obtain⟨e,he,t,rfl⟩:=L2.Paired.KH P hi;have:=h _ (bh he);rw[show(intKind prog w).is n (.int n t)=true from p6 _ _ _ _]at this;cases this
 .intro h e he;obtain⟨i,hi⟩:=mem_iff_getElem?.mp he;obtain⟨m,hm,t,rfl⟩:=L2.Paired.at' P hi;cases e2:(intKind prog w).is n (Value.int m t)with
  |false=>rfl
  |true=>
   have:=(intKind prog w).inj _ _ _ e2 (p6 _ _ _ _);exact absurd (this▸bh hm) h
def add_int{Q:Bool->Shared->Prop}(S:zQ w s.heap a es ep t)(T:Tb t es)(P:Paired Wf es.toList ns)(room:es.size*5<t.mask*3)(hlen:es.size<2100)(yes:n∈ns->Q false s)(no:n∉ns->∀h' A2 MQ t' jk,Heap.SameBut a s.heap h'->zQ w h' a A2 MQ t'->Tb t' A2->Paired Wf A2.toList jk->jk.Perm (n::ns)->A2.size*5<t'.mask*3->Q true {s with heap:=h'}):
  wpAny (model prog w) A (setAddHashed a (.int n tk) (hashInt n)) Q E s:=by
 have Il:t.place.size<=t.mask:=by
  rw[T.len];omega
 obtain⟨N,hN,he,hm⟩:=vN T.Yi T.vO T.Im Il (hashInt n);have K4:=NY (prog:=prog) (w:=w) P;unfold setAddHashed setAddHashedIn;refine gm (aj (jJ S.ob rfl S.fit ?_));dsimp only;rw[byScan_of (knd:=intKind prog w) (x:=.int n tk) rfl (by unfold scanBound;omega) K4];simp only[↓reduceIte];unfold setAddByScan;refine aj ?_;refine aj (wpAny_rule ?_);refine aj (wpAny_setScan_of (knd:=intKind prog w) (k:=n) (p6 _ _ _ _) S.ob rfl S.fit K4 ?_);by_cases hn:n∈ns
 .cases hr:List.findIdx? (λe=>(intKind prog w).is n e.2) es.toList with
  |none=>exact absurd hn ((Hh P).mp hr)
  |some j=>
   dsimp only;exact ay (ay (yes hn))
 .rw[(Hh (prog:=prog) (w:=w) P).mpr hn];dsimp only;have vk:t.freeSlot (hashInt n)=some ((gX t N (t.probeStart (hashInt n))).j,false):=by
   unfold SetTable.freeSlot probe;obtain⟨g1,_⟩|⟨m,i,_,_,g3,_⟩:=Ew T.vO T.Im (λ_=>hashInt n+1) (hashInt n) N (10*turns t.mask) (t.probeStart (hashInt n)) hN he hm
   .rw[g1];rfl
   .have g3:hashInt n+1=hashInt n:=g3;omega
  obtain⟨oo,t1,XI,T',f1,f2,f3,fY,Ik⟩:∃oo t1,layNew t es (hashInt n) (.int n tk)=(oo,t1,false,false)/\Tb t1 oo/\t1.plain=true/\t1.mask=t.mask/\t1.led=t.led/\oo.size=es.size+1/\oo.toList.Perm ((hashInt n,Value.int n tk)::es.toList):=by
   have T':=T.put (x:=Value.int n tk) he hm;generalize hJ:(gX t N (t.probeStart (hashInt n))).j=J at*;have fp:(t.put J).1.plain=true/\(t.put J).1.mask=t.mask/\(t.put J).1.led=t.led/\(t.put J).2<=es.size:=by
    rw[QT T.Im];refine⟨S.plain,rfl,rfl,?_⟩;have:=(fX T.vO J).2.2;rw[T.len]at this;exact this
   obtain⟨f1,f2,f3,f4⟩:=fp;have fY:(insertAt es (t.put J).2 (hashInt n,Value.int n tk)).size=es.size+1:=iJ es f4 _;have TX:=T'.fits (by rw[fY,f2];omega);refine⟨insertAt es (t.put J).2 (hashInt n,Value.int n tk),(t.put J).1,?_,T',f1,f2,f3,fY,?_⟩
   .unfold layNew;rw[vk];show((insertAt es (t.put J).2 (hashInt n,Value.int n tk)),SetTable.orStandIn (t.put J).1 (insertAt es (t.put J).2 (hashInt n,Value.int n tk)).size,false,!SetTable.fits (t.put J).1 (insertAt es (t.put J).2 (hashInt n,Value.int n tk)).size)=_;unfold SetTable.orStandIn;rw[ag TX,TX];rfl
   .rw[iI es f4];refine perm_middle.trans ?_;rw[sG]
  have P1:Paired Wf ((hashInt n,Value.int n tk)::es.toList) (n::ns):=.cons ⟨tk,rfl⟩ P;have hmk:oo.size<=t1.mask:=by rw[fY,f2];omega
  rw[XI];dsimp only;refine aj (ay ?_);rw[ag f1];refine aj (ay ?_);rw[ag rfl];have Ig:=cE;refine aj (wW S.ob rfl ?_ (by rw[fY,Ig];omega));have Wc:(s.heap.update a (Obj.putSet oo t1)).get? a=some (gM oo (ep+1) t1):=xY S.ob;have hsb:=kL s.heap a (Obj.putSet oo t1);have S1:zQ w (s.heap.update a (Obj.putSet oo t1)) a oo (ep+1) t1:=⟨Wc,T'.fits hmk,T'.vO,f1,by rw[f3];exact S.led⟩;by_cases tf:t1.tooFull=true
  .rw[ag (by rw[tf];rfl)];have tf2:(es.size+1)*5≥t.mask*3:=by
    unfold tooFull SetTable.fill at tf;rw[T'.Im,T'.len,fY,f2]at tf;simpa using tf
   obtain⟨M1,M2,M3,M4⟩:=zT T.Yi room tf2 hlen;obtain⟨t2,ord,L1,Zr,L3,L4,L5,L6,L7⟩:=LR (finger:=t1.finger) (moves:=t1.movedTo (sizeAbove (grown (es.size+1))-1)) (led:=t1.led) (plain:=t1.plain) M1 oo (by rw[fY];exact M4);have He:(ord.filterMap (oo[·]?)).size=oo.size:=by
    have:=Zr.length_eq;rw[cM,cM]at this;exact this
   have UM:(ord.filterMap (oo[·]?)).size<=t2.mask:=by rw[He,fY,L4];exact M4
   have Bf:relayAll t1 oo (grown oo.size)=(ord.filterMap (oo[·]?),t2,false):=by
    unfold relayAll;rw[fY,show t1.relaid (oo.map (·.1)) (grown (es.size+1))=some (t2,ord)from L1];dsimp only;have hc:coversAll ord (es.size+1)=true:=by
     unfold coversAll;rw[isPerm_iff,<-fY];exact L7
    rw[hc,L3.fits UM];rfl
   rw[Bf];dsimp only;generalize ad2:ord.filterMap (oo[·]?)=es2 at*;refine aj (ay ?_);refine aj (wW Wc rfl ?_ (by rw[He,fY,Ig];omega));refine ay ?_;obtain⟨jk,q1,q2⟩:=fq (Ik.symm.trans Zr.symm) P1;dsimp only;refine ay (no hn _ es2 (ep+1+1) t2 jk (hsb.trans (kL ..)) ⟨xY Wc,L3.fits UM,L3.vO,by rw[L6];exact f1,by rw[L5,f3];exact S.led⟩ L3 q1 q2 ?_);rw[He,fY,L4];exact M3
  .rw[af ‹tf›];refine ay ?_;obtain⟨jk,q1,q2⟩:=fq Ik.symm P1;dsimp only;refine ay (no hn _ oo (ep+1) t1 jk hsb S1 T' q1 q2 ?_);unfold tooFull SetTable.fill at tf;rw[T'.Im,T'.len]at tf;simp only[Array.size_empty,Nat.add_zero,decide_eq_true_eq]at tf;omega
structure LI(w:World)(h0:Heap)(l:Addr)(items:Array Value)(nn:List Int)(S:Addr)(i:Nat)(hp:Heap)(es:Array (Int×Value))(ep:Nat)(t:SetTable)(ns:List Int):Prop where
 li:hp.IsList l items
 fr:∀b o,h0.get? b=some o->hp.get? b=some o
 sa:zQ w hp S es ep t
 tb:Tb t es
 pr:Paired Wf es.toList ns
 nd:ns.Nodup
 mem:∀k,k∈ns↔k∈nn.take i
 room:es.size*5<t.mask*3
def LI.but{S:Addr}(L:LI w h0 l items nn S i hp es ep t ns)(hI:h0.get? I=none)(hl:l≠I)(hS:S≠I)(f:∀b o,b≠I->hp.get? b=some o->h'.get? b=some o):LI w h0 l items nn S i h' es ep t ns:=
 ⟨L.li.at λo e=>f l o hl e,λb o e=>f b o (λz=>by rw[z,hI]at e;cases e) (L.fr b o e),L.sa.keep λo e=>f S o hS e,L.tb,L.pr,L.nd,L.mem,L.room⟩
def EA(hh:A.handled=none)(hl:s.heap.IsList l items)(hi:IntsAre items.toList nn)(hb:nn.length<2100)(h:∀h' tk es ep t ns,zQ w h' s.heap.objs.size es ep t->Paired Wf es.toList ns->ns.Nodup->(∀k,k∈ns↔k∈nn)->(∀b o,s.heap.get? b=some o->h'.get? b=some o)->Q (.ref s.heap.objs.size) {s with heap:=h',toks:=tk}):
  wpAny (model prog w) A (call (.type "set") [.ref l]) Q E s:=by
 have dQ:l<s.heap.objs.size:=by obtain⟨o,ho,_⟩:=hl;exact aN ho
 have hlen:nn.length=items.size:=by
  have:=hi.length;rw[cM]at this;exact this.symm
 have Yk:s.heap.get? (s.heap.objs.size+1)=none:=by
  cases e:s.heap.get? (s.heap.objs.size+1)with
  |none=>rfl|some o=>exact absurd (aN e) (Nat.not_lt.mpr (pW _))
 have nl:l≠s.heap.objs.size+1:=bB (my dQ);have ns0:s.heap.objs.size≠s.heap.objs.size+1:=bB (kO _);have hh3:A.in1.in1.in1.handled=none:=by simp[hh]
 have W:=Walks.list (prog:=prog) (w:=w) (A:=A.in1.in1.in1) hh3 (s.heap.objs.size+1) l nl items;refine Hf (J:=λi s'=>∃hp tk es ep t ns,s'= {s with heap:=hp,toks:=tk}/\hp.IsListIter (s.heap.objs.size+1) l i/\LI w s.heap l items nn s.heap.objs.size i hp es ep t ns)
  (Jm:=λi v s'=>∃hp tk es ep t ns,s'= {s with heap:=hp,toks:=tk}/\items[i]?=some v/\hp.IsListIter (s.heap.objs.size+1) l (i+1)/\LI w s.heap l items nn s.heap.objs.size i hp es ep t ns)
  (Jd:=λs'=>∃hp tk es ep t ns,s'= {s with heap:=hp,toks:=tk}/\LI w s.heap l items nn s.heap.objs.size items.size hp es ep t ns) hl ?_ ?_ ?_ ?_ ?_
 .rintro i s' Q E UD ⟨hp,tk,es,ep,t,ns,rfl,it,L⟩ k;refine W.item i _ Q E UD ⟨it,L.li⟩ λv h' SJ hv st f=>?_;exact k v _ ⟨h',SJ,es,ep,t,ns,rfl,hv,st.1,L.but Yk nl ns0 λb o hb e=>f b o ‹hb› e⟩
 .rintro i v s' Q E UD ⟨hp,tk,es,ep,t,ns,rfl,hv,it,L⟩ k;obtain⟨u,rfl⟩:=hi.int_at i v (by rw[dv];exact hv);have hk:nn[i]?=some (nn.getD i 0):=by
   rw[cU,bt ()];rfl
  generalize nn.getD i 0=n at*;have CP:nn.take (i+1)=nn.take i++ [n]:=by
   rw[take_succ,hk];rfl
  have fY:es.size=ns.length:=by
   have:=L2.Paired.eM L.pr;rw[cM]at this;exact this
  have hle:ns.length<=nn.length:=by
   refine aX (tZ L.nd λx hx=>(L.mem x).mp hx) ?_;rw[cW];exact ow _ _
  unfold setAdd;refine gm (aj ((intKind prog w).pyHash (k:=n) (p6 _ _ _ _) ?_));refine add_int (s:= {s with heap:=hp,toks:=tk+1}) L.sa L.tb L.pr L.room () (λmq=>?_) λYl h' A2 MQ t' jk sb S' T' P' pm Q6=>?_
  .refine k false _ ⟨hp,_,es,ep,t,ns,rfl,it,⟨L.li,L.fr,L.sa,L.tb,L.pr,L.nd,λx=>?_,L.room⟩⟩;rw[L.mem,CP,jr,sO];exact⟨.inl,λz=>z.elim id λe=>e▸(L.mem n).mp mq⟩
  .have f:∀b o,b≠s.heap.objs.size->hp.get? b=some o->h'.get? b=some o:=λb o hb e=>sb.extBut b o hb e;refine k true _ ⟨h',_,A2,MQ,t',jk,rfl,it.at λo e=>f _ o ns0.symm e,⟨L.li.at λo e=>f l o (bB dQ) e,λb o e=>f b o (bB (aN e)) (L.fr b o e),S',T',P',?_,λx=>?_,Q6⟩⟩
   .exact pm.nodup_iff.mpr (nodup_cons.mpr ⟨Yl,L.nd⟩)
   .rw[pm.mem_iff,CP,sk,jr,L.mem,sO];exact or_comm
 .rintro s' Q E ⟨hp,tk,es,ep,t,ns,rfl,it,L⟩ k;refine W.done _ Q E ⟨it,L.li⟩ λh' SJ f=>?_;exact k _ ⟨h',SJ,es,ep,t,ns,rfl,L.but Yk nl ns0 λb o hb e=>f b o ‹hb› e⟩
 .have fit:(SetTable.fresh 0 0 (!cX w)).fits (#[]:Array (Int×Value)).size=true:=rfl;have vO:Et (#[]:Array Nat):=⟨λi j a b _ h=>by simp at h⟩;have e1:(s.heap.push (gM #[] 0 (SetTable.fresh 0 0 (!cX w)))).objs.size=s.heap.objs.size+1:=dU ..;refine⟨_,s.toks, #[],0,.fresh 0 0 (!cX w),[],rfl,?_,⟨(hl.push _).push _,λb o e=>bR _ (bR _ e),⟨bR _ (bw _ rfl),fit,vO,rfl,rfl⟩,⟨.inl rfl,vO,rfl,rfl,λi e h=>by simp at h⟩,.nil,nodup_nil,λx=>by simp,by show 0*5<7*3;decide⟩⟩;rw[<-e1];exact⟨_,bw _ rfl,rfl,rfl⟩
 .rintro s' ⟨hp,tk,es,ep,t,ns,rfl,L⟩;refine h hp tk es ep t ns L.sa L.pr L.nd (λx=>?_) L.fr;rw[L.mem,<-hlen,eQ]
end
noncomputable def Wg:Nat->Bool:=λ_=>false
theorem Q7:∀a b:List Int,PyProof.Rows.lexLt PyProof.Rows.itemOrd (a.map Sum.inl) (b.map Sum.inl)=HT.lexLt a b
 |[],[]=>rfl|[],_::_=>rfl
 |_::_,[]=>rfl
 |x::a,y::b=>by
  rw[aJ,aJ,PyProof.Rows.lex_cons,Q7 a b,HT.h_];show(decide (x<y)||(!decide (y<x)&&HT.lexLt a b))=_;by_cases c:x=y
  .subst c;simp
  .rw[af c];by_cases d:x<y
   .simp[d]
   .have:y<x:=by omega
    simp[d,this]
theorem LU:∀a b:List Int,HT.lexLt b a=false->a≠b->HT.lexLt a b=true
 |[],[],_,h=>absurd rfl h|[],_::_,_,_=>rfl
 |_::_,[],h,_=>by cases h
 |x::a,y::b,h,iF=>by
  rw[HT.h_]at h⊢;by_cases c:x=y
  .subst c;rw[ag rfl]at h⊢;exact LU a b h λe=>iF (by rw[e])
  .rw[af (c6 c)]at h;rw[af c];have:¬y<x:=by simpa using h
   simp;omega
section
def Bk(h:ItemsAre (intKind prog w) k vs):∀i,PyProof.Rows.tupItems Wg i vs=some (k.map Sum.inl):=by
 induction h with
 |nil=>intro i;rfl
 |@cons n v ks vs h1 _ ih=>
  intro i;obtain⟨t,e⟩:=wM (v:=v) h1;subst e;show(if Wg i=true then none else(PyProof.Rows.tupItems Wg (i+1) vs).map (Sum.inl n::·))=_;rw[ih];rfl
def TR(prog:Program)(w:World)(h:Heap)(v:Value)(k:List Int):Prop:=∃p,v=.ref p/\oV prog w h k p
def TR.key{v:Value}(x:TR prog w h v k):G.tupKeyC h Wg v=some (k.map Sum.inl):=by
 obtain⟨p,rfl,o,aR,n,ho,hc,hd,hi⟩:=x;exact G.tupKeyC_of ho hc hd (Bk hi 0)
theorem LV:∀{vs}{ks},Paired (TR prog w h) vs ks->(∀k∈ks,k≠ [])->∃fs,PyProof.Rows.TupsOf h Wg vs fs
 |_,_,.nil,_=>⟨[],.nil⟩
 |_,_,.cons r t,ne=>by
  obtain⟨fs,hf⟩:=LV t λk hk=>ne k (by simp[hk]);obtain⟨p,rfl,o,aR,n,ho,hc,hd,hi⟩:=r;have h0:=ne _ (b9 ..);obtain⟨xs,rfl⟩:∃l,aR=List.toArray l:=⟨aR.toList,by simp⟩;cases hi with
  |nil=>exact absurd rfl h0
  |@cons a v' qK vs' h1 _=>
   obtain⟨t',e⟩:=wM (k:=a) h1;exact⟨v'::fs,.cons ⟨p,o,_,n,rfl,ho,hc,hd,rfl,λ_=>⟨a,t',e⟩,λz=>by cases z⟩ hf⟩
def Hi{γ:Type}{F:α->γ->Prop}{G:β->γ->Prop}{f:α->β}:∀{l}{ks},Paired F l ks->(∀a k,F a k->G (f a) k)->Paired G (l.map f) ks:=by
 intro l ks h f
 induction h with
 |nil=>exact .nil|cons r t ih=>exact .cons (f _ _ r) ih
def Q8{F G:α->β->Prop}:∀{l}{m},Paired F l m->(∀a∈l,∀b,F a b->G a b)->Paired G l m:=by
 intro l m h
 induction h with
 |nil=>intro _;exact .nil|cons r t ih=>intro f;exact .cons (f _ (b9 ..) _ r) (ih λa ha=>f a (bJ _ ha))
def EB{P:Fin->Shared->Prop}(ho:s.heap.get? a=some (seqObj "list" vs.toArray n))(hp:Paired (TR prog w s.heap) vs ks)(ne:∀k∈ks,k≠ [])(hL:vs.length<=sizeLine)(h:∀out qK,out.toList.Perm vs->Paired (TR prog w s.heap) out.toList qK->qK.Perm ks->qK.Pairwise (λx y=>HT.lexLt y x=false)->P (.done (.ret .none)) {s with heap:=sortedHeap s.heap a vs out}):
  wpAny (model prog w) A (Builtin.«list.sort» ⟨[.ref a],[]⟩) P E s:=by
 obtain⟨fs,hf⟩:=LV hp ne;have hk:∀v,v∈vs->∃l,G.tupKeyC s.heap Wg v=some l:=λv hv=>by
  obtain⟨i,hi⟩:=mem_iff_getElem?.mp hv;obtain⟨k,_,r⟩:=L2.Paired.at' hp hi;exact⟨_,r.key⟩
 refine G.list_sort_tups ho hf hk hL λBG pm so _=>?_;have ad4:∀p∈(arrOf BG).toList,p.1=p.2/\p.1∈vs:=λp hp'=>by
  have:=(Array.perm_iff_toList_perm.mp pm).mem_iff.mp hp';rw[pairsOf_toList]at this;obtain⟨i,hi⟩:=mem_iff_getElem?.mp this;rw[uv]at hi;exact⟨Option.some.inj (hi.1.symm.trans hi.2),bh hi.1⟩
 have pv:((arrOf BG).map (·.2)).toList.Perm vs:=by
  rw[w6];have:=(Array.perm_iff_toList_perm.mp pm).map (·.2);rw[pairsOf_toList]at this;refine this.trans (List.Perm.of_eq ?_);exact map_snd_zip (aL _)
 obtain⟨qK,q1,q2⟩:=fq pv.symm hp;refine h _ qK pv q1 q2 ?_;rw[pairwise_iff_getElem];intro i j hi hj hij;have hl:=L2.Paired.eM q1;rw[w6,az,cM]at hl;have key:∀i (hi:i<qK.length),KK (G.tupKindC s.heap Wg) (arrOf BG) i=(qK[i].map Sum.inl:List (Int⊕List Nat)):=λi hi=>by
  obtain⟨v,hv,r⟩:=L2.Paired.KH q1 (bt hi);rw[w6,a_,dv]at hv;cases e:(arrOf BG)[i]? with
  |none=>rw[e]at hv;cases hv
  |some p=>
   rw[e]at hv;have hv:p.2=v:=Option.some.inj hv;have Ih:=(ad4 p (by exact bh (by rw[dv];exact e))).1;unfold KK;rw[e];show(G.tupKeyC s.heap Wg p.1).getD []=_;rw[Ih,hv,r.key];rfl
 have hs:=so i j (iA hij) (by rw[pairsOf_size,<-pv.length_eq,w6,az,cM];omega);rw[key i hi,key j hj]at hs;have hs:PyProof.Rows.lexLt PyProof.Rows.itemOrd (qK[j].map Sum.inl) (qK[i].map Sum.inl)=false:=hs;rw[Q7]at hs;exact hs
def Hj(hh:A.handled=none)(S:zQ w s.heap a es ep t)(hp:Paired (SK prog w s.heap) es.toList ks)(nd:ks.Nodup)(ne:∀k∈ks,k≠ [])(hn:es.size<=sizeLine)(h:∀(D:Addr) hp tk out ep qK,s.heap.objs.size<=D->(∀b o,s.heap.get? b=some o->hp.get? b=some o)->hp.get? D=some (seqObj "list" out ep)->Paired (TR prog w s.heap) out.toList qK->qK.Perm ks->qK.Pairwise (λx y=>HT.lexLt x y=true)->
   (∀v∈out.toList,∃e∈es.toList,v=e.2)->Q (.ref D) {s with heap:=hp,toks:=tk}):
  wpAny (model prog w) A (call (.builtin "sorted") [.ref a]) Q E s:=by
 refine Calls.call_function_entry kind_sorted plain_sorted entry_sorted (args_sorted1 _) ?_;refine aj (ay (aj (L2.vL (A:=A.in1) (LO a es ep t) hh S hn λhq tk us lt hk it=>?_)));have hl:us.toList.length=es.size:=by rw[cM];exact it.1
 have hus:us.toList=(tX w a ep es).toList.map (·.2):=by
  refine pU λi=>?_;rw[a_,dv,dv];cases e:us[i]? with
  |none=>
   have h1:=Array.getElem?_eq_none_iff.mp e;have h2:=(gb w a ep es).length_eq;rw[cM,cM]at h2;rw[cM]at hl;rw[qZ ()];rfl
  |some v=>
   obtain⟨e2,h1,h2⟩:=it.2 i v e;rw[h1,h2];rfl
 obtain⟨k2,q1,q2⟩:=fq (gb w a ep es).symm hp;have pT:Paired (TR prog w s.heap) us.toList k2:=by
  rw[hus];exact Hi q1 λe k ⟨p,e1,tp⟩=>⟨p,by rw[e1],tp⟩
 refine aj (xj ?_ (by rw[hl];exact hn));have OC:(hq.push (seqObj "list" us.toList.toArray 0)).get? hq.objs.size=some (seqObj "list" us.toList.toArray 0):=bw _ rfl;have kp:∀b o,s.heap.get? b=some o->(hq.push (seqObj "list" us.toList.toArray 0)).get? b=some o:=λb o e=>bR _ (hk b o e);have pT':Paired (TR prog w (hq.push (seqObj "list" us.toList.toArray 0))) us.toList k2:=L2.Paired.fT pT λv k ⟨p,e1,tp⟩=>⟨p,e1,tp.keep λo e _=>kp p o e⟩;refine aj (gm (hG slot_list_sort ⟨_,OC,rfl⟩ entry_list_sort (EB OC pT' (λk qi=>ne k (q2.mem_iff.mp qi)) (by rw[hl];exact hn) λout qK a0 a1 a2 a3=>⟨_,rfl,ay ⟨_,rfl,?_⟩⟩) (args_list_sort _)));obtain⟨Ym,M9⟩:=PyProof.Rows.sortedHeap_at (out:=out) OC;have hD:=iA lt;have inj:∀v k,TR prog w (hq.push (seqObj "list" us.toList.toArray 0)) v k->v∈us.toList->TR prog w s.heap v k:=λv k ⟨p,e1,tp⟩ hv=>by
  obtain⟨i,hi⟩:=mem_iff_getElem?.mp hv;obtain⟨k0,_,p0,e0,tp0⟩:=L2.Paired.at' pT hi;have e2:p0=p:=by rw[e1]at e0;injection e0 with e0;exact e0.symm
  subst e2;have:=(tp0.keep λo e _=>kp p0 o e).inj tp;subst this;exact⟨p0,e1,tp0⟩
 have zF:∀v∈out.toList,v∈us.toList:=λv hv=>a0.mem_iff.mp hv;refine h hq.objs.size _ tk out Ym qK hD (λb o e=>?_) M9 ?_ (a2.trans q2) ?_ λv hv=>?_
 .have hb:=aN (hk _ _ e);rw[PyProof.Rows.sortedHeap_old (bB hb) (by rw[dU];exact my hb)];exact kp b o e
 .exact Q8 a1 λv hv k r=>inj v k r (zF v hv)
 .refine List.Pairwise.imp_of_mem ?_ (a3.and (a2.trans q2|>.nodup_iff.mpr nd));intro x y _ _ ⟨r1,r2⟩;exact LU x y r1 r2
 .have:=zF v hv;rw[hus]at this;obtain⟨e,he1,he2⟩:=mem_map.mp this;exact⟨e,(gb w a ep es).mem_iff.mp he1,he2.symm⟩
def Hk(hh:A.handled=none)(S:zQ w s.heap a es ep t)(hp:Paired Wf es.toList ns)(nd:ns.Nodup)(hn:es.size<=sizeLine)(h:∀(D:Addr) hp tk out ep jk,s.heap.objs.size<=D->(∀b o,s.heap.get? b=some o->hp.get? b=some o)->hp.get? D=some (seqObj "list" out ep)->IntsAre out.toList jk->jk.Perm ns->jk.Pairwise (·<·)->Q (.ref D) {s with heap:=hp,toks:=tk}):
  wpAny (model prog w) A (call (.builtin "sorted") [.ref a]) Q E s:=by
 obtain⟨n2,q1,q2⟩:=fq (gb w a ep es).symm hp;refine L2.zE (LO a es ep t) hh S hn (ns:=n2) (λvs hl hv=>?_) λD hq tk out Ym jk h1 h2 h3 h4 h5 h6=>?_
 .have hlen:=L2.Paired.eM q1;have fY:=(gb w a ep es).length_eq;rw[cM]at hlen fY;rw[cM]at fY;refine L2.tR () λj v n e1 e2=>?_;obtain⟨e,he,rfl⟩:=hv j v e1;obtain⟨m,hm,u,rfl⟩:=L2.Paired.at' q1 (by rw[dv];exact he);rw[e2]at hm;cases hm;exact L2.BE n u
 .refine h D hq tk out Ym jk h1 h2 h3 h4 (h5.trans q2) ?_;refine List.Pairwise.imp_of_mem (R:=λx y=>x<=y/\x≠y) ?_ (h6.and ((h5.trans q2).nodup_iff.mpr nd));intro x y _ _ ⟨r1,r2⟩;omega
end
end Pd
end
section
namespace L2
open PySem PySem.Spec PyProof.Rows
def CQ:bootBuiltins "set"=some (.type "set"):=by decide+kernel
def t4:bootBuiltins "sorted"=some (.builtin "sorted"):=by decide+kernel
def aa6(K:PySem.W.Frag)(ta:TA):TE:=λσ H Q=>ta σ H λvs H1=>∃(a:Addr) (ns:List Int),vs=[.ref a]/\aM K H1 a (ns.map V.int)/\ns.length<2100/\
 ∀(out:List Int)(p:Addr),(∀x,x∈out↔x∈ns)->out.Pairwise (·<·)->H1 p=none->Q (.ref p) (upd H1 p (.lst (out.map V.int)))
def aa7(K:PySem.W.Frag)(ta:TA):TE:=λσ H Q=>ta σ H λvs H1=>∃(a:Addr) (xs:List (Addr×List Int)),vs=[.ref a]/\aM K H1 a (xs.map λx=>V.ref x.1)/\(∀x∈xs,jP K H1 x.1 (x.2.map V.int)/\x.2≠ [])/\
 (∀ks:List (List Int),ks.Nodup->(∀k∈ks,k∈xs.map (·.2))->ks.length<2100)/\
 ∀(out:List (Addr×List Int))(p:Addr),(∀x∈out,jP K H1 x.1 (x.2.map V.int))->(∀k,k∈out.map (·.2)↔k∈xs.map (·.2))->(out.map (·.2)).Pairwise (λa b=>HT.lexLt a b=true)->H1 p=none->Q (.ref p) (upd H1 p (.lst (out.map λx=>V.ref x.1)))
section
variable {ta:TA} {p p2 om:Pos}
def Yn(zD:X.calm=true)(hg1:Gl X "sorted")(hm1:X.mg "sorted"=none)(hg2:Gl X "set")(Qp:X.mg "set"=none)(ha:PA X [e] ta)(hs:starEach [e] X.env=(false,eval e X.env)::starEach [] X.env:=by rfl)(iD:(backTo om (starEach [] X.env)).any (·.1)=false:=by rfl)(Ye:starEach [.Call (.Name "set" p2) [e] [] om] X.env=(false,eval (.Call (.Name "set" p2) [e] [] om) X.env)::starEach [] X.env:=by rfl)(hpd:(backTo pos (starEach [] X.env)).any (·.1)=false:=by rfl):
  PE X (.Call (.Name "sorted" p) [.Call (.Name "set" p2) [e] [] om] [] pos) (aa6 X.K ta):=by
 intro pins s σ H Q I h;refine jG (gn I hg1 hm1 t4 ?_);refine PyProof.Rows.callWith_builtin1 ?_ Ye hpd;refine mw ?_;refine jG (gn I hg2 Qp CQ ?_);refine jF (cI (ha om pins s σ H _ I h) λus s1 W6=>?_) hs iD;obtain⟨vs,H1,I1,r1,q1⟩:=W6;obtain⟨a,ns,ex,hq,hlen,q⟩:=q1;subst ex;rw[Vals.TY r1];obtain⟨aR,rv,p1,z1⟩:=I1.list hq;have hi:=rv.ints;have hh:=I1.ok.hd zD;refine Pd.EA hh p1.isList ‹hi› hlen λh' tk es ep t n2 S pr nd mem fr=>rh ?_;have hle:es.size<=sizeLine:=by
  have h1:=L2.Paired.eM pr;rw[cM]at h1;have h2:=Pd.tZ nd λx hx=>(mem x).mp hx;rw[h1,cE];omega
 refine Pd.Hk hh S pr nd hle λD SM tk2 out Ym n3 hD keep ho Qw pm up=>?_;have hs1:=aX (iA (aN S.ob)) hD;have hl3:(n3.map V.int).length<=sizeLine:=by
  rw[az,pm.length_eq,<-L2.Paired.eM pr,cM];exact hle
 exact⟨.ref D,upd H1 D (.lst (n3.map V.int)),I1.laid (λb u eu=>keep b u (fr b u eu)) hs1 ⟨hl3,out.toList,Ym,js Qw,‹ho›⟩,rfl,q n3 D (λx=>(pm.mem_iff).trans (mem x)) up (I1.bL.fresh hs1)⟩
theorem qT:∀{k}{aR},Vals (k.map V.int) aR->ItemsAre (intKind P w) k aR
 |[],_,.nil=>.nil
 |n::k,_,.cons r t=>by
  obtain⟨u,e⟩:=r;subst e;exact .cons (p6 _ _ _ _) (qT t)
def Yo(hu:X.A.units+10<cLine)(zD:X.calm=true)(hg1:Gl X "sorted")(hm1:X.mg "sorted"=none)(hg2:Gl X "set")(Qp:X.mg "set"=none)(ha:PA X [e] ta)(hs:starEach [e] X.env=(false,eval e X.env)::starEach [] X.env:=by rfl)(iD:(backTo om (starEach [] X.env)).any (·.1)=false:=by rfl)(Ye:starEach [.Call (.Name "set" p2) [e] [] om] X.env=(false,eval (.Call (.Name "set" p2) [e] [] om) X.env)::starEach [] X.env:=by rfl)(hpd:(backTo pos (starEach [] X.env)).any (·.1)=false:=by rfl):
  PE X (.Call (.Name "sorted" p) [.Call (.Name "set" p2) [e] [] om] [] pos) (aa7 X.K ta):=by
 intro pins s σ H Q I h;refine jG (gn I hg1 hm1 t4 ?_);refine PyProof.Rows.callWith_builtin1 ?_ Ye hpd;rw[Ye];show wpAny _ _ (spliced ((false,eval (.Call (.Name "set" p2) [e] [] om) X.env)::backTo pos (starEach [] X.env))) _ _ s;refine mw ?_;refine jG (gn I hg2 Qp CQ ?_);refine jF (cI (ha om pins s σ H _ I h) λus s1 ad5=>?_) hs iD;obtain⟨vs,H1,I1,r1,q1⟩:=ad5;obtain⟨a,xs,ex,hq,hT,hb,q⟩:=q1;subst ex;rw[Vals.TY r1];obtain⟨aR,rv,p1,z1⟩:=I1.list hq;have hh:=I1.ok.hd zD;have tk0:∀x∈xs,Pd.oV X.prog X.w s1.heap x.2 x.1:=λx hx=>by
  obtain⟨ti,rt,⟨o,ho,hc,n,hd⟩,_⟩:=I1.tuple (hT x hx).1;exact⟨o,_,n,ho,hc,hd,qT ‹rt›⟩
 have prs:∀{xs:List (Addr×List Int)}{aR:List Value},(∀x∈xs,Pd.oV X.prog X.w s1.heap x.2 x.1)->Vals (xs.map λx=>V.ref x.1) aR->Paired (λv k=>∃p,v=Value.ref p/\Pd.oV X.prog X.w s1.heap k p) aR (xs.map (·.2))/\aR=xs.map λx=>Value.ref x.1:=by
  intro xs
  induction xs with
  |nil=>intro aR _ r;cases r;exact⟨.nil,rfl⟩
  |cons x xs ih=>
   intro aR ht r;cases r with
   |cons r t=>
    obtain⟨h1,h2⟩:=ih (λy hy=>ht y (bJ _ hy)) t;have e:_=Value.ref x.1:=r;subst e;exact⟨.cons ⟨x.1,rfl,ht x (b9 ..)⟩ h1,by rw[h2];rfl⟩
 obtain⟨LC,hits⟩:=prs tk0 rv;refine Pd.Ez (items:=aR.toArray) hh hu p1.isList ‹LC› hb λh' tk es ep t k2 S pr nd mem src fr=>rh ?_;have zB:es.size=k2.length:=by
  have h1:=L2.Paired.eM pr;rw[cM]at h1;exact h1
 have dQ:=hb k2 nd λk hk=>(mem k).mp hk;have hle:es.size<=sizeLine:=by rw[zB,cE];omega
 have ne:∀k∈k2,k≠ []:=λk hk=>by
  obtain⟨x,hx,e⟩:=mem_map.mp ((mem k).mp hk);rw[<-e];exact(hT x hx).2
 refine Pd.Hj (s:= {s1 with heap:=h',toks:=tk}) hh S pr nd ne hle λD SM tk2 out Ym k3 hD keep ho tr pm up ad6=>?_;have hs1:s1.heap.objs.size<=D:=aX (iA (aN S.ob)) hD;have kk:∀b u,s1.heap.get? b=some u->SM.get? b=some u:=λb u eu=>keep b u (fr b u eu);obtain⟨outs,e1,e2,zF⟩:∃outs:List (Addr×List Int),outs.map (·.2)=k3/\out.toList=outs.map (λx=>Value.ref x.1)/\∀x∈outs,jP X.K H1 x.1 (x.2.map V.int):=by
  have go:∀{vs:List Value}{ks:List (List Int)},Paired (Pd.TR X.prog X.w h') vs ks->(∀v∈vs,∃e∈es.toList,v=e.2)->∃outs:List (Addr×List Int),outs.map (·.2)=ks/\vs=outs.map (λx=>Value.ref x.1)/\∀x∈outs,jP X.K H1 x.1 (x.2.map V.int):=by
   intro vs ks hp
   induction hp with
   |nil=>intro _;exact⟨[],rfl,rfl,λx hx=>by cases hx⟩
   |@cons v k vs ks r _ ih=>
    intro hs;obtain⟨os,f1,f2,f3⟩:=ih λv hv=>hs v (bJ _ hv);obtain⟨pa,rfl,tp⟩:=r;obtain⟨ee,he,hv⟩:=hs _ (b9 ..);have hm:=src ee he;rw[<-hv]at hm;have hm:Value.ref pa∈aR:=‹hm›
    rw[hits]at hm;obtain⟨x,hx,hxe⟩:=mem_map.mp hm;have hxe:x.1=pa:=by injection hxe
    have hk:x.2=k:=by
     have h1:=tk0 x hx;rw[hxe]at h1;exact(h1.keep λo e _=>fr pa o e).inj tp
    refine⟨(pa,k)::os,by rw[aJ,f1],by rw[aJ,f2],λy hy=>?_⟩;obtain z|z:=mem_cons.mp hy
    .rw[z];show jP X.K H1 pa (k.map V.int);rw[<-hk,<-hxe];exact(hT x hx).1
    .exact f3 y z
  exact go tr ad6
 have hl3:(outs.map λx=>V.ref x.1).length<=sizeLine:=by
  have h1:=pm.length_eq;rw[<-e1,az]at h1;rw[az,h1,<-zB];exact hle
 have vo:Vals (outs.map λx=>V.ref x.1) out.toList:=by
  rw[e2];have:∀l:List (Addr×List Int),Vals (l.map λx=>V.ref x.1) (l.map λx=>Value.ref x.1):=λl=>by
   induction l with
   |nil=>exact .nil|cons x l ih=>exact .cons rfl ih
  exact this outs
 refine⟨.ref D,upd H1 D (.lst (outs.map λx=>V.ref x.1)),I1.laid (t':=tk2) kk hs1 ⟨hl3,out.toList,Ym,vo,‹ho›⟩,rfl,q outs D zF (λk=>?_) ?_ (I1.bL.fresh hs1)⟩
 .rw[e1,pm.mem_iff];exact mem k
 .rw[e1];exact up
end
end L2
end
section
namespace L2
open PySem PySem.Spec PyProof.Rows
open AutoSeq1 (wpAny_loadPart')
def wj l items n dct sl:
  Meets (Builtin.«enumerate.__new__» ⟨[.type "enumerate",.ref l],[]⟩) (λ_ R s=>s.heap.get? l=some {cls:=.type "tuple",dict:=dct,data:=.seq items n,slots:=sl}/\
   R (.ok (.ret (.ref (s.heap.push {cls:=.type "tuple_iterator",data:=.fields #[.ref l,.int 0 0]}).objs.size)))
    {s with heap:=(s.heap.push {cls:=.type "tuple_iterator",data:=.fields #[.ref l,.int 0 0]}).push {cls:=.type "enumerate",data:=.fields #[.none,.bool false,.ref s.heap.objs.size,rawInt 0,.none,.none]}}):=
 .of_wp λprog w A R s h=>by
  obtain⟨hp,g,d,tk,os⟩:=s;obtain⟨hl,h⟩:=h;have qM:=sub_enumerate;have hL:Heap.IsTuple (Shared.heap ⟨hp,g,d,tk,os⟩) l items:=⟨_,hl,rfl,n,rfl⟩
  wp_walk using pJ hl
  refine wpAny_stack_any λst=>ay ?_;split
  .rename_i c _ _ _ _ _;cases(c==Value.type "enumerate")
   .wp_walk using pJ hl,wpAny_pyIter_tuple hL
    exact⟨_,rfl,h⟩
   .wp_walk using pJ hl,wpAny_pyIter_tuple hL
    exact⟨_,rfl,h⟩
  .wp_walk using pJ hl,wpAny_pyIter_tuple hL
   exact⟨_,rfl,h⟩
section
def Bl(hL:s.heap.IsTuple l items)(h:∀h',IsEnum h' (s.heap.objs.size+1) s.heap.objs.size 0 .none->h'.IsTupleIter s.heap.objs.size l 0->h'.objs.size=s.heap.objs.size+2->
   (∀b o,s.heap.get? b=some o->h'.get? b=some o)->Q (.ref (s.heap.objs.size+1)) {s with heap:=h'}):
  wpAny (model prog w) A (call (.type "enumerate") [.ref l]) Q E s:=by
 obtain⟨⟨c,dct,dt,sl⟩,hl,hc,n,hd⟩:=hL;subst hc hd;refine callType_new PySem.F.called_enumerate ⋯ (PySem.F.typeCall_enumerate_1 _) (PySem.F.newCall_enumerate_1 _) (λobj=>PySem.F.args_object_init_2 obj _) PySem.F.entry_enumerate_new
  (wj l items n dct sl) ⟨hl,?_⟩
 have hz:(s.heap.push {cls:=.type "tuple_iterator",data:=.fields #[.ref l,.int 0 0]}).objs.size=s.heap.objs.size+1:=dU ..;rw[hz];have he:IsEnum ((s.heap.push {cls:=.type "tuple_iterator",data:=.fields #[.ref l,.int 0 0]}).push
   {cls:=.type "enumerate",data:=.fields #[.none,.bool false,.ref s.heap.objs.size,rawInt 0,.none,.none]}) (s.heap.objs.size+1) s.heap.objs.size 0 .none:=by
  have:=bw (s.heap.push {cls:=.type "tuple_iterator",data:=.fields #[.ref l,.int 0 0]})
   (o:= {cls:=.type "enumerate",data:=.fields #[.none,.bool false,.ref s.heap.objs.size,rawInt 0,.none,.none]}) rfl
  rw[hz]at this;exact this
 refine⟨⟨_,he,rfl⟩,h _ he ⟨_,bR _ (bw _ rfl),rfl,rfl⟩ (by rw[dU,hz]) λb o x=>bR _ (bR _ x)⟩
def wo{items}{x:Value}(hit:s.heap.IsTupleIter it l i)(hl:s.heap.IsTuple l items)(hx:items[i]?=some x)(hQ:∀h',h'.IsTupleIter it l (i+1)->Heap.SameBut it s.heap h'->Q x {s with heap:=h'}):wpAny (model prog w) A (Builtin.SmallTypes.nextOf (.ref it)) Q E s:=by
 obtain⟨o,ho,hc,hd⟩:=id hit;obtain⟨ol,Wd,_,nl,Zt⟩:=hl;refine aj (qY hit.typeIs Dm
  (hG Dm hit.typeIs PySem.F.entry_tuple_iterator_next ?_ (PySem.F.args_tuple_iterator_next_1 _)))
 show wpAny _ _ (field (.ref it) 0>>=_) _ _ s;refine aj (fF ho hd rfl ?_);refine aj (fF ho hd rfl ?_);refine aj (mF Wd Zt ?_);simp only[Int.toNat_natCast,hx];refine aj (mB ho hd ∅ (ay ⟨x,rfl,ay (hQ _ ?_ (kL ..))⟩));exact⟨_,mr _ ho (oq (jH hd _)),(wR ..).trans hc,by
  rw[jH hd];simp[rawInt]⟩
def zU{items}(hh:A.handled=none)(hit:s.heap.IsTupleIter it l i)(hl:s.heap.IsTuple l items)(hx:items[i]?=none)(hE:∀h' e,Heap.ExtBut it s.heap h'->(∃o,h'.get? e=some o/\o.cls=.type "StopIteration")->E (.ref e) {s with heap:=h'}):
  wpAny (model prog w) A (Builtin.SmallTypes.nextOf (.ref it)) Q E s:=by
 obtain⟨o,ho,hc,hd⟩:=id hit;obtain⟨ol,Wd,_,nl,Zt⟩:=hl;unfold Builtin.SmallTypes.nextOf;refine aj (qY (name:=Str.ofString "__next__") hit.typeIs Dm
  (hG Dm hit.typeIs PySem.F.entry_tuple_iterator_next ?_ (PySem.F.args_tuple_iterator_next_1 _)))
 show wpAny _ _ (field (.ref it) 0>>=_) _ _ s;refine aj (fF ho hd (x:=.ref l) rfl ?_);show wpAny _ _ (if(Value.ref l==Value.none)=true then _ else _) _ _ s;rw[af (show¬((Value.ref l==Value.none)=true)from cg)];show wpAny _ _ (field (.ref it) 1>>=_) _ _ s;refine aj (fF ho hd (x:=.int i 0) rfl ?_);show wpAny _ _ (seqItems? (.ref l)>>=_) _ _ s;refine aj (mF Wd Zt ?_);simp only[Int.toNat_natCast,hx];refine aj (wpAny_rule (aj (mB ho hd ∅ ?_)));show wpAny _ _ (newExc (.type "StopIteration") [] >>=_) _ _ _;refine aj ?_;delta newExc newTuple;refine aj (jI ?_ (by size_fits));refine aj (m:=firstArgMember _ _) (wpAny_of_eq (a:=Value.none) (by first|rfl|(simp only[firstArgMember];rfl)) ?_);refine jI ?_ (by size_fits);delta raiseNew;refine aj (wpAny_handled ?_)
 first|rw[show A.in1.handled=none from hh]|rw[hh]
 refine aj (ay (sU ?_));exact hE _ _ (((kL ..).extBut.push _).push _) ⟨_,bw _ rfl,rfl⟩
def CT(hh:A.handled=none) it l (iF:l≠it) items:
  Draws prog w A it [it,l] items.size (λi v=>items[i]?=some v) (λi h=>h.IsTupleIter it l i/\h.IsTuple l items)where
 live:=λ_ _ st=>let⟨o,ho,_⟩:=st.1;⟨o,ho⟩
 frame:=λ_ _ _ st hk=>⟨let⟨o,ho,q⟩:=st.1;⟨o,hk it ∅ o ho,q⟩,let⟨o,ho,q⟩:=st.2;⟨o,hk l ∅ o ho,q⟩⟩
 item:=λi s Q E hi st hQ=>by
  refine wo st.1 st.2 (x:=items[i]) (by simp[hi]) λh' IQ Ii=>?_;exact hQ _ h' s.toks (by simp[hi]) ⟨IQ,st.2.extBut Ii.extBut iF⟩ Ii
 done:=λs Q E st hE=>zU hh st.1 st.2 ∅ hE
end
noncomputable def Yp(K:PySem.W.Frag)(a:Addr):It:=
 ⟨λi H=>∃(xs:List V) (x:V),jP K H a xs/\xs[i]?=some x,λi H v H'=>∃T x,v=.ref T/\H T=none/\H'=upd H T (.tup [.int (i:Nat),x])/\∀xs,jP K H a xs->xs[i]?=some x,λi H=>∃xs:List V,jP K H a xs/\xs.length=i⟩
def JP a e it (hai:a≠it) (hae:a≠e):
  Turn P w K (.Tuple elts kk Dj) (Yp K a) [e,it] e (λi h=>(∃old,IsEnum h e it ((i:Nat):Int) old)/\h.IsTupleIter it a i/\e≠it)where
 mem:=by simp
 obj:=λi h st b hb=>by
  obtain⟨⟨old,he⟩,⟨o,ho,hc,hd⟩,_⟩:=st;have e':b=e\/b=it:=‹hb›
  obtain z|z:=e'
  .rw[z];exact⟨_,he,λv q=>nomatch q⟩
  .rw[z];exact⟨o,ho,λv q=>by rw[hd]at q;cases q⟩
 keep:=λi h h' st k=>let⟨⟨old,he⟩,⟨o,ho,q⟩,iF⟩:=st;⟨⟨old,k e ∅ _ he⟩,⟨o,k it ∅ o ho,q⟩,iF⟩
 item:=by
  intro X hP hw hK hc i pins s σ H E I hf st hg;subst hP hw hK;obtain⟨⟨old,he⟩,hit,iF⟩:=st;obtain⟨xs,x,hq,hx⟩:=hg;obtain⟨aR,rv,p,hz⟩:=I.tuple hq;obtain⟨u,hu,ru⟩:=rv.get hx;have K4:=aN he;have hil:it<s.heap.objs.size:=by obtain⟨_,q,_⟩:=hit;exact aN q
  have dQ:i<aR.toArray.size:=by
   obtain⟨h1,_⟩:=List.getElem?_eq_some_iff.mp hu;simpa using h1
  refine wpAny_pyNext_enum_itemD (CT (by have:=I.ok.hd hc;simp[this]) it a hai aR.toArray) he ⟨hit,p⟩ dQ iF (by simp;exact⟨iF,c6 hae⟩) λv h' tk hv ho IQ hT fY hk=>?_;have hv:aR[i]?=some v:=‹hv›
  obtain rfl:u=v:=Option.some.inj (hu.symm.trans hv);refine⟨_,rfl,wpAny_letOwnedTupleGo_enum ho λPB M9 sb=>?_⟩;have T4:=(sb.2 _ (jn K4)).trans hT;have new:dF X.prog X.w (upd H s.heap.objs.size (.tup [.int (i:Nat),x])) PB s.heap.objs.size (.tup [.int (i:Nat),x]):=
   ⟨by show 2<=sizeLine;decide,[.int i tk,u],.cons ⟨_,rfl⟩ (.cons ru .nil),⟨_,T4,rfl,_,rfl⟩⟩
  have I1:Inv X pins σ (upd H s.heap.objs.size (.tup [.int (i:Nat),x])) {s with heap:=PB,toks:=tk+1} :=
   I.qk (λb ob hb q=>(sb.2 b (λz=>hb (by simp[z]))).trans (hk b ob (λz=>hb (by simp[z])) (λz=>hb (by simp[z])) q)) hf (aL _) new
  refine⟨.ref s.heap.objs.size,_,I1,rfl,⟨_,x,rfl,I.bL.fresh (aL _),rfl,λys hy=>by rw[I.MR hy hq];exact hx⟩,⟨⟨u,?_⟩,?_,iF⟩,λb hb=>?_⟩
  .have e1:((i+1:Nat):Int)=(i:Int)+1:=by omega
   rw[e1];exact M9
  .obtain⟨o2,h1,h2⟩:=IQ.1;exact⟨o2,(sb.2 it (c6 iF)).trans h1,h2⟩
  .have hb':b<s.heap.objs.size:=by
    have e':b=e\/b=it:=‹hb›
    obtain z|z:=e'
    .rw[z];exact K4
    .rw[z];exact hil
   rw[aB (bB hb')];exact(hf b hb).1
 done:=by
  intro X hP hw hK hc i pins s σ H E I hf st hg;subst hP hw hK;obtain⟨⟨old,he⟩,hit,iF⟩:=st;obtain⟨xs,hq,hx⟩:=hg;obtain⟨aR,rv,p,hz⟩:=I.tuple hq;obtain⟨f0,f1,f2,f3,f4,f5⟩:=hf it ∅;have hl:=rv.length;have fY:aR.toArray.size=i:=by simp;omega
  exact wpAny_pyNext_enum_endD (CT (by have:=I.ok.hd hc;simp[this]) it a hai aR.toArray) he (by rw[fY];exact⟨hit,p⟩) λh' eb=>⟨rfl,I.turned (t':=s.toks) (λb o hb q=>eb b o hb q) f0 f1 f3 f4 f5⟩
 self:=λA i s Q E st h=>let⟨⟨_,he⟩,_⟩:=st;wO he h
def Yq(K:PySem.W.Frag)(ta:TA):TI:=λσ H R=>ta σ H λvs H1=>∃a xs,vs=[.ref a]/\jP K H1 a xs/\R (Yp K a) H1
def Q9{ta:TA}{p pos Dj:Pos}{elts:List Expr}{kk:Nat}(hg:Gl X "enumerate")(hm:X.mg "enumerate"=none)(ha:PA X [e] ta)(hs:starEach [e] X.env=[(false,eval e X.env)]:=by rfl):
  PI X (.Tuple elts kk Dj) (.Call (.Name "enumerate" p) [e] [] pos) (Yq X.K ta):=by
 intro pins s σ H R I h;refine Call_ (gn I hg hm boot_enumerate (jF (cI (ha pos pins s σ H _ I h) λus s1 W8=>?_) hs rfl));obtain⟨vs,H1,I1,r1,q1⟩:=W8;obtain⟨a,xs,ex,hq,q⟩:=q1;subst ex;cases r1 with
 |cons r rr=>
  cases rr;cases r;obtain⟨aR,rv,p',hz⟩:=I1.tuple hq;have la:a<s1.heap.objs.size:=by obtain⟨o,ho,_⟩:=p';exact aN ho
  refine Bl p' λh' he hit fY hk=>wO he ?_;have I2:=I1.kept (t':=s1.toks) hk;refine⟨s1.heap.objs.size+1,[s1.heap.objs.size+1,s1.heap.objs.size],_,_,H1,rfl,I2,JP a (s1.heap.objs.size+1) s1.heap.objs.size (bB la) (bB (my la)),⟨⟨.none,he⟩,hit,Nat.succ_ne_self _⟩,λb hb=>?_,q⟩;have e':b=s1.heap.objs.size+1\/b=s1.heap.objs.size:=‹hb›
  have hle:s1.heap.objs.size<=b:=by
   obtain z|z:=e'
   .rw[z];exact kP _ _
   .rw[z];exact aL _
  exact I1.Dy hle (I1.bL.fresh hle)
def tuple_addW0 l b Yr n n2 dd Zb sl Zc:
  Meets (Builtin.«tuple.__add__» ⟨[.ref l,.ref b],[]⟩) (λ_ R s=>s.heap.get? l=some {cls:=.type "tuple",dict:=dd,data:=.seq #[] n,slots:=sl}/\s.heap.get? b=some {cls:=.type "tuple",dict:=Zb,data:=.seq Yr n2,slots:=Zc}/\R (.ok (.ret (.ref b))) s):=
 .of_wp λprog w A R s h=>by
  obtain⟨hl,hb,h⟩:=h;have f1:=AutoSeq1.idx_int;have f2:=AutoSeq1.sub_tuple_tuple;have f3:=AutoSeq1.sub_list_list;have f4:=AutoSeq1.sub_tuple_list;have f5:=AutoSeq1.sub_list_tuple
  wp_walk using pJ hl,pJ hb
  exact⟨_,rfl,h⟩
section
def Q_{t:Addr}{ws:List Value}(ht:IsTup s.heap t #[])(hb:IsTup s.heap b ws.toArray)(h:Q (.ref b) s):wpAny (model prog w) A (binaryOp .Add (.ref t) (.ref b)) Q E s:=by
 obtain⟨⟨cls,dd,data,sl⟩,ho,hc,n,hd⟩:=id ht;obtain⟨⟨ade,Zb,data2,Zc⟩,Xe,hc2,n2,hd2⟩:=id hb;subst hc hd hc2 hd2;exact concat_meets ⟨_,ho,rfl⟩ ⟨_,Xe,rfl⟩ noFill_tuple_add seq_tuple_add PySem.F.slot_tuple_add PySem.F.entry_tuple_add (PySem.F.args_tuple_add_2 _ _) (tuple_addW0 t b ws.toArray n n2 dd Zb sl Zc) ⟨ho,Xe,h⟩
def Hl{Q:List Value->Shared->Prop}(hl:IsTup s.heap l vs.toArray)(h:Q vs {s with heap:=(s.heap.push (seqObj "list" #[] 0)).update s.heap.objs.size (Obj.mapSeq (·++vs.toArray))})(fY:vs.length<=sizeLine):
  wpAny (model prog w) A (collect (.ref l)) Q E s:=by
 obtain⟨o,ho,hc,n,hd⟩:=id hl;unfold collect;refine aj (wpAny_runValue (kR entry_proto_collect' ?_));show wpAny _ _ (do again (.builtin "list.__iadd__" ⟨[<-newList [],.ref l],[]⟩)) _ _ s;refine aj (xj (ay ⟨Code.quiet_builtin _ (by decide+kernel),kR entry_list_iadd' ?_⟩));show wpAny _ _ (Builtin.List.listExtendWith (.ref s.heap.objs.size) (.ref l) (.ref s.heap.objs.size)) _ _ {s with heap:=s.heap.push (seqObj "list" #[] 0)};unfold Builtin.List.listExtendWith;have xD:(s.heap.push (seqObj "list" #[] 0)).get? l=some o:=bR _ ho;refine aj (sS (T:="tuple") ⟨o,xD,hc⟩ ?_);have ht:(Value.type "tuple"==Value.type "tuple")=true:=by rfl
 rw[ag (by rw[ht];simp)];refine aj (listItems_at xD hd ?_);refine aj (listItems_at (xs:= #[]) (n:=0) (bw _ rfl) rfl ?_);rw[af ∅];refine aj (listUpdate_at (xs:= #[]) (n:=0) (bw _ rfl) rfl ?_ (cj _) (by show(#[] ++vs.toArray).size<=sizeLine+1;simp only[Array.size_append,size_toArray,length_nil];omega));refine ay ?_;show wpAny (model prog w) A (do
   let o<-load s.heap.objs.size
   match o.data with
   |.seq xs _=>pure xs.toList|_=>unsupported "internal:collect") Q E {s with heap:=(s.heap.push (seqObj "list" #[] 0)).update s.heap.objs.size (Obj.mapSeq (·++vs.toArray))}
 refine aj (wpAny_load (get?_update_seq (bw _ rfl) _) ?_);show wpAny _ _ (pure ((#[]:Array Value)++vs.toArray).toList) Q E _;rw[show((#[]:Array Value)++vs.toArray).toList=vs by simp];exact ay h
def Hm(hl:IsTup s.heap l vs.toArray)(hI:IntsAre vs ns)(hL:vs.length<=sizeLine)(h:∀out jk,IntsAre out.toList jk->jk.Perm ns->jk.Pairwise (·<=·)->Q (.ref (s.heap.objs.size+1)) {s with heap:=sortedAll s.heap vs out}):
  wpAny (model prog w) A (call (.builtin "sorted") [.ref l]) Q E s:=by
 refine Calls.call_function_entry kind_sorted plain_sorted entry_sorted (args_sorted1 _) ?_;unfold Builtin.«sorted»;refine aj (ay ?_);refine aj (Hl hl ?_ hL);refine aj (xj ?_ hL);have fY:((s.heap.push (seqObj "list" #[] 0)).update s.heap.objs.size (Obj.mapSeq (·++vs.toArray))).objs.size=s.heap.objs.size+1:=by
  rw[Heap.size_update,size_push']
 have OC:(((s.heap.push (seqObj "list" #[] 0)).update s.heap.objs.size (Obj.mapSeq (·++vs.toArray))).push (seqObj "list" vs.toArray 0)).get? (s.heap.objs.size+1)=some (seqObj "list" vs.toArray 0):=by
  rw[<-fY];exact bw _ rfl
 show wpAny _ _ _ _ _ {s with heap:=((s.heap.push (seqObj "list" #[] 0)).update s.heap.objs.size (Obj.mapSeq (·++vs.toArray))).push (seqObj "list" vs.toArray 0)};rw[fY];refine aj (gm (hG slot_list_sort ⟨_,OC,rfl⟩ entry_list_sort (list_sort_treeAny OC hI hL λout jk a1 a2 a3=>⟨_,rfl,ay ⟨_,rfl,h out jk a1 a2 a3⟩⟩) (args_list_sort _)))
end
section
def Wh(K:PySem.W.Frag):R2:=λx y H Q=>∃a b xs ys,x=.ref a/\y=.ref b/\jP K H a xs/\jP K H b ys/\ys≠ []/\xs.length+ys.length<=sizeLine/\
 (xs=[]->Q (.ref b) H)/\(xs≠ []->∀p,H p=none->Q (.ref p) (upd H p (.tup (xs++ys))))
def UO:qf X (binaryOp .Add) (Wh X.K):=by
 intro pins s σ H x y v u Q I rx ry h;obtain⟨a,b,xs,ys,ex,ey,ha,hb,hy,hz,q1,q2⟩:=h;by_cases c:xs=[]
 .subst ex ey c;cases rx;cases ry;obtain⟨aR,r1,p1,_⟩:=I.tuple ha;obtain⟨og,r2,p2,_⟩:=I.tuple hb;cases r1;exact Q_ p1 p2 ⟨.ref b,H,I,rfl,q1 rfl⟩
 .exact TN pins s σ H x y v u Q I rx ry ⟨a,b,xs,ys,ex,ey,ha,hb,c,hz,λz=>absurd z hy,λ_=>q2 c⟩
def EC:ku X (.builtin "sorted") (λxs H Q=>eL xs λa=>∃ns:List Int,jP X.K H a (ns.map V.int)/\∀(jk:List Int) p,jk.Perm ns->jk.Pairwise (·<=·)->H p=none->Q (.ref p) (upd H p (.lst (jk.map V.int)))):=by
 intro pins s σ H xs us Q I r q0;obtain⟨a,ex,ns,hs,q⟩:=rm.mp q0;subst ex;obtain⟨aR,rv,hl,hz⟩:=I.tuple hs;rw[Vals.TY r];have hi:=rv.ints;rw[az]at hz;refine Hm hl hi (by rw[hi.length];exact hz) λout jk h1 h2 h3=>?_;obtain⟨ep,M9⟩:=PyProof.Rows.sortedAll_at s.heap aR out;have hlen:(jk.map V.int).length<=sizeLine:=by rw[az,h2.length_eq];exact hz
 exact⟨.ref _,upd H (s.heap.objs.size+1) (.lst (jk.map V.int)),I.laid (λ_ _=>PyProof.Rows.sortedAll_old) (pW _) ⟨hlen,out.toList,ep,js h1,M9⟩,rfl,q jk _ h2 h3 (I.bL.fresh (pW _))⟩
end
def UP{f:Str}(hK:X.K=K)(he:PE X e ta)(hb:attributeBase e f X.env (eval e X.env)=eval e X.env):PE X (.Attribute e f pos) (oz K ta f):=by
 subst hK;exact bC he hb
def NZ(hK:X.K=K):Pj X "list.index" (IK K):=by
 subst hK;exact Pt
def Ys{o:Expr}{es:List Expr}{to:TE}{t:TA}{apos et:Pos}{id:String}{r:V->List V->Hp->VK->Prop}(hK:X.K=K)(pa:PlainAttrs T)(slot:Slot T name id)(SE:typeOf (.builtin id)=pure (.type "method_descriptor"))(hm:Pj X id r)(ho:PE X o to)(ha:PA X (e::es) t)(jR:attributeBase o name X.env (eval o X.env)=eval o X.env:=by rfl)(Xk:((backTo et (starEach (e::es) X.env)).all (λx=>!x.1)&&(backToKw et (keywordEach [] X.env)).all (λx=>x.1.isSome)
   &&decide ((e::es).length+([]:List Keyword).length+(if([]:List Keyword).isEmpty then 0 else 1)<30))=true:=by rfl)(hline:(apos.endLine==et.line)=true:=by rfl)(hs:starEach (e::es) X.env=(false,eval e X.env)::starEach es X.env:=by rfl)(IG:(backTo et (starEach es X.env)).any (·.1)=false:=by rfl):
  PE X (.Call (.Attribute o name apos) (e::es) [] et) (Zf K T r to t):=by
 subst hK;exact KS pa slot SE hm ho ha jR Xk hline hs IG
def zV(hK:X.K=K):qf X (compareOp .In) (SD K false):=by
 subst hK;exact uA
def qU(hK:X.K=K):qf X (compareOp .NotIn) (SD K true):=by
 subst hK;exact DL
def xZ{es:List Expr}{k:Nat}{t:VL}{n:Nat}{pos:Pos}(hK:X.K=K)(hc:X.calm=true)(h:ZS X es t)(hn:(assignEach es X.env).length=n:=by rfl)(qe:(assignEach es X.env).findIdx? (·.1)=none:=by rfl):PG X (.Tuple es k pos) (W5 K n t):=by
 subst hK;exact yu hc h hn qe
theorem ED:∀ns:List Int,yD K H (ns.map V.int) (ns.map PyData.int)
 |[]=>.nil|n::ns=>.cons (.int n) (ED ns)
theorem Hn:∀xs ys:List Int,PyData.eqvAll (xs.map PyData.int) (ys.map PyData.int)=decide (xs=ys)
 |[],[]=>rfl|[],_::_=>rfl
 |_::_,[]=>rfl
 |x::xs,y::ys=>by
  show((x==y)&&PyData.eqvAll (xs.map PyData.int) (ys.map PyData.int))=_;rw[Hn xs ys];by_cases c:x=y
  .subst c;simp
  .simp[c]
def Ho:bootBuiltins "tuple"=some (.type "tuple"):=by decide+kernel
def UQ(hr:dX k A):A.units+64<cLine:=hr.units
def UR(hr:dX k A):A.units+10<cLine:=wJ (Nat.add_le_add_left (by decide:10<=64) _) hr.units
def LW{J:It}{D:Ends}(Pv:Nat->St->Hp->Prop)(h0:Pv 0 σ H)(hgo:∀i σ H,i<n->Pv i σ H->J.go i H)(hs:∀i x σ H H',i<n->Pv i σ H->J.FD i H x H'->g x σ H' λσ2 H2=>tb {D with nx:=Pv (i+1),ct:=Pv (i+1),bk:=D.nx} σ2 H2)(hd:∀σ H,Pv n σ H->J.stop n H/\D.nx σ H):
  ∃W:Nat->Nat->St->Hp->Prop,(∃m,W 0 m σ H)/\∀i m σ H,W i m σ H->
   (J.stop i H/\D.nx σ H)\/(J.go i H/\∃N:St->Hp->Prop,(∀σ' H',N σ' H'->∃m',m'<m/\W (i+1) m' σ' H')/\∀x H',J.FD i H x H'->g x σ H' λσ2 H2=>tb {D with nx:=N,ct:=N,bk:=D.nx} σ2 H2):=by
 refine⟨λi m σ H=>m=n-i/\i<=n/\Pv i σ H,⟨n,by simp,cj _,h0⟩,?_⟩;rintro i m σ H ⟨rfl,hi,p⟩;by_cases dQ:i<n
 .exact .inr ⟨hgo i σ H dQ p,Pv (i+1),λσ' H' p'=>⟨n-(i+1),by omega,rfl,dQ,p'⟩,λx H' y=>hs i x σ H H' dQ p y⟩
 .obtain rfl:i=n:=by omega
  exact .inl (hd σ H p)
def zW{J:It}{vs:List Nat}(Pv:Nat->Hp->Prop)(h0:Pv 0 (upd H1 D (.lst [])))(hgo:∀i H,i<n->Pv i H->J.go i H)(hs:∀i x H H',i<n->Pv i H->J.FD i H x H'->g x (wipe σ vs) H' λσ2 H2=>wipe σ2 vs=wipe σ vs/\tt σ2 H2 λb H3=>
   if b=true then te σ2 H3 λy H4=>∃acc,H4 D=some (.lst acc)/\acc.length<sizeLine/\Pv (i+1) (upd H4 D (.lst (acc++ [y])))else Pv (i+1) H3)(hd:∀H,Pv n H->J.stop n H/\Qd H):
  ∃W:Nat->Nat->Hp->Prop,(∃m,W 0 m (upd H1 D (.lst [])))/\∀i m H,W i m H->
   (J.stop i H/\Qd H)\/(J.go i H/\∃Nx:Hp->Prop,(∀H',Nx H'->∃m',m'<m/\W (i+1) m' H')/\∀x H',J.FD i H x H'->g x (wipe σ vs) H' λσ2 H2=>wipe σ2 vs=wipe σ vs/\tt σ2 H2 λb H3=>
    if b=true then te σ2 H3 λy H4=>∃acc,H4 D=some (.lst acc)/\acc.length<sizeLine/\Nx (upd H4 D (.lst (acc++ [y])))else Nx H3):=by
 refine⟨λi m H=>m=n-i/\i<=n/\Pv i H,⟨n,by simp,cj _,h0⟩,?_⟩;rintro i m H ⟨rfl,hi,p⟩;by_cases dQ:i<n
 .exact .inr ⟨hgo i H dQ p,Pv (i+1),λH' p'=>⟨n-(i+1),by omega,rfl,dQ,p'⟩,λx H' y=>hs i x H H' dQ p y⟩
 .obtain rfl:i=n:=by omega
  exact .inl (hd H p)
end L2
end
section
namespace Pd
open PySem PySem.Spec PyProof.Rows L2 TL
structure Nb(K:PySem.W.Frag)(mg:Str->Option Value)(NB:Addr):Prop where
 mg:mg "NoBet"=some (.ref NB)
 ex:PySem.W.excIn K NB [.type "ValueError",.type "Exception",.type "BaseException",.type "object"] "ValueError.__new__"=true
noncomputable abbrev t5:Stmt:=top 35
noncomputable abbrev x3:Stmt:=top 37
noncomputable abbrev t6:Stmt:=top 38
noncomputable abbrev EE:Stmt:=top 39
section
def N0:aE ["holds"] ["holds"] (ao t5):=by ac_nf
def JQ(D:Def K mg "require" t5 ["holds"])(Wi:Nb K mg NB):Ok P w K mg base (fU P w) 1 "require" ["holds"] (aD NB):=by
 refine D.Cj N0 (λvs H Q E h=>?_) (λf cf A outer s H vs Q E hr h=>?_)
 .obtain⟨a,rfl,_⟩:=ym.mp h;rfl
 .obtain⟨b,rfl,k⟩:=ym.mp h;refine⟨_,(au (cR (yr (yq (pv 0))) (au (Gs (E:=E) aH rfl rfl Wi.mg Wi.ex PySem.F.excBase_ValueError (ae bu ai))) bx)),?_⟩;simp? only[cb];refine bo (λa=>?_) (λa=>?_)
  .subst a;exact⟨by have:=bF;omega,k⟩
  .cases b with
   |true=>exact k|false=>exact absurd rfl a
def Hq(NB:Addr):Sp:=λvs H Q E=>∃st n:Int,vs=[.int st,.int n]/\0<=st/\st<=1000000/\if 0<n/\st*n<=2147483647 then Q .cT H else E (.ref NB) none H
def Ra:aE ["stake","combinations"] ["stake","combinations"] (ao x3):=by ac_nf
def N1(D:Def K mg "check_staked" x3 ["stake","combinations"])(T:Tx mg)(aK:Ok P w K mg base (fU P w) 1 "require" ["holds"] (aD NB)):Ok P w K mg base (fU P w) 2 "check_staked" ["stake","combinations"] (Hq NB):=by
 refine D.Cj Ra (λvs H Q E h=>?_) (λf cf A outer s H vs Q E hr h=>?_)
 .obtain⟨_,_,rfl,_⟩:=h;rfl
 .obtain⟨st,n,rfl,s0,s1,k⟩:=h;refine⟨_,(au (aQ (ax (E:=E) aK (hr.mono ⋯) rfl (aW aH) (ae (kW (aU vt (pv 1) aq (aG _)) (i5 (aU jQ (bS rq (pv 0) (pv 1)) (cO T.fK rfl) (aG _)))) ai)))),?_⟩;simp? only[cb,aD];refine bo (λa=>⟨.inl ⟨by omega,by omega⟩,?_⟩) (λa=>?_)
  .refine bo (λb=>?_) (λb=>?_)
   .rw[ag ⟨a,b⟩]at k;exact k
   .rw[af (λz=>b z.2)]at k;exact k
  .rw[af (λz=>a z.1)]at k;exact k
noncomputable def oW(t:List Nat)(u:Int):Option Int:=if 0<dz t/\dz t<=1000000/\dz t%u=0 then some (dz t)else none
def LX(NB:Addr):Sp:=λvs H Q E=>∃(t:List Nat) (u:Int),vs=[.str (S t),.int u]/\Ul t/\0<u/\u<=10000/\match oW t u with
 |some n=>Q (.int n) H|none=>E (.ref NB) none H
def LY:aE ["word","unit","stake"] ["word","unit"] (ao EE):=by ac_nf
def Rb(D:Def K mg "read_stake" EE ["word","unit"])(T:Tx mg)(ft:Ok P w K mg base eY 1 "number_of" ["word"] iU)(aK:Ok P w K mg base (fU P w) 1 "require" ["holds"] (aD NB)):Ok P w K mg base (fU P w) 2 "read_stake" ["word","unit"] (LX NB):=by
 refine D.Cj LY (λvs H Q E h=>?_) (λf cf A outer s H vs Q E hr h=>?_)
 .obtain⟨_,_,rfl,_⟩:=h;rfl
 .obtain⟨t,u,rfl,ht,u0,u1,k⟩:=h;refine⟨_,(ah (aO (i:=2) LY.nd rfl (Or.inl rfl) (ax ft (hr.mono ⋯) rfl cB (ae (pv 0) ai))) (ah (aQ (ax (E:=E) aK (hr.mono ⋯) rfl (aW aH) (ae (kW (yy yx jQ aq (pv 2) (cO T.gG rfl)) (i5 (aU cD (bS O7 (pv 2) (pv 1)) aq (aG _)))) ai))) (au (aI (pv 2))))),?_⟩;simp? only[cb,iU,aD];refine⟨t,rfl,ht,?_⟩;unfold oW at k;refine bo (λa=>⟨u0,?_⟩) (λa=>?_)
  .refine bo (λb=>?_) (λb=>?_)
   .rw[ag ⟨a.1,a.2,b⟩]at k;exact k
   .rw[af (λz=>b z.2.2)]at k;exact k
  .rw[af (λz=>a ⟨z.1,z.2.1⟩)]at k;exact k
def Hr(NB Cp:Addr):Sp:=λvs H Q E=>∃(t:List Nat) (L:Addr) (rv:List V) (ps:List MP),vs=[.str (S t),.ref L]/\zq Cp H L rv ps/\
 (∀q,ps.filter (λq=>decide (q.name=t))=[q]->∀H' v,aw H H'->oO Cp H' rv v q->Q v H')/\((ps.filter (λq=>decide (q.name=t))).length≠1->∀H',aw H H'->E (.ref NB) none H')
def zX:aE ["name","pools","found","pool"] ["name","pools"] (ao t6):=by ac_nf
def N2(D:Def K mg "pool_called" t6 ["name","pools"])(T:Tx mg)(aS:CL P w K mg base "Pool" Cp ["self","name","kind","k","races","unit"] (dD Cp) ["name","kind","k","races","unit"])(aK:Ok P w K mg base (fU P w) 1 "require" ["holds"] (aD NB)):Ok P w K mg base (fU P w) 2 "pool_called" ["name","pools"] (Hr NB Cp):=by
 refine D.Cj zX (λvs H Q E h=>?_) (λf cf A outer s H vs Q E hr h=>?_)
 .obtain⟨_,_,_,_,rfl,_⟩:=h;rfl
 .obtain⟨t,L,rv,ps,rfl,hP,kQ,kE⟩:=h;refine⟨_,(ah (ql (own:=[("pool",3)]) rfl zX.nd (i:=2) rfl rfl (tq rfl rfl rfl rfl) (b8 (pv 1)) (bY (N:=["name","pools","found","pool"]) (sc:=ao t6) (by decide+kernel)) (λ_ _ _ _ _=>aT (i:=3) zX.nd rfl (Or.inl rfl)) (λ_ _ _ _ _=>(xE (bq cD (UP (K:=K) rfl (pv 3) rfl) (pv 0) (aG _)))) (λ_ _ _ _ _=>(pv 3))) (ah (aQ (ax (E:=E) aK (hr.mono ⋯) rfl (aW aH) (ae (aU cD (aC aA (by rfl) T.cv bO (ae (pv 2) ai)) aq (aG _)) ai))) (au (aI (bH aP (pv 2) aq (λ_ _=>rfl)))))),?_⟩;simp? only[cb,aD];obtain⟨hl,as,hA,hp⟩:=hP;have hlen:=Paired.eM hp;have hz:=cE;refine⟨L,rfl,⟨_,aM.of hA⟩,λD hD=>?_⟩;have hAD:L≠D:=λz=>by rw[z,hD]at hA;cases hA
  refine zW (n:=as.length) (λi H'=>aw H H'/\H' D=some (.lst ((((as.zip ps).take i).filter λx=>decide (x.2.name=t)).map (·.1)))) ⟨aw.new hD,ak⟩ (λi H' hi h=>⟨as,as[i],aM.of (h.1 _ _ hA),bt hi⟩) ?_ ?_
  .rintro i x H' H'' hi ⟨sm,Zu⟩ ⟨rfl,hx⟩;have hx:=hx as (aM.of (sm _ _ hA));obtain⟨q,hq,hpi⟩:=Paired.at' hp hx;obtain⟨p,dx,Rr,rfl,nX,hR⟩:=id hpi;have Zv:(as.zip ps)[i]?=some (.ref p,q):=by rw[uv];exact⟨hx,hq⟩
   simp? only[oz];have CP:(as.zip ps).take (i+1)=(as.zip ps).take i++ [(.ref p,q)]:=bz Zv;have hDl:D≠L:=c6 hAD;refine⟨rfl,_,rfl,p,rfl,Cp,dx,_,sm _ _ nX,aS.cl,aS.no "name" ∅,.str (S q.name),rfl,_,rfl,rfl,?_⟩;rw[CP,xi,ed];refine bo (λb=>?_) (λb=>?_)
   .have b:q.name=t:=cS.mp ‹b›;refine⟨_,rfl,_,Zu,?_,sm.kI hD,?_⟩
    .rw[az];refine wJ (ou _ _) ?_;rw[cW];have:=Nat.min_le_left i (as.zip ps).length;omega
    .rw[ak,filter_cons_of_pos ‹b›];rfl
   .have b:¬q.name=t:=λz=>b (by rw[z]);refine⟨sm,?_⟩;rw[Zu,filter_cons_of_neg ‹b›];simp
  .rintro H' ⟨sm,Zu⟩;have Ig:(as.zip ps).length=as.length:=by rw[mM];omega
   rw[<-Ig,eQ]at Zu;have Il:ps=(as.zip ps).map (·.2):=(map_snd_zip ()).symm;have hfl:ps.filter (λq=>decide (q.name=t))=((as.zip ps).filter λx=>decide (x.2.name=t)).map (·.2):=by
    conv=>lhs;rw[Il]
    rw[pZ];rfl
   have Bm:∀x∈(as.zip ps).filter (λx=>decide (x.2.name=t)),oO Cp H rv x.1 x.2:=λx hx=>by
    obtain⟨i,hi⟩:=mem_iff_getElem?.mp (mem_filter.mp hx).1;rw[uv]at hi;obtain⟨q',h1,h2⟩:=Paired.at' hp hi.1;rw[hi.2]at h1;cases h1;exact h2
   generalize(as.zip ps).filter (λx=>decide (x.2.name=t))=F at*;refine⟨⟨as,aM.of (sm _ _ hA),aL _⟩,D,rfl,_,.inl (aM.of Zu),?_⟩;rw[az];refine bo (λb=>?_) (λb=>?_)
   .have hF:F.length=1:=by omega
    obtain⟨x,rfl⟩:=length_eq_one_iff.mp hF;exact⟨D,rfl,_,aM.of Zu,_,rfl,kQ x.2 (by rw[hfl];rfl) H' x.1 sm ((Bm x ∅).same sm)⟩
   .refine kE ?_ H' sm;rw[hfl,az];omega
end
noncomputable abbrev JR:Stmt:=top 44
section
noncomputable def t7(I:List Int)(n:Int):Int:=((I.findIdx λx=>decide (x=n):Nat):Int)
noncomputable def setM(t:List Nat)(I:List Int):Option (List Int):=
 if((cut 44 [] t).map dz).all (λn=>decide (n∈I))=true then(if(((cut 44 [] t).map dz).map (t7 I)).Pairwise (·<·)then some (((cut 44 [] t).map dz).map (t7 I))else none)else none
def aa8:tl (Str.ofString ",")=[44]/\(Str.ofString ",").cps.all (·<256)=true:=by decide+kernel
def shaped_ints(ns:List Int):SeqAt.shaped (.list (ns.map PyData.int))=true:=by
 have h1:PyData.canLayAll0 (ns.map PyData.int)=true:=by
  induction ns with
  |nil=>rfl|cons n ns ih=>exact ih
 have h2:PyData.depthAll (ns.map PyData.int)=0:=by
  induction ns with
  |nil=>rfl
  |cons n ns ih=>
   show max 0 (PyData.depthAll (ns.map PyData.int))=0;rw[ih (by exact h1)];rfl
 show(PyData.canLayAll0 (ns.map PyData.int)&&decide (PyData.depthAll (ns.map PyData.int)+1<=64))=true;rw[h1,h2];rfl
theorem LZ:∀{l m:List Int},l.Pairwise (·<·)->m.Pairwise (·<·)->(∀x,x∈l↔x∈m)->l=m
 |[],[],_,_,_=>rfl|[],y::m,_,_,h=>absurd ((h y).mpr ∅) ∅
 |x::l,[],_,_,h=>absurd ((h x).mp ∅) ∅
 |x::l,y::m,hl,hm,h=>by
  obtain⟨a1,a2⟩:=pairwise_cons.mp hl;obtain⟨b1,b2⟩:=pairwise_cons.mp hm;have e:x=y:=by
   obtain z|z:=mem_cons.mp ((h x).mp ∅)
   .exact z
   .obtain z2|z2:=mem_cons.mp ((h y).mpr ∅)
    .exact z2.symm
    .have:=b1 x z;have:=a1 y z2;omega
  subst e;rw[LZ a2 b2 λz=>?_];constructor
  .intro hz;obtain q|q:=mem_cons.mp ((h z).mp (by simp[hz]))
   .have:=a1 z hz;omega
   .exact q
  .intro hz;obtain q|q:=mem_cons.mp ((h z).mpr (by simp[hz]))
   .have:=b1 z hz;omega
   .exact q
def oX n (I:List Int):Ze (.int n) (I.map V.int)=decide (n∈I):=by
 rw[jL];unfold Ze;rw[pX,jh];constructor
 .rintro⟨v,hv,e⟩;obtain⟨m,hm,rfl⟩:=mem_map.mp hv;have:m=n:=by simpa[IE]using e
  exact this▸hm
 .intro h;exact⟨.int n,mem_map.mpr ⟨n,h,rfl⟩,by simp[IE]⟩
theorem EF{c:Nat}:∀{l acc:List Nat},(∀w∈cut c acc l,w≠ [])->2*(cut c acc l).length<=acc.length+l.length+1
 |[],acc,h=>by
  have:=h acc (by simp[cut]);have:=length_pos_iff.mpr this;simp[cut];omega
 |x::r,acc,h=>by
  unfold cut at h⊢;split
  .rename_i e;rw[ag e]at h;have h1:=h acc ∅;have:=length_pos_iff.mpr h1;have ih:=EF (c:=c) (l:=r) (acc:=[]) λw hw=>h w (by simp[hw]);rw[aZ,aZ];simp at ih;omega
  .rename_i e;rw[af e]at h;have ih:=EF (c:=c) (l:=r) h;rw[aZ];simp at ih;omega
def vR(K:PySem.W.Frag)(NB:Addr):Sp:=λvs H Q E=>∃(t:List Nat) (a:Addr) (I:List Int),vs=[.str (S t),.ref a]/\Ul t/\t.length<=4190/\aM K H a (I.map V.int)/\I.length<=100/\(∀x∈I,0<=x)/\
 (∀ps,setM t I=some ps->∀H' p,aw H H'->H p=none->H' p=some (.lst (ps.map V.int))->Q (.ref p) H')/\(setM t I=none->∀H',aw H H'->E (.ref NB) none H')
def zY:aE ["word","interests","numbers","places","part","number"] ["word","interests"] (ao JR):=by ac_nf
def Yt(D:Def K mg "read_set" JR ["word","interests"])(T:Tx mg)(ft:Ok P w K mg base eY 1 "number_of" ["word"] iU)(aK:Ok P w K mg base (fU P w) 1 "require" ["holds"] (aD NB)):Ok P w K mg base (fU P w) 2 "read_set" ["word","interests"] (vR K NB):=by
 refine D.Cj zY (λvs H Q E h=>?_) (λf cf A outer s H vs Q E hr h=>?_)
 .obtain⟨_,_,_,rfl,_⟩:=h;rfl
 .obtain⟨t,a,I,rfl,ht,tl,hI,il,Yk,kQ,kE⟩:=h;have hu:=vz hr;have ad7:=UQ hr;refine⟨_,(ah (ql (own:=[("part",4)]) rfl zY.nd (i:=2) rfl rfl (tq rfl rfl rfl rfl) (b8 (yL (pv 0) bu)) (bY (N:=["word","interests","numbers","places","part","number"]) (sc:=ao JR) (by decide+kernel)) (λ_ _ _ _ _=>aT (i:=4) zY.nd rfl (Or.inl rfl)) (λ_ _ _ _ _=>dH) (λ_ _ _ _ _=>(ax ft (hr.mono ⋯) rfl cB (ae (pv 4) ai)))) (ah (aQ (ax (E:=E) aK (hr.mono ⋯) rfl (aW aH) (ae (aC (lV rfl) (by rfl) T.tK mh (ae (ib (own:=[("number",5)]) rfl zY.nd (b8 (pv 2)) (bY (N:=["word","interests","numbers","places","part","number"]) (sc:=ao JR) (by decide+kernel)) (λ_ _ _ _ _=>aT (i:=5) zY.nd rfl (Or.inl rfl)) (λ_ _ _ _ _=>dH) (λ_ _ _ _ _=>(aU (zV (K:=K) rfl) (pv 5) (pv 1) rfl))) ai)) ai))) (ah (ql (own:=[("number",5)]) rfl zY.nd (i:=3) rfl rfl (tq rfl rfl rfl rfl) (b8 (pv 2)) (bY (N:=["word","interests","numbers","places","part","number"]) (sc:=ao JR) (by decide+kernel)) (λ_ _ _ _ _=>aT (i:=5) zY.nd rfl (Or.inl rfl)) (λ_ _ _ _ _=>dH) (λ_ _ _ _ _=>(Ys (K:=K) rfl ye PySem.F.slot_list_index PySem.F.type_list_index (NZ (K:=K) rfl) (pv 1) (ae (pv 5) ai)))) (ah (aQ (ax (E:=E) aK (hr.mono ⋯) rfl (aW aH) (ae (aU (Xp ad7) (pv 3) (Yn rfl (by rfl) T.iT (by rfl) T.Cy (ae (pv 3) ai)) (aG _)) ai))) (au (aI (pv 3))))))),?_⟩;simp? only[cb,aD,iU];have hz:=cE;have ad8:=zf (c:=44) (acc:=[]) ht.2 ∅;have A_:=qt (c:=44) (acc:=[]) (l:=t);refine⟨_,rfl,_,rfl,by decide+kernel,by rw[qR];omega,λp hp=>?_⟩;rw[uJ aa8.1 aa8.2];refine⟨p,rfl,⟨_,aM.of ak⟩,λD1 V_=>?_⟩;have s1:aw H (upd H p (.lst (((cut 44 [] t).map S).map V.str))):=aw.new hp;have bU:setM t I=setM t I:=rfl
  conv at bU=>rhs;unfold setM
  generalize hC:cut 44 [] t=C at*;refine fR (xs:=(C.map S).map V.str) (λH v (z:Int)=>v=.int z) C (λc=>some (dz c)) ∅ (by simp;omega) V_ (aM.of ak) (λ_ _ _ _ _ e=>e) ?_ ?_
  .intro i x u H' hx hu sm _ R k2;have e:x=.str (S u):=by
    rw[a_,a_,hu]at hx;exact(Option.some.inj hx).symm
   subst e;have hm:=ad8 u (bh hu);simp? only[cb,aD,iU];exact⟨u,rfl,⟨by simp at hm;omega,hm.2⟩,k2 _ _ _ rfl aw.rfl' rfl⟩
  .intro H2 ys zs OL i9 hm IP;rw[de]at hm;cases hm;have i9:H2 D1=some (.lst ((C.map dz).map V.int)):=by rw[i9,fm IP]
   have s2:=s1.trans OL;generalize hN:C.map dz=NS at*;have hNl:NS.length<=4191:=by rw[<-hN,az];omega
   refine⟨D1,rfl,⟨_,aM.of i9⟩,λD2 Ux=>?_⟩;refine fR (xs:=NS.map V.int) (λH v (b:Bool)=>v=.bl b) NS (λn=>some (decide (n∈I))) ∅ (by simp;omega) Ux (aM.of i9) (λ_ _ _ _ _ e=>e) ?_ ?_
   .intro i x u H' hx hu sm _ R k2;have e:x=.int u:=by
     rw[a_,hu]at hx;exact(Option.some.inj hx).symm
    subst e;simp? only[cb,SD];refine⟨_,.inl ((s2.trans sm).seq hI),rfl,by simp[gZ],?_⟩;exact k2 _ _ _ rfl aw.rfl' (by rw[oX])
   .intro H3 ys3 zs3 sm3 JS OJ Q0;rw[de]at OJ;cases OJ;have s3:=s2.trans sm3;have hn3:=sm3 _ _ i9;refine⟨D2,rfl,_,aM.of (by rw[JS,fm Q0]),?_⟩;rw[List.all_map];refine bo (λb=>?_) (λb=>kE (by rw[bU,af];exact b) H3 s3);have b:NS.all (λn=>decide (n∈I))=true:=b;rw[ag b]at bU;simp? only[cb];refine⟨D1,rfl,⟨_,aM.of hn3⟩,λD3 hD3=>?_⟩;refine fR (xs:=NS.map V.int) (λH v (z:Int)=>v=.int z) NS (λn=>some (t7 I n)) ∅ (by simp;omega) hD3 (aM.of hn3) (λ_ _ _ _ _ e=>e) ?_ ?_
    .intro i x u H' hx hu sm _ R k2;have e:x=.int u:=by
      rw[a_,hu]at hx;exact(Option.some.inj hx).symm
     subst e;simp? only[cb,Zf,IK];have hI':=(s3.trans sm).seq hI;have Z4:u∈I:=‹all_eq_true.mp b u (bh hu)›
     have dQ:(I.findIdx λx=>decide (x=u))<I.length:=findIdx_lt_length_of_exists ⟨u,Z4,by simp⟩;have hat:I[I.findIdx λx=>decide (x=u)]?=some u:=by
      rw[bt dQ];have:=findIdx_getElem (w:=dQ);exact b_ some ‹this›
     refine⟨(.inl ⟨rfl,_,hI'⟩:Xi K "list" (.ref a) H'),_,hI',rfl,by simp[gZ],I.findIdx λx=>decide (x=u),.int u,?_,by simp[IE],λm z' hm FG=>?_,k2 _ _ _ rfl aw.rfl' rfl⟩
     .rw[a_,hat];rfl
     .rw[a_]at FG;cases e2:I[m]? with
      |none=>rw[e2]at FG;cases FG
      |some v=>
       rw[e2]at FG;cases FG;have hml:m<I.length:=by omega
       have h1:=not_of_lt_findIdx hm;rw[bt hml]at e2;have e3:I[m]=v:=Option.some.inj e2;have h2:¬v=u:=by
        rw[<-e3];simpa using h1
       simpa[IE]using h2
    .intro H4 ys4 zs4 sm4 JT hm4 hp4;rw[de]at hm4;cases hm4;have s4:=s3.trans sm4;have JT:H4 D3=some (.lst ((NS.map (t7 I)).map V.int)):=by rw[JT,fm hp4]
     generalize hPS:NS.map (t7 I)=PS at*;simp? only[aa6,Z5];refine⟨PS,aM.of JT,?_,λout q mem up hq=>?_⟩
     .rw[<-hPS,az,<-hN,az,<-hC];have iF:∀w∈cut 44 [] t,w≠ []:=λw hw hw0=>by
       rw[hC]at hw;have h1:=all_eq_true.mp b (dz w) (by rw[<-hN];exact mem_map.mpr ⟨w,hw,rfl⟩);rw[hw0]at h1;have h2:(-1:Int)∈I:=by simpa[dz]using h1
       have:=Yk _ h2;omega
      have h5:=EF iF;rw[pL]at h5;omega
     have iF:D3≠q:=λz=>by rw[<-z,JT]at hq;cases hq
     have hy5:(upd H4 q (HO.lst (List.map V.int out))) D3=some (.lst (PS.map V.int)):=by rw[aB iF];exact JT
     have s5:=s4.trans (aw.new (o:=HO.lst (List.map V.int out)) hq);refine⟨.list (PS.map PyData.int),.lst (aM.of hy5) (ED PS),.list (out.map PyData.int),.lst (aM.of ak) (ED out),shaped_ints PS,shaped_ints out,?_⟩;have ev:PyData.eqv (.list (PS.map PyData.int)) (.list (out.map PyData.int))=decide (PS=out):=Hn PS out;rw[ev];refine bo (λc=>?_) (λc=>?_)
     .have c:PS=out:=by simpa using c
      rw[<-c]at up;rw[ag up]at bU;exact kQ PS bU _ D3 s5 (s3.free hD3) hy5
     .have c:¬PS=out:=by simpa using c
      refine kE ?_ _ s5;rw[bU,af λz=>c (LZ z up λx=>(mem x).symm)]
end
noncomputable abbrev UT:Stmt:=top 42
noncomputable abbrev Rc:Stmt:=top 43
noncomputable abbrev Zw:Stmt:=top 41
noncomputable abbrev L8:Stmt:=top 40
section
noncomputable def N3:List Nat:=[111,110]
noncomputable def zZ:List Nat:=[98,111,120]
noncomputable def UU:List Nat:=[107,101,121]
noncomputable def Rf:List Nat:=[119,105,116,104]
noncomputable def lj:List Nat:=[47]
noncomputable def cY(rs:List (List Int))(q:MP):List (List Int):=mZ [] rs q.kind q.k q.race
noncomputable def Bn(ws:List (List Nat))(k:Int)(I:List Int):Option (List (List Int)):=if ws.length=1 then(match setM (ws.getD 0 []) I with
 |none=>none|some s=>if k<=(s.length:Int)then some [s]else none)else none
def qV(H:Hp)(R:Addr)(ss:List (List Int)):Prop:=vJ H R ss
def Rg(K:PySem.W.Frag)(NB Cp:Addr):Sp:=λvs H Q E=>∃(a p:Addr) (ws:List (List Nat)) (rs:List (List Int)) (q:MP),vs=[.ref a,.ref p]/\Words H a ws/\(∀t∈ws,t.length<=4190)/\jV Cp H (.ref p) rs q/\(∃I,(cY rs q)[0]?=some I/\I.length<=100/\(∀x∈I,0<=x)/\
 (∀ss,Bn ws q.k I=some ss->∀H' x,aw H H'->qV H' x ss->Q (.ref x) H')/\(Bn ws q.k I=none->∀H',aw H H'->E (.ref NB) none H'))
def Wj:aE ["words","pool","places"] ["words","pool"] (ao UT):=by ac_nf
def Yu(D:Def K mg "read_box" UT ["words","pool"])(T:Tx mg)(aS:CL P w K mg base "Pool" Cp ["self","name","kind","k","races","unit"] (dD Cp) ["name","kind","k","races","unit"])(dE:Ok P w K mg base (fU P w) 2 "read_set" ["word","interests"] (vR K NB))(aK:Ok P w K mg base (fU P w) 1 "require" ["holds"] (aD NB)):Ok P w K mg base (fU P w) 3 "read_box" ["words","pool"] (Rg K NB Cp):=by
 refine D.Cj Wj (λvs H Q E h=>?_) (λf cf A outer s H vs Q E hr h=>?_)
 .obtain⟨_,_,_,_,_,rfl,_⟩:=h;rfl
 .obtain⟨a,p,ws,rs,q,rfl,hw,Ci,hP,I,hI,il,i0,kQ,kE⟩:=h;refine⟨_,(ah (aQ (ax (E:=E) aK (hr.mono ⋯) rfl (aW aH) (ae (aU cD (aC aA (by rfl) T.cv bO (ae (pv 0) ai)) aq (aG _)) ai))) (ah (aO (i:=2) Wj.nd rfl (Or.inl rfl) (ax (E:=E) dE (hr.mono ⋯) rfl (aW aH) (ae (bH aP (pv 0) aq (λ_ _=>rfl)) (ae (bH aP (bC (pv 1) rfl) aq (λ_ _=>rfl)) ai)))) (ah (aQ (ax (E:=E) aK (hr.mono ⋯) rfl (aW aH) (ae (aU FT (aC aA (by rfl) T.cv bO (ae (pv 2) ai)) (bC (pv 1) rfl) (aG _)) ai))) (au (aI (gv (ae (pv 2) ai))))))),?_⟩;simp? only[cb,aD,oz,oA,vR];have hz:=bF;refine⟨_,.inl (aM.of hw.1),?_⟩;rw[az];refine bo (λb=>?_) (λb=>kE (by unfold Bn;rw[af ()]) H aw.rfl');have b:ws.length=1:=by omega
  obtain⟨pp,dx,Rr,e0,nX,as,hR,vF⟩:=hP;cases e0;obtain⟨v0,NN,ia,rfl,Wk⟩:=Paired.KH vF hI;have g0:ws[0]?=some (ws.getD 0 []):=by
   rw[cU,bt ()];rfl
  have q0:=hw.at g0;have Bm:=bh g0;have bU:Bn ws q.k I=Bn ws q.k I:=rfl
  conv at bU=>rhs;unfold Bn
  rw[ag b]at bU;refine⟨_,aM.of hw.1,_,q0.1,Cp,dx,_,nX,aS.cl,aS.no "races" ∅,_,rfl,Rr,rfl,_,aM.of hR,_,eC (j:=0) NN,_,ia,⟨rfl,rfl⟩,q0.2,Ci _ Bm,I,aM.of Wk,il,i0,λps es H1 x s1 _ hx=>?_,λes=>kE (by rw[bU,es])⟩;rw[es]at bU;dsimp only at bU;refine⟨_,.inl (aM.of hx),?_⟩;rw[az];refine⟨Cp,dx,_,s1 _ _ nX,aS.cl,aS.no "k" ∅,_,rfl,_,rfl,bo (λc=>⟨by omega,λy hy=>?_⟩) (λc=>kE (by rw[bU,af c]) H1 s1)⟩;exact kQ [ps] (by rw[bU,ag c]) _ y (s1.trans (aw.new hy)) ⟨_,ak,.cons ⟨x,rfl,(aw.new hy) _ _ hx⟩ .nil⟩
noncomputable def EG(ws:List (List Nat))(k:Int)(I:List Int):Option (List (List Int)):=if ws.length=3/\ws.getD 1 []=Rf then(match setM (ws.getD 0 []) I with
 |none=>none
 |some A=>match setM (ws.getD 2 []) I with
  |none=>none|some B=>if(A.length:Int)<k then(if A.all (λn=>!decide (n∈B))=true then(if k<=(A.length:Int)+(B.length:Int)then some [A,B]else none)else none)else none)else none
def Rh(K:PySem.W.Frag)(NB Cp:Addr):Sp:=λvs H Q E=>∃(a p:Addr) (ws:List (List Nat)) (rs:List (List Int)) (q:MP),vs=[.ref a,.ref p]/\Words H a ws/\(∀t∈ws,t.length<=4190)/\jV Cp H (.ref p) rs q/\(∃I,(cY rs q)[0]?=some I/\I.length<=100/\(∀x∈I,0<=x)/\
 (∀ss,EG ws q.k I=some ss->∀H' x,aw H H'->qV H' x ss->Q (.ref x) H')/\(EG ws q.k I=none->∀H',aw H H'->E (.ref NB) none H'))
def Hs:aE ["words","pool","keyed","others","place"] ["words","pool"] (ao Rc):=by ac_nf
def Yv:Str.ofString "with"=S Rf:=by decide+kernel
def Ri{t:List Nat}{I ps:List Int}(h:setM t I=some ps):ps.length<=t.length+1:=by
 unfold setM at h;split at h
 .split at h
  .cases h;rw[az,az];exact qt
  .cases h
 .cases h
def Yw(D:Def K mg "read_key" Rc ["words","pool"])(T:Tx mg)(aS:CL P w K mg base "Pool" Cp ["self","name","kind","k","races","unit"] (dD Cp) ["name","kind","k","races","unit"])(dE:Ok P w K mg base (fU P w) 2 "read_set" ["word","interests"] (vR K NB))(aK:Ok P w K mg base (fU P w) 1 "require" ["holds"] (aD NB)):Ok P w K mg base (fU P w) 3 "read_key" ["words","pool"] (Rh K NB Cp):=by
 refine D.Cj Hs (λvs H Q E h=>?_) (λf cf A outer s H vs Q E hr h=>?_)
 .obtain⟨_,_,_,_,_,rfl,_⟩:=h;rfl
 .obtain⟨a,p,ws,rs,q,rfl,hw,Ci,hP,I,hI,il,i0,kQ,kE⟩:=h;refine⟨_,(ah (aQ (ax (E:=E) aK (hr.mono ⋯) rfl (aW aH) (ae (kW (aU cD (aC aA (by rfl) T.cv bO (ae (pv 0) ai)) aq (aG _)) (i5 (aU cD (bH aP (pv 0) aq (λ_ _=>rfl)) bu (aG _)))) ai))) (ah (aO (i:=2) Hs.nd rfl (Or.inl rfl) (ax (E:=E) dE (hr.mono ⋯) rfl (aW aH) (ae (bH aP (pv 0) aq (λ_ _=>rfl)) (ae (bH aP (bC (pv 1) rfl) aq (λ_ _=>rfl)) ai)))) (ah (aO (i:=3) Hs.nd rfl (Or.inr rfl) (ax (E:=E) dE (hr.mono ⋯) rfl (aW aH) (ae (bH aP (pv 0) aq (λ_ _=>rfl)) (ae (bH aP (bC (pv 1) rfl) aq (λ_ _=>rfl)) ai)))) (ah (aQ (ax (E:=E) aK (hr.mono ⋯) rfl (aW aH) (ae (aU yx (aC aA (by rfl) T.cv bO (ae (pv 2) ai)) (bC (pv 1) rfl) (aG _)) ai))) (ah (aQ (ax (E:=E) aK (hr.mono ⋯) rfl (aW aH) (ae (aC (lV rfl) (by rfl) T.tK mh (ae (ib (own:=[("place",4)]) rfl Hs.nd (b8 (pv 2)) (bY (N:=["words","pool","keyed","others","place"]) (sc:=ao Rc) (by decide+kernel)) (λ_ _ _ _ _=>aT (i:=4) Hs.nd rfl (Or.inl rfl)) (λ_ _ _ _ _=>dH) (λ_ _ _ _ _=>(aU (qU (K:=K) rfl) (pv 4) (pv 3) rfl))) ai)) ai))) (ah (aQ (ax (E:=E) aK (hr.mono ⋯) rfl (aW aH) (ae (aU FT (bS gq (aC aA (by rfl) T.cv bO (ae (pv 2) ai)) (aC aA (by rfl) T.cv bO (ae (pv 3) ai))) (bC (pv 1) rfl) (aG _)) ai))) (au (aI (gv (ae (pv 2) (ae (pv 3) ai))))))))))),?_⟩;simp? only[cb,aD,oz,oA,vR];have hz:=cE;have bU:EG ws q.k I=EG ws q.k I:=rfl
  conv at bU=>rhs;unfold EG
  refine⟨_,.inl (aM.of hw.1),?_⟩;rw[az];refine bo (λb=>?_) (λb=>kE (by rw[bU,af ()]) H aw.rfl');have b:ws.length=3:=by omega
  have uK:∀i:Nat,i<3->ws[i]?=some (ws.getD i []):=λi hi=>by
   rw[cU,bt ()];rfl
  have q0:=hw.at (uK 0 ⋯);have q1:=hw.at (uK 1 ⋯);have q2:=hw.at (uK 2 ⋯);refine⟨_,aM.of hw.1,_,q1.1,rfl,?_⟩;rw[Yv];simp only[V.str.injEq,cS];refine bo (λb2=>?_) (λb2=>kE (by rw[bU,af (λz=>b2 z.2)]) H aw.rfl');rw[ag ⟨b,b2⟩]at bU;obtain⟨pp,dx,Rr,e0,nX,as,hR,vF⟩:=hP;cases e0;obtain⟨v0,NN,ia,rfl,Wk⟩:=Paired.KH vF hI;have m0:=bh (uK 0 ⋯);have m2:=bh (uK 2 ⋯);refine⟨_,aM.of hw.1,_,q0.1,Cp,dx,_,nX,aS.cl,aS.no "races" ∅,_,rfl,Rr,rfl,_,aM.of hR,_,eC (j:=0) NN,_,ia,⟨rfl,rfl⟩,q0.2,Ci _ m0,I,aM.of Wk,il,i0,λA eA H1 x s1 _ hx=>?_,λeA=>kE (by rw[bU,eA])⟩;rw[eA]at bU;dsimp only at bU;have lA:=Ri eA;have l0:=Ci _ m0;have Qt:=hw.same s1;refine⟨_,aM.of Qt.1,_,q2.1,Cp,dx,_,s1 _ _ nX,aS.cl,aS.no "races" ∅,_,rfl,Rr,rfl,_,aM.of (s1 _ _ hR),_,eC (j:=0) NN,_,ia,⟨rfl,rfl⟩,q2.2,Ci _ m2,I,aM.of (s1 _ _ Wk),il,i0,λB eB H2 y s2 _ hy=>?_,λeB H' s'=>kE (by rw[bU,eB]) H' (s1.trans s')⟩;rw[eB]at bU;dsimp only at bU;have N4:=s1.trans s2;have V9:=s2 _ _ hx;refine⟨_,.inl (aM.of V9),Cp,dx,_,N4 _ _ nX,aS.cl,aS.no "k" ∅,_,rfl,_,rfl,?_⟩;rw[az];refine bo (λc=>?_) (λc=>kE (by rw[bU,af c]) H2 N4);rw[ag c]at bU;refine⟨x,rfl,⟨_,aM.of V9⟩,λD1 V_=>?_⟩;refine fR (xs:=A.map V.int) (λH v (b:Bool)=>v=.bl b) A (λn=>some (!decide (n∈B))) ∅ (by simp;omega) V_ (aM.of V9) (λ_ _ _ _ _ e=>e) ?_ ?_
  .intro i z u H' FG hu sm _ R k2;have e:z=.int u:=by
    rw[a_,hu]at FG;exact(Option.some.inj FG).symm
   subst e;simp? only[cb,SD];refine⟨_,.inl (aM.of (sm _ _ hy)),rfl,by simp[gZ],?_⟩;exact k2 _ _ _ rfl aw.rfl' (by rw[oX])
  .intro H3 ys3 zs3 sm3 JS OJ Q0;rw[de]at OJ;cases OJ;have s3:=N4.trans sm3;refine⟨D1,rfl,_,aM.of (by rw[JS,fm Q0]),?_⟩;rw[List.all_map];refine bo (λd=>?_) (λd=>kE (by rw[bU,af];exact d) H3 s3);have d:A.all (λn=>!decide (n∈B))=true:=d;rw[ag d]at bU;simp? only[cb,aD,oz,oA];have hy3:=sm3 _ _ hy;have hx3:=sm3 _ _ V9;refine⟨_,.inl (aM.of hx3),_,.inl (aM.of hy3),Cp,dx,_,s3 _ _ nX,aS.cl,aS.no "k" ∅,_,rfl,_,rfl,?_⟩;rw[az,az];refine bo (λe=>⟨by omega,λz FG=>?_⟩) (λe=>kE (by rw[bU,af e]) H3 s3);exact kQ [A,B] (by rw[bU,ag e]) _ z (s3.trans (aw.new FG)) ⟨_,ak,.cons ⟨x,rfl,(aw.new FG) _ _ hx3⟩ (.cons ⟨y,rfl,(aw.new FG) _ _ hy3⟩ .nil)⟩
def N5{Q:VK}{tb:TE}{t:Str}{s:List Nat}(ht:t=S s)(hσ:σ[i]?=some (some (.ref p)))(nX:H p=some (.ins Cp dx (CB Rr q)))(cl:FV K Cp)(no:cG K Cp "kind")(ha:∀Q:VK,Q va H->ta σ H Q)(hb:∀Q:VK,Q vb H->tb σ H Q)(h:Q (if q.kind=s then va else vb) H):ZR (BL (Tv VM (oz K (yn i) "kind") (tC (V.str t)))) ta tb σ H Q:=by
 subst ht;simp? only[ZR,oz];refine⟨_,hσ,p,rfl,Cp,dx,_,nX,cl,no,.str (S q.kind),rfl,rfl,?_⟩;simp only[V.str.injEq,cS];by_cases c:q.kind=s
 .rw[ag c]at h⊢;exact ha Q h
 .rw[af c]at h⊢;exact hb Q h
theorem uQ(f:α->β):∀l:List α,L2.bA (l.map f)=(L2.bA l).map f
 |[]=>rfl|[_]=>rfl
 |a::_::r=>by
  show f a::L2.bA (r.map f)=f a::(L2.bA r).map f;rw[uQ f r]
def UW:Str.ofString "/"=S lj:=by decide+kernel
theorem jz:∀l:List α,(L2.bA l).length=(l.length+1)/2
 |[]=>by simp[L2.bA]|[_]=>by simp[L2.bA]
 |a::b::r=>by
  show(L2.bA r).length+1=(r.length+2+1)/2;rw[jz r];omega
theorem m_{F:α->β->Prop}{l:List α}{m:List β}(h:Paired F l m):∀n:Nat,Paired F (List.replicate n l).flatten (List.replicate n m).flatten
 |0=>.nil
 |n+1=>by
  rw[ki,ki,mH,mH];exact yf h (m_ h n)
theorem z0:∀l:List α,(L2.bA l).length<=l.length
 |[]=>aL _|[_]=>aL _
 |a::b::r=>by
  show(L2.bA r).length+1<=r.length+2;have:=z0 r;omega
theorem CU:∀(l:List α) x,x∈L2.bA l->x∈l
 |[],x,h=>h|[_],x,h=>h
 |a::b::r,x,h=>by
  obtain z|z:=mem_cons.mp (show x∈a::L2.bA r from h)
  .simp[z]
  .simp[CU r x z]
theorem CV{f:α->Option β}:∀{l}{i:Nat}{x},l[i]?=some x->f x=none->cK f l=none
 |[],i,x,h,_=>by simp at h
 |y::l,0,x,h,e=>by
  have:=Option.some.inj h;subst this;unfold cK;rw[e]
 |y::l,i+1,x,h,e=>by
  have ih:=CV (i:=i) (x:=x) ‹h› e;unfold cK;rw[ih];cases f y<;>rfl
noncomputable def wq(q:MP):Int:=if q.kind=dA then 1 else q.k
noncomputable def Rj(ws:List (List Nat))(q:MP)(R:List (List Int)):Option (List (List Int)):=if(ws.length:Int)=2*wq q-1 then(if(L2.oJ ws).all (λt=>decide (t=lj))=true then
 cK (λx=>setM x.1 x.2) ((L2.bA ws).zip (if q.kind=cu then R else(List.replicate (wq q).toNat R).flatten))else none)else none
def aa9(K:PySem.W.Frag)(NB Cp:Addr):Sp:=λvs H Q E=>∃(a p:Addr) (ws:List (List Nat)) (rs:List (List Int)) (q:MP),vs=[.ref a,.ref p]/\Words H a ws/\(∀t∈ws,t.length<=4190)/\jV Cp H (.ref p) rs q/\1<=q.k/\q.k<=6/\(q.kind=cu->((cY rs q).length:Int)=q.k)/\(q.kind≠cu->(cY rs q).length=1)/\(∀r∈cY rs q,r.length<=100/\∀x∈r,0<=x)/\
 (∀ss,Rj ws q (cY rs q)=some ss->∀H' x,aw H H'->qV H' x ss->Q (.ref x) H')/\(Rj ws q (cY rs q)=none->∀H',aw H H'->E (.ref NB) none H')
def Ht:aE ["words","pool","sets","races","word","interests"] ["words","pool"] (ao Zw):=by ac_nf
def aa_(D:Def K mg "read_on" Zw ["words","pool"])(T:Tx mg)(aS:CL P w K mg base "Pool" Cp ["self","name","kind","k","races","unit"] (dD Cp) ["name","kind","k","races","unit"])(dE:Ok P w K mg base (fU P w) 2 "read_set" ["word","interests"] (vR K NB))(aK:Ok P w K mg base (fU P w) 1 "require" ["holds"] (aD NB)):Ok P w K mg base (fU P w) 3 "read_on" ["words","pool"] (aa9 K NB Cp):=by
 refine D.Cj Ht (λvs H Q E h=>?_) (λf cf A outer s H vs Q E hr h=>?_)
 .obtain⟨_,_,_,_,_,rfl,_⟩:=h;rfl
 .obtain⟨a,p,ws,rs,q,rfl,hw,Ci,hP,k1,k6,Zx,Wl,Bf,kQ,kE⟩:=h;refine⟨_,(ah (aO (i:=2) Ht.nd rfl (Or.inl rfl) (yt (bq cD (bC (pv 1) rfl) bu (aG _)) aq (bC (pv 1) rfl))) (ah (aQ (ax (E:=E) aK (hr.mono ⋯) rfl (aW aH) (ae (aU cD (aC aA (by rfl) T.cv bO (ae (pv 0) ai)) (bS gu (bS rq aq (pv 2)) aq) (aG _)) ai))) (ah (aQ (ax (E:=E) aK (hr.mono ⋯) rfl (aW aH) (ae (aC (lV rfl) (by rfl) T.tK mh (ae (ib (own:=[("word",4)]) rfl Ht.nd (b8 (tG (pv 0) aq aq)) (bY (N:=["words","pool","sets","races","word","interests"]) (sc:=ao Zw) (by decide+kernel)) (λ_ _ _ _ _=>aT (i:=4) Ht.nd rfl (Or.inl rfl)) (λ_ _ _ _ _=>dH) (λ_ _ _ _ _=>(aU cD (pv 4) bu (aG _)))) ai)) ai))) (ah (aO (i:=3) Ht.nd rfl (Or.inl rfl) (yt (bq cD (bC (pv 1) rfl) bu (aG _)) (bC (pv 1) rfl) (bS IJ (bC (pv 1) rfl) (pv 2)))) (au (aI (IY (own:=[("word",4),("interests",5)]) (E:=E) rfl rfl rfl aH rfl Ht.nd (PF rfl T.zh (ae (tG (pv 0) aq aq) (ae (pv 3) ai))) (bY (N:=["words","pool","sets","races","word","interests"]) (sc:=ao Zw) (by decide+kernel)) (λ_ _ _ _ _=>xZ (K:=K) (n:=2) rfl rfl (cJ (aT (i:=4) Ht.nd rfl (Or.inl rfl)) (cJ (aT (i:=5) Ht.nd rfl (Or.inl rfl)) kr))) (λ_ _ _ _ _=>dH) (λ_ _ _ _ _=>(ax (E:=E) dE (hr.mono ⋯) rfl (aW IX) (ae (pv 4) (ae (pv 5) ai))))))))))),?_⟩;simp? only[cb,aD,oA];have hz:=cE;obtain⟨pp,dx,Rr,e0,nX,as,hR,vF⟩:=hP;cases e0;refine N5 Ek rfl nX aS.cl (aS.no "kind" ∅) (va:=.int 1) (vb:=.int q.k) (λQ h=>h) (λQ h=>?_) ?_
  .simp? only[oz];exact⟨Cp,dx,_,nX,aS.cl,aS.no "k" ∅,_,rfl,h⟩
  have eN:(if q.kind=dA then V.int 1 else V.int q.k)=.int (wq q):=by
   unfold wq;split<;>rfl
  rw[eN];have n1:1<=wq q/\wq q<=6:=by
   unfold wq;split<;>omega
  have bU:Rj ws q (cY rs q)=Rj ws q (cY rs q):=rfl
  conv at bU=>rhs;unfold Rj
  generalize hn:wq q=n at*;refine⟨_,.inl (aM.of hw.1),_,rfl,.inl ⋯,?_⟩;rw[az];refine bo (λb=>?_) (λb=>kE (by rw[bU,af b]) H aw.rfl');rw[ag b]at bU;have tail:∀(H2:Hp)(R':Addr)(vs':List V)(RS:List (List Int)),aw H H2->H2 R'=some (.lst vs')->Paired (fW H2) vs' RS->(L2.bA ws).length=RS.length->(∀r∈RS,r.length<=100/\∀x∈r,0<=x)->Rj ws q (cY rs q)=cK (λx=>setM x.1 x.2) ((L2.bA ws).zip RS)->
    Zj (aaq K (vx (VW K (yn 0) (tC (V.int 0)) (tC (V.int 2))) (vx (yn 3) IB)))
         (W5 K 2 (O1 (oy 4) (O1 (oy 5) ZU))) F8
         (BM (vR K NB) [] E (vx (yn 4) (vx (yn 5) IB))) [4,5]
         [some (V.ref a),some (V.ref p),some (V.int n),some (V.ref R'),none,none] H2 Q:=by
   intro H2 R' vs' RS s2 hR' ad9 hlen hr1 bU;have GW:=hw.same s2;refine⟨a,_,0,rfl,rfl,rfl,aM.of GW.1,λp2 IP=>?_⟩;rw[drop_zero,uQ];have s3:aw H2 (upd H2 p2 (.lst ((L2.bA ws).map λw=>V.str (S w)))):=aw.new IP;have UX:=s3 _ _ hR';have N6:Paired (fW (upd H2 p2 (.lst ((L2.bA ws).map λw=>V.str (S w))))) vs' RS:=Paired.fT ad9 λ_ _ z=>z.same s3;generalize hH3:upd H2 p2 (.lst ((L2.bA ws).map λw=>V.str (S w)))=H3 at*;have hev:H3 p2=some (.lst ((L2.bA ws).map λw=>V.str (S w))):=by rw[<-hH3];exact ak
   have hlv:=Paired.eM N6;refine⟨p2,R',_,_,rfl,aM.of hev,aM.of UX,λD2 Ux=>?_⟩;have Ig:((L2.bA ws).zip RS).length=RS.length:=by rw[mM];omega
   have K4:(L2.bA ws).length<=ws.length:=z0 ws;refine zW (n:=RS.length) (λi H'=>aw H3 H'/\∃ys zs,H' D2=some (.lst ys)/\cK (λx:List Nat×List Int=>setM x.1 x.2) (((L2.bA ws).zip RS).take i)=some zs/\Paired (λv ps=>∃x,v=V.ref x/\x≠D2/\H' x=some (.lst (ps.map V.int))) ys zs)
    ⟨aw.new Ux,[],[],ak,rfl,.nil⟩ (λi H' hi h=>?_) ?_ ?_
   .exact⟨_,_,_,_,aM.of (h.1 _ _ hev),aM.of (h.1 _ _ UX),bt (by simp;omega),bt ()⟩
   .rintro i v H' H'' hi ⟨sm,ys,zs,i9,hm,hp⟩ ⟨T',x,y,rfl,nT,rfl,hx,hy⟩;have hx:=hx _ (aM.of (sm _ _ hev));have hy:=hy _ (aM.of (sm _ _ UX));rw[a_]at hx;cases eu:(L2.bA ws)[i]? with
    |none=>rw[eu]at hx;cases hx
    |some u=>
    rw[eu]at hx;cases hx;obtain⟨r,hr,ia,rfl,Wk⟩:=Paired.at' N6 hy;have Zv:((L2.bA ws).zip RS)[i]?=some (u,r):=by rw[uv];exact⟨eu,hr⟩
    have hmu:=CU ws u (bh eu);have sT:aw H' (upd H' T' (.tup [.str (S u),.ref ia])):=aw.new nT;have hDT:D2≠T':=λz=>by rw[z,nT]at i9;cases i9
    refine⟨T',_,rfl,.inl (.inl ak),rfl,_,_,rfl,_,_,rfl,rfl,?_⟩;simp? only[vR];refine⟨rfl,?_⟩;simp only[F8,↓reduceIte];have okr:=hr1 r (bh hr);refine⟨_,rfl,_,rfl,u,ia,⟨rfl,rfl⟩,hw.2.2.2 u hmu,Ci u hmu,r,aM.of (sT _ _ (sm _ _ Wk)),okr.1,okr.2,λps es H4 x s4 nx hx=>?_,λes H4 s4=>kE (by rw[bU];exact CV Zv es) H4 (((s2.trans s3).trans sm).trans (sT.trans s4))⟩;have JT:=s4 _ _ (sT _ _ i9);have hxD:x≠D2:=λz=>by rw[z,sT _ _ i9]at nx;cases nx
    have e1:=Paired.eM hp;have e2:=gD hm;have CP:((L2.bA ws).zip RS).take (i+1)=((L2.bA ws).zip RS).take i++ [(u,r)]:=bz Zv;refine⟨ys,JT,?_,((sm.trans sT).trans s4).kI Ux,ys++ [.ref x],ak,zs++ [ps],?_,?_⟩
    .rw[e1,e2,cW];have:=ow i ((L2.bA ws).zip RS).length;have h3:=hw.2.2.1;omega
    .rw[CP,lX,hm];dsimp only;rw[es]
    .refine kn (Paired.fT hp λv ps' ⟨x',e,n',h⟩=>⟨x',e,n',by rw[aB n'];exact s4 _ _ (sT _ _ h)⟩) ⟨x,rfl,hxD,by rw[aB hxD];exact hx⟩
   .rintro H' ⟨sm,ys,zs,i9,hm,hp⟩;refine⟨⟨_,_,aM.of (sm _ _ hev),aM.of (sm _ _ UX),.inr ()⟩,?_⟩;rw[<-Ig,eQ]at hm;exact kQ zs (by rw[bU,hm]) H' D2 ((s2.trans s3).trans sm) ⟨ys,i9,Paired.fT hp λ_ _ ⟨x,e,_,h⟩=>⟨x,e,h⟩⟩
  refine⟨a,_,1,rfl,rfl,rfl,aM.of hw.1,λp1 L9=>?_⟩;rw[show L2.bA ((ws.map λw=>V.str (S w)).drop 1)=(L2.oJ ws).map λw=>V.str (S w) by rw[<-map_drop,uQ];rfl];refine⟨p1,rfl,⟨_,aM.of ak⟩,λD1 V_=>?_⟩;have s1:aw H (upd H p1 (.lst ((L2.oJ ws).map λw=>V.str (S w)))):=aw.new L9;have Wd:(L2.oJ ws).length<=ws.length:=aX (z0 _) (by rw[dW];omega);have aeO:=hw.2.2.1;refine fR (xs:=(L2.oJ ws).map λw=>V.str (S w)) (λH v (b:Bool)=>v=.bl b) (L2.oJ ws) (λt=>some (decide (t=lj))) ∅ (by simp;omega) V_ (aM.of ak) (λ_ _ _ _ _ e=>e) ?_ ?_
  .intro i x u H' hx hu sm _ R k2;have e:x=.str (S u):=by
    rw[a_,hu]at hx;exact(Option.some.inj hx).symm
   subst e;simp? only[cb];rw[UW];exact k2 _ _ _ rfl aw.rfl' (by simp only[cS])
  .intro H3 ys3 zs3 sm3 JS OJ Q0;rw[de]at OJ;cases OJ;have s3:=s1.trans sm3;refine⟨D1,rfl,_,aM.of (by rw[JS,fm Q0]),?_⟩;rw[List.all_map];refine bo (λd=>?_) (λd=>kE (by rw[bU,af];exact d) H3 s3);have d:(L2.oJ ws).all (λt=>decide (t=lj))=true:=d;rw[ag d]at bU;have UX:=s3 _ _ hR;have N6:Paired (fW H3) as (cY rs q):=Paired.fT vF λ_ _ z=>z.same s3;have aeP:((L2.bA ws).length:Int)=n:=by
    rw[jz];omega
   simp? only[ZR,oz];refine⟨Cp,dx,_,s3 _ _ nX,aS.cl,aS.no "kind" ∅,.str (S q.kind),rfl,rfl,?_⟩;rw[zp];simp only[V.str.injEq,cS];refine bo (λc=>?_) (λc=>?_)
   .rw[ag c]at bU;have hk:n=q.k:=by
     rw[<-hn];unfold wq;rw[af (by rw[c];decide)]
    exact⟨Cp,dx,_,s3 _ _ nX,aS.cl,aS.no "races" ∅,_,rfl,tail H3 Rr as (cY rs q) s3 UX N6 (by have:=Zx c;omega) Bf bU⟩
   .rw[af c]at bU;have h1:=Wl c;have Wm:as.length=1:=by rw[Paired.eM N6];exact h1
    refine⟨Cp,dx,_,s3 _ _ nX,aS.cl,aS.no "races" ∅,_,rfl,Rr,n,as,rfl,rfl,UX,by omega,by omega,by rw[Wm];omega,λp9 hp9=>?_⟩;have s9:=aw.new (o:=HO.lst (List.replicate n.toNat as).flatten) hp9;refine tail _ p9 _ (List.replicate n.toNat (cY rs q)).flatten (s3.trans s9) ak (Paired.fT (m_ N6 n.toNat) λ_ _ z=>z.same s9) ?_ (λr hr=>?_) bU
    .rw[len_rep,h1];omega
    .obtain⟨l,hl,hr⟩:=mem_flatten.mp hr;rw[wH hl]at hr;exact Bf r hr
noncomputable def jY(ws:List (List Nat))(q:MP)(R:List (List Int)):Option (List (List Int)):=
 if ws.getD 0 []=N3 then Rj (ws.drop 1) q R else if q.kind=dB\/q.kind=jt then(if ws.getD 0 []=zZ then Bn (ws.drop 1) q.k (R.getD 0 [])else if ws.getD 0 []=UU then EG (ws.drop 1) q.k (R.getD 0 [])else none)else none
def Rk(K:PySem.W.Frag)(NB Cp:Addr):Sp:=λvs H Q E=>∃(a p:Addr) (ws:List (List Nat)) (rs:List (List Int)) (q:MP),vs=[.ref a,.ref p]/\Words H a ws/\2<=ws.length/\(∀t∈ws,t.length<=4190)/\jV Cp H (.ref p) rs q/\1<=q.k/\q.k<=6/\(q.kind=cu->((cY rs q).length:Int)=q.k)/\(q.kind≠cu->(cY rs q).length=1)/\(∀r∈cY rs q,r.length<=100/\∀x∈r,0<=x)/\
 (∀ss,jY ws q (cY rs q)=some ss->∀H' x,aw H H'->qV H' x ss->Q (.ref x) H')/\(jY ws q (cY rs q)=none->∀H',aw H H'->E (.ref NB) none H')
def Yx:aE ["words","pool"] ["words","pool"] (ao L8):=by ac_nf
def abb:Str.ofString "on"=S N3:=by decide+kernel
def Wn:Str.ofString "box"=S zZ:=by decide+kernel
def abd:Str.ofString "key"=S UU:=by decide+kernel
def UY(D:Def K mg "read_sets" L8 ["words","pool"])(T:Tx mg)(aS:CL P w K mg base "Pool" Cp ["self","name","kind","k","races","unit"] (dD Cp) ["name","kind","k","races","unit"])(uR:Ok P w K mg base (fU P w) 3 "read_on" ["words","pool"] (aa9 K NB Cp))(rP:Ok P w K mg base (fU P w) 3 "read_box" ["words","pool"] (Rg K NB Cp))(rQ:Ok P w K mg base (fU P w) 3 "read_key" ["words","pool"] (Rh K NB Cp))(aK:Ok P w K mg base (fU P w) 1 "require" ["holds"] (aD NB)):Ok P w K mg base (fU P w) 4 "read_sets" ["words","pool"] (Rk K NB Cp):=by
 refine D.Cj Yx (λvs H Q E h=>?_) (λf cf A outer s H vs Q E hr h=>?_)
 .obtain⟨_,_,_,_,_,rfl,_⟩:=h;rfl
 .obtain⟨a,p,ws,rs,q,rfl,hw,w2,Ci,hP,k1,k6,Zx,Wl,Bf,kQ,kE⟩:=h;refine⟨_,(ah (cR (bq cD (bH aP (pv 0) aq (λ_ _=>rfl)) bu (aG _)) (au (aI (ax (E:=E) uR (hr.mono ⋯) rfl (aW aH) (ae (iP kz (pv 0) (iE aq) qg) (ae (pv 1) ai))))) bx) (ah (aQ (ax (E:=E) aK (hr.mono ⋯) rfl (aW aH) (ae (KJ (aU cD (bC (pv 1) rfl) bu (aG _)) (i5 (aU cD (bC (pv 1) rfl) bu (aG _)))) ai))) (ah (cR (bq cD (bH aP (pv 0) aq (λ_ _=>rfl)) bu (aG _)) (au (aI (ax (E:=E) rP (hr.mono ⋯) rfl (aW aH) (ae (iP kz (pv 0) (iE aq) qg) (ae (pv 1) ai))))) bx) (ah (aQ (ax (E:=E) aK (hr.mono ⋯) rfl (aW aH) (ae (aU cD (bH aP (pv 0) aq (λ_ _=>rfl)) bu (aG _)) ai))) (au (aI (ax (E:=E) rQ (hr.mono ⋯) rfl (aW aH) (ae (iP kz (pv 0) (iE aq) qg) (ae (pv 1) ai))))))))),?_⟩;simp? only[cb,aD,oz,oA];have bU:jY ws q (cY rs q)=jY ws q (cY rs q):=rfl
  conv at bU=>rhs;unfold jY
  have g0:ws[0]?=some (ws.getD 0 []):=by
   rw[cU,bt ()];rfl
  have q0:=hw.at g0;refine⟨_,aM.of hw.1,_,q0.1,rfl,?_⟩;rw[abb];simp only[V.str.injEq,cS];have Yy:∀p1,H p1=none->Words (upd H p1 (.lst (lN (ws.map λw=>V.str (S w)) (some 1) none))) p1 (ws.drop 1):=λp1 _=>by
   refine⟨?_,?_,?_,λt ht=>hw.2.2.2 t (ox ht)⟩
   .rw[ak,show lN (ws.map λw=>V.str (S w)) (some 1) none=(ws.map λw=>V.str (S w)).drop 1 from qu _ 1,<-map_drop]
   .intro z;have:=b_ List.length z;rw[dW]at this;simp at this;omega
   .rw[dW];have:=hw.2.2.1;omega
  have Yz:∀t∈ws.drop 1,t.length<=4190:=λt ht=>Ci t (ox ht);refine bo (λb=>?_) (λb=>?_)
  .rw[ag b]at bU;refine⟨_,aM.of hw.1,λp1 L9=>?_⟩;have s1:aw H (upd H p1 (.lst (lN (ws.map λw=>V.str (S w)) (some 1) none))):=aw.new L9;exact⟨p1,p,ws.drop 1,rs,q,rfl,Yy p1 L9,Yz,hP.same s1,k1,k6,Zx,Wl,Bf,λss es H' x s' hx=>kQ ss (by rw[bU,es]) H' x (s1.trans s') hx,λes H' s'=>kE (by rw[bU,es]) H' (s1.trans s')⟩
  rw[af b]at bU;have mix:(q.kind=dB\/q.kind=jt)->∃x,aM K H a x/\∃x_3,OH x 0=some x_3/\Dz x_3 (V.str (Str.ofString "box"))=true/\if x_3=V.str (Str.ofString "box")then∃x,aM K H a x/\∀YB:Addr,H YB=none->Rg K NB Cp [V.ref YB,V.ref p] (upd H YB (HO.lst (lN x (some 1) none))) Q E
    else∃x,aM K H a x/\∃x_4,OH x 0=some x_4/\Dz x_4 (V.str (Str.ofString "key"))=true/\if x_4=V.str (Str.ofString "key")then∃x,aM K H a x/\∀YB:Addr,H YB=none->Rh K NB Cp [V.ref YB,V.ref p] (upd H YB (HO.lst (lN x (some 1) none))) Q E else E (Value.ref NB) none H:=by
   intro c;rw[ag c]at bU;have iF:q.kind≠cu:=by
    obtain c|c:=c<;>rw[c] <;>decide
   have h1:=Wl iF;have hI:(cY rs q)[0]?=some ((cY rs q).getD 0 []):=by
    rw[cU,bt ()];rfl
   have il:=Bf _ (bh hI);refine⟨_,aM.of hw.1,_,q0.1,rfl,?_⟩;rw[Wn,abd];simp only[V.str.injEq,cS];refine bo (λd=>?_) (λd=>?_)
   .rw[ag d]at bU;refine⟨_,aM.of hw.1,λp1 L9=>?_⟩;have s1:aw H (upd H p1 (.lst (lN (ws.map λw=>V.str (S w)) (some 1) none))):=aw.new L9;exact⟨p1,p,ws.drop 1,rs,q,rfl,Yy p1 L9,Yz,hP.same s1,_,hI,il.1,il.2,λss es H' x s' hx=>kQ ss (by rw[bU,es]) H' x (s1.trans s') hx,λes H' s'=>kE (by rw[bU,es]) H' (s1.trans s')⟩
   .rw[af d]at bU;refine⟨_,aM.of hw.1,_,q0.1,rfl,?_⟩;simp only[V.str.injEq,cS];refine bo (λe=>?_) (λe=>kE (by rw[bU,af e]) H aw.rfl');rw[ag e]at bU;refine⟨_,aM.of hw.1,λp1 L9=>?_⟩;have s1:aw H (upd H p1 (.lst (lN (ws.map λw=>V.str (S w)) (some 1) none))):=aw.new L9;exact⟨p1,p,ws.drop 1,rs,q,rfl,Yy p1 L9,Yz,hP.same s1,_,hI,il.1,il.2,λss es H' x s' hx=>kQ ss (by rw[bU,es]) H' x (s1.trans s') hx,λes H' s'=>kE (by rw[bU,es]) H' (s1.trans s')⟩
  obtain⟨pp,dx,Rr,e0,nX,hRR⟩:=hP;cases e0;refine⟨Cp,dx,_,nX,aS.cl,aS.no "kind" ∅,.str (S q.kind),rfl,rfl,?_⟩;rw[show Str.ofString "order"=S dB by decide+kernel];simp only[V.str.injEq,cS];refine bo (λc=>mix (.inl c)) (λc=>?_);refine⟨Cp,dx,_,nX,aS.cl,aS.no "kind" ∅,.str (S q.kind),rfl,rfl,?_⟩;rw[show Str.ofString "any"=S jt by decide+kernel];simp only[V.str.injEq,cS];refine bo (λd=>mix (.inr d)) (λd=>kE (by rw[bU,af (λz=>z.elim c d)]) H aw.rfl')
end
noncomputable abbrev z3:Stmt:=top 14
section
noncomputable def cZ(n:Nat)(row:List Int):List Int:=((List.range n).map λ(i:Nat)=>(0:Int)+(i:Int)).filter λx=>!decide (x∈row)
noncomputable def i_(n:Nat)(places:List Int)(x:List Int×Int):List (List Int×Int):=(cZ n x.1).zipIdx.filterMap λy=>if y.1∈places then some (x.1++ [y.1],x.2*(cZ n x.1).length+(y.2:Nat))else none
noncomputable def jm(n:Nat)(rows:List (List Int×Int))(places:List Int):List (List Int×Int):=rows.flatMap (i_ n places)
noncomputable def eJ(n:Nat)(ss:List (List Int)):List (List Int×Int):=ss.foldl (jm n) [([],0)]
def Bo(K:PySem.W.Frag)(H:Hp)(v:V)(x:List Int×Int):Prop:=∃t r,v=.ref t/\H t=some (.tup [.ref r,.int x.2])/\H r=some (.tup (x.1.map V.int))
def EH(K:PySem.W.Frag)(H:Hp)(L:Addr)(rows:List (List Int×Int)):Prop:=∃vs,H L=some (.lst vs)/\Paired (Bo K H) vs rows
def L_(K:PySem.W.Frag):Sp:=λvs H Q _=>∃(S':Addr) (ss:List (List Int)) (n:Nat),vs=[.ref S',.int n]/\qV H S' ss/\ss.length<=4/\n<=24/\∀H' L,aw H H'->H L=none->EH K H' L (eJ n ss)->Q (.ref L) H'
def Bo.same{x:List Int×Int}(h:Bo K H v x)(s:aw H H'):Bo K H' v x:=by
 obtain⟨t,r,e,h1,h2⟩:=h;exact⟨t,r,e,s _ _ h1,s _ _ h2⟩
theorem Bo.upd{x:List Int×Int}{M:Addr}{l l2:List V}(h:Bo K H v x)(hM:H M=some (.lst l)):Bo K (upd H M (.lst l2)) v x:=by
 obtain⟨t,r,e,h1,h2⟩:=h;refine⟨t,r,e,?_,?_⟩
 .rw[aB (λz=>by rw[z,hM]at h1;cases h1)];exact h1
 .rw[aB (λz=>by rw[z,hM]at h2;cases h2)];exact h2
def JU k row:cZ (k+1) row=cZ k row++(if((0:Int)+(k:Int))∉row then [(0:Int)+(k:Int)]else []):=by
 unfold cZ;rw[range_succ,ed,xi];by_cases c:((0:Int)+(k:Int))∈row
 .simp at c;simp[c]
 .simp at c;simp[c]
def uS n row:(cZ n row).length<=n:=by
 refine aX (ou _ _) ?_;simp
def z4 n pl x:(i_ n pl x).length<=n:=by
 refine aX (length_filterMap_le _ _) ?_;rw[length_zipIdx];exact uS n x.1
theorem EI{f:α->List β}{z:Nat}(h:∀x,(f x).length<=z):∀l:List α,(l.flatMap f).length<=l.length*z
 |[]=>by simp
 |x::l=>by
  rw[kS,c9,aZ,Nat.succ_mul];have:=h x;have:=EI h l;omega
def JV n ss s:eJ n (ss++ [s])=jm n (eJ n ss) s:=by
 unfold eJ;rw[sR];rfl
def uT n (h:n<=24):∀ss:List (List Int),(eJ n ss).length<=24^ss.length:=λss=>by
 have:∀(l:List (List Int))(rows:List (List Int×Int)),(l.foldl (jm n) rows).length<=rows.length*24^l.length:=by
  intro l
  induction l with
  |nil=>intro rows;simp
  |cons s l ih=>
   intro rows;rw[fG,aZ];refine aX (ih _) ?_;have h1:=EI (λx=>aX (z4 n s x) h) rows;rw[km,mI (24^l.length) 24,<-sN];exact sy _ h1
 have:=this ss [([],0)];simpa[eJ]using this
def N7 n:∀ss,∀x∈eJ n ss,x.1.length=ss.length:=λss=>by
 have:∀(l:List (List Int))(rows:List (List Int×Int))(m:Nat),(∀x∈rows,x.1.length=m)->∀x∈l.foldl (jm n) rows,x.1.length=m+l.length:=by
  intro l
  induction l with
  |nil=>intro rows m h x hx;exact h x hx
  |cons s l ih=>
   intro rows m h x hx;rw[aZ];have:=ih (jm n rows s) (m+1) (λy hy=>?_) x hx
   .omega
   .obtain⟨z,hz,hy⟩:=mem_flatMap.mp hy;obtain⟨u,hu,e⟩:=mem_filterMap.mp hy;split at e
    .cases e;rw[c9,h z hz];rfl
    .cases e
 intro x hx;have:=this ss [([],0)] 0 ∅ x hx;omega
def gN:aE ["sets","interests","rows","places","longer","row","number","free","lesser","place"] ["sets","interests"] (ao z3):=by ac_nf
def Rl(D:Def K mg "numbered_rows" z3 ["sets","interests"])(T:Tx mg):Ok P w K mg base eY 1 "numbered_rows" ["sets","interests"] (L_ K):=by
 refine D.ok gN (λvs H Q E h=>?_) (λf cf A outer s H vs Q E hr h=>?_)
 .obtain⟨_,_,_,rfl,_⟩:=h;rfl
 .obtain⟨S',ss,n,rfl,⟨as,hS,hp⟩,sl,Wo,kQ⟩:=h;have hu:=vz hr;have hz:=cE;refine⟨_,(ah (aO (i:=2) gN.nd rfl (Or.inl rfl) (gv (ae (yC (ae (yC ai) (ae aq ai))) ai))) (ah (fI hU rfl (b8 (pv 0)) (aT (i:=3) gN.nd rfl (Or.inl rfl)) (ah (aO (i:=4) gN.nd rfl (Or.inl rfl) (gv ai)) (ah (fI hU rfl (b8 (pv 2)) (yu (n:=2) rfl (cJ (aT (i:=5) gN.nd rfl (Or.inr rfl)) (cJ (aT (i:=6) gN.nd rfl (Or.inl rfl)) kr))) (ah (ql (own:=[("place",9)]) rfl gN.nd (i:=7) rfl rfl (tq rfl rfl rfl rfl) (BH rfl T.iH (ae (pv 1) ai)) (bY (N:=["sets","interests","rows","places","longer","row","number","free","lesser","place"]) (sc:=ao z3) (by decide+kernel)) (λ_ _ _ _ _=>aT (i:=9) gN.nd rfl (Or.inl rfl)) (λ_ _ _ _ _=>(xE (bq (qU (K:=K) rfl) (pv 9) (pv 5) rfl))) (λ_ _ _ _ _=>(pv 9))) (au (fI hU rfl (T5 rfl T.f9 (ae (pv 7) ai)) (yu (n:=2) rfl (cJ (aT (i:=8) gN.nd rfl (Or.inl rfl)) (cJ (aT (i:=9) gN.nd rfl (Or.inl rfl)) kr))) (au (cR (bq uA (pv 9) (pv 3) rfl) (au (aQ (KS ye PySem.F.slot_list_append PySem.F.type_list_append MZ (pv 4) (ae (yC (ae (bS UO (pv 5) (yC (ae (pv 9) ai))) (ae (bS gq (bS rq (pv 6) (aC aA (by rfl) T.cv bO (ae (pv 7) ai))) (pv 8)) ai))) ai)))) bx)))))) (au (aO (i:=2) gN.nd rfl (Or.inl rfl) (pv 4)))))) (au (aI (pv 2))))),?_⟩;simp? only[cb,oA];have Xo:=Paired.eM hp;refine⟨by simp,λr0 hr0=>⟨by show 2<=_;omega,λt0 SN=>⟨by omega,λL0 Qx=>?_⟩⟩⟩;have hrt:r0≠t0:=λz=>by rw[<-z,ak]at SN;cases SN
  have hrL:r0≠L0:=λz=>by rw[<-z,aB hrt,ak]at Qx;cases Qx
  have htL:t0≠L0:=λz=>by rw[<-z,ak]at Qx;cases Qx
  have s0:aw H (upd (upd (upd H r0 (.tup [])) t0 (.tup [.ref r0,.int 0])) L0 (.lst [.ref t0])):=((aw.new hr0).trans (aw.new SN)).trans (aw.new Qx);have ad_:H L0=none:=(aw.new hr0).free ((aw.new SN).free Qx);have rw0:EH K (upd (upd (upd H r0 (.tup [])) t0 (.tup [.ref r0,.int 0])) L0 (.lst [.ref t0])) L0 (eJ n []):=⟨_,ak,.cons ⟨t0,r0,rfl,by rw[aB htL,ak],by rw[aB hrL,aB hrt,ak];rfl⟩ .nil⟩;generalize(upd (upd (upd H r0 (.tup [])) t0 (.tup [.ref r0,.int 0])) L0 (.lst [.ref t0]))=H0 at*;refine⟨S',rfl,⟨_,aM.of (s0 _ _ hS)⟩,iO (K:=K) (a:=S') (xs:=as) (λi σ H'=>∃(L:Addr) (v3 v4 v5 v6 v7 v8 v9:Option V),σ=[some (.ref S'),some (.int n),some (.ref L),v3,v4,v5,v6,v7,v8,v9]/\aw H H'/\H L=none/\EH K H' L (eJ n (ss.take i)))
   ⟨L0,none,none,none,none,none,none,none,rfl,s0,ad_,rw0⟩ (λi σ H' _ h=>by obtain⟨_,_,_,_,_,_,_,_,_,sm,_⟩:=h;exact aM.of (sm _ _ hS)) ?_ ?_⟩
  .rintro i v σ H' hi ⟨L,v3,v4,v5,v6,v7,v8,v9,rfl,sm,nL,vs,hL,QY⟩;obtain⟨Eb,iD,pa,rfl,Rm⟩:=Paired.at' hp hi;have aea:=sm _ _ Rm;have Xn:=Paired.eM QY;have SQ:ss.take (i+1)=ss.take i++ [Eb]:=bz iD;have hil:i<ss.length:=(List.getElem?_eq_some_iff.mp iD).1;have Bf:(eJ n (ss.take i)).length<=24^3:=by
    refine aX (uT n Wo _) (sA ⋯ ?_);rw[cW];omega
   have YC:∀x∈eJ n (ss.take i),x.1.length<=4:=λx hx=>by
    rw[N7 n _ x hx,cW];omega
   generalize hRW:eJ n (ss.take i)=rows at*;simp? only[cb,oA];refine⟨by omega,λM hM=>?_⟩;have hLM:L≠M:=λz=>by rw[<-z,hL]at hM;cases hM
   have nM0:H M=none:=sm.free hM;have sM:aw H' (upd H' M (.lst [])):=aw.new hM;refine⟨L,rfl,⟨_,aM.of (sM _ _ hL)⟩,iO (K:=K) (a:=L) (xs:=vs) (λj σ H2=>∃v5 v6 v7 v8 v9:Option V,σ=[some (.ref S'),some (.int n),some (.ref L),some (.ref pa),some (.ref M),v5,v6,v7,v8,v9]/\aw H' H2/\∃acc,H2 M=some (.lst acc)/\Paired (Bo K H2) acc ((rows.take j).flatMap (i_ n Eb)))
    ⟨_,_,_,_,_,rfl,sM,[],ak,by rw[take_zero];exact .nil⟩ (λj σ H2 _ h=>by obtain⟨_,_,_,_,_,_,s2,_⟩:=h;exact aM.of (s2 _ _ hL)) ?_ ?_⟩
   .rintro j v σ H2 hj ⟨v5,v6,v7,v8,v9,rfl,s2,acc,oN,Rn⟩;obtain⟨x,hx,YD⟩:=Paired.at' QY hj;obtain⟨t,r,rfl,ht,hr⟩:=YD.same s2;have hxm:=YC x (bh hx);have CP:rows.take (j+1)=rows.take j++ [x]:=bz hx;have Wm:=Paired.eM Rn;have haf:((rows.take j).flatMap (i_ n Eb)).length<=24^3*24:=by
     refine aX (EI (λx=>aX (z4 n Eb x) Wo) _) (sy _ ?_);rw[cW];exact aX (ow _ _) Bf
    generalize hFM:(rows.take j).flatMap (i_ n Eb)=done at*;refine⟨t,_,rfl,.inl (.inl ht),rfl,_,_,rfl,_,_,rfl,rfl,?_⟩;simp? only[];refine⟨(n:Int),rfl,by omega,by omega,λD hD=>?_⟩;rw[gk];have hDM:D≠M:=λz=>by rw[z,oN]at hD;cases hD
    refine F_ (lo:=0) (n:=n) (λk H3=>aw H2 H3/\H3 D=some (.lst ((cZ k x.1).map V.int))) ⟨aw.new hD,ak⟩ ?_ ?_
    .rintro k H3 hk ⟨s3,h3⟩;simp? only[SD];refine⟨rfl,_,rfl,_,rfl,r,rfl,_,.inr (.inl (.inl (s3 _ _ hr))),rfl,by simp[gZ],?_⟩;rw[oX];have fs:=JU k x.1;have fl:=uS k x.1;refine bo (λb=>?_) (λb=>?_)
     .rw[ag ‹b›]at fs;refine⟨_,rfl,_,h3,by rw[az];omega,s3.kI hD,?_⟩;rw[ak,fs,ed];rfl
     .rw[af ‹b›,hZ]at fs;exact⟨s3,by rw[fs];exact h3⟩
    .rintro H3 ⟨s3,h3⟩;have sD:aw H' H3:=s2.trans s3;have abe:=s3 _ _ oN;have hfl:=uS n x.1;obtain⟨Pv,Zy⟩:∃Pv:Nat->L2.St->Hp->Prop,∀k σ H4,Pv k σ H4↔∃v8 v9:Option V,σ=[some (.ref S'),some (.int n),some (.ref L),some (.ref pa),some (.ref M),some (.ref r),some (.int x.2),some (.ref D),v8,v9]/\aw H' H4/\H4 D=some (.lst ((cZ n x.1).map V.int))/\H4 r=some (.tup (x.1.map V.int))/\
       ∃acc,H4 M=some (.lst acc)/\Paired (Bo K H4) acc (done++((cZ n x.1).zipIdx.take k).filterMap λy=>if y.1∈Eb then some (x.1++ [y.1],x.2*(cZ n x.1).length+(y.2:Nat))else none):=⟨_,λ_ _ _=>Iff.rfl⟩
     refine⟨D,_,rfl,aM.of h3,LW (J:=Ite K D) (n:=(cZ n x.1).length) Pv
      ((Zy _ _ _).mpr ⟨_,_,rfl,sD,h3,s3 _ _ hr,acc,abe,by rw[take_zero];simpa using Paired.fT Rn λ_ _ z=>z.same s3⟩) (λk σ H4 hk h=>?_) ?_ ?_⟩
     .obtain⟨_,_,_,_,h5,_⟩:=(Zy _ _ _).mp h;exact⟨_,_,aM.of h5,bt ‹hk›⟩
     .rintro k v σ H4 H5 hk hh ⟨T',y,rfl,nT,rfl,hy⟩;obtain⟨v8',v9',rfl,s4,h4,Zz,Ro,Wq,ZA⟩:=(Zy _ _ _).mp hh;clear hh;have hy:=hy _ (aM.of h4);have hfk:(cZ n x.1)[k]?=some (cZ n x.1)[k]:=bt hk;rw[a_,hfk]at hy;cases hy;have hzk:(cZ n x.1).zipIdx[k]?=some ((cZ n x.1)[k],k):=by
       rw[getElem?_zipIdx,hfk];simp
      have abf:(cZ n x.1).zipIdx.take (k+1)=(cZ n x.1).zipIdx.take k++ [((cZ n x.1)[k],k)]:=bz hzk;generalize(cZ n x.1)[k]=pk at*;have sT:aw H4 (upd H4 T' (.tup [.int (k:Nat),.int pk])):=aw.new nT;refine⟨T',_,rfl,.inl (.inl ak),rfl,_,_,rfl,_,_,rfl,rfl,?_⟩;simp? only[SD,Zf,Xb,KU,Wh];have aeb:=sT _ _ (s4 _ _ aea);refine⟨_,.inl (aM.of aeb),rfl,by simp[gZ],?_⟩;rw[oX];have aec:=Paired.eM ZA;have XG:Ro.length<sizeLine:=by
       rw[aec,c9];have h1:=length_filterMap_le (λy:Int×Nat=>if y.1∈Eb then some (x.1++ [y.1],x.2*(cZ n x.1).length+(y.2:Nat))else none) ((cZ n x.1).zipIdx.take k);rw[cW,length_zipIdx]at h1;have h2:=ow k (cZ n x.1).length;omega
      refine bo (λb=>?_) (λb=>?_)
      .have b:pk∈Eb:=by simpa using b
       have ef:([(pk,k)].filterMap λy:Int×Nat=>if y.1∈Eb then some (x.1++ [y.1],x.2*(cZ n x.1).length+(y.2:Nat))else none)=[(x.1++ [pk],x.2*(cZ n x.1).length+(k:Nat))]:=by simp[b]
       have hMT:=sT _ _ Wq;refine⟨(.inl ⟨rfl,_,aM.of hMT⟩:Xi K "list" (.ref M) _),by omega,λp1 L9=>?_⟩;have s1:=aw.new (o:=HO.tup [V.int pk]) L9;have hr5:=s1 _ _ (sT _ _ Zz);have hD5:=s1 _ _ (sT _ _ h4);have fin:∀(H6:Hp)(r6:Addr),aw H4 H6->H6 r6=some (.tup ((x.1++ [pk]).map V.int))->∃x_1:List V,(aM K H6 D x_1\/jP K H6 D x_1)/\O6 x.2 ((x_1.length:Nat):Int)/\2<=sizeLine/\∀p7:Addr,H6 p7=none->∃x_2:List V,upd H6 p7 (HO.tup [V.ref r6,V.int (x.2*((x_1.length:Nat):Int)+((k:Nat):Int))]) M=some (HO.lst x_2)/\x_2.length<sizeLine/\
         Pv (k+1) [some (.ref S'),some (.int n),some (.ref L),some (.ref pa),some (.ref M),some (.ref r),some (.int x.2),some (.ref D),some (.int (k:Nat)),some (.int pk)] (upd (upd H6 p7 (HO.tup [V.ref r6,V.int (x.2*((x_1.length:Nat):Int)+((k:Nat):Int))])) M (HO.lst (x_2++ [V.ref p7]))):=by
        intro H6 r6 s6 h6;refine⟨_,.inl (aM.of (s6 _ _ h4)),.inr ⟨by simp;omega,by simp;omega⟩,by omega,λp7 ZC=>?_⟩;rw[az];have s7:=aw.new (o:=HO.tup [V.ref r6,V.int (x.2*((cZ n x.1).length:Nat)+((k:Nat):Int))]) ZC;have s47:=s6.trans s7;have hM7:=s47 _ _ Wq;have hrM:r≠M:=λz=>by rw[z,Wq]at Zz;cases Zz
        have hpM:p7≠M:=λz=>by rw[z,s6 _ _ Wq]at ZC;cases ZC
        have h6M:r6≠M:=λz=>by rw[z,s6 _ _ Wq]at h6;cases h6
        have h67:r6≠p7:=λz=>by rw[z,ZC]at h6;cases h6
        refine⟨Ro,hM7,XG,(Zy _ _ _).mpr ⟨_,_,rfl,(s4.trans s47).kI hM,?_,?_,_,ak,?_⟩⟩
        .rw[aB hDM];exact s47 _ _ h4
        .rw[aB hrM];exact s47 _ _ Zz
        .rw[abf,filterMap_append,<-g_,ef];refine kn (Paired.fT ZA λ_ _ z=>(z.same s47).upd hM7) ⟨p7,r6,rfl,?_,?_⟩
         .rw[aB hpM,ak]
         .rw[aB h6M,aB h67];exact h6
       refine⟨_,.inl (.inl hr5),_,.inl (.inl ak),by simp,by simp;omega,λc=>?_,λc=>?_⟩
       .have c:x.1=[]:=by simpa using c
        exact fin _ p1 (sT.trans s1) (by rw[ak,c];rfl)
       .intro p8 hp8;exact fin _ p8 ((sT.trans s1).trans (aw.new hp8)) (by rw[ak,ed];rfl)
      .have b:¬pk∈Eb:=by simpa using b
       have ef:([(pk,k)].filterMap λy:Int×Nat=>if y.1∈Eb then some (x.1++ [y.1],x.2*(cZ n x.1).length+(y.2:Nat))else none)=[]:=by simp[b]
       refine(Zy _ _ _).mpr ⟨_,_,rfl,s4.trans sT,sT _ _ h4,sT _ _ Zz,Ro,sT _ _ Wq,?_⟩;rw[abf,filterMap_append,ef,hZ];exact Paired.fT ZA λ_ _ z=>z.same sT
     .intro σ H4 hh;obtain⟨v8',v9',rfl,s4,h4,Zz,Ro,Wq,ZA⟩:=(Zy _ _ _).mp hh;refine⟨⟨_,aM.of h4,by simp⟩,⟨_,_,_,_,_,rfl⟩,s4,Ro,Wq,?_⟩;rw[CP,flatMap_append,hFM];have e:((cZ n x.1).zipIdx).take (cZ n x.1).length=(cZ n x.1).zipIdx:=q_ ∅;rw[e]at ZA;simpa[i_]using ZA
   .rintro σ H2 ⟨v5,v6,v7,v8,v9,rfl,s2,acc,oN,Rn⟩;rw[Xn,eQ]at Rn;refine⟨M,⟨_,_,_,_,_,_,_,rfl⟩,sm.trans s2,nM0,acc,oN,?_⟩;rw[SQ,JV,hRW];exact Rn
  .rintro σ H' ⟨L,v3,v4,v5,v6,v7,v8,v9,rfl,sm,nL,hRA⟩;rw[show as.length=ss.length from Xo,eQ]at hRA;exact kQ H' L sm nL hRA
end
end Pd
end
section
namespace L2
open PySem PySem.Spec PyProof.Rows
def Bp(hK:X.K=K):ku X (.builtin "len") (λxs H Q=>eL xs λp=>∃ys,(aM K H p ys\/jP K H p ys)/\Q (.int (ys.length:Nat)) H):=by
 subst hK;exact aA
end L2
namespace Pd
open PySem PySem.Spec PyProof.Rows L2 TL
noncomputable abbrev Hu:Stmt:=top 13
section
noncomputable def gf(ns:List Int)(x:List Int×List Int):List Int:=ns.flatMap λm=>x.1.map λp=>m*(x.2.length:Int)+p
noncomputable def oY(l:List (List Int×List Int)):List Int:=l.foldl gf [0]
def Rp(K:PySem.W.Frag):Sp:=λvs H Q _=>∃(S' R:Addr) (ss rs:List (List Int)),vs=[.ref S',.ref R]/\qV H S' ss/\qV H R rs/\ss.length=rs.length/\(∀s∈ss,s.length<=100)/\(∀r∈rs,r.length<=100)/\(∀i,(oY ((ss.zip rs).take i)).length<=300000)/\∀H' L,aw H H'->H L=none->H' L=some (.lst ((oY (ss.zip rs)).map V.int))->Q (.ref L) H'
def nc:aE ["sets","races","numbers","places","interests","longer","number","place"] ["sets","races"] (ao Hu):=by ac_nf
def CW l x:oY (l++ [x])=gf (oY l) x:=by
 unfold oY;rw[sR];rfl
def UZ(D:Def K mg "leg_numbers" Hu ["sets","races"])(T:Tx mg):Ok P w K mg base eY 1 "leg_numbers" ["sets","races"] (Rp K):=by
 refine D.ok nc (λvs H Q E h=>?_) (λf cf A outer s H vs Q E hr h=>?_)
 .obtain⟨_,_,_,_,rfl,_⟩:=h;rfl
 .obtain⟨S',R,ss,rs,rfl,⟨as,hS,Il⟩,⟨bs,hR,LC⟩,hlen,sl,rl,lim,kQ⟩:=h;have hu:=vz hr;have hz:=cE;refine⟨_,(ah (aO (i:=2) nc.nd rfl (Or.inl rfl) (gv (ae aq ai))) (ah (fI hU rfl (PF rfl T.zh (ae (pv 0) (ae (pv 1) ai))) (yu (n:=2) rfl (cJ (aT (i:=3) nc.nd rfl (Or.inl rfl)) (cJ (aT (i:=4) nc.nd rfl (Or.inr rfl)) kr))) (ah (aO (i:=5) nc.nd rfl (Or.inl rfl) (gv ai)) (ah (fI hU rfl (b8 (pv 2)) (aT (i:=6) nc.nd rfl (Or.inr rfl)) (au (aQ (KS ye PySem.F.slot_list_extend PySem.F.type_list_extend BW (pv 5) (ae (ib (own:=[("place",7)]) rfl nc.nd (b8 (pv 3)) (bY (N:=["sets","races","numbers","places","interests","longer","number","place"]) (sc:=ao Hu) (by decide+kernel)) (λ_ _ _ _ _=>aT (i:=7) nc.nd rfl (Or.inl rfl)) (λ_ _ _ _ _=>dH) (λ_ _ _ _ _=>(bS gq (bS rq (pv 6) (aC (Bp (K:=K) rfl) (by rfl) T.cv bO (ae (pv 4) ai))) (pv 7)))) ai))))) (au (aO (i:=2) nc.nd rfl (Or.inl rfl) (pv 5)))))) (au (aI (pv 2))))),?_⟩;simp? only[cb,oA];have Wm:=Paired.eM Il;have hbl:=Paired.eM LC;refine⟨by omega,λL0 Qx=>?_⟩;have s0:=aw.new (o:=HO.lst [V.int 0]) Qx;refine⟨S',R,_,_,rfl,aM.of (s0 _ _ hS),aM.of (s0 _ _ hR),?_⟩;refine UC (K:=K) (a:=S') (b:=R) (xs:=as) (ys:=bs) (λi σ H'=>∃(L:Addr) (v3 v4 v5 v6 v7:Option V),σ=[some (.ref S'),some (.ref R),some (.ref L),v3,v4,v5,v6,v7]/\aw H H'/\H L=none/\H' L=some (.lst ((oY ((ss.zip rs).take i)).map V.int)))
   () ⟨L0,_,_,_,_,_,rfl,s0,Qx,by rw[ak];rfl⟩ (λi σ H' _ h=>?_) ?_ ?_
  .obtain⟨_,_,_,_,_,_,_,sm,_⟩:=h;exact⟨aM.of (sm _ _ hS),aM.of (sm _ _ hR)⟩
  .rintro i x y T' σ H' hx hy ⟨L,v3,v4,v5,v6,v7,rfl,sm,nL,hL⟩ nT;obtain⟨pl,iD,pa,rfl,Rm⟩:=Paired.at' Il hx;obtain⟨rr,hrr,ra,rfl,vF⟩:=Paired.at' LC hy;have Zv:(ss.zip rs)[i]?=some (pl,rr):=by rw[uv];exact⟨iD,hrr⟩
   have CP:(ss.zip rs).take (i+1)=(ss.zip rs).take i++ [(pl,rr)]:=bz Zv;have l1:=lim i;have l2:=lim (i+1);rw[CP,CW]at l2;have lp:=sl pl (bh iD);have lr:=rl rr (bh hrr);generalize hNS:oY ((ss.zip rs).take i)=NS at*;have sT:aw H' (upd H' T' (.tup [.ref pa,.ref ra])):=aw.new nT;have hL5:=sT _ _ hL;have aed:=sT _ _ (sm _ _ Rm);have aee:=sT _ _ (sm _ _ vF);have s5:=sm.trans sT;refine⟨T',_,rfl,.inl (.inl ak),rfl,_,_,rfl,_,_,rfl,rfl,?_⟩;generalize upd H' T' (.tup [.ref pa,.ref ra])=H5 at*;simp? only[oA];refine⟨by omega,λM hM=>?_⟩;have nM0:H M=none:=s5.free hM;have hLM:L≠M:=λz=>by rw[<-z,hL5]at hM;cases hM
   have sM:aw H5 (upd H5 M (.lst [])):=aw.new hM;refine⟨L,rfl,⟨_,aM.of (sM _ _ hL5)⟩,iO (K:=K) (a:=L) (xs:=NS.map V.int) (λj σ H6=>∃v6 v7:Option V,σ=[some (.ref S'),some (.ref R),some (.ref L),some (.ref pa),some (.ref ra),some (.ref M),v6,v7]/\aw H5 H6/\H6 M=some (.lst ((gf (NS.take j) (pl,rr)).map V.int)))
    ⟨_,_,rfl,sM,by rw[ak];rfl⟩ (λj σ H6 _ h=>by obtain⟨_,_,_,s6,_⟩:=h;exact aM.of (s6 _ _ hL5)) ?_ ?_⟩
   .rintro j v σ H6 hj ⟨v6',v7',rfl,s6,hM6⟩;rw[a_]at hj;cases em:NS[j]? with
    |none=>rw[em]at hj;cases hj
    |some m=>
    rw[em]at hj;cases hj;have htj:NS.take (j+1)=NS.take j++ [m]:=bz em;have qe:gf (NS.take (j+1)) (pl,rr)=gf (NS.take j) (pl,rr)++pl.map λp=>m*(rr.length:Int)+p:=by
     rw[htj];unfold gf;rw[flatMap_append];simp
    have hlm:(gf (NS.take (j+1)) (pl,rr)).length<=300000:=by
     refine aX ?_ l2;have:NS=NS.take (j+1)++NS.drop (j+1):=(sG _ _).symm
     conv=>rhs;rw[this]
     unfold gf;rw[flatMap_append,c9];omega
    rw[qe]at hlm;simp? only[Zf,DM];refine⟨(.inl ⟨rfl,_,aM.of hM6⟩:Xi K "list" (.ref M) H6),?_⟩;have abg:=s6 _ _ aed;have aef:=s6 _ _ aee;refine⟨pa,rfl,⟨_,aM.of abg⟩,λD hD=>?_⟩;refine fR (xs:=pl.map V.int) (λH v (z:Int)=>v=.int z) pl (λp=>some (m*(rr.length:Int)+p)) ∅ (by simp;omega) hD (aM.of abg) (λ_ _ _ _ _ e=>e) ?_ ?_
    .intro k x u H7 hx7 hu7 Yb _ R k2;have e:x=.int u:=by
      rw[a_,hu7]at hx7;exact(Option.some.inj hx7).symm
     subst e;simp? only[];refine⟨_,.inl (aM.of (Yb _ _ aef)),.inr ⟨by simp;omega,by simp;omega⟩,?_⟩;exact k2 _ _ _ rfl aw.rfl' (by rw[az])
    .intro H7 ys zs Yb i9 hm7 ZC;rw[de]at hm7;cases hm7;have i9:H7 D=some (.lst ((pl.map λp=>m*(rr.length:Int)+p).map V.int)):=by rw[i9,fm ZC]
     have hM7:=Yb _ _ hM6;refine⟨D,rfl,_,hM7,_,i9,?_,⟨⟨_,rfl⟩,⟨_,rfl⟩⟩,(s6.trans Yb).kI hM,?_⟩
     .rw[c9,az]at hlm;simp only[length_map];omega
     .rw[ak,qe,ed]
   .rintro σ H6 ⟨v6',v7',rfl,s6,hM6⟩;rw[az,eQ]at hM6;refine⟨M,⟨_,_,_,_,_,rfl⟩,s5.trans s6,nM0,?_⟩;rw[CP,CW,hNS];exact hM6
  .rintro σ H' ⟨L,v3,v4,v5,v6,v7,rfl,sm,nL,hL⟩;rw[Wm,<-show(ss.zip rs).length=ss.length by rw[mM];omega,eQ]at hL;exact kQ H' L sm nL hL
end
noncomputable abbrev Ma:Stmt:=top 15
section
noncomputable def EJ(n rest:Nat)(lo pl:Int):Int:=((List.range (pl-lo).toNat).map λ(i:Nat)=>CD ((n:Int)-(lo+(i:Int))-1) (rest:Int)).sum
noncomputable def jZ(n:Nat):List Int->Int->Int->Int
 |[],_,num=>num|pl::r,lo,num=>jZ n r (pl+1) (num+EJ n r.length lo pl)
def JW(K:PySem.W.Frag):Sp:=λvs H Q _=>∃(r:Addr) (row:List Int) (n:Nat),vs=[.ref r,.int n]/\jP K H r (row.map V.int)/\row.length<=6/\n<=24/\(∀x∈row,0<=x/\x<n)/\row.Pairwise (·<·)/\∀H',aw H H'->Q (.int (jZ n row 0 0)) H'
def ng:aE ["row","interests","number","lowest","at","place","rest","lesser"] ["row","interests"] (ao Ma):=by ac_nf
def U0(D:Def K mg "set_number" Ma ["row","interests"])(T:Tx mg)(fD:Ok P w K mg base eY 2 "count_sets" ["interests","k"] xW):Ok P w K mg base eY 3 "set_number" ["row","interests"] (JW K):=by
 refine D.ok ng (λvs H Q E h=>?_) (λf cf A outer s H vs Q E hr h=>?_)
 .obtain⟨_,_,_,rfl,_⟩:=h;rfl
 .obtain⟨r,row,n,rfl,YF,rl,Wo,mq,YG,kQ⟩:=h;have hz:=cE;refine⟨_,(ah (aO (i:=2) ng.nd rfl (Or.inl rfl) aq) (ah (aO (i:=3) ng.nd rfl (Or.inl rfl) aq) (ah (fI hU rfl (Q9 rfl T.f9 (ae (pv 0) ai)) (yu (n:=2) rfl (cJ (aT (i:=4) ng.nd rfl (Or.inl rfl)) (cJ (aT (i:=5) ng.nd rfl (Or.inl rfl)) kr))) (ah (aO (i:=6) ng.nd rfl (Or.inl rfl) (bS gu (bS gu (aC aA (by rfl) T.cv bO (ae (pv 0) ai)) (pv 4)) aq)) (ah (fI hU rfl (BI rfl T.iH (ae (pv 3) (ae (pv 5) ai))) (aT (i:=7) ng.nd rfl (Or.inl rfl)) (au (Dx (i:=2) ng.nd rfl (Or.inl rfl) (ax fD (hr.mono ⋯) rfl cB (ae (bS gu (bS gu (pv 1) (pv 7)) aq) (ae (pv 6) ai))) O3))) (au (aO (i:=3) ng.nd rfl (Or.inl rfl) (bS gq (pv 5) aq)))))) (au (aI (pv 2)))))),?_⟩;simp? only[cb,oA];refine⟨r,_,rfl,YF,LW (J:=Yp K r) (n:=row.length) (λk σ H'=>∃(v4 v5 v6 v7:Option V) (lo num:Int),σ=[some (.ref r),some (.int n),some (.int num),some (.int lo),v4,v5,v6,v7]/\aw H H'/\jZ n (row.drop k) lo num=jZ n row 0 0/\0<=lo/\∀x∈row.drop k,lo<=x)
   ⟨_,_,_,_,0,0,rfl,aw.rfl',rfl,Int.le_refl _,λx hx=>(mq x (ox hx)).1⟩ (λk σ H' hk h=>?_) ?_ ?_⟩
  .obtain⟨_,_,_,_,_,_,_,sm,_⟩:=h;exact⟨_,_,aw.tup sm YF,bt ‹hk›⟩
  .rintro k v σ H' H'' hk ⟨v4,v5,v6,v7,lo,num,rfl,sm,hs,lo0,hlo⟩ ⟨T',y,rfl,nT,rfl,hy⟩;have hy:=hy _ (aw.tup sm YF);have hrk:row[k]?=some row[k]:=bt hk;rw[a_,hrk]at hy;cases hy;have hdr:row.drop k=row[k]::row.drop (k+1):=mv hk;have Bm:=mq _ (pY hk);rw[hdr]at hs hlo;have abh:(row.drop k).Pairwise (·<·):=YG.sublist (drop_sublist _ _);rw[hdr]at abh;have hnx:∀x∈row.drop (k+1),row[k] +1<=x:=λx hx=>(pairwise_cons.mp abh).1 x hx;have hlp:=hlo _ (b9 ..);have abj:(((row.drop (k+1)).length:Nat):Int)=(row.length:Int)-(k:Int)-1:=by rw[dW];omega
   generalize row[k]=pl at*;have sT:aw H' (upd H' T' (.tup [.int (k:Nat),.int pl])):=aw.new nT;refine⟨T',_,rfl,.inl (.inl ak),rfl,_,_,rfl,_,_,rfl,rfl,?_⟩;have s5:=sm.trans sT;generalize upd H' T' (.tup [.int (k:Nat),.int pl])=H5 at*;simp? only[];refine⟨_,.inr (aw.tup s5 YF),?_⟩;rw[az,<-abj];have aeQ:(row.drop (k+1)).length<=6:=by rw[dW];omega
   generalize hRS:row.drop (k+1)=rest at*;refine⟨lo,pl,rfl,⟨by omega,by omega,by omega,by omega⟩,?_⟩;refine BJ (lo:=lo) (n:=(pl-lo).toNat) (λi σ H6=>∃v7:Option V,σ=[some (.ref r),some (.int n),some (.int (num+((List.range i).map λ(i:Nat)=>CD ((n:Int)-(lo+(i:Int))-1) (rest.length:Int)).sum)),some (.int lo),some (.int (k:Nat)),some (.int pl),some (.int (rest.length:Nat)),v7]/\H6=H5)
    ⟨v7,by simp,rfl⟩ ?_ ?_
   .rintro i σ H6 hi ⟨v7',rfl,rfl⟩;simp? only[xW];refine⟨_,_,⟨rfl,rfl⟩,by omega,by omega,by omega,by omega,?_,_,rfl⟩;rw[range_succ,ed,sum_append];simp[Int.add_assoc]
   .rintro σ H6 ⟨v7',rfl,rfl⟩;simp? only[];exact⟨_,_,_,_,_,_,⟨rfl,rfl,rfl,rfl,rfl,rfl⟩,s5,hs,by omega,hnx⟩
  .rintro σ H' ⟨v4,v5,v6,v7,lo,num,rfl,sm,hs,lo0,hlo⟩;rw[sV]at hs;refine⟨⟨_,aw.tup sm YF,by simp⟩,?_⟩;rw[show num=jZ n row 0 0 from hs];exact kQ H' sm
end
end Pd
end
section
namespace L2
open PySem PySem.Spec PyProof.Rows
def Rq(hK:X.K=K):IxR X (TV K):=by
 subst hK;exact aP
end L2
namespace Pd
open PySem PySem.Spec PyProof.Rows L2 TL
noncomputable abbrev t8:Stmt:=top 47
noncomputable abbrev Hv:Stmt:=top 46
section
noncomputable def hasAll(row ps:List Int):Bool:=ps.all λp=>decide (p∈row)
def z5(K:PySem.W.Frag):Sp:=λvs H Q _=>∃(r a:Addr) (row ps:List Int),vs=[.ref r,.ref a]/\jP K H r (row.map V.int)/\aM K H a (ps.map V.int)/\ps.length<=5000/\∀H',aw H H'->Q (.bl (hasAll row ps)) H'
def z6:aE ["row","places","place"] ["row","places"] (ao t8):=by ac_nf
def N8(D:Def K mg "has_all" t8 ["row","places"])(T:Tx mg):Ok P w K mg base eY 1 "has_all" ["row","places"] (z5 K):=by
 refine D.ok z6 (λvs H Q E h=>?_) (λf cf A outer s H vs Q E hr h=>?_)
 .obtain⟨_,_,_,_,rfl,_⟩:=h;rfl
 .obtain⟨r,a,row,ps,rfl,YF,Il,pl,kQ⟩:=h;have hz:=cE;refine⟨_,(au (aI (aC (lV rfl) (by rfl) T.tK mh (ae (ib (own:=[("place",2)]) rfl z6.nd (b8 (pv 1)) (bY (N:=["row","places","place"]) (sc:=ao t8) (by decide+kernel)) (λ_ _ _ _ _=>aT (i:=2) z6.nd rfl (Or.inl rfl)) (λ_ _ _ _ _=>dH) (λ_ _ _ _ _=>(aU (zV (K:=K) rfl) (pv 2) (pv 0) rfl))) ai)))),?_⟩;simp? only[cb];refine⟨a,rfl,⟨_,Il⟩,λD hD=>?_⟩;refine fR (xs:=ps.map V.int) (λH v (b:Bool)=>v=.bl b) ps (λp=>some (decide (p∈row))) ∅ (by simp;omega) hD Il (λ_ _ _ _ _ e=>e) ?_ ?_
  .intro i x u H' hx hu sm _ R k2;have e:x=.int u:=by
    rw[a_,hu]at hx;exact(Option.some.inj hx).symm
   subst e;simp? only[cb,SD];refine⟨_,.inr (aw.tup sm YF),rfl,by simp[gZ],?_⟩;exact k2 _ _ _ rfl aw.rfl' (by rw[oX])
  .intro H3 ys3 zs3 sm3 JS OJ Q0;rw[de]at OJ;cases OJ;refine⟨D,rfl,_,aM.of (by rw[JS,fm Q0]),?_⟩;rw[List.all_map];exact kQ H3 sm3
noncomputable def j0(fu:List Nat)(ss:List (List Int))(k n:Nat):List (List Int×Int):=if fu=N3 then eJ n ss else if fu=zZ then eJ n (List.replicate k ss).flatten else(eJ n (List.replicate k (ss.getD 0 [] ++ss.getD 1 []))).filter λx=>hasAll x.1 (ss.getD 0 [])
def Rt(K:PySem.W.Frag):Sp:=λvs H Q _=>∃(fu:List Nat) (S':Addr) (ss:List (List Int)) (k n:Nat),vs=[.str (S fu),.ref S',.int k,.int n]/\qV H S' ss/\(∀s∈ss,s.length<=5000)/\k<=4/\n<=24/\(fu=N3->ss.length<=4)/\(fu=zZ->ss.length=1)/\(fu≠N3->fu≠zZ->ss.length=2)/\∀H' L,aw H H'->H L=none->EH K H' L (j0 fu ss k n)->Q (.ref L) H'
def z7:aE ["form","sets","k","interests","rows","row","number"] ["form","sets","k","interests"] (ao Hv):=by ac_nf
def U1(D:Def K mg "rows_of_form" Hv ["form","sets","k","interests"])(T:Tx mg)(d9:Ok P w K mg base eY 1 "numbered_rows" ["sets","interests"] (L_ K))(uU:Ok P w K mg base eY 1 "has_all" ["row","places"] (z5 K)):Ok P w K mg base eY 2 "rows_of_form" ["form","sets","k","interests"] (Rt K):=by
 refine D.ok z7 (λvs H Q E h=>?_) (λf cf A outer s H vs Q E hr h=>?_)
 .obtain⟨_,_,_,_,_,rfl,_⟩:=h;rfl
 .obtain⟨fu,S',ss,k,n,rfl,hS,s21,k4,Wo,h1,h2,h3,kQ⟩:=h;have hz:=cE;refine⟨_,(ah (cR (bq cD (pv 0) bu (aG _)) (au (aI (ax d9 (hr.mono ⋯) rfl cB (ae (pv 1) (ae (pv 3) ai))))) bx) (ah (cR (bq cD (pv 0) bu (aG _)) (au (aI (ax d9 (hr.mono ⋯) rfl cB (ae (bS IJ (pv 1) (pv 2)) (ae (pv 3) ai))))) bx) (ah (aO (i:=4) z7.nd rfl (Or.inl rfl) (ax d9 (hr.mono ⋯) rfl cB (ae (bS IJ (gv (ae (bS Pq (bH aP (pv 1) aq (λ_ _=>rfl)) (bH aP (pv 1) aq (λ_ _=>rfl))) ai)) (pv 2)) (ae (pv 3) ai)))) (au (aI (ib (own:=[("row",5),("number",6)]) rfl z7.nd (b8 (pv 4)) (bY (N:=["form","sets","k","interests","rows","row","number"]) (sc:=ao Hv) (by decide+kernel)) (λ_ _ _ _ _=>xZ (K:=K) (n:=2) rfl rfl (cJ (aT (i:=5) z7.nd rfl (Or.inl rfl)) (cJ (aT (i:=6) z7.nd rfl (Or.inl rfl)) kr))) (λ_ _ _ _ _=>(xE (yq (ax uU (hr.mono ⋯) rfl cB (ae (pv 5) (ae (bH (Rq (K:=K) rfl) (pv 1) aq (λ_ _=>rfl)) ai)))))) (λ_ _ _ _ _=>(yC (ae (pv 5) (ae (pv 6) ai)))))))))),?_⟩;simp? only[cb,oA];rw[abb,Wn];simp only[cS];obtain⟨as,hA,Rm⟩:=id hS;have Wm:=Paired.eM Rm;refine bo (λb=>?_) (λb=>?_)
  .exact⟨S',ss,n,rfl,hS,h1 b,Wo,λH' L sm nL hr=>kQ H' L sm nL (by unfold j0;rw[ag b];exact hr)⟩
  refine bo (λc=>?_) (λc=>?_)
  .have l1:=h2 c;refine⟨S',k,as,rfl,rfl,hA,by omega,by omega,by rw[Wm,l1,gk];omega,λp hp=>?_⟩;rw[gk];have s1:=aw.new (o:=HO.lst (List.replicate k as).flatten) hp;refine⟨p,(List.replicate k ss).flatten,n,rfl,⟨_,ak,Paired.fT (m_ Rm k) λ_ _ z=>z.same s1⟩,by rw[len_rep,l1];omega,Wo,λH' L sm nL hr=>kQ H' L (s1.trans sm) (s1.free nL) ?_⟩;unfold j0;rw[af b,ag c];exact hr
  .have l2:=h3 b c;have g0:ss[0]?=some (ss.getD 0 []):=by
    rw[cU,bt ()];rfl
   have g1:ss[1]?=some (ss.getD 1 []):=by
    rw[cU,bt ()];rfl
   obtain⟨v0,NN,a0,rfl,ha0⟩:=Paired.KH Rm g0;obtain⟨v1,hv1,a1,rfl,ha1⟩:=Paired.KH Rm g1;have m0:=s21 _ (bh g0);have m1:=s21 _ (bh g1);generalize hA0:ss.getD 0 []=A0 at*;generalize hA1:ss.getD 1 []=A1 at*;refine⟨_,aM.of hA,_,eC (j:=0) NN,_,aM.of hA,_,eC (j:=1) hv1,a0,a1,_,_,rfl,rfl,ha0,ha1,by rw[az,az];omega,λp1 L9=>⟨by omega,λp2 IP=>?_⟩⟩;rw[<-ed]at IP⊢;have s1:=aw.new (o:=HO.lst ((A0++A1).map V.int)) L9;have s2:=aw.new (o:=HO.lst [V.ref p1]) IP;refine⟨p2,k,[.ref p1],rfl,rfl,ak,by omega,by omega,by rw[gk];simp;omega,λp3 Q0=>?_⟩;rw[gk];have s3:=aw.new (o:=HO.lst (List.replicate k [V.ref p1]).flatten) Q0;have aeg:=s3 _ _ (s2 _ _ (ak:(upd H p1 (.lst ((A0++A1).map V.int))) p1=_));have U2:=(s1.trans s2).trans s3;have efl:(List.replicate k [A0++A1]).flatten=List.replicate k (A0++A1):=by simp
   refine⟨p3,List.replicate k (A0++A1),n,rfl,⟨_,ak,by rw[<-efl];exact m_ (.cons ⟨p1,rfl,aeg⟩ .nil) k⟩,by rw[jK];exact k4,Wo,λH4 L sm nL hr=>?_⟩;have s14:=U2.trans sm;have nL0:=U2.free nL;have bU:j0 fu ss k n=(eJ n (List.replicate k (A0++A1))).filter λx=>hasAll x.1 A0:=by
    unfold j0;rw[af b,af c,hA0,hA1]
   have Bf:(eJ n (List.replicate k (A0++A1))).length<=24^4:=by
    refine aX (uT n Wo _) (sA ⋯ ?_);rw[jK];exact k4
   generalize eJ n (List.replicate k (A0++A1))=rows at*;obtain⟨vs,hL,QY⟩:=hr;have Xn:=Paired.eM QY;refine⟨L,rfl,⟨_,aM.of hL⟩,λD hD=>?_⟩;refine zW (n:=vs.length) (λi H'=>aw H4 H'/\∃ys,H' D=some (.lst ys)/\Paired (Bo K H') ys ((rows.take i).filter λx=>hasAll x.1 A0)) ⟨aw.new hD,[],ak,.nil⟩ (λi H' hi h=>⟨_,_,aM.of (h.1 _ _ hL),bt hi⟩) ?_ ?_
   .rintro i v H' H'' hi ⟨A4,ys,i9,SF⟩ ⟨rfl,hx⟩;have hx:=hx _ (aM.of (A4 _ _ hL));obtain⟨x,hxr,YD⟩:=Paired.at' QY hx;obtain⟨t,r,rfl,ht,GB⟩:=YD.same A4;have CP:rows.take (i+1)=rows.take i++ [x]:=bz hxr;have hly:=Paired.eM SF;have aeR:((rows.take i).filter λx=>hasAll x.1 A0).length<=24^4:=by
     refine aX (ou _ _) ?_;rw[cW];exact aX (ow _ _) Bf
    refine⟨t,_,rfl,.inl (.inl ht),rfl,_,_,rfl,_,_,rfl,rfl,?_⟩;simp? only[Xb,z5];have s1':=s14.trans A4;refine⟨rfl,_,rfl,_,rfl,S',rfl,_,aM.of (s1' _ _ hA),_,eC (j:=0) NN,r,a0,⟨rfl,rfl⟩,x.1,.inl (.inl GB),A0,aM.of (s1' _ _ ha0),by omega,λH5 s5=>?_⟩;rw[CP,xi];have JX:=s5 _ _ i9;refine bo (λd=>?_) (λd=>?_)
    .rw[filter_cons_of_pos (by exact d),filter_nil];refine⟨_,rfl,_,rfl,by omega,λp hp=>?_⟩;have s6:=aw.new (o:=HO.tup [V.ref r,V.int x.2]) hp;have abk:=s6 _ _ JX;have Ya:p≠D:=λz=>by rw[z,JX]at hp;cases hp
     have hrD:r≠D:=λz=>by rw[z,i9]at GB;cases GB
     have hrp:r≠p:=λz=>by rw[<-z,s5 _ _ GB]at hp;cases hp
     refine⟨ys,abk,by omega,((A4.trans s5).trans s6).kI hD,_,ak,kn (Paired.fT SF λ_ _ z=>(z.same (s5.trans s6)).upd abk) ⟨p,r,rfl,?_,?_⟩⟩
     .rw[aB Ya,ak]
     .rw[aB hrD,aB hrp];exact s5 _ _ GB
    .rw[filter_cons_of_neg (by exact d),filter_nil,hZ];exact⟨A4.trans s5,ys,JX,Paired.fT SF λ_ _ z=>z.same s5⟩
   .rintro H' ⟨A4,ys,i9,SF⟩;rw[Xn,eQ]at SF;exact⟨⟨_,aM.of (A4 _ _ hL),aL _⟩,kQ H' D (s14.trans A4) (s14.free hD) ⟨ys,i9,by rw[bU];exact SF⟩⟩
end
end Pd
end
section
namespace L2
open PySem PySem.Spec PyProof.Rows
def Bq(hK:X.K=K):ku X (.builtin "sorted") (λxs H Q=>eL xs λa=>∃ns:List Int,jP K H a (ns.map V.int)/\∀(jk:List Int) p,jk.Perm ns->jk.Pairwise (·<=·)->H p=none->Q (.ref p) (upd H p (.lst (jk.map V.int)))):=by
 subst hK;exact EC
def z8(hK:X.K=K):ku X (.type "tuple") (λxs H Q=>eL xs λp=>∃ys,((aM K H p ys/\∀l,H l=none->Q (.ref l) (upd H l (.tup ys)))\/(jP K H p ys/\Q (.ref p) H))):=by
 subst hK;exact A9
end L2
namespace Pd
open PySem PySem.Spec PyProof.Rows L2 TL
noncomputable abbrev z9:Stmt:=top 45
section
def qW(k row:List Int):Prop:=k.Perm row/\k.Pairwise (·<=·)
def rR(q:MP)(fu:List Nat)(ss:List (List Int))(n:Nat)(nums:List Int):Prop:=if q.kind=jt then∃out:List (List Int),(∀k,k∈out↔∃x∈j0 fu ss q.k.toNat n,qW k x.1)/\out.Pairwise (λa b=>HT.lexLt a b=true)/\nums=out.map λr=>jZ n r 0 0 else nums=(j0 fu ss q.k.toNat n).map (·.2)
def CY(n m:Nat)(x:List Int):Prop:=x.Nodup/\(∀y∈x,0<=y/\y<n)/\x.length=m
def z_ n ss:∀x∈eJ n ss,CY n ss.length x.1:=by
 have:∀(l:List (List Int))(rows:List (List Int×Int))(m:Nat),(∀x∈rows,CY n m x.1)->∀x∈l.foldl (jm n) rows,CY n (m+l.length) x.1:=by
  intro l
  induction l with
  |nil=>intro rows m h x hx;exact h x hx
  |cons s l ih=>
   intro rows m h x hx;rw[aZ,show m+(l.length+1)=m+1+l.length by omega];refine ih (jm n rows s) (m+1) (λy hy=>?_) x hx;obtain⟨z,hz,hy⟩:=mem_flatMap.mp hy;obtain⟨u,hu,e⟩:=mem_filterMap.mp hy;split at e
   .cases e;obtain⟨a1,a2,a3⟩:=h z hz;have hm:=fst_mem_of_mem_zipIdx hu;obtain⟨b1,b2⟩:=mem_filter.mp hm;obtain⟨i,hi,e⟩:=mem_map.mp b1;have hi:=mem_range.mp hi;have b2:u.1∉z.1:=by simpa using b2
    refine⟨?_,λy hy=>?_,?_⟩
    .rw[pQ];refine⟨a1,by simp,λa ha b hb z=>?_⟩;have hbu:b=u.1:=by simpa using hb
     rw[z,hbu]at ha;exact b2 ha
    .obtain z|z:=mem_append.mp hy
     .exact a2 y z
     .have:y=u.1:=by simpa using z
      omega
    .rw[c9,a3];rfl
   .cases e
 intro x hx;have h0:∀x∈ [(([]:List Int),(0:Int))],CY n 0 x.1:=λx hx=>by
  have e:x=([],0):=‹hx›
  rw[e];exact⟨by simp,by simp,rfl⟩
 have h1:=this ss [([],0)] 0 h0 x hx;rw[jN]at h1;exact h1
noncomputable def Aa:Nat->List Int->List (List Int)
 |0,_=>[[]]|_+1,[]=>[]
 |k+1,a::l=>(Aa k l).map (a::·)++Aa (k+1) l
def Ru:∀{l r},r.Sublist l->r∈Aa r.length l:=by
 intro l
 induction l with
 |nil=>intro r h;cases h;simp[Aa]
 |cons a l ih=>
  intro r h;cases h with
  |cons _ h=>
   cases r with
   |nil=>simp[Aa]
   |cons b r=>
    show b::r∈(Aa r.length l).map (a::·)++Aa (r.length+1) l;exact mz _ (ih h)
  |@cons_cons r' _ _ h=>
   show a::r'∈(Aa r'.length l).map (a::·)++Aa (r'.length+1) l;exact w8 _ (mem_map.mpr ⟨r',ih h,rfl⟩)
theorem EK:∀{r l:List Int},r.Pairwise (·<·)->l.Pairwise (·<·)->(∀x∈r,x∈l)->r.Sublist l
 |[],l,_,_,_=>nil_sublist _|x::r,[],_,_,h=>absurd (h x ∅) ∅
 |x::r,y::l,hr,hl,h=>by
  obtain⟨a1,a2⟩:=pairwise_cons.mp hr;obtain⟨b1,b2⟩:=pairwise_cons.mp hl;by_cases c:x=y
  .subst c;refine List.Sublist.cons_cons _ (EK a2 b2 λz hz=>?_);obtain q|q:=mem_cons.mp (h z (by simp[hz]))
   .have:=a1 z hz;omega
   .exact q
  .have hx:x∈l:=by
    obtain q|q:=mem_cons.mp (h x ∅)
    .exact absurd q c
    .exact q
   refine List.Sublist.cons _ (EK hr b2 λz hz=>?_);obtain q|q:=mem_cons.mp (h z hz)
   .have h1:=b1 x hx;obtain q2|q2:=mem_cons.mp hz
    .omega
    .have:=a1 z q2;omega
   .exact q
noncomputable def r24:List Int:=(List.range 24).map λ(i:Nat)=>(i:Int)
def YH:r24.Pairwise (·<·):=by decide+kernel
theorem Hw:∀{l m:List (List Int)},l.Nodup->(∀x∈l,x∈m)->l.length<=m.length
 |[],m,_,_=>cj _
 |x::l,m,nd,h=>by
  obtain⟨h1,h2⟩:=nodup_cons.mp nd;have hx:=h x ∅;have:=Hw (l:=l) h2 λy hy=>by
   have iF:y≠x:=λe=>h1 (e▸hy);exact(xa iF).mpr (h y (by simp[hy]))
  rw[rg hx]at this;have:=wV hx;rw[aZ];omega
def few{n m:Nat}(hn:n<=24)(hm:m<=3)(nd:ks.Nodup)(h:∀k∈ks,k.Pairwise (·<·)/\(∀y∈k,0<=y/\y<n)/\k.length=m):ks.length<2100:=by
 have hs:∀k∈ks,k∈Aa m r24:=λk hk=>by
  obtain⟨a1,a2,a3⟩:=h k hk;rw[<-a3];refine Ru (EK a1 YH λy hy=>?_);have:=a2 y hy;exact mem_map.mpr ⟨y.toNat,mem_range.mpr (),by omega⟩
 have h1:=Hw nd hs;have h2:∀m:Fin 4,(Aa m.val r24).length<2100:=by decide+kernel
 have h3:=h2 ⟨m,by omega⟩;exact wJ h1 h3
theorem qW.ok{k x:List Int}(h:qW k x)(r:CY n m x):k.Pairwise (·<·)/\(∀y∈k,0<=y/\y<n)/\k.length=m:=by
 obtain⟨h1,h2⟩:=h;obtain⟨r1,r2,r3⟩:=r;refine⟨?_,λy hy=>r2 y (h1.mem_iff.mp hy),by rw[h1.length_eq];exact r3⟩;refine List.Pairwise.imp_of_mem ?_ (h2.and (h1.nodup_iff.mpr r1));omega
def qW.eq{k m x:List Int}(h:qW k x)(h2:qW m x):k=m:=by
 have p:=h.1.trans h2.1.symm;exact p.eq_of_pairwise (λa b _ _ h1 h2=>Int.le_antisymm h1 h2) h.2 h2.2
theorem Mb:∀a:List Int,HT.lexLt a a=false
 |[]=>rfl
 |x::a=>by
  rw[HT.h_,ag rfl];exact Mb a
def Rv(K:PySem.W.Frag)(Cp:Addr):Sp:=λvs H Q _=>∃(fu:List Nat) (S' p:Addr) (ss rs:List (List Int)) (q:MP) (I:List Int),vs=[.str (S fu),.ref S',.ref p]/\qV H S' ss/\jV Cp H (.ref p) rs q/\(cY rs q)[0]?=some I/\I.length<=24/\0<=q.k/\q.k<=4/\(q.kind=jt->1<=q.k/\q.k<=3)/\(∀s∈ss,s.length<=5000)/\(fu=N3->ss.length<=4)/\(fu=zZ->ss.length=1)/\(fu≠N3->fu≠zZ->ss.length=2)/\(q.kind=jt->fu=N3->(ss.length:Int)=q.k)/\
 ∀nums H' L,rR q fu ss I.length nums->nums.length<=400000->aw H H'->H L=none->H' L=some (.lst (nums.map V.int))->Q (.ref L) H'
def ja:aE ["form","sets","pool","interests","rows","risen","row","number"] ["form","sets","pool"] (ao z9):=by ac_nf
def U3(D:Def K mg "numbers_of_race" z9 ["form","sets","pool"])(T:Tx mg)(aS:CL P w K mg base "Pool" Cp ["self","name","kind","k","races","unit"] (dD Cp) ["name","kind","k","races","unit"])(j3:Ok P w K mg base eY 2 "rows_of_form" ["form","sets","k","interests"] (Rt K))(nh:Ok P w K mg base eY 3 "set_number" ["row","interests"] (JW K)):Ok P w K mg base eY 4 "numbers_of_race" ["form","sets","pool"] (Rv K Cp):=by
 refine D.ok ja (λvs H Q E h=>?_) (λf cf A outer s H vs Q E hr h=>?_)
 .obtain⟨_,_,_,_,_,_,_,rfl,_⟩:=h;rfl
 .obtain⟨fu,S',p,ss,rs,q,I,rfl,hS,hP,hI,il,k0,k4,ka,s21,h1,h2,h3,h4,kQ⟩:=h;have hz:=cE;have aeh:=UR hr;refine⟨_,(ah (aO (i:=3) ja.nd rfl (Or.inr rfl) (aC aA (by rfl) T.cv bO (ae (bH aP (bC (pv 2) rfl) aq (λ_ _=>rfl)) ai))) (ah (aO (i:=4) ja.nd rfl (Or.inl rfl) (ax j3 (hr.mono ⋯) rfl cB (ae (pv 0) (ae (pv 1) (ae (bC (pv 2) rfl) (ae (pv 3) ai)))))) (ah (cR (bq BK (bC (pv 2) rfl) bu (aG _)) (au (aI (ib (own:=[("row",6),("number",7)]) rfl ja.nd (b8 (pv 4)) (bY (N:=["form","sets","pool","interests","rows","risen","row","number"]) (sc:=ao z9) (by decide+kernel)) (λ_ _ _ _ _=>xZ (K:=K) (n:=2) rfl rfl (cJ (aT (i:=6) ja.nd rfl (Or.inl rfl)) (cJ (aT (i:=7) ja.nd rfl (Or.inl rfl)) kr))) (λ_ _ _ _ _=>dH) (λ_ _ _ _ _=>(pv 7))))) bx) (ah (aO (i:=5) ja.nd rfl (Or.inl rfl) (Yo aeh rfl (by rfl) T.iT (by rfl) T.Cy (ae (ib (own:=[("row",6),("number",7)]) rfl ja.nd (b8 (pv 4)) (bY (N:=["form","sets","pool","interests","rows","risen","row","number"]) (sc:=ao z9) (by decide+kernel)) (λ_ _ _ _ _=>xZ (K:=K) (n:=2) rfl rfl (cJ (aT (i:=6) ja.nd rfl (Or.inl rfl)) (cJ (aT (i:=7) ja.nd rfl (Or.inl rfl)) kr))) (λ_ _ _ _ _=>dH) (λ_ _ _ _ _=>(BV (z8 (K:=K) rfl) (by rfl) T.tL Ho (ae (aC (Bq (K:=K) rfl) (by rfl) T.iT boot_sorted (ae (pv 6) ai)) ai)))) ai))) (au (aI (ib (own:=[("row",6)]) rfl ja.nd (b8 (pv 5)) (bY (N:=["form","sets","pool","interests","rows","risen","row","number"]) (sc:=ao z9) (by decide+kernel)) (λ_ _ _ _ _=>aT (i:=6) ja.nd rfl (Or.inl rfl)) (λ_ _ _ _ _=>dH) (λ_ _ _ _ _=>(ax nh (hr.mono ⋯) rfl cB (ae (pv 6) (ae (pv 3) ai))))))))))),?_⟩;simp? only[cb,oA,oz];obtain⟨pp,dx,Rr,e0,nX,as,hR,vF⟩:=hP;cases e0;obtain⟨v0,NN,ia,rfl,Wk⟩:=Paired.KH vF hI;refine⟨Cp,dx,_,nX,aS.cl,aS.no "races" ∅,_,rfl,Rr,rfl,_,aM.of hR,_,eC (j:=0) NN,ia,rfl,_,.inl (aM.of Wk),Cp,dx,_,nX,aS.cl,aS.no "k" ∅,_,rfl,?_⟩;rw[az];have ek:((q.k.toNat:Nat):Int)=q.k:=by omega
  refine⟨fu,S',ss,q.k.toNat,I.length,by rw[ek],hS,s21,by omega,il,h1,h2,h3,λH1 L s1 nL abl=>?_⟩;obtain⟨vs,hL,QY⟩:=abl;have Xn:=Paired.eM QY;generalize hn:I.length=n at*;have Bf:(j0 fu ss q.k.toNat n).length<=24^4:=by
   have:∀l:List (List Int),l.length<=4->(eJ n l).length<=24^4:=λl hl=>aX (uT n il l) (sA ⋯ hl);unfold j0;split
   .exact this _ (h1 (by assumption))
   .split
    .rename_i c;exact this _ (by rw[len_rep,h2 c];omega)
    .exact aX (ou _ _) (this _ (by rw[jK];omega))
  have bL:q.kind=jt->∀x∈j0 fu ss q.k.toNat n,CY n q.k.toNat x.1:=λhk x hx=>by
   unfold j0 at hx;split at hx
   .rename_i c;have:=z_ n ss x hx;have e:ss.length=q.k.toNat:=by
     have:=h4 hk c;omega
    rw[e]at this;exact this
   .split at hx
    .rename_i c;have:=z_ n _ x hx;rw[len_rep,h2 c,xx]at this;exact this
    .have:=z_ n _ x (mem_filter.mp hx).1;rw[jK]at this;exact this
  have bU:∀nums,rR q fu ss n nums↔rR q fu ss n nums:=λ_=>Iff.rfl
  conv at bU=>ext nums;rhs;unfold rR
  generalize j0 fu ss q.k.toNat n=rows at*;refine⟨Cp,dx,_,s1 _ _ nX,aS.cl,aS.no "kind" ∅,.str (S q.kind),rfl,rfl,?_⟩;rw[show Str.ofString "any"=S jt by decide+kernel];simp only[V.str.injEq,cS];refine bo (λc=>?_) (λc=>?_)
  .refine⟨L,rfl,⟨_,aM.of hL⟩,λD hD=>?_⟩;refine zW (n:=vs.length) (λi H'=>aw H1 H'/\H' D=some (.lst (((rows.take i).map (·.2)).map V.int))) ⟨aw.new hD,ak⟩ (λi H' hi h=>⟨_,_,aM.of (h.1 _ _ hL),bt hi⟩) ?_ ?_
   .rintro i v H' H'' hi ⟨A4,i9⟩ ⟨rfl,hx⟩;have hx:=hx _ (aM.of (A4 _ _ hL));obtain⟨x,hxr,YD⟩:=Paired.at' QY hx;obtain⟨t,r,rfl,ht,GB⟩:=YD.same A4;have CP:rows.take (i+1)=rows.take i++ [x]:=bz hxr;refine⟨t,_,rfl,.inl (.inl ht),rfl,_,_,rfl,_,_,rfl,rfl,?_⟩;simp? only[F8];refine⟨rfl,_,rfl,_,i9,?_,A4.kI hD,?_⟩
    .rw[az,az,cW];have:=ow i rows.length;omega
    .rw[ak,CP,ed,ed];rfl
   .rintro H' ⟨A4,i9⟩;rw[Xn,eQ]at i9;exact⟨⟨_,aM.of (A4 _ _ hL),aL _⟩,kQ _ H' D ((bU _).mpr (by rw[af c])) (by rw[az];omega) (s1.trans A4) (s1.free hD) i9⟩
  .have hk:q.kind=jt:=by simpa using c
   have bL:=bL hk;have hk3:=ka hk;simp? only[aa7];refine⟨L,rfl,⟨_,aM.of hL⟩,λD hD=>?_⟩;refine zW (n:=vs.length) (λi H'=>aw H1 H'/\∃xs:List (Addr×List Int),H' D=some (.lst (xs.map λx=>V.ref x.1))/\Paired (λ(y:Addr×List Int)(x:List Int×Int)=>H' y.1=some (.tup (y.2.map V.int))/\qW y.2 x.1) xs (rows.take i)) ⟨aw.new hD,[],ak,.nil⟩ (λi H' hi h=>⟨_,_,aM.of (h.1 _ _ hL),bt hi⟩) ?_ ?_
   .rintro i v H' H'' hi ⟨A4,xs,i9,YJ⟩ ⟨rfl,hx⟩;have hx:=hx _ (aM.of (A4 _ _ hL));obtain⟨x,hxr,YD⟩:=Paired.at' QY hx;obtain⟨t,r,rfl,ht,GB⟩:=YD.same A4;have CP:rows.take (i+1)=rows.take i++ [x]:=bz hxr;have hlx:=Paired.eM YJ;refine⟨t,_,rfl,.inl (.inl ht),rfl,_,_,rfl,_,_,rfl,rfl,?_⟩;simp? only[F8];refine⟨rfl,_,rfl,r,rfl,x.1,.inl (.inl GB),λjk p9 pm up hp9=>⟨_,.inl ⟨aM.of ak,λl hl=>?_⟩⟩⟩;have s9:=aw.new (o:=HO.lst (List.map V.int jk)) hp9;have s10:=aw.new (o:=HO.tup (List.map V.int jk)) hl;have YK:=s9.trans s10;have abm:=YK _ _ i9;have hlD:l≠D:=λz=>by rw[z,s9 _ _ i9]at hl;cases hl
    refine⟨_,abm,?_,(A4.trans YK).kI hD,xs++ [(l,jk)],by rw[ak,ed];rfl,?_⟩
    .rw[az,hlx,cW];have:=ow i rows.length;omega
    .rw[CP];refine kn (Paired.fT YJ λy x' W9=>?_) ⟨by rw[aB hlD,ak],pm,up⟩;obtain⟨a1,a2⟩:=W9;refine⟨?_,a2⟩;rw[aB (λz=>by rw[z,i9]at a1;cases a1)];exact YK _ _ a1
   .rintro H' ⟨A4,xs,i9,YJ⟩;rw[Xn,eQ]at YJ;refine⟨⟨_,aM.of (A4 _ _ hL),aL _⟩,?_⟩;have hkx:∀k,k∈xs.map (·.2)↔∃x∈rows,qW k x.1:=λk=>by
     constructor
     .intro hm;obtain⟨y,hy,rfl⟩:=mem_map.mp hm;obtain⟨i,hi⟩:=mem_iff_getElem?.mp hy;obtain⟨x,hx,_,h5⟩:=Paired.at' YJ hi;exact⟨x,bh hx,h5⟩
     .rintro⟨x,hx,h5⟩;obtain⟨i,hi⟩:=mem_iff_getElem?.mp hx;obtain⟨y,hy,_,h6⟩:=Paired.KH YJ hi;have e:k=y.2:=h5.eq h6;rw[e];exact mem_map.mpr ⟨y,bh hy,rfl⟩
    have hko:∀k∈xs.map (·.2),k.Pairwise (·<·)/\(∀y∈k,(0:Int)<=y/\y<(n:Int))/\k.length=q.k.toNat:=λk qi=>by
     obtain⟨x,hx,h5⟩:=(hkx k).mp qi;exact h5.ok (bL x hx)
    refine⟨D,rfl,xs,aM.of i9,λy hy=>?_,λks nd hks=>few (m:=q.k.toNat) il () nd λk qi=>hko k (hks k qi),λout p9 zF mem up hp9=>?_⟩
    .obtain⟨i,hi⟩:=mem_iff_getElem?.mp hy;obtain⟨x,hx,h6,h5⟩:=Paired.at' YJ hi;refine⟨.inl (.inl h6),λz=>?_⟩;have:=(hko y.2 (mem_map.mpr ⟨y,hy,rfl⟩)).2.2;rw[z]at this;simp at this;omega
    .have s9:=aw.new (o:=HO.lst (List.map (λx=>V.ref x.1) out)) hp9;have s19:=(s1.trans A4).trans s9;have Wd:out.length<2100:=by
      have nd:(out.map (·.2)).Nodup:=up.imp λh e=>by rw[e,Mb]at h;cases h
      have:=few (m:=q.k.toNat) il () nd λk qi=>hko k ((mem k).mp qi);rw[az]at this;exact this
     refine⟨p9,rfl,⟨_,aM.of ak⟩,λD2 Ux=>?_⟩;refine fR (xs:=out.map λx=>V.ref x.1) (λH v (z:Int)=>v=.int z) out (λx=>some (jZ n x.2 0 0)) ∅ (by simp;omega) Ux (aM.of ak) (λ_ _ _ _ _ e=>e) ?_ ?_
     .intro i x u H5 hx hu sm5 _ R k2;have e:x=.ref u.1:=by
       rw[a_,hu]at hx;exact(Option.some.inj hx).symm
      subst e;have hum:=bh hu;obtain⟨o1,o2,o3⟩:=hko u.2 ((mem _).mp (mem_map.mpr ⟨u,hum,rfl⟩));simp? only[JW];exact⟨u.1,u.2,n,⟨rfl,rfl⟩,aw.tup (s9.trans sm5) (zF u hum),by omega,il,o2,o1,λH6 s6=>k2 _ _ _ rfl s6 rfl⟩
     .intro H5 ys zs sm5 JX hm5 hp5;rw[de]at hm5;cases hm5;have JX:H5 D2=some (.lst ((out.map λx=>jZ n x.2 0 0).map V.int)):=by rw[JX,fm hp5]
      refine kQ _ H5 D2 ((bU _).mpr ?_) (by rw[az];omega) (s19.trans sm5) (s19.free Ux) JX;rw[ag hk];refine⟨out.map (·.2),λk=>(mem k).trans (hkx k),up,?_⟩;rw[bQ];rfl
end
noncomputable abbrev mn:Stmt:=inClass (top 34) 0
noncomputable abbrev Md:Stmt:=top 36
section
variable {Cb:Addr}
noncomputable def abn(vp vst vss vn:V):List (Str×V):=[("pool",vp),("stake",vst),("sets",vss),("numbers",vn)]
def jC(Cb:Addr):Sp:=λvs H Q _=>∃(p dx:Addr) (vp vst vss vn:V),vs=[.ref p,vp,vst,vss,vn]/\H p=some (.ins Cb dx [])/\∀H',H' p=some (.ins Cb dx (abn vp vst vss vn))->(∀b o,H b=some o->b≠p->H' b=some o)->Q .cT H'
def N9:aE ["self","pool","stake","sets","numbers"] ["self","pool","stake","sets","numbers"] (ao mn):=by ac_nf
def JY(F:K9 K "__init__" "Bet.__init__" mn f fd)(C:FV K Cb)(n1:cG K Cb "pool")(n2:cG K Cb "stake")(n3:cG K Cb "sets")(n4:cG K Cb "numbers"):
  oa P w K mg base eY 1 f fd ["self","pool","stake","sets","numbers"] (jC Cb):=by
 refine F.ok N9 (λvs H Q E h=>?_) (λcf A outer s H vs Q E hr h=>?_)
 .obtain⟨_,_,_,_,_,_,rfl,_⟩:=h;rfl
 .obtain⟨p,dx,vp,vst,vss,vn,rfl,hp,k⟩:=h;refine⟨_,(ah (i6 (pv 0) (pv 1) rfl) (ah (i6 (pv 0) (pv 2) rfl) (ah (i6 (pv 0) (pv 3) rfl) (au (i6 (pv 0) (pv 4) rfl))))),?_⟩;refine⟨p,Cb,dx,[],rfl,hp,C,n1,⋯,?_⟩;refine⟨p,Cb,dx,_,rfl,ak,C,n2,Js,?_⟩;rw[iC];refine⟨p,Cb,dx,_,rfl,ak,C,n3,Jt,?_⟩;rw[iC];refine⟨p,Cb,dx,_,rfl,ak,C,n4,Qy,?_⟩;rw[iC];refine k _ ?_ λb o e hb=>by rw[aB hb];exact e
  rw[ak];rfl
noncomputable def U4:List Nat:=[98,101,116]
noncomputable def U5:List Nat:=[102,111,114]
def oZ(codes:List Nat)(rs:List (List Int))(ps:List MP)(r:Option (MP×Int×List (List Int)×Option (List Int))):Prop:=
 match i7 codes with
 |some [ws]=>if 6<=ws.length/\ws.getD 0 []=U4/\ws.getD 2 []=U5 then(match ps.filter (λq=>decide (q.name=ws.getD 1 []))with
  |[q]=>match oW (ws.getD 3 []) q.u with
   |none=>r=none
   |some st=>match jY (ws.drop 4) q (cY rs q)with
    |none=>r=none
    |some ss=>if q.kind=cu then(if 0<jj ss/\st*jj ss<=2147483647 then r=some (q,st,ss,if jj ss<=262144 then some (oY (ss.zip (cY rs q)))else none)else r=none)
     else∃nums,rR q (ws.getD 4 []) ss ((cY rs q).getD 0 []).length nums/\(if 0<(nums.length:Int)/\st*(nums.length:Int)<=2147483647 then r=some (q,st,ss,some nums)else r=none)
  |_=>r=none)else r=none
 |_=>r=none
def Ab(K:PySem.W.Frag)(Cp Cb:Addr)(H:Hp)(v:V)(rs:List (List Int))(r:MP×Int×List (List Int)×Option (List Int)):Prop:=∃b dx p S' vn,v=.ref b/\H b=some (.ins Cb dx (abn (.ref p) (.int r.2.1) (.ref S') vn))/\jV Cp H (.ref p) rs r.1/\qV H S' r.2.2.1/\
 (match r.2.2.2 with
 |none=>vn=.cT|some nums=>∃L,vn=.ref L/\H L=some (.lst (nums.map V.int))/\nums.length<=400000)
theorem Ab.same{r:MP×Int×List (List Int)×Option (List Int)}(h:Ab K Cp Cb H v rs r)(s:aw H H'):Ab K Cp Cb H' v rs r:=by
 obtain⟨b,dx,p,S',vn,e,h1,h2,h3,h4⟩:=h;refine⟨b,dx,p,S',vn,e,s _ _ h1,h2.same s,vJ.same h3 s,?_⟩;obtain⟨_,_,_,o⟩:=r;cases o with
 |none=>exact h4
 |some nums=>
  obtain⟨L,e,h,hl⟩:=h4;exact⟨L,e,s _ _ h,hl⟩
structure YL(rs:List (List Int))(q:MP):Prop where
 N_:Nu rs q
 u:0<q.u/\q.u<=10000
 nl:q.kind≠cu->q.k<=4
 any:q.kind=jt->2<=q.k/\q.k<=3
def oZ.mem{ps:List MP}{r:MP×Int×List (List Int)×Option (List Int)}(h:oZ codes rs ps (some r)):r.1∈ps:=by
 unfold oZ at h;split at h
 .split at h
  .split at h
   .rename_i q hq;have hm:=(mem_filter.mp (by rw[hq];simp:q∈ps.filter _)).1;split at h
    .cases h
    .split at h
     .cases h
     .split at h
      .split at h
       .cases h;exact hm
       .cases h
      .obtain⟨_,_,h⟩:=h;split at h
       .cases h;exact hm
       .cases h
   .cases h
  .cases h
 .cases h
theorem t9:∀{l acc}{w},w∈cut c acc l->w.length<=acc.length+l.length
 |[],acc,w,h=>by
  have:w=acc:=by simpa[cut]using h
  rw[this];simp
 |x::r,acc,w,h=>by
  unfold cut at h;split at h
  .obtain z|z:=mem_cons.mp h
   .rw[z];omega
   .have:=t9 z;simp at this⊢;omega
  .have:=t9 h;simp at this⊢;omega
def Oa(h:i7 codes=some [ws]):∀t∈ws,t.length<=codes.length:=λt ht=>by
 unfold i7 at h;split at h
 .have h:=Option.some.inj h;have hm:ws∈(cut 10 [] codes).dropLast.map (cut 32 []):=by rw[h];simp
  obtain⟨l,hl,rfl⟩:=mem_map.mp hm;have h1:=t9 ht;have h2:=t9 ((dropLast_sublist _).subset hl);simp at h1 h2;omega
 .cases h
def Rw(h:Nu rs q):∀r∈cY rs q,r∈rs:=λr hr=>by
 unfold cY mZ at hr;split at hr
 .exact ox (mem_of_mem_take hr)
 .have e:r=rs.getD (q.race-1).toNat []:=by simpa using hr
  have h1:=h.r1;have h2:=h.r2;rw[e,cU,bt ()];exact pY _
def Ob(h:Nu rs q)(hk:q.kind=cu):((cY rs q).length:Int)=q.k:=by
 unfold cY mZ;rw[ag hk,cW,dW];have h1:=h.r1;have h2:=h.legs hk;have h3:=h.k1;omega
def Rx(hk:q.kind≠cu):(cY rs q).length=1:=by
 unfold cY mZ;rw[af hk];rfl
def U6(h:n∈I):0<=t7 I n/\t7 I n<(I.length:Int):=by
 unfold t7;have:(I.findIdx λx=>decide (x=n))<I.length:=findIdx_lt_length_of_exists ⟨n,h,by simp⟩;omega
def t_(ps I:List Int):Prop:=ps.Pairwise (·<·)/\(∀x∈ps,0<=x/\x<(I.length:Int))/\ps≠ []/\ps.length<=I.length
def x4{t:List Nat}{I ps:List Int}(h:setM t I=some ps):t_ ps I:=by
 unfold setM at h;split at h
 .rename_i fB;split at h
  .rename_i YG;cases h;have mq:∀x∈((cut 44 [] t).map dz).map (t7 I),0<=x/\x<(I.length:Int):=λx hx=>by
    obtain⟨n,hn,rfl⟩:=mem_map.mp hx;exact U6 ‹all_eq_true.mp fB n hn›
   refine⟨YG,mq,by simp[D7],?_⟩;have h1:=tZ (m:=(List.range I.length).map λ(i:Nat)=>(i:Int)) (YG.imp λh=>Int.ne_of_lt h) λx hx=>by
    have:=mq x hx;exact mem_map.mpr ⟨x.toNat,mem_range.mpr (),by omega⟩
   simp only[length_map,length_range]at h1⊢;exact h1
  .cases h
 .cases h
theorem CZ{f:α×List Int->Option (List Int)}(hf:∀x r y,f (x,r)=some y->t_ y r):∀{ws:List α}{R}{ss},ws.length=R.length->cK f (ws.zip R)=some ss->Paired t_ ss R
 |[],[],ss,_,h=>by
  cases h;exact .nil
 |w::ws,r::R,ss,hl,h=>by
  obtain⟨y,ys,h1,h2,rfl⟩:=bK.mp (show cK f ((w,r)::ws.zip R)=some ss from h);exact .cons (hf _ _ _ h1) (CZ hf ‹hl› h2)
theorem Ac:∀{ss R},Paired t_ ss R->(∀r∈R,r=I)->∀s∈ss,t_ s I
 |_,_,.nil,_=>by simp
 |_,_,.cons h t,e=>by
  intro s hs;obtain z|z:=mem_cons.mp hs
  .rw[z,<-e _ (b9 ..)];exact h
  .exact Ac t (λr hr=>e r (by simp[hr])) s z
structure Wr(fu:List Nat)(q:MP)(R ss:List (List Int)):Prop where
 legs:q.kind=cu->fu=N3/\Paired t_ ss R
 one:q.kind≠cu->∀s∈ss,t_ s (R.getD 0 [])
 on:fu=N3->(ss.length:Int)=wq q
 box:fu=zZ->ss.length=1
 key:fu≠N3->fu≠zZ->ss.length=2
def Ry(h:jY ws q R=some ss)(k1:1<=q.k)(hl:q.kind=cu->(R.length:Int)=q.k)(hn:q.kind≠cu->R.length=1):Wr (ws.getD 0 []) q R ss:=by
 unfold jY at h;split at h
 .rename_i ho;unfold Rj at h;split at h
  .split at h
   .have hev:((L2.bA (ws.drop 1)).length:Int)=wq q:=by
     rw[jz];omega
    have hp:Paired t_ ss (if q.kind=cu then R else(List.replicate (wq q).toNat R).flatten):=by
     refine CZ (λx r y hy=>x4 hy) ?_ h;split
     .rename_i c;have:=hl c;have:wq q=q.k:=by
       unfold wq;rw[af (by rw[c];decide)]
      omega
     .rename_i c;rw[len_rep,hn c];omega
    have hlen:=Paired.eM hp;refine⟨λc=>⟨ho,by rw[ag c]at hp;exact hp⟩,λc=>?_,λ_=>?_,λc=>absurd (ho.symm.trans c) ⋯,λc=>absurd ho c⟩
    .rw[af c]at hp;refine Ac hp λr hr=>?_;obtain⟨l,hl,hr⟩:=mem_flatten.mp hr;rw[wH hl]at hr;obtain⟨r',GB⟩:=length_eq_one_iff.mp (hn c);rw[GB]at hr⊢;simpa using hr
    .rw[hlen];split
     .rename_i c;rw[hl c];unfold wq;rw[af (by rw[c];decide)]
     .rename_i c;rw[len_rep,hn c];omega
   .cases h
  .cases h
 .rename_i ho;split at h
  .rename_i hk;have hkl:q.kind≠cu:=λz=>by rw[z]at hk;revert hk;decide
   split at h
   .rename_i hb;unfold Bn at h;split at h
    .split at h
     .cases h
     .rename_i s es;split at h
      .cases h;exact⟨λc=>absurd c hkl,λ_ s hs=>by rw[mem_singleton.mp hs];exact x4 es,λc=>absurd c ho,λ_=>rfl,λ_ c=>absurd hb c⟩
      .cases h
    .cases h
   .rename_i hb;split at h
    .unfold EG at h;split at h
     .split at h
      .cases h
      .rename_i A eA;split at h
       .cases h
       .rename_i B eB;split at h
        .split at h
         .split at h
          .cases h;refine⟨λc=>absurd c hkl,λ_ s hs=>?_,λc=>absurd c ho,λc=>absurd c hb,λ_ _=>rfl⟩;obtain z|z:=mem_cons.mp hs
           .rw[z];exact x4 eA
           .rw[mem_singleton.mp z];exact x4 eB
          .cases h
         .cases h
        .cases h
     .cases h
    .cases h
  .cases h
def C1 ns x:(gf ns x).length=ns.length*x.1.length:=by
 unfold gf;rw[length_flatMap]
 induction ns with
 |nil=>simp
 |cons a l ih=>
  rw[aJ,sum_cons,ih,az,aZ,Nat.succ_mul,sQ]
theorem Hx:∀(ss R:List (List Int)) ns,ss.length=R.length->((((ss.zip R).foldl gf ns).length:Nat):Int)=ss.foldl (λr (l:List Int)=>r*(l.length:Int)) (ns.length:Int)
 |[],[],ns,_=>rfl
 |s::ss,r::R,ns,h=>by
  show((((ss.zip R).foldl gf (gf ns (s,r))).length:Nat):Int)=_;rw[Hx ss R _ ‹h›,C1];simp
def Oc{ss R:List (List Int)}(iF:∀s∈ss,s≠ [])(hl:ss.length=R.length) i:(oY ((ss.zip R).take i)).length<=(oY (ss.zip R)).length:=by
 have grow:∀(l:List (List Int×List Int))(ns:List Int),(∀x∈l,x.1≠ [])->ns.length<=(l.foldl gf ns).length:=by
  intro l
  induction l with
  |nil=>intro ns _;exact aL _
  |cons x l ih=>
   intro ns h;refine aX ?_ (ih (gf ns x) λy hy=>h y (by simp[hy]));rw[C1];exact Nat.le_mul_of_pos_right _ (length_pos_iff.mpr (h x ∅))
 have e:oY (ss.zip R)=((ss.zip R).drop i).foldl gf (oY ((ss.zip R).take i)):=by
  unfold oY;rw[<-sR,sG]
 rw[e];exact grow _ _ λx hx=>iF _ (mL (ox hx)).1
def Rz(K:PySem.W.Frag)(NB Cp Cb:Addr):Sp:=λvs H Q E=>∃(a L:Addr) (ns:List Int) (rs:List (List Int)) (ps:List MP),vs=[.ref a,.ref L]/\aM K H a (ns.map V.int)/\(∀n∈ns,0<=n/\n<=255)/\ns.length<=4180/\zA Cp H L rs ps/\(∀q∈ps,YL rs q)/\(∀r∈rs,r.length<=24/\∀x∈r,0<=x)/\
 (∀r,oZ (ck ns) rs ps (some r)->∀H' v,aw H H'->Ab K Cp Cb H' v rs r->Q v H')/\(oZ (ck ns) rs ps none->∀H',aw H H'->E (.ref NB) none H')
def ni:aE ["codes","pools","lines","words","pool","stake","sets","count","numbers"] ["codes","pools"] (ao Md):=by ac_nf
def U7(D:Def K mg "read_bet" Md ["codes","pools"])(T:Tx mg)(jB:Ok P w K mg base eY 2 "text_of" ["codes"] (Jn K))(ip:Ok P w K mg base eY 2 "lines_of" ["text"] D8)(aK:Ok P w K mg base (fU P w) 1 "require" ["holds"] (aD NB))(ll:Ok P w K mg base (fU P w) 2 "pool_called" ["name","pools"] (Hr NB Cp))(nj:Ok P w K mg base (fU P w) 2 "read_stake" ["word","unit"] (LX NB))(o4:Ok P w K mg base (fU P w) 4 "read_sets" ["words","pool"] (Rk K NB Cp))(dg:Ok P w K mg base eY 1 "count_choices" ["lists"] Ej)(gO:Ok P w K mg base (fU P w) 2 "check_staked" ["stake","combinations"] (Hq NB))(lq:Ok P w K mg base eY 1 "leg_numbers" ["sets","races"] (Rp K))(gP:Ok P w K mg base eY 4 "numbers_of_race" ["form","sets","pool"] (Rv K Cp))(aS:CL P w K mg base "Pool" Cp ["self","name","kind","k","races","unit"] (dD Cp) ["name","kind","k","races","unit"])(j4:CL P w K mg base "Bet" Cb ["self","pool","stake","sets","numbers"] (jC Cb) ["pool","stake","sets","numbers"]):Ok P w K mg base (fU P w) 5 "read_bet" ["codes","pools"] (Rz K NB Cp Cb):=by
 refine D.Cj ni (λvs H Q E h=>?_) (λf cf A outer s H vs Q E hr h=>?_)
 .obtain⟨_,_,_,_,_,rfl,_⟩:=h;rfl
 .obtain⟨a,L,ns,rs,ps,rfl,hS,hb,hl,hC,hpb,hrs,kQ,kE⟩:=h;refine⟨_,(ah (aO (i:=2) ni.nd rfl (Or.inl rfl) (ax ip (hr.mono ⋯) rfl cB (ae (ax jB (hr.mono ⋯) rfl cB (ae (pv 0) ai)) ai))) (ah (aQ (ax (E:=E) aK (hr.mono ⋯) rfl (aW aH) (ae (kW (aU KP (pv 2) ro (aG _)) (i5 (aU cD (aC aA (by rfl) T.cv bO (ae (pv 2) ai)) aq (aG _)))) ai))) (ah (aO (i:=3) ni.nd rfl (Or.inl rfl) (bH aP (pv 2) aq (λ_ _=>rfl))) (ah (aQ (ax (E:=E) aK (hr.mono ⋯) rfl (aW aH) (ae (kW (aU FT (aC aA (by rfl) T.cv bO (ae (pv 3) ai)) (cO T.fL rfl) (aG _)) (kW (aU cD (bH aP (pv 3) aq (λ_ _=>rfl)) bu (aG _)) (i5 (aU cD (bH aP (pv 3) aq (λ_ _=>rfl)) bu (aG _))))) ai))) (ah (aO (i:=4) ni.nd rfl (Or.inl rfl) (ax (E:=E) ll (hr.mono ⋯) rfl (aW aH) (ae (bH aP (pv 3) aq (λ_ _=>rfl)) (ae (pv 1) ai)))) (ah (aO (i:=5) ni.nd rfl (Or.inl rfl) (ax (E:=E) nj (hr.mono ⋯) rfl (aW aH) (ae (bH aP (pv 3) aq (λ_ _=>rfl)) (ae (bC (pv 4) rfl) ai)))) (ah (aO (i:=6) ni.nd rfl (Or.inl rfl) (ax (E:=E) o4 (hr.mono ⋯) rfl (aW aH) (ae (iP kz (pv 3) (iE aq) qg) (ae (pv 4) ai)))) (ah (cR (bq cD (bC (pv 4) rfl) bu (aG _)) (ah (aO (i:=7) ni.nd rfl (Or.inl rfl) (ax dg (hr.mono ⋯) rfl cB (ae (pv 6) ai))) (ah (aQ (ax (E:=E) gO (hr.mono ⋯) rfl (aW aH) (ae (pv 5) (ae (pv 7) ai)))) (au (aO (i:=8) ni.nd rfl (Or.inl rfl) (yt (bq jQ (pv 7) (cO T.d7 rfl) (aG _)) (ax lq (hr.mono ⋯) rfl cB (ae (pv 6) (ae (bC (pv 4) rfl) ai))) ro))))) (ah (aO (i:=8) ni.nd rfl (Or.inl rfl) (ax gP (hr.mono ⋯) rfl cB (ae (bH aP (pv 3) aq (λ_ _=>rfl)) (ae (pv 6) (ae (pv 4) ai))))) (au (aQ (ax (E:=E) gO (hr.mono ⋯) rfl (aW aH) (ae (pv 5) (ae (aC aA (by rfl) T.cv bO (ae (pv 8) ai)) ai))))))) (au (aI (V0 j4 (hr.mono ⋯) rfl (ae (pv 4) (ae (pv 5) (ae (pv 6) (ae (pv 8) ai))))))))))))))),?_⟩;simp? only[cb,aD];have hz:=cE;have A_:(ck ns).length<=4180:=by unfold ck;rw[az];exact hl
  have hc1:∀c∈ck ns,c<128:=λc hc=>by
   unfold ck at hc;obtain⟨n,_,rfl⟩:=mem_map.mp hc;exact V5 _
  refine⟨a,ns,rfl,hS,hb,by omega,λH1 s1=>⟨ck ns,rfl,by omega,hc1,?_⟩⟩;cases el:i7 (ck ns)with
  |none=>
   intro H2 s2;rw[af ∅];exact kE (by unfold oZ;rw[el]) H2 (s1.trans s2)
  |some ls=>
  intro H2 L2 s2 hLs;obtain⟨_,as,hA,Rm⟩:=hLs;have Wm:=Paired.eM Rm;have N4:=s1.trans s2;rw[ag ∅];refine⟨L2,rfl,_,.inl (aM.of hA),?_⟩;refine bo (λb=>?_) (λb=>kE ?_ H2 N4)
  case refine_2=>
   unfold oZ;rw[el]
   match ls,Wm with
   |[],_=>rfl|[_],h=>exact absurd (show((as.length:Nat):Int)=1 by rw[h];rfl) b
   |_::_::_,_=>rfl
  obtain⟨ws,rfl⟩:∃ws,ls=[ws]:=length_eq_one_iff.mp ();obtain⟨v0,NN,pw,rfl,hw⟩:=Paired.KH Rm (show [ws][0]?=some ws from rfl);have A5:∀r,oZ (ck ns) rs ps r=oZ (ck ns) rs ps r:=λ_=>rfl
  conv at A5=>ext r;rhs;unfold oZ
  simp only[el]at A5;have Ci:∀t∈ws,t.length<=4190:=λt ht=>by
   have:=Oa el t ht;omega
  refine⟨L2,rfl,_,aM.of hA,_,eC (j:=0) NN,pw,rfl,_,.inl (aM.of hw.1),?_⟩;rw[az];refine bo (λc=>?_) (λc=>kE (by rw[A5,af ()]) H2 N4);have c:6<=ws.length:=by omega
  have uK:∀i:Nat,i<6->ws[i]?=some (ws.getD i []):=λi hi=>by
   rw[cU,bt ()];rfl
  refine⟨pw,rfl,_,aM.of hw.1,_,(hw.at (uK 0 ⋯)).1,rfl,?_⟩;rw[show Str.ofString "bet"=S U4 by decide+kernel,show Str.ofString "for"=S U5 by decide+kernel];simp only[V.str.injEq,cS];refine bo (λd=>?_) (λd=>kE (by rw[A5,af (λz=>d z.2.1)]) H2 N4);refine⟨pw,rfl,_,aM.of hw.1,_,(hw.at (uK 2 ⋯)).1,rfl,?_⟩;simp only[V.str.injEq,cS];refine bo (λe=>?_) (λe=>kE (by rw[A5,af (λz=>e z.2.2)]) H2 N4);simp only[if_pos (show 6<=ws.length/\ws.getD 0 []=U4/\ws.getD 2 []=U5 from⟨c,d,e⟩)]at A5;obtain⟨rv,hR,hPo⟩:=hC.same N4;refine⟨pw,rfl,_,aM.of hw.1,_,(hw.at (uK 1 ⋯)).1,ws.getD 1 [],L,rv,ps,rfl,hPo,λq hq H3 v s3 hpi=>?_,λiF H3 s3=>kE ?_ H3 (N4.trans s3)⟩
  case refine_2=>
   rw[A5];generalize ps.filter (λq=>decide (q.name=ws.getD 1 []))=F at*
   match F,iF with
   |[],_=>rfl|[_],h=>exact absurd rfl h
   |_::_::_,_=>rfl
  simp only[hq]at A5;have hqm:q∈ps:=(mem_filter.mp (by rw[hq];simp:q∈ps.filter λq=>decide (q.name=ws.getD 1 []))).1;have pb:=hpb q hqm;have U2:=N4.trans s3;have SH:=hw.same s3;have UX:Paired (fW H3) rv rs:=Paired.fT hR λ_ _ z=>z.same s3;have hPA:=hpi.at UX pb.N_;obtain⟨pp,dx,Rr,rfl,nX,hRR⟩:=id hPA;refine⟨pw,rfl,_,aM.of SH.1,_,(hw.at (uK 3 ⋯)).1,?_⟩;simp only[oz,yn,yl];refine⟨_,rfl,Cp,dx,_,nX,aS.cl,aS.no "unit" ∅,_,rfl,ws.getD 3 [],q.u,rfl,(hw.at (uK 3 ⋯)).2,pb.u.1,pb.u.2,?_⟩;cases ZD:oW (ws.getD 3 []) q.u with
  |none=>exact kE (by rw[A5,ZD]) H3 U2
  |some st=>
  simp only[ZD]at A5;dsimp only;refine⟨pw,rfl,_,aM.of SH.1,λp5 hp5=>?_⟩;have s5:=aw.new (o:=HO.lst (lN (ws.map λw=>V.str (S w)) (some 4) none)) hp5;have s15:=U2.trans s5;have Zx:=Ob (rs:=rs) pb.N_;have Wl:=Rx (rs:=rs) (q:=q);have Bf:∀r∈cY rs q,r.length<=24/\∀x∈r,0<=x:=λr hr=>hrs r (Rw pb.N_ r hr);have hw5:Words (upd H3 p5 (.lst (lN (ws.map λw=>V.str (S w)) (some 4) none))) p5 (ws.drop 4):=by
   refine⟨?_,?_,?_,λt ht=>hw.2.2.2 t (ox ht)⟩
   .rw[ak,show lN (ws.map λw=>V.str (S w)) (some 4) none=(ws.map λw=>V.str (S w)).drop 4 from qu _ 4,<-map_drop]
   .intro z;have:=b_ List.length z;rw[dW,pL]at this;omega
   .rw[dW];have:=hw.2.2.1;omega
  refine⟨p5,pp,ws.drop 4,rs,q,rfl,hw5,by rw[dW];omega,λt ht=>Ci t (ox ht),hPA.same s5,pb.N_.k1,pb.N_.k2,Zx,Wl,λr hr=>⟨by have:=(Bf r hr).1;omega,(Bf r hr).2⟩,λss es H6 S6 s6 SQ=>?_,λes H6 s6=>kE (by rw[A5,es]) H6 (s15.trans s6)⟩;simp only[es]at A5;have s16:=s15.trans s6;have s36:=s5.trans s6;have ZE:Wr (ws.getD 4 []) q (cY rs q) ss:=by
   have:=Ry es pb.N_.k1 Zx Wl
   rwa [show(ws.drop 4).getD 0 []=ws.getD 4 [] by simp[getD_eq_getElem?_getD]]at this
  have abo:=hPA.same s36;have abp:=s36 _ _ nX;have mk:∀(H7:Hp)(vn:V)(on:Option (List Int)),aw H6 H7->oZ (ck ns) rs ps (some (q,st,ss,on))->(match on with
    |none=>vn=.cT
    |some nums=>∃L,vn=.ref L/\H7 L=some (.lst (nums.map V.int))/\nums.length<=400000)->∀x dx,H7 x=none->H7 dx=none->dx≠x->jC Cb [V.ref x,V.ref pp,V.int st,V.ref S6,vn] (upd (upd H7 dx (HO.own x)) x (HO.ins Cb dx [])) (λv H2=>v=V.cT/\Q (V.ref x) H2) E0:=by
   intro H7 vn on s7 hb hn x dx nx ndx nex;refine⟨x,dx,_,_,_,_,rfl,ak,λH8 h8 k8=>⟨rfl,?_⟩⟩;have s8:=aw.made nx ndx k8;refine kQ _ hb H8 _ ((s16.trans s7).trans s8) ⟨x,dx,pp,S6,vn,rfl,h8,abo.same (s7.trans s8),vJ.same SQ (s7.trans s8),?_⟩;cases on with
   |none=>exact hn
   |some nums=>
    obtain⟨L,e,h,hl⟩:=hn;exact⟨L,e,s8 _ _ h,hl⟩
  have st0:0<=st/\st<=1000000:=by
   unfold oW at ZD;split at ZD
   .cases ZD;omega
   .cases ZD
  refine⟨_,rfl,Cp,dx,_,abp,aS.cl,aS.no "kind" ∅,_,rfl,rfl,?_⟩;rw[zp];simp only[V.str.injEq,cS];refine bo (λkl=>?_) (λkl=>?_)
  .simp only[if_pos kl]at A5;have IP:=(ZE.legs kl).2;have hlen:=Paired.eM IP;have hg:∀s∈ss,∃r∈cY rs q,t_ s r:=λs hs=>by
    obtain⟨i,hi,e⟩:=mG hs;obtain⟨r,hr,g⟩:=Paired.at' IP (bt hi);exact⟨r,bh hr,e▸g⟩
   have Zn:∀s∈ss,s.length<=24:=λs hs=>by
    obtain⟨r,hr,g⟩:=hg s hs;have:=(Bf r hr).1;have:=g.2.2.2;omega
   refine⟨S6,ss,rfl,SQ,λs hs=>by have:=Zn s hs;omega,st,_,rfl,st0.1,st0.2,?_⟩;refine bo (λcs=>?_) (λcs=>kE (by rw[A5,af cs]) H6 s16);simp only[if_pos cs]at A5;dsimp only[ZR];simp only[BL,Tv,tC,O5,yn,BM,vx,IB,oz,yl,fH,kU];refine⟨_,rfl,_,rfl,_,rfl,_,rfl,?_⟩;simp only[decide_eq_true_eq];refine bo (λcn=>?_) (λcn=>?_)
   .simp only[if_pos cn]at A5;have hL:=Hx ss (cY rs q) [0] hlen;have hL:(((oY (ss.zip (cY rs q))).length:Nat):Int)=jj ss:=hL;refine⟨_,rfl,_,rfl,Cp,dx,_,abp,aS.cl,aS.no "races" ∅,_,rfl,S6,_,ss,cY rs q,rfl,SQ,hRR.same s36,hlen,λs hs=>by have:=Zn s hs;omega,λr hr=>by have:=(Bf r hr).1;omega,λi=>?_,λH7 L7 s7 n7 h7=>?_⟩
    .have:=Oc (R:=cY rs q) (λs hs=>by obtain⟨r,_,g⟩:=hg s hs;exact g.2.2.1) hlen i;omega
    .exact mk H7 _ (some _) s7 (by rw[A5]) ⟨L7,rfl,h7,by omega⟩
   .simp only[if_neg cn]at A5;exact mk H6 _ none aw.rfl' (by rw[A5]) rfl
  .simp only[if_neg kl]at A5;have h1:=Wl kl;have hn4:=pb.nl kl;have hI:(cY rs q)[0]?=some ((cY rs q).getD 0 []):=by
    rw[cU,bt ()];rfl
   have aei:=(Bf _ (bh hI)).1;have Zq:=pb.N_.k1;have hon:1<=wq q/\wq q<=4:=by
    unfold wq;split<;>omega
   refine⟨pw,rfl,_,aM.of (SH.same s36).1,_,(hw.at (uK 4 ⋯)).1,ws.getD 4 [],S6,pp,ss,rs,q,_,rfl,SQ,abo,hI,aei,by omega,hn4,λc=>by have:=pb.any c;omega,λs hs=>by have:=(ZE.one kl s hs).2.2.2;omega,λc=>by have:=ZE.on c;omega,ZE.box,ZE.key,λca co=>?_,λnums H7 L7 hnu aej s7 n7 h7=>?_⟩
   .rw[ZE.on co];unfold wq;rw[af (by rw[ca];decide)]
   refine⟨L7,rfl,_,.inl (aM.of h7),st,_,rfl,st0.1,st0.2,?_⟩;rw[az];refine bo (λcs=>?_) (λcs=>kE (by rw[A5];exact⟨nums,hnu,by rw[af cs]⟩) H7 (s16.trans s7));exact mk H7 _ (some nums) s7 (by rw[A5];exact⟨nums,hnu,by rw[ag cs]⟩) ⟨L7,rfl,h7,aej⟩
end
noncomputable def toK(g:tS):List (Key×V):=g.map λp=>(Sum.inl p.1,V.int p.2)
def RA g:(toK g).map (·.1)=(bp g).map Sum.inl:=by
 unfold toK bp;rw[bQ,bQ];rfl
def U8 g:(toK g).length=g.length:=by unfold toK;rw[az]
def Mf g k:eO (toK g) (Sum.inl k)=(aY g k).map V.int:=by
 induction g with
 |nil=>rfl
 |cons p g ih=>
  show eO ((Sum.inl p.1,V.int p.2)::toK g) (Sum.inl k)=_;rw[cH];by_cases h:p.1=k
  .rw[ag h,cz (by rw[h])];rfl
  .rw[af h,cA (λz=>h (Sum.inl.inj z)),ih]
def Mg g k v:putK (toK g) (Sum.inl k) (V.int v)=toK (mj g k v):=by
 have e:((toK g).any λkv=>decide (kv.1=Sum.inl k))=(g.any λp=>decide (p.1=k)):=by
  unfold toK;rw[any_map];congr 1;funext p;show decide ((Sum.inl p.1:Key)=Sum.inl k)=decide (p.1=k);by_cases h:p.1=k
  .rw[hX h,hX (by rw[h])]
  .rw[cV h,cV (λz=>h (Sum.inl.inj z))]
 unfold putK mj;rw[e];split
 .unfold toK;rw[bQ,bQ];apply fE;intro p _;show(if(Sum.inl p.1:Key)=Sum.inl k then((Sum.inl p.1:Key),V.int v)else(Sum.inl p.1,V.int p.2))=_;by_cases h:p.1=k
  .rw[ag (by rw[h])];show _=(Sum.inl (if p.1=k then(p.1,v)else p).1,V.int (if p.1=k then(p.1,v)else p).2);rw[ag h]
  .rw[af (λz=>h (Sum.inl.inj z))];show _=(Sum.inl (if p.1=k then(p.1,v)else p).1,V.int (if p.1=k then(p.1,v)else p).2);rw[af h]
 .unfold toK;rw[ed];rfl
theorem C2:∀l g,(bp (g++l)).Nodup->kY (toK g) (toK l)=toK (g++l)
 |[],g,_=>by
  rw[hZ];rfl
 |p::l,g,h=>by
  have hk:p.1∉bp g:=by
   intro z;unfold bp at h z;rw[ed,pQ]at h;exact h.2.2 _ z _ ∅ rfl
  have e:mj g p.1 p.2=g++ [p]:=by
   unfold mj;rw[af (λz=>hk (any_keys.mp z))]
  show kY (putK (toK g) (Sum.inl p.1) (V.int p.2)) (toK l)=_;rw[Mg,e,C2 l (g++ [p]) (by rw[g_];exact h),g_];rfl
theorem Ad:∀ms:List Int,ms.length%2=0->L2.bA (ms.map V.int)=((bp (bj ms)).map (Sum.inl:Int->Key)).map kV
 |[],_=>rfl|[_],h=>by simp at h
 |a::b::r,h=>by
  show V.int a::L2.bA (r.map V.int)=kV (Sum.inl a)::((bp (bj r)).map (Sum.inl:Int->Key)).map kV;rw[Ad r (by simp at h;omega)];rfl
theorem C3:∀ms:List Int,L2.oJ (ms.map V.int)=(bj ms).map λp=>V.int p.2
 |[]=>rfl|[_]=>rfl
 |a::b::r=>by
  rw[aJ,aJ,xM,C3 r];rfl
def U9 g:((bp g).map (Sum.inl:Int->Key)).zip (g.map λp=>V.int p.2)=toK g:=by
 induction g with
 |nil=>rfl
 |cons p g ih=>
  show(Sum.inl p.1,V.int p.2)::(((bp g).map (Sum.inl:Int->Key)).zip (g.map λp=>V.int p.2))=_;rw[ih];rfl
section
noncomputable abbrev EL:Stmt:=top 5
def Mh(K:PySem.W.Frag):Sp:=λvs H Q _=>∃(a:Addr) (ms:List Int),vs=[.ref a]/\aM K H a (ms.map V.int)/\ms.length%2=0/\(bp (bj ms)).Nodup/\∀H' d,aw H H'->H d=none->H' d=some (.dK (toK (bj ms)))->Q (.ref d) H'
def U_:aE ["money"] ["money"] (ao EL):=by ac_nf
def RB(D:Def K mg "by_number" EL ["money"])(T:Tx mg):Ok P w K mg base eY 1 "by_number" ["money"] (Mh K):=by
 refine D.ok U_ (λvs H Q E h=>?_) (λf cf A outer s H vs Q E hr h=>?_)
 .obtain⟨_,_,rfl,_⟩:=h;rfl
 .obtain⟨a,ms,rfl,hS,h2,nd,kQ⟩:=h;refine⟨_,(au (aI (Jy rfl rfl T.zg rfl T.zh (ae (tG (pv 0) aq aq) (ae (tG (pv 0) aq aq) ai))))),?_⟩;refine⟨a,_,0,rfl,rfl,rfl,hS,λp hp=>?_⟩;refine⟨a,_,1,rfl,rfl,rfl,(aw.new hp).seq hS,λq hq=>?_⟩;rw[drop_zero]at hq⊢;rw[show L2.bA ((ms.map V.int).drop 1)=L2.oJ (ms.map V.int)from rfl];rw[Ad ms h2]at hq⊢;rw[C3];have hqp:p≠q:=λz=>by rw[<-z,ak]at hq;cases hq
  have s1:aw H (upd H p (.lst (((bp (bj ms)).map (Sum.inl:Int->Key)).map kV))):=aw.new hp;have hq0:H q=none:=by
   have:=hq;rw[aB (c6 hqp)]at this;exact this
  refine⟨p,q,(bp (bj ms)).map Sum.inl,_,rfl,aM.of ?_,aM.of ak,by unfold bp;rw[az,az,az],λx hx=>?_⟩
  .rw[aB hqp,ak]
  .rw[U9];have e:kY [] (toK (bj ms))=toK (bj ms):=C2 (bj ms) [] nd;rw[e];have hx1:(upd H p (.lst (((bp (bj ms)).map (Sum.inl:Int->Key)).map kV))) x=none:=by
    by_cases z:x=q
    .rw[z,ak]at hx;cases hx
    .rw[aB z]at hx;exact hx
   have hx0:H x=none:=by
    by_cases z:x=p
    .rw[z,ak]at hx1;cases hx1
    .rw[aB z]at hx1;exact hx1
   exact kQ _ x ((s1.trans (aw.new hq)).trans (aw.new hx)) hx0 ak
end
section
noncomputable abbrev ua:Stmt:=top 6
def C4:Sp:=λvs H Q _=>∃(d:Addr) (g:tS),vs=[.ref d]/\H d=some (.dK (toK g))/\(bp g).Nodup/\g.length<=1000000/\∀out H' p,zJ g out->aw H H'->H p=none->H' p=some (.lst (out.map V.int))->Q (.ref p) H'
def uV:aE ["cents","money","number"] ["cents"] (ao ua):=by ac_nf
def JZ(D:Def K mg "in_pairs" ua ["cents"])(T:Tx mg):Ok P w K mg base eY 1 "in_pairs" ["cents"] C4:=by
 refine D.ok uV (λvs H Q E h=>?_) (λf cf A outer s H vs Q E hr h=>?_)
 .obtain⟨_,_,rfl,_⟩:=h;rfl
 .obtain⟨d,g,rfl,hd,nd,hg,kQ⟩:=h;have hu:=vz hr;have hz:=bF;refine⟨_,(ah (aO (i:=1) uV.nd rfl (Or.inl rfl) (gv ai)) (ah (fI hU rfl (b8 (aC (En rfl) (by rfl) T.iT boot_sorted (ae (pv 0) ai))) (aT (i:=2) uV.nd rfl (Or.inl rfl)) (au (cR (bq vt (K3 hu (pv 0) (pv 2) (λ_ _=>rfl)) aq (aG _)) (au (aQ (KS ye PySem.F.slot_list_extend PySem.F.type_list_extend BW (pv 1) (ae (gv (ae (pv 2) (ae (K3 hu (pv 0) (pv 2) (λ_ _=>rfl)) ai))) ai)))) bx))) (au (aI (pv 1))))),?_⟩;refine⟨by show 0<=_;omega,λm hm=>⟨toK g,bp g,(aw.new hm) _ _ hd,RA g,λns p pm up hp=>?_⟩⟩;have hmp:m≠p:=λz=>by rw[<-z,ak]at hp;cases hp
  have X9:H p=none:=by rw[aB (c6 hmp)]at hp;exact hp
  have aeS:ns.length=g.length:=by rw[pm.length_eq];unfold bp;rw[az]
  refine⟨p,rfl,⟨_,aM.of ak⟩,iO (K:=K) (a:=p) (xs:=ns.map V.int) (λi σ H'=>∃v:Option V,σ=[some (.ref d),some (.ref m),v]/\aw H H'/\H' p=some (.lst (ns.map V.int))/\H' m=some (.lst ((dR g (ns.take i)).map V.int)))
   ⟨none,rfl,(aw.new hm).trans (aw.new hp),ak,by rw[aB hmp,ak];rfl⟩ (λi σ H' _ ⟨_,_,_,h,_⟩=>aM.of h) ?_ ?_⟩
  .rintro i y σ H' hi ⟨v,rfl,s1,h1,h2⟩;rw[a_]at hi;cases hn:ns[i]? with
   |none=>rw[hn]at hi;cases hi
   |some n=>
   rw[hn]at hi;cases hi;have Bm:n∈bp g:=pm.mem_iff.mp (bh hn);have hdd:=s1 _ _ hd;cases hv:aY g n with
   |none=>exact absurd Bm (jX.mp hv)
   |some c=>
   have aek:eO (toK g) (Sum.inl n)=some (.int c):=by rw[Mf,hv];rfl
   have ht:ns.take (i+1)=ns.take i++ [n]:=bz hn;have hfl:(dR g (ns.take i)).length+2<=sizeLine:=by
    have h7:=uN g (ns.take i);have h8:(ns.take i).length<=1000000:=by
     rw[cW];exact aX (ow _ _) ()
    rw[cE];omega
   simp? only[oA,VQ,Zf,DM];have hdg:oh H' d (.int n) (some (.int c)):=by
    rw[<-aek];exact oh.k (k:=Sum.inl n) hdd
   refine⟨_,hdg,c,rfl,?_⟩;refine bo (λb=>?_) (λb=>?_)
   .refine⟨(.inl ⟨rfl,_,aM.of h2⟩:Xi K "list" (.ref m) H'),_,hdg,by omega,λt SN=>?_⟩;have htm:m≠t:=λz=>by rw[<-z,h2]at SN;cases SN
    have htp:p≠t:=λz=>by rw[<-z,h1]at SN;cases SN
    have s2:aw H' (upd H' t (.lst [.int n,.int c])):=aw.new SN;refine⟨_,s2 _ _ h2,_,ak,by rw[az];exact hfl,⟨_,rfl⟩,(s1.trans s2).kI hm,?_,?_⟩
    .rw[aB (c6 hmp)];exact s2 _ _ h1
    .rw[ak,ht,zH,hv];show some (HO.lst (_++ [V.int n,V.int c]))=some (HO.lst (List.map V.int (dR g (List.take i ns)++if 0<c then [n,c]else [])));rw[ag b,ed];rfl
   .refine⟨⟨_,rfl⟩,s1,h1,?_⟩;rw[h2,ht,zH,hv];show _=some (HO.lst (List.map V.int (dR g (List.take i ns)++if 0<c then [n,c]else [])));rw[af b,hZ]
  .rintro σ H' ⟨v,rfl,s1,h1,h2⟩;rw[az,eQ]at h2;exact kQ _ H' m ⟨ns,pm,up,rfl⟩ s1 hm h2
end
section
noncomputable def o5(nums:List Int)(st:Int):tS:=nums.map λn=>(n,st)
noncomputable def iV(st:Int):tS->List Int->Option tS
 |g,[]=>some g|g,n::ns=>if(aY g n).getD 0-st<0 then none else iV st (mj g n ((aY g n).getD 0-st)) ns
theorem uW{st:Int}:∀{ns:List Int}{g g':tS},iV st g ns=some g'->g'=G7 g (o5 ns (-st))
 |[],g,g',h=>(Option.some.inj h).symm
 |n::ns,g,g',h=>by
  unfold iV at h;split at h
  .cases h
  .rw[uW h,Int.sub_eq_add_neg];rfl
noncomputable abbrev iK:Stmt:=top 7
noncomputable def o6(K:PySem.W.Frag):Sp:=λvs H Q _=>∃(a b:Addr) (ms nums:List Int) (st:Int),vs=[.ref a,.ref b,.int st]/\aM K H a (ms.map V.int)/\ms.length%2=0/\ms.length<=16000/\(bp (bj ms)).Nodup/\H b=some (.lst (nums.map V.int))/\nums.length<=600000/\
 (iV st (bj ms) nums=none->∀H',aw H H'->Q .cT H')/\
 ∀g out H' p,iV st (bj ms) nums=some g->zJ g out->aw H H'->H p=none->H' p=some (.lst (out.map V.int))->Q (.ref p) H'
def gQ:aE ["money","numbers","stake","cents","number","left"] ["money","numbers","stake"] (ao iK):=by ac_nf
def wx(D:Def K mg "without_stake" iK ["money","numbers","stake"])(T:Tx mg)(o7:Ok P w K mg base eY 1 "by_number" ["money"] (Mh K))(rS:Ok P w K mg base eY 1 "in_pairs" ["cents"] C4):Ok P w K mg base eY 2 "without_stake" ["money","numbers","stake"] (o6 K):=by
 refine D.ok gQ (λvs H Q E h=>?_) (λf cf A outer s H vs Q E hr h=>?_)
 .obtain⟨_,_,_,_,_,rfl,_⟩:=h;rfl
 .obtain⟨a,b,ms,nums,st,rfl,hS,m2,ml,nd,hB,nl,kN,kQ⟩:=h;have hu:=vz hr;have hz:=cE;refine⟨_,(ah (aO (i:=3) gQ.nd rfl (Or.inl rfl) (ax o7 (hr.mono ⋯) rfl cB (ae (pv 0) ai))) (ah (fI hU rfl (b8 (pv 1)) (aT (i:=4) gQ.nd rfl (Or.inl rfl)) (ah (aO (i:=5) gQ.nd rfl (Or.inl rfl) (bS gu (Pz hu (pv 3) (pv 4) aq ⟨rfl,rfl,rfl,rfl⟩) (pv 2))) (ah (cR (bq yx (pv 5) aq (aG _)) (au (aI ro)) bx) (au (xF hu (pv 3) (pv 4) (pv 5) rfl))))) (au (aI (ax rS (hr.mono ⋯) rfl cB (ae (pv 3) ai)))))),?_⟩;have lk:(bj ms).length<=8000:=by rw[rN];omega
  refine⟨a,ms,rfl,hS,m2,nd,λH1 d s1 nd1 hd=>?_⟩;refine⟨b,rfl,⟨_,aM.of (s1 _ _ hB)⟩,iO (K:=K) (a:=b) (xs:=nums.map V.int) (λi σ H'=>∃(v v2:Option V) (G:tS),σ=[some (.ref a),some (.ref b),some (.int st),some (.ref d),v,v2]/\aw H H'/\H' d=some (.dK (toK G))/\iV st (bj ms) nums=iV st G (nums.drop i)/\(bp G).Nodup/\G.length<=8000+i)
   ⟨none,none,_,rfl,s1,hd,rfl,nd,lk⟩ (λi σ H' _ h=>by obtain⟨_,_,_,_,h,_⟩:=h;exact aM.of (h _ _ hB)) ?_ ?_⟩
  .rintro i y σ H' hi ⟨v,v2,G,rfl,sm,h5,ht,nG,lG⟩;rw[a_]at hi;cases hn:nums[i]? with
   |none=>rw[hn]at hi;cases hi
   |some n=>
   rw[hn]at hi;cases hi;have Qw:i<nums.length:=(List.getElem?_eq_some_iff.mp hn).1;have hdr:nums.drop i=n::nums.drop (i+1):=by
    rw[mv Qw,(List.getElem?_eq_some_iff.mp hn).2]
   rw[hdr]at ht;have hGl:(toK G).length<=700000:=by rw[U8];omega
   simp? only[Py];have ev:(eO (toK G) (Sum.inl n)).getD (V.int 0)=.int ((aY G n).getD 0):=by
    rw[Mf];cases aY G n<;>rfl
   refine⟨.inl ⟨_,.inl h5⟩,_,oh.k (k:=Sum.inl n) h5,_,ev,?_⟩;have e1:iV st G (n::nums.drop (i+1))=if(aY G n).getD 0-st<0 then none else iV st (mj G n ((aY G n).getD 0-st)) (nums.drop (i+1)):=rfl
   rw[e1]at ht;refine bo (λb1=>?_) (λb1=>?_)
   .rw[ag b1]at ht;exact kN ht H' sm
   .rw[af b1]at ht;simp? only[cb];refine⟨_,Gd.k (k:=Sum.inl n) h5 (),by first|exact⟨⟨_,rfl⟩,_,rfl⟩|exact⟨_,_,rfl⟩,sm.kI nd1,mj G n ((aY G n).getD 0-st),?_,ht,CI _ _ nG,?_⟩
    .rw[ak,Mg]
    .have:=Ep [(n,-st)] G;have e2:G7 G [(n,-st)]=mj G n ((aY G n).getD 0-st):=rfl;rw[e2]at this;have e3:[(n,-st)].length=1:=rfl;omega
  .rintro σ H' ⟨v,v2,G,rfl,sm,h5,ht,nG,lG⟩;rw[az]at ht lG;rw[sV]at ht;refine⟨d,G,rfl,h5,nG,by omega,λout H2 x ho s2 nx hx=>kQ G out H2 x ht ho (sm.trans s2) (sm.free nx) hx⟩
end
section
variable {Cb:Addr}
def Od(h:eE ws races=some p):YL races p:=by
 have mq:=GF h;unfold eE at h;split at h
 .cases h
 split at h
 .cases h
 split at h
 .cases h
 split at h
 .cases h
 rename_i lh hk;split at h
 .cases h
 rename_i k GD;split at h
 .cases h
 split at h
 .cases h
 split at h
 .cases h
 split at h
 .cases h
 rename_i u hu;split at h
 .cases h
 split at h
 .cases h
 split at h
 .cases h
 split at h
 .cases h
 cases h;obtain⟨k1,k2,_⟩:=dn GD;obtain⟨u1,u2,_⟩:=dn hu;refine⟨mq,⟨by show 0<u;omega,u2⟩,λc=>?_,λc=>?_⟩
 .show k<=4;unfold kindB at hk;split at hk
  .cases hk;exact k2
  split at hk
  .cases hk;exact k2
  split at hk
  .cases hk;omega
  cases hk
 .have c:ws.getD 2 []=jt:=c;rw[c]at hk;cases hk;exact⟨k1,k2⟩
def ER{r:List Int}(h:gB ws=some r):∀x∈r,0<=x:=by
 unfold gB at h;split at h
 .cases h
 split at h
 .cases h
 split at h
 .cases h
 cases h;intro x hx;obtain⟨i,_,rfl⟩:=mem_map.mp (mem_filter.mp hx).1;omega
def C5{ps:List MP}(h:d6 codes=some (rs,ps)):(∀q∈ps,YL rs q)/\∀r∈rs,∀x∈r,0<=x:=by
 unfold d6 at h;split at h
 .cases h
 .cases h
 split at h
 .cases h
 split at h
 .cases h
 split at h
 .cases h
 rename_i hr;split at h
 .cases h
 split at h
 .cases h
 rename_i hq;split at h
 .cases h;refine⟨λp hp=>?_,λr hm=>?_⟩
  .obtain⟨ws,_,h1⟩:=oM hq p hp;exact Od h1
  .obtain⟨ws,_,h1⟩:=oM hr r hm;exact ER h1
 .cases h
def Ae(ns bs ms:List Int)(r:Int×Int×Option (List (List Int)×MP×Int×List (List Int)×Option (List Int))):Prop:=
 if 65536<ns.length\/4096<bs.length then r=(-2,0,none)else match d6 (qo ns)with
  |none=>r=(-8,0,none)|some (rs,ps)=>(oZ (ck bs) rs ps none/\r=(-6,0,none))\/∃b,oZ (ck bs) rs ps (some b)/\r=if fg ms (countM rs b.1)=true then(0,countM rs b.1,some (rs,b))else(-3,0,none)
def abq(K:PySem.W.Frag)(Cp Cb:Addr)(H:Hp)(v:V):Option (List (List Int)×MP×Int×List (List Int)×Option (List Int))->Prop
 |none=>v=.cT|some b=>Ab K Cp Cb H v b.1 b.2
noncomputable abbrev Mi:Stmt:=top 77
def RC(K:PySem.W.Frag)(Cp Cb Ca:Addr):Sp:=λvs H Q _=>∃(a b m:Addr) (ns bs ms:List Int),vs=[.ref a,.ref b,.ref m]/\aM K H a (ns.map V.int)/\(∀x∈ns,0<=x/\x<=255)/\ns.length<=66000/\aM K H b (bs.map V.int)/\(∀x∈bs,0<=x/\x<=255)/\bs.length<=4200/\aM K H m (ms.map V.int)/\ms.length<=16000/\ms.length%2=0/\
 ∀r H' x dx v,Ae ns bs ms r->aw H H'->H' x=some (.ins Ca dx (aaY r.1 r.2.1 v))->abq K Cp Cb H' v r.2.2->Q (.ref x) H'
def EV:aE ["card","bet","money","pools","told","combinations"] ["card","bet","money"] (ao Mi):=by ac_nf
def Va(D:Def K mg "ask_bet" Mi ["card","bet","money"])(T:Tx mg)(NCF:Nc K mg NC)(Wi:Nb K mg NB)(cP:CLA P w K mg base Ca)(j4:CL P w K mg base "Bet" Cb ["self","pool","stake","sets","numbers"] (jC Cb) ["pool","stake","sets","numbers"])(o8:Ok P w K mg base (fU P w) 5 "read_card" ["codes"] (QC K NC Cp))(rT:Ok P w K mg base (fU P w) 5 "read_bet" ["codes","pools"] (Rz K NB Cp Cb))(rV:Ok P w K mg base eY 2 "is_right" ["money","combinations"] (Lw K))(fw:Ok P w K mg base eY 3 "count_combinations" ["pool"] (Ly Cp)):Ok P w K mg base eY 6 "ask_bet" ["card","bet","money"] (RC K Cp Cb Ca):=by
 refine D.ok0 EV (λvs H Q E h=>?_) (λf cf A outer s H vs Q E hr h=>?_)
 .obtain⟨_,_,_,_,_,_,rfl,_⟩:=h;rfl
 .obtain⟨a,b,m,ns,bs,ms,rfl,hS,hb,hl,hB,hbb,hbl,hM,ml,m2,kQ⟩:=h;refine⟨_,(uF (PS.ps0 (cR (PW.pt (VH (bq vt (aC aA (by rfl) T.cv bO (ae (pv 0) ai)) (cO T.dr rfl) (aG _)) (OX (bq vt (aC aA (by rfl) T.cv bO (ae (pv 1) ai)) (cO T.dN rfl) (aG _))))) (au (aI (yQ cP (List.Mem.tail _ (List.Mem.tail _ (List.Mem.head _))) (hr.n ⋯) rfl (ae (qN kX aq) ai)))) bx)) (uF (La rfl rfl rfl rfl NCF.mg NCF.ex (by decide+kernel) (λE xe xr=>(au (aO (i:=3) EV.nd rfl (Or.inl rfl) (ax (E:=E) o8 (hr.mono ⋯) rfl (aW xr) (ae (pv 0) ai))))) (λe xe=>(au (aI (yQ cP (List.Mem.tail _ (List.Mem.tail _ (List.Mem.head _))) (hr.nm ⋯) rfl (ae (qN kX aq) ai)))))) (uF (La rfl rfl rfl rfl Wi.mg Wi.ex (by decide+kernel) (λE xe xr=>(au (aO (i:=4) EV.nd rfl (Or.inl rfl) (ax (E:=E) rT (hr.mono ⋯) rfl (aW xr) (ae (pv 1) (ae (pv 3) ai)))))) (λe xe=>(au (aI (yQ cP (List.Mem.tail _ (List.Mem.tail _ (List.Mem.head _))) (hr.nm ⋯) rfl (ae (qN kX aq) ai)))))) (vW.adK (ah (aO (i:=5) EV.nd rfl (Or.inl rfl) (ax fw (hr.mono ⋯) rfl cB (ae (bC (pv 4) rfl) ai))) (ah (cR (yr (yq (ax rV (hr.mono ⋯) rfl cB (ae (pv 2) (ae (pv 5) ai))))) (au (aI (yQ cP (List.Mem.tail _ (List.Mem.tail _ (List.Mem.head _))) (hr.n ⋯) rfl (ae (qN kX aq) ai)))) bx) (au (aI (yQ cP (List.Mem.head _) (hr.n ⋯) rfl (ae aq (ae (pv 5) (ae (pv 4) ai)))))))))))),?_⟩;have hz:=bF;have eF:∀r,Ae ns bs ms r=Ae ns bs ms r:=λ_=>rfl
  conv at eF=>ext r;rhs;unfold Ae
  have mk:∀(H1:Hp)(r c:Int)(v:V)(o:Option (List (List Int)×MP×Int×List (List Int)×Option (List Int))),aw H H1->Ae ns bs ms (r,c,o)->abq K Cp Cb H1 v o->∀x dx,H1 x=none->H1 dx=none->dx≠x->oU Ca [.ref x,.int r,.int c,v] (upd (upd H1 dx (.own x)) x (.ins Ca dx [])) (λv H2=>v=.cT/\Q (.ref x) H2) E0:=by
   intro H1 r c v o s1 e hv x dx nx ndx nex;refine⟨x,dx,r,c,v,rfl,ak,λH2 h2 k2=>⟨rfl,?_⟩⟩;have s2:=aw.made nx ndx k2;refine kQ _ H2 x dx v e (s1.trans s2) h2 ?_;cases o with
   |none=>exact hv|some o=>exact Ab.same (K:=K) hv s2
  simp? only[];refine⟨_,.inl hS,?_⟩;rw[az];refine bo (λc=>?_) (λc=>?_)
  .exact mk H _ _ _ none aw.rfl' (by rw[eF,ag (.inl ())]) rfl
  refine⟨_,.inl hB,?_⟩;rw[az];refine bo (λd=>?_) (λd=>?_)
  .exact mk H _ _ _ none aw.rfl' (by rw[eF,ag (.inr ())]) rfl
  simp only[if_neg (show¬(65536<ns.length\/4096<bs.length) by omega)]at eF;simp? only[cb];refine⟨λcls _ H'=>cls=.ref NC/\d6 (ck ns)=none/\aw H H',?_,?_⟩
  .refine⟨a,ns,rfl,hS,hb,hl,λrs ps ec H1 L s1 hc=>?_,λec H1 s1=>⟨rfl,ec,s1⟩⟩;have ec':d6 (qo ns)=some (rs,ps):=ec;simp only[ec']at eF;have hcb:=C5 ec;have A_:=Jw ec;simp? only[];refine⟨λcls _ H'=>cls=.ref NB/\oZ (ck bs) rs ps none/\aw H H',?_,?_⟩
   .refine⟨b,L,bs,rs,ps,rfl,s1.seq hB,hbb,by omega,hc,hcb.1,λr hr=>⟨A_ r hr,hcb.2 r hr⟩,λr er H2 v s2 hv=>?_,λer H2 s2=>⟨rfl,er,s1.trans s2⟩⟩;have N4:=s1.trans s2;obtain⟨bb,dx,p,S',vn,rfl,h1,h2,h3,h4⟩:=id hv;simp? only[cb,oz];refine⟨Cb,dx,_,h1,j4.cl,j4.no "pool" ∅,_,rfl,p,rs,r.1,rfl,h2,(hcb.1 _ er.mem).N_,A_,λH3 s3=>?_⟩;have U2:=N4.trans s3;refine⟨m,ms,_,rfl,U2.seq hM,by omega,m2,λH4 s4=>⟨_,rfl,?_⟩⟩;have s34:=s3.trans s4;refine bo (λc3=>?_) (λc3=>?_)
    .exact mk H4 _ _ _ none (U2.trans s4) (by rw[eF];exact .inr ⟨r,er,by rw[af (by rw[c3];decide)]⟩) rfl
    .exact mk H4 _ _ _ (some (rs,r)) (U2.trans s4) (by rw[eF];exact .inr ⟨r,er,by rw[ag ‹c3›]⟩) (Ab.same (K:=K) hv s34)
   .rintro σ' H' cls d ⟨rfl,er,s2⟩;refine⟨rfl,?_⟩;simp? only[];exact mk H' _ _ _ none s2 (by rw[eF];exact .inl ⟨er,rfl⟩) rfl
  .rintro σ' H' cls d ⟨rfl,ec,s1⟩;have ec':d6 (qo ns)=none:=ec;simp only[ec']at eF;refine⟨rfl,?_⟩;simp? only[];exact mk H' _ _ _ none s1 (by rw[eF]) rfl
end
section
variable {Cb:Addr}
theorem Ae.ok{bs:List Int}{r:Int×Int×Option (List (List Int)×MP×Int×List (List Int)×Option (List Int))}(h:Ae ns bs ms r)(b:¬r.1<0):∃rs ps q,d6 (qo ns)=some (rs,ps)/\oZ (ck bs) rs ps (some q)/\fg ms (countM rs q.1)=true/\r=(0,countM rs q.1,some (rs,q)):=by
 unfold Ae at h;split at h
 .rw[h]at b;exact absurd ⋯ b
 split at h
 .rw[h]at b;exact absurd ⋯ b
 rename_i rs ps hc;obtain⟨_,e⟩|⟨q,hq,e⟩:=h
 .rw[e]at b;exact absurd ⋯ b
 .by_cases c:fg ms (countM rs q.1)=true
  .rw[ag c]at e;exact⟨rs,ps,q,hc,hq,c,e⟩
  .rw[af c]at e;rw[e]at b;exact absurd ⋯ b
noncomputable def Mj(ns bs ms ans:List Int):Prop:=∃r,Ae ns bs ms r/\if r.1<0 then ans=[r.1]else(match r.2.2 with
 |none=>False
 |some (_,_,st,_,o)=>(match o with
  |none=>ans=[-5]
  |some nums=>(match iV st (bj ms) nums with
   |none=>ans=[-5]|some g=>∃out,zJ g out/\ans=0::out)))
noncomputable abbrev C6:Stmt:=top 76
noncomputable def J0(K:PySem.W.Frag):Sp:=λvs H Q _=>∃(a b m:Addr) (ns bs ms:List Int),vs=[.ref a,.ref b,.ref m]/\aM K H a (ns.map V.int)/\(∀x∈ns,0<=x/\x<=255)/\ns.length<=66000/\aM K H b (bs.map V.int)/\(∀x∈bs,0<=x/\x<=255)/\bs.length<=4200/\aM K H m (ms.map V.int)/\ms.length<=16000/\ms.length%2=0/\
 ∀ans H' p,Mj ns bs ms ans->H' p=some (.lst (ans.map V.int))->Q (.ref p) H'
def J1:aE ["card","bet","money","asked","after"] ["card","bet","money"] (ao C6):=by ac_nf
def Vb(F:K9 K "back" "back" C6 f fd)(T:Tx mg)(cP:CLA P w K mg base Ca)(j4:CL P w K mg base "Bet" Cb ["self","pool","stake","sets","numbers"] (jC Cb) ["pool","stake","sets","numbers"])(uX:Ok P w K mg base eY 6 "ask_bet" ["card","bet","money"] (RC K Cp Cb Ca))(jb:Ok P w K mg base eY 2 "without_stake" ["money","numbers","stake"] (o6 K)):oa P w K mg base eY 7 f fd ["card","bet","money"] (J0 K):=by
 refine F.ok J1 (λvs H Q E h=>?_) (λcf A outer s H vs Q E hr h=>?_)
 .obtain⟨_,_,_,_,_,_,rfl,_⟩:=h;rfl
 .obtain⟨a,b,m,ns,bs,ms,rfl,hS,hb,hl,hB,hbb,hbl,hM,ml,m2,kQ⟩:=h;refine⟨_,(ah (aO (i:=3) J1.nd rfl (Or.inl rfl) (ax uX (hr.mono ⋯) rfl cB (ae (pv 0) (ae (pv 1) (ae (pv 2) ai))))) (ah (cR (bq yx (bC (pv 3) rfl) aq (aG _)) (au (aI (gv (ae (bC (pv 3) rfl) ai)))) bx) (ah (cR (bq O9 (bC (bC (pv 3) rfl) rfl) ro (aG _)) (au (aI (gv (ae (qN kX aq) ai)))) bx) (ah (aO (i:=4) J1.nd rfl (Or.inl rfl) (ax jb (hr.mono ⋯) rfl cB (ae (pv 2) (ae (bC (bC (pv 3) rfl) rfl) (ae (bC (bC (pv 3) rfl) rfl) ai))))) (ah (cR (bq O9 (pv 4) ro (aG _)) (au (aI (gv (ae (qN kX aq) ai)))) bx) (au (aI (bS Pq (gv (ae aq ai)) (pv 4))))))))),?_⟩;have hz:=cE;simp? only[oA,oz];refine⟨a,b,m,ns,bs,ms,rfl,hS,hb,hl,hB,hbb,hbl,hM,ml,m2,λr H1 x dx v hA s1 h1 hv=>?_⟩;refine⟨x,rfl,Ca,dx,_,h1,cP.cl,cP.no "refusal" ∅,_,rfl,_,rfl,?_⟩;refine bo (λb=>?_) (λb=>?_)
  .refine⟨x,rfl,Ca,dx,_,h1,cP.cl,cP.no "refusal" ∅,_,rfl,by omega,λy hy=>kQ [r.1] _ y ⟨r,hA,by rw[ag b]⟩ ak⟩
  .obtain⟨rs,ps,⟨q,st,ss,o⟩,ec,er,YM,rfl⟩:=hA.ok b;obtain⟨bb,dxb,p,S',vn,rfl,g1,g2,g3,g4⟩:=id hv;simp? only[cb,oA,oz];refine⟨Ca,dx,_,h1,cP.cl,cP.no "bet" ∅,_,rfl,bb,rfl,Cb,dxb,_,g1,j4.cl,j4.no "numbers" ∅,vn,rfl,?_⟩;cases o with
   |none=>
    have g4:vn=.cT:=g4;rw[ag g4];exact⟨by omega,λy hy=>kQ [-5] _ y ⟨_,hA,rfl⟩ ak⟩
   |some nums=>
   obtain⟨L,rfl,hL,nl⟩:=g4;rw[af (by intro z;cases z)];refine⟨Ca,dx,_,h1,cP.cl,cP.no "bet" ∅,_,rfl,bb,rfl,Cb,dxb,_,g1,j4.cl,j4.no "numbers" ∅,_,rfl,Ca,dx,_,h1,cP.cl,cP.no "bet" ∅,_,rfl,bb,rfl,Cb,dxb,_,g1,j4.cl,j4.no "stake" ∅,_,rfl,m,L,ms,nums,st,rfl,s1.seq hM,m2,ml,vM YM,hL,by omega,λe H2 s2=>?_,λg out H2 q2 e ho s2 nq hq=>?_⟩
   .dsimp only;rw[ag rfl];exact⟨by omega,λy hy=>kQ [-5] _ y ⟨_,hA,by rw[af b];dsimp only;rw[e]⟩ ak⟩
   .have Wd:out.length<=1300000:=by
     have h3:=NR ho;rw[uW e]at h3;have h4:=Ep (o5 nums (-st)) (bj ms);have h5:=rN ms;have h6:(o5 nums (-st)).length=nums.length:=by unfold o5;rw[az]
     omega
    dsimp only;rw[af (by intro z;cases z)];refine⟨by omega,λy hy=>⟨y,q2,_,_,rfl,rfl,ak,(aw.new hy) _ _ hq,by rw[az];show 1+_<=_;omega,λx2 V9=>kQ (0::out) _ x2 ⟨_,hA,by rw[af b];dsimp only;rw[e];exact⟨out,ho,rfl⟩⟩ (by rw[ak];rfl)⟩⟩
end
end Pd
end
section
namespace Pd
open Tote
theorem Af{f:α->List β}{z:Nat}:∀{l:List α},(∀x∈l,(f x).length=z)->∀{n},n<l.length*z->∃x,l[n/z]?=some x/\(l.flatMap f)[n]?=(f x)[n%z]?
 |[],_,n,h=>by simp at h
 |a::l,hf,n,h=>by
  have ha:=hf a ∅;have hz:0<z:=by
   obtain e|e:=wL z
   .subst e;simp at h
   .exact e
  rw[kS];by_cases hn:n<z
  .refine⟨a,?_,?_⟩
   .rw[Nat.div_eq_of_lt hn];rfl
   .rw[sv (by rw[ha];exact hn),Nat.mod_eq_of_lt hn]
  .have h':n-z<l.length*z:=by
    rw[aZ,Nat.add_mul,xA]at h;omega
   obtain⟨x,h1,h2⟩:=Af (λx hx=>hf x (by simp[hx])) h';have e1:n/z=(n-z)/z+1:=by
    rw[<-Nat.add_div_right _ hz,Nat.sub_add_cancel ()]
   have e2:n%z=(n-z)%z:=by
    rw[<-Nat.add_mod_right (n-z) z,Nat.sub_add_cancel ()]
   refine⟨x,?_,?_⟩
   .rw[e1];exact h1
   .rw[sq (by rw[ha];omega),ha,h2,e2]
theorem Ag{f:α->List β}{z:Nat}:∀{l:List α},(∀x∈l,(f x).length=z)->(l.flatMap f).length=l.length*z
 |[],_=>by simp
 |a::l,h=>by
  rw[kS,c9,Ag λx hx=>h x (by simp[hx]),h a ∅,aZ,Nat.add_mul,xA,sQ]
def j5{l:List Nat}(nd:l.Nodup){x:Nat}(h:l[i]?=some x):(l.findIdx λy=>y==x)=i:=by
 obtain⟨hi,e⟩:=List.getElem?_eq_some_iff.mp h;rw[findIdx_eq hi];refine⟨by simp[e],λj hj=>?_⟩;have hj':=xq hj hi;simp only[beq_eq_false_iff_ne];intro z;have:=(getElem_inj (h₁:=hi) nd).mp (z.trans e.symm);omega
noncomputable def cy:Nat->List Nat->List (List Nat)
 |0,_=>[[]]|k+1,av=>av.flatMap λx=>(cy k (av.erase x)).map λr=>x::r
theorem x5:∀k {av},av.Nodup->(cy k av).length=orders av.length k
 |0,av,_=>by cases av<;>rfl
 |k+1,[],_=>rfl
 |k+1,a::l,nd=>by
  have h:∀x∈(a::l),((cy k ((a::l).erase x)).map λr=>x::r).length=orders l.length k:=λx hx=>by
   rw[az,x5 k (nd.erase x),rg hx];rfl
  show((a::l).flatMap _).length=(l.length+1)*orders l.length k;rw[Ag h];rfl
theorem vS:∀k {av} {r},r∈cy k av->r.length=k
 |0,av,r,h=>by
  have:r=[]:=by simpa[cy]using h
  rw[this];rfl
 |k+1,av,r,h=>by
  obtain⟨x,hx,hr⟩:=mem_flatMap.mp h;obtain⟨q,hq,rfl⟩:=mem_map.mp hr;rw[aZ,vS k hq]
theorem J2:∀k {av} (nd:av.Nodup) {n},n<orders av.length k->(cy k av)[n]?=some (rowOrder k av n)/\rankOrder av (rowOrder k av n)=n
 |0,av,nd,n,h=>by
  have hn:n=0:=by
   have:orders av.length 0=1:=by cases av<;>rfl
   omega
  subst hn;exact⟨rfl,rfl⟩
 |k+1,[],nd,n,h=>by simp[orders]at h
 |k+1,a::l,nd,n,h=>by
  have hb:∀x∈(a::l),((cy k ((a::l).erase x)).map λr=>x::r).length=orders l.length k:=λx hx=>by
   rw[az,x5 k (nd.erase x),rg hx];rfl
  have h':n<(a::l).length*orders l.length k:=h;obtain⟨x,h1,h2⟩:=Af (l:=a::l) hb h';have hx:x∈(a::l):=bh h1;have hz:0<orders l.length k:=by
   obtain e|e:=wL (orders l.length k)
   .rw[e]at h';simp at h'
   .exact e
  have hm:n%orders l.length k<orders ((a::l).erase x).length k:=by
   rw[rg hx];exact kq _ hz
  obtain⟨i1,i2⟩:=J2 k (nd.erase x) hm;have er:rowOrder (k+1) (a::l) n=x::rowOrder k ((a::l).erase x) (n%orders l.length k):=by
   show((a::l).getD (n/orders ((a::l).length-1) k) 0)::rowOrder k ((a::l).erase ((a::l).getD (n/orders ((a::l).length-1) k) 0)) (n%orders ((a::l).length-1) k)=_;have e0:(a::l).length-1=l.length:=rfl;have e1:(a::l).getD (n/orders l.length k) 0=x:=by
    rw[cU,h1];rfl
   rw[e0,e1]
  rw[er];refine⟨?_,?_⟩
  .show((a::l).flatMap λx=>(cy k ((a::l).erase x)).map λr=>x::r)[n]?=_;rw[h2,a_,i1];rfl
  .have hl:(rowOrder k ((a::l).erase x) (n%orders l.length k)).length=k:=vS k (bh i1);show((a::l).findIdx λy=>y==x)*orders ((a::l).length-1) (rowOrder k ((a::l).erase x) (n%orders l.length k)).length+rankOrder ((a::l).erase x) (rowOrder k ((a::l).erase x) (n%orders l.length k))=n;rw[j5 nd h1,i2,hl];show n/orders l.length k*orders l.length k+n%orders l.length k=n;exact Nat.div_add_mod' n _
theorem qA:∀k {av} (nd:av.Nodup) {r},r∈cy k av↔r.length=k/\r.Nodup/\∀x∈r,x∈av
 |0,av,nd,r=>by
  constructor
  .intro h;have:r=[]:=by simpa[cy]using h
   subst this;exact⟨rfl,by simp,by simp⟩
  .rintro⟨h,_⟩;have:=length_eq_zero_iff.mp h;subst this;simp[cy]
 |k+1,av,nd,r=>by
  constructor
  .intro h;obtain⟨x,hx,hr⟩:=mem_flatMap.mp h;obtain⟨q,hq,rfl⟩:=mem_map.mp hr;obtain⟨h1,h2,h3⟩:=(qA k (nd.erase x)).mp hq;refine⟨by rw[aZ,h1],nodup_cons.mpr ⟨λz=>?_,h2⟩,λy hy=>?_⟩
   .exact absurd rfl ((nd.mem_erase_iff).mp (h3 x z)).1
   .obtain e|hy:=mem_cons.mp hy
    .rw[e];exact hx
    .exact mem_of_mem_erase (h3 y hy)
  .rintro⟨h1,h2,h3⟩;cases r with
   |nil=>simp at h1
   |cons x q=>
    obtain⟨n1,n2⟩:=nodup_cons.mp h2;refine mem_flatMap.mpr ⟨x,h3 x ∅,mem_map.mpr ⟨q,(qA k (nd.erase x)).mpr ⟨‹h1›,n2,λy hy=>?_⟩,rfl⟩⟩;exact(nd.mem_erase_iff).mpr ⟨λe=>n1 (e▸hy),h3 y (by simp[hy])⟩
noncomputable def fN:Nat->Nat->Nat
 |_,0=>1|0,_+1=>0
 |n+1,k+1=>fN n k+fN n (k+1)
theorem nk:∀k av,(risingRows k av).length=fN av.length k
 |0,av=>by cases av<;>rfl
 |k+1,[]=>rfl
 |k+1,x::l=>by
  show(((risingRows k l).map λr=>x::r)++risingRows (k+1) l).length=fN l.length k+fN l.length (k+1);rw[c9,az,nk k l,nk (k+1) l]
theorem n8:∀k:Nat,0<orders k k
 |0=>by decide|k+1=>Nat.mul_pos (jq k) (n8 k)
def kJ n:orders n 0=1:=by cases n<;>rfl
def Hy:∀n k,orders (n+1) (k+1)=orders n (k+1)+(k+1)*orders n k:=λn k=>by
 have h:=oK n k;have e:(orders (n+1) (k+1):Int)=((n:Int)+1)*(orders n k:Int):=by
  show(((n+1)*orders n k:Nat):Int)=_;rfl
 have e2:(orders (n+1) (k+1):Int)=((orders n (k+1)+(k+1)*orders n k:Nat):Int):=by
  rw[e,Int.natCast_add,h,sI,Int.natCast_add,Int.mul_sub,xB,xB];rw[Int.mul_comm (orders n k:Int) (n:Int),Int.mul_comm (orders n k:Int) (k:Int)];omega
 exact Int.ofNat.inj e2
theorem nr:∀n k:Nat,fN n k*orders k k=orders n k
 |n,0=>by
  have:fN n 0=1:=by cases n<;>rfl
  rw[this,kJ,kJ]
 |0,k+1=>by
  show 0*_=orders 0 (k+1);rw[Nat.zero_mul];rfl
 |n+1,k+1=>by
  have h1:=nr n k;have h2:=nr n (k+1);rw[Hy n k,<-h2,<-h1];show(fN n k+fN n (k+1))*((k+1)*orders k k)=fN n (k+1)*((k+1)*orders k k)+(k+1)*(fN n k*orders k k);rw[Nat.add_mul,sQ];congr 1;rw[Nat.mul_left_comm]
def qB n k:choose n k=fN n k:=by
 unfold choose;rw[<-nr n k];exact Nat.mul_div_cancel _ (n8 k)
theorem gR:∀k {av r},r∈risingRows k av->r.length=k
 |0,av,r,h=>by
  have:r=[]:=by cases av<;>simpa[risingRows]using h
  rw[this];rfl
 |k+1,[],r,h=>by simp[risingRows]at h
 |k+1,x::l,r,h=>by
  obtain h|h:=mem_append.mp h
  .obtain⟨q,hq,rfl⟩:=mem_map.mp h;rw[aZ,gR k hq]
  .exact gR (k+1) h
theorem iL:∀k {av r},r∈risingRows k av->∀y∈r,y∈av
 |0,av,r,h,y,hy=>by
  have:r=[]:=by cases av<;>simpa[risingRows]using h
  rw[this]at hy;simp at hy
 |k+1,[],r,h,y,hy=>by simp[risingRows]at h
 |k+1,x::l,r,h,y,hy=>by
  obtain h|h:=mem_append.mp h
  .obtain⟨q,hq,rfl⟩:=mem_map.mp h;obtain e|hy:=mem_cons.mp hy
   .rw[e];simp
   .exact bJ _ (iL k hq y hy)
  .exact bJ _ (iL (k+1) h y hy)
def Oe{x y:Nat}{l:List Nat}(h:x≠y):rankAny (x::l) (y::r)=choose l.length r.length+rankAny l (y::r):=by
 have hi:((x::l).findIdx λz=>z==y)=(l.findIdx λz=>z==y)+1:=by
  rw[findIdx_cons];have:(x==y)=false:=‹h›
  rw[this];rfl
 have e:∀av:List Nat,rankAny av (y::r)=((List.range (av.findIdx λz=>z==y)).map λ(j:Nat)=>choose (av.length-1-j) r.length).foldl (λ(a b:Nat)=>a+b) 0+rankAny (av.drop ((av.findIdx λz=>z==y)+1)) r:=λ_=>rfl;rw[e,e,hi,range_succ_eq_map,aJ,fG,bQ];have f:∀(m:List Nat)(a b:Nat),m.foldl (λ(a b:Nat)=>a+b) (a+b)=a+m.foldl (λ(a b:Nat)=>a+b) b:=by
  intro m
  induction m with
  |nil=>intro a b;rfl|cons c m ih=>intro a b;rw[fG,fG,Nat.add_assoc,ih]
 have g:(List.range (l.findIdx λz=>z==y)).map ((λ(j:Nat)=>choose ((x::l).length-1-j) r.length)∘Nat.succ)=(List.range (l.findIdx λz=>z==y)).map λ(j:Nat)=>choose (l.length-1-j) r.length:=by
  refine fE λj _=>?_;show choose (l.length+1-1-(j+1)) r.length=_;congr 1;omega
 rw[g];have e0:(0:Nat)+choose ((x::l).length-1-0) r.length=choose l.length r.length+0:=by
  show 0+choose (l.length+1-1-0) r.length=_;rw[Nat.add_sub_cancel,Nat.sub_zero,jN,wQ]
 rw[e0,f,Nat.add_assoc];rfl
def Og{x:Nat}{l:List Nat}:rankAny (x::l) (x::r)=rankAny l r:=by
 have hi:((x::l).findIdx λz=>z==x)=0:=by
  rw[findIdx_cons];simp
 have e:rankAny (x::l) (x::r)=((List.range ((x::l).findIdx λz=>z==x)).map λ(j:Nat)=>choose ((x::l).length-1-j) r.length).foldl (λ(a b:Nat)=>a+b) 0+rankAny ((x::l).drop (((x::l).findIdx λz=>z==x)+1)) r:=rfl;rw[e,hi];simp
theorem J3:∀f k {av} (nd:av.Nodup) {n},av.length<f->n<fN av.length k->(risingRows k av)[n]?=some (rowAny f k av n)/\rankAny av (rowAny f k av n)=n
 |0,_,_,_,_,h,_=>by omega
 |f+1,0,av,nd,n,hf,h=>by
  have hn:n=0:=by
   have:fN av.length 0=1:=by cases av<;>rfl
   omega
  subst hn;have e:rowAny (f+1) 0 av 0=[]:=by cases av<;>rfl
  exact⟨by cases av<;>rfl,rfl⟩
 |f+1,k+1,[],nd,n,hf,h=>by
  have:n<0:=h;omega
 |f+1,k+1,x::l,nd,n,hf,h=>by
  obtain⟨n1,n2⟩:=nodup_cons.mp nd;have hf':l.length<f:=‹hf›
  have h':n<fN l.length k+fN l.length (k+1):=h;have er:rowAny (f+1) (k+1) (x::l) n=if n<choose l.length k then x::rowAny f k l n else rowAny f (k+1) l (n-choose l.length k):=rfl
  have es:risingRows (k+1) (x::l)=((risingRows k l).map λr=>x::r)++risingRows (k+1) l:=rfl;have el:((risingRows k l).map λr=>x::r).length=fN l.length k:=by rw[az,nk]
  rw[er,es,qB];by_cases hn:n<fN l.length k
  .obtain⟨i1,i2⟩:=J3 f k n2 hf' hn;rw[ag hn];refine⟨?_,?_⟩
   .rw[sv (by rw[el];exact hn),a_,i1];rfl
   .rw[Og];exact i2
  .have hn':n-fN l.length k<fN l.length (k+1):=by omega
   obtain⟨i1,i2⟩:=J3 f (k+1) n2 hf' hn';rw[af hn];refine⟨?_,?_⟩
   .rw[sq (by rw[el];omega),el,i1]
   .have hm:=bh i1;have hlen:=gR _ hm;have Bm:=iL _ hm;generalize rowAny f (k+1) l (n-fN l.length k)=row at*;cases row with
    |nil=>simp at hlen
    |cons y r=>
     have hy:=Bm y ∅;have iF:x≠y:=λe=>n1 (e▸hy);rw[Oe iF,i2,qB];have:r.length=k:=‹hlen›
     rw[this];omega
theorem nu:∀hs:List (List Nat),(rowsOf hs).length=product (hs.map List.length)
 |[]=>rfl
 |h::t=>by
  have hb:∀x∈h,((rowsOf t).map λr=>x::r).length=product (t.map List.length):=λx _=>by rw[az,nu t]
  show(h.flatMap λx=>(rowsOf t).map λr=>x::r).length=_;rw[Ag hb,aJ];unfold product;rw[fG,xA];have f:∀(m:List Nat)(a b:Nat),m.foldl (λ(a b:Nat)=>a*b) (a*b)=a*m.foldl (λ(a b:Nat)=>a*b) b:=by
   intro m
   induction m with
   |nil=>intro a b;rfl|cons c m ih=>intro a b;rw[fG,fG,sN,ih]
  have:=f (t.map List.length) h.length 1;rw[xx]at this;exact this.symm
def ub a l:product (a::l)=a*product l:=by
 unfold product;have f:∀(m:List Nat)(a b:Nat),m.foldl (λ(a b:Nat)=>a*b) (a*b)=a*m.foldl (λ(a b:Nat)=>a*b) b:=by
  intro m
  induction m with
  |nil=>intro a b;rfl|cons c m ih=>intro a b;rw[fG,fG,sN,ih]
 rw[fG,xA];have:=f l a 1;rw[xx]at this;exact this
theorem Ml:∀{hs}(nd:∀h∈hs,h.Nodup){n},n<product (hs.map List.length)->(rowsOf hs)[n]?=some (rowLegs hs n)/\rankLegs hs (rowLegs hs n)=n
 |[],nd,n,h=>by
  have:n=0:=by
   have:n<1:=h;omega
  subst this;exact⟨rfl,rfl⟩
 |a::t,nd,n,h=>by
  have hb:∀x∈a,((rowsOf t).map λr=>x::r).length=product (t.map List.length):=λx _=>by rw[az,nu t]
  rw[aJ,ub]at h;obtain⟨x,h1,h2⟩:=Af hb h;have hz:0<product (t.map List.length):=by
   obtain e|e:=wL (product (t.map List.length))
   .rw[e]at h;simp at h
   .exact e
  obtain⟨i1,i2⟩:=Ml (hs:=t) (λq hq=>nd q (by simp[hq])) (kq n hz);have er:rowLegs (a::t) n=x::rowLegs t (n%product (t.map List.length)):=by
   show a.getD (n/product (t.map List.length)) 0::_=_;rw[cU,h1];rfl
  rw[er];refine⟨?_,?_⟩
  .show(a.flatMap λx=>(rowsOf t).map λr=>x::r)[n]?=_;rw[h2,a_,i1];rfl
  .show(a.findIdx λy=>y==x)*product (t.map List.length)+rankLegs t (rowLegs t (n%product (t.map List.length)))=n;rw[j5 (nd a ∅) h1,i2];exact Nat.div_add_mod' n _
abbrev Up(l:List Nat):Prop:=l.Pairwise (·<·)
def Up.nodup{l:List Nat}(h:Up l):l.Nodup:=h.imp λh=>bB h
theorem iu:∀l:List Nat,risesN l=true↔Up l
 |[]=>by simp[risesN]|[x]=>by simp[risesN]
 |x::y::l=>by
  show(decide (x<y)&&risesN (y::l))=true↔_;rw[bI,jh,iu (y::l)];rw[show Up (x::y::l)↔(∀z∈y::l,x<z)/\Up (y::l)from pairwise_cons];constructor
  .rintro⟨h,p⟩;refine⟨λz hz=>?_,p⟩;obtain e|hz:=mem_cons.mp hz
   .rw[e];exact h
   .exact xq h ((pairwise_cons.mp p).1 z hz)
  .rintro⟨h,p⟩;exact⟨h y ∅,p⟩
theorem gi:∀{r l},Up r->Up l->(∀x∈r,x∈l)->r.Sublist l
 |[],l,_,_,_=>nil_sublist l|x::r,[],_,_,h=>absurd (h x ∅) ∅
 |x::r,y::l,hr,hl,h=>by
  obtain⟨r1,r2⟩:=pairwise_cons.mp hr;obtain⟨l1,l2⟩:=pairwise_cons.mp hl;by_cases e:x=y
  .subst e;refine(gi r2 l2 λz hz=>?_).cons_cons x;obtain e|h':=mem_cons.mp (h z (by simp[hz]))
   .have:=r1 z hz;omega
   .exact h'
  .refine(gi hr l2 λz hz=>?_).cons y;have hx:x∈l:=by
    obtain e'|h':=mem_cons.mp (h x ∅)
    .exact absurd e' e
    .exact h'
   obtain e'|h':=mem_cons.mp (h z hz)
   .subst e';have hzx:=l1 x hx;obtain e'|FG:=mem_cons.mp hz
    .omega
    .have:=r1 z FG;omega
   .exact h'
theorem d5:∀k {av r},r∈risingRows k av↔r.length=k/\r.Sublist av
 |0,av,r=>by
  have e:risingRows 0 av=[[]]:=by cases av<;>rfl
  rw[e];constructor
  .intro h;have:r=[]:=by simpa using h
   subst this;exact⟨rfl,nil_sublist _⟩
  .rintro⟨h,_⟩;have:=length_eq_zero_iff.mp h;simp[this]
 |k+1,[],r=>by
  constructor
  .intro h;simp[risingRows]at h
  .rintro⟨h,hs⟩;have:=sublist_nil.mp hs;subst this;simp at h
 |k+1,x::l,r=>by
  have es:risingRows (k+1) (x::l)=((risingRows k l).map λr=>x::r)++risingRows (k+1) l:=rfl;rw[es,jr,d5 (k+1)];constructor
  .rintro(h|⟨h1,h2⟩)
   .obtain⟨q,hq,rfl⟩:=mem_map.mp h;obtain⟨h1,h2⟩:=(d5 k).mp hq;exact⟨by rw[aZ,h1],h2.cons_cons x⟩
   .exact⟨h1,h2.cons x⟩
  .rintro⟨h1,h2⟩;cases h2 with
   |cons _ h=>exact .inr ⟨h1,h⟩|cons_cons _ h=>exact .inl (mem_map.mpr ⟨_,(d5 k).mpr ⟨‹h1›,h⟩,rfl⟩)
theorem iw:∀{hs}{r},r∈rowsOf hs↔r.length=hs.length/\(r.zip hs).all (λ(z:Nat×List Nat)=>z.2.contains z.1)=true
 |[],r=>by
  show r∈ [[]]↔_;constructor
  .intro h;have:r=[]:=by simpa using h
   subst this;exact⟨rfl,rfl⟩
  .rintro⟨h,_⟩;have:=length_eq_zero_iff.mp h;simp[this]
 |h::t,r=>by
  constructor
  .intro hm;obtain⟨x,hx,hr⟩:=mem_flatMap.mp hm;obtain⟨q,hq,rfl⟩:=mem_map.mp hr;obtain⟨h1,h2⟩:=iw.mp hq;refine⟨by rw[aZ,aZ,h1],?_⟩;rw[kj,eU,h2,xl];simpa using hx
  .rintro⟨h1,h2⟩;cases r with
   |nil=>simp at h1
   |cons x q=>
    rw[kj,eU,bI]at h2;exact mem_flatMap.mpr ⟨x,‹h2.1›,mem_map.mpr ⟨q,iw.mpr ⟨‹h1›,h2.2⟩,rfl⟩⟩
theorem dO:∀{ss}{had r},r∈apartRows ss had↔r.length=ss.length/\r.Nodup/\(∀x∈r,x∉had)/\(r.zip ss).all (λ(z:Nat×List Nat)=>z.2.contains z.1)=true
 |[],had,r=>by
  show r∈ [[]]↔_;constructor
  .intro h;have:r=[]:=by simpa using h
   subst this;exact⟨rfl,by simp,by simp,rfl⟩
  .rintro⟨h,_⟩;have:=length_eq_zero_iff.mp h;simp[this]
 |s::t,had,r=>by
  constructor
  .intro hm;obtain⟨x,hx,hr⟩:=mem_flatMap.mp hm;obtain⟨q,hq,rfl⟩:=mem_map.mp hr;obtain⟨h1,h2,h3,h4⟩:=dO.mp hq;obtain⟨x1,x2⟩:=mem_filter.mp hx;have x2:x∉had:=by simpa using x2
   refine⟨by rw[aZ,aZ,h1],nodup_cons.mpr ⟨λz=>h3 x z ∅,h2⟩,λy hy=>?_,?_⟩
   .obtain e|hy:=mem_cons.mp hy
    .rw[e];exact x2
    .exact λz=>h3 y hy (by simp[z])
   .rw[kj,eU,h4,xl];simpa using x1
  .rintro⟨h1,h2,h3,h4⟩;cases r with
   |nil=>simp at h1
   |cons x q=>
    rw[kj,eU,bI]at h4;obtain⟨n1,n2⟩:=nodup_cons.mp h2;refine mem_flatMap.mpr ⟨x,mem_filter.mpr ⟨‹h4.1›,‹h3 x ∅›⟩,mem_map.mpr ⟨q,dO.mpr ⟨‹h1›,n2,λy hy z=>?_,h4.2⟩,rfl⟩⟩;obtain e|z:=mem_cons.mp z
    .exact n1 (e▸hy)
    .exact h3 y (by simp[hy]) z
def Hz{f g:α->List β}:∀{l m:List α},l.Sublist m->(∀x∈l,(f x).Sublist (g x))->(l.flatMap f).Sublist (m.flatMap g):=by
 intro l m h
 induction h with
 |slnil=>intro _;exact List.Sublist.refl _
 |cons a _ ih=>
  intro hf;rw[kS];exact(ih hf).trans (sublist_append_right _ _)
 |cons_cons a _ ih=>
  intro hf;rw[kS,kS];exact(hf a ∅).append (ih λx hx=>hf x (by simp[hx]))
theorem Ah:∀{ss hs},ss.length=hs.length->(∀z∈ss.zip hs,z.1.Sublist z.2)->(rowsOf ss).Sublist (rowsOf hs)
 |[],[],_,_=>List.Sublist.refl _|[],_::_,h,_=>by simp at h
 |_::_,[],h,_=>by simp at h
 |s::ss,h::hs,hl,hz=>by
  refine Hz (hz (s,h) ∅) λx _=>?_;exact(Ah ‹hl› λz FG=>hz z (by simp[FG])).map _
def J4:∀k {u h},u.Sublist h->(risingRows k u).Sublist (risingRows k h):=by
 intro k
 induction k with
 |zero=>
  intro u h _;have e:∀l:List Nat,risingRows 0 l=[[]]:=λl=>by cases l<;>rfl
  rw[e,e];exact List.Sublist.refl _
 |succ k ihk=>
  intro u h hs
  induction hs with
  |slnil=>exact List.Sublist.refl _
  |@cons l m x hs ih=>
   have es:risingRows (k+1) (x::m)=((risingRows k m).map λr=>x::r)++risingRows (k+1) m:=rfl;exact ih.trans (sublist_append_right _ _)
  |@cons_cons l m x hs ih=>
   have es:∀m:List Nat,risingRows (k+1) (x::m)=((risingRows k m).map λr=>x::r)++risingRows (k+1) m:=λ_=>rfl;exact((ihk hs).map _).append ih
theorem uY:∀{ss}{h had},h.Nodup->(∀s∈ss,s.Sublist h)->(apartRows ss had).Sublist (cy ss.length (h.filter λx=>!had.contains x))
 |[],h,had,nd,_=>List.Sublist.refl _
 |s::t,h,had,nd,hs=>by
  have es:apartRows (s::t) had=(s.filter λx=>!had.contains x).flatMap λx=>(apartRows t (x::had)).map λr=>x::r:=rfl;rw[es];refine Hz ((hs s ∅).filter _) λx _=>?_;have e:(h.filter λx=>!had.contains x).erase x=h.filter λy=>!(x::had).contains y:=by
   rw[List.Nodup.erase_eq_filter (nd.filter _),xo];refine pV λy _=>?_;simp only[contains_cons,Bool.not_or];congr 1
  rw[e];exact(uY nd λq hq=>hs q (by simp[hq])).map _
def jD:∀{l m:List α},l.Sublist m->m.Nodup->(∀x,x∈l↔x∈m/\p x=true)->l=m.filter p:=by
 intro l m h
 induction h with
 |slnil=>intro _ _;rfl
 |@cons l m a hs ih=>
  intro nd hx;obtain⟨n1,n2⟩:=nodup_cons.mp nd;have ha:=λz=>n1 (hs.subset z);have hp:p a=false:=by
   cases q:p a with
   |false=>rfl|true=>exact absurd ((hx a).mpr ⟨by simp,q⟩) ha
  rw[xf,af (by rw[hp];exact cg)];refine ih n2 λx=>⟨λz=>⟨hs.subset z,((hx x).mp z).2⟩,λ⟨z1,z2⟩=>(hx x).mpr ⟨by simp[z1],z2⟩⟩
 |@cons_cons l m a hs ih=>
  intro nd hx;obtain⟨n1,n2⟩:=nodup_cons.mp nd;have hp:=((hx a).mp ∅).2;rw[xf,ag hp];congr 1;refine ih n2 λx=>⟨λz=>⟨hs.subset z,((hx x).mp (by simp[z])).2⟩,λ⟨z1,z2⟩=>?_⟩;obtain e|z:=mem_cons.mp ((hx x).mpr ⟨by simp[z1],z2⟩)
  .subst e;exact absurd z1 n1
  .exact z
def EW{l:List α}{f:α->β}(h:∀(n m:Nat) x,l[n]?=some x->l[m]?=some x->n=m):l.Nodup:=by
 rw[wG,pairwise_iff_getElem];intro i j hi hj hij e;have:=h i j l[i] (bt hi) (by rw[bt hj,e]);omega
def CG(C:Card):Prop:=∀r∈C.races,r.runners<=24
def o9:∀n:Nat,Up (List.range n):=λn=>pairwise_lt_range
def RD(r:Race):Up r.heads:=by
 refine uw _ ?_;rw[mJ];exact(o9 _).imp λh=>by omega
def RE(r:Race):∀x∈r.heads,x<=r.runners:=λx hx=>by
 unfold Race.heads at hx;obtain⟨h,_⟩:=mem_filter.mp hx;obtain⟨i,hi,rfl⟩:=mem_map.mp h;have:=mem_range.mp hi;omega
def Oh(r:Race):r.heads.length<=r.runners:=by
 refine aX (ou _ _) ?_;simp
def c5(g:CG C) i:Up (C.headsOf i)/\(∀x∈C.headsOf i,x<32)/\(C.headsOf i).length<=24:=by
 unfold Card.headsOf;cases e:C.races[i-1]? with
 |none=>exact⟨List.Pairwise.nil,by simp,by simp⟩
 |some r=>
  have hr:=g r (bh e);refine⟨RD r,λx hx=>?_,?_⟩
  .have:=RE r x hx;omega
  .have:=Oh r;show r.heads.length<=24;omega
def x6(g:CG C) p:∀s∈C.sets p,Up s/\(∀x∈s,x<32)/\s.length<=24:=λs hs=>by
 unfold Card.sets at hs;obtain⟨i,_,rfl⟩:=mem_map.mp hs;exact c5 g _
def o_{C:Card}(h:p.kind≠ .legs):(C.sets p).headD []=C.headsOf p.race:=by
 unfold Card.sets Pool.legs;rw[af h];rfl
def qD{C:Card}(h:p.kind=.legs):(C.sets p).length=p.k:=by
 unfold Card.sets Pool.legs;rw[ag h];simp
noncomputable def bD(C:Card)(p:Pool):List (List Nat):=match p.kind with
 |.place=>cy 1 ((C.sets p).headD [])|.order=>cy p.k ((C.sets p).headD [])
 |.any=>risingRows p.k ((C.sets p).headD [])|.legs=>rowsOf (C.sets p)
def uc(g:CG C) p:Up ((C.sets p).headD [])/\(∀x∈(C.sets p).headD [],x<32)/\((C.sets p).headD []).length<=24:=by
 cases e:C.sets p with
 |nil=>exact⟨List.Pairwise.nil,by simp,by simp⟩|cons h t=>exact x6 g p h (by rw[e];simp)
def Ai n:orders n 1=n:=by
 cases n with
 |zero=>rfl
 |succ n=>
  show(n+1)*orders n 0=n+1;rw[kJ,xx]
def Mm(g:CG C) p:(bD C p).length=C.many p:=by
 have hu:=(uc g p).1;unfold bD Card.many;cases p.kind with
 |place=>
  rw[x5 1 hu.nodup,Ai]
 |order=>exact x5 p.k hu.nodup
 |any=>
  show(risingRows _ _).length=choose _ _;rw[nk,qB]
 |legs=>exact nu _
def qE(g:CG C) p row:row∈bD C p↔C.isCombo p row=true:=by
 have hu:=(uc g p).1;unfold bD Card.isCombo;cases p.kind with
 |place=>
  rw[qA 1 hu.nodup,bI,kM,dy];constructor
  .rintro⟨h1,_,h3⟩;exact⟨h1,λx hx=>‹h3 x hx›⟩
  .rintro⟨h1,h3⟩;refine⟨h1,?_,λx hx=>‹h3 x hx›⟩
   match row,h1 with
   |[x],_=>simp
 |order=>
  rw[qA p.k hu.nodup,bI,kM,bI,jh,dy];constructor
  .rintro⟨h1,h2,h3⟩;exact⟨h1,h2,λx hx=>‹h3 x hx›⟩
  .rintro⟨h1,h2,h3⟩;exact⟨h1,h2,λx hx=>‹h3 x hx›⟩
 |any=>
  rw[d5,bI,kM,bI,iu,dy];constructor
  .rintro⟨h1,h2⟩;exact⟨h1,hu.sublist h2,λx hx=>‹h2.subset hx›⟩
  .rintro⟨h1,h2,h3⟩;exact⟨h1,gi h2 hu λx hx=>‹h3 x hx›⟩
 |legs=>
  rw[iw,bI,kM]
def vT{C:Card}(h:C.isCombo p row=true):C.numberOf p row=some (match p.kind with
 |.any=>rankAny ((C.sets p).headD []) row|.legs=>rankLegs (C.sets p) row
 |_=>rankOrder ((C.sets p).headD []) row):=by
 unfold Card.numberOf;rw[af (by rw[h];exact Bool.noConfusion)] <;>first|rfl|(cases p.kind<;>rfl)
def J5(g:CG C)(h:n<C.many p):(bD C p)[n]?=some (C.comboOf p n)/\C.numberOf p (C.comboOf p n)=some n:=by
 have hu:=uc g p;have key:(bD C p)[n]?=some (C.comboOf p n)/\(match p.kind with
   |.any=>rankAny ((C.sets p).headD []) (C.comboOf p n)|.legs=>rankLegs (C.sets p) (C.comboOf p n)
   |_=>rankOrder ((C.sets p).headD []) (C.comboOf p n))=n:=by
  unfold Card.many at h;unfold bD Card.comboOf;cases e:p.kind with
  |place=>
   rw[e]at h;exact J2 1 hu.1.nodup (by rw[Ai];exact h)
  |order=>
   rw[e]at h;exact J2 p.k hu.1.nodup h
  |any=>
   rw[e]at h;have h:n<choose ((C.sets p).headD []).length p.k:=h;rw[qB]at h;exact J3 (RUNNERS+1) p.k hu.1.nodup (by show _<25;omega) h
  |legs=>
   rw[e]at h;exact Ml (λs hs=>(x6 g p s hs).1.nodup) h
 refine⟨key.1,?_⟩;rw[vT ((qE g p _).mp (bh key.1))];exact b_ some key.2
def RF(g:CG C)(h:(bD C p)[n]?=some row):n<C.many p/\row=C.comboOf p n/\C.numberOf p row=some n:=by
 have hn:n<C.many p:=by
  rw[<-Mm g p];exact(List.getElem?_eq_some_iff.mp h).1
 obtain⟨h1,h2⟩:=J5 g hn;have e:=Option.some.inj (h.symm.trans h1);exact⟨hn,e,by rw[e];exact h2⟩
def Oi(g:CG C) p:(bD C p).Nodup:=by
 refine EW (f:=id) λn m x h1 h2=>?_;have a:=(RF g h1).2.2;have b:=(RF g h2).2.2;exact Option.some.inj (a.symm.trans b)
def ph l:Up (together l):=uw _ (o9 32)
def du{l:List (List Nat)}{x:Nat}:x∈together l↔x<32/\∃s∈l,x∈s:=by
 unfold together;simp
noncomputable def SR(s heads:List Nat):Bool:=!s.isEmpty&&(risesN s&&s.all heads.contains)
def Mp{s h:List Nat}(k:SR s h=true)(hu:Up h):s.Sublist h/\s≠ []/\Up s:=by
 unfold SR at k;simp only[Bool.and_eq_true,all_eq_true]at k;obtain⟨k1,k2,k3⟩:=k;have hs:=(iu s).mp k2;exact⟨gi hs hu λx hx=>‹k3 x hx›,by intro e;rw[e]at k1;simp at k1,hs⟩
def iy(g:CG C){b:Bet}(h:C.setsRight b=true):
  ((C.pool b.pool).kind=.legs/\b.how=.on/\b.sets.length=(C.sets (C.pool b.pool)).length/\∀z∈b.sets.zip (C.sets (C.pool b.pool)),z.1.Sublist z.2)\/
  ((C.pool b.pool).kind≠ .legs/\b.how=.on/\b.sets.length=(C.pool b.pool).places/\∀s∈b.sets,s.Sublist (C.headsOf (C.pool b.pool).race))\/
  (((C.pool b.pool).kind=.order\/(C.pool b.pool).kind=.any)/\b.how=.box/\∃s,b.sets=[s]/\s.Sublist (C.headsOf (C.pool b.pool).race))\/
  (((C.pool b.pool).kind=.order\/(C.pool b.pool).kind=.any)/\b.how=.key/\∃A B,b.sets=[A,B]/\A.Sublist (C.headsOf (C.pool b.pool).race)/\B.Sublist (C.headsOf (C.pool b.pool).race)):=by
 have hh:=(c5 g (C.pool b.pool).race).1;have ho:∀{s:List Nat},SR s (C.headsOf (C.pool b.pool).race)=true->s.Sublist (C.headsOf (C.pool b.pool).race):=λk=>(Mp k hh).1;unfold Card.setsRight at h;cases e:b.how with
 |on=>
  rw[e]at h;rw[bI,kM]at h;by_cases hk:(C.pool b.pool).kind=.legs
  .rw[ag hk,dy]at h;refine .inl ⟨hk,rfl,?_,λz hz=>?_⟩
   .rw[h.1,qD hk];unfold Pool.places;rw[af (by rw[hk];decide)]
   .have hm:=(mL hz).2;exact(Mp (h.2 z hz) (x6 g _ _ hm).1).1
  .rw[af hk,dy]at h;exact .inr (.inl ⟨hk,rfl,h.1,λs hs=>ho (h.2 s hs)⟩)
 |box=>
  rw[e]at h;have h:(((C.pool b.pool).kind==.order||(C.pool b.pool).kind==.any)&&(b.sets.length==1&&b.sets.all λ(s:List Nat)=>SR s (C.headsOf (C.pool b.pool).race)&&decide ((C.pool b.pool).k<=s.length)))=true:=h;simp only[Bool.and_eq_true,Bool.or_eq_true,beq_iff_eq,all_eq_true]at h;obtain⟨h1,h2,h3⟩:=h;obtain⟨s,hs⟩:=length_eq_one_iff.mp h2;exact .inr (.inr (.inl ⟨h1,rfl,s,hs,ho (h3 s (by rw[hs];simp)).1⟩))
 |key=>
  rw[e]at h;have h:(((C.pool b.pool).kind==.order||(C.pool b.pool).kind==.any)&&(b.sets.length==2&&(b.sets.all (λ(s:List Nat)=>SR s (C.headsOf (C.pool b.pool).race))&&_)))=true:=h;simp only[Bool.and_eq_true,Bool.or_eq_true,beq_iff_eq,all_eq_true]at h;obtain⟨h1,h2,h3,_⟩:=h;obtain⟨A,B,hs⟩:=Gy h2;exact .inr (.inr (.inr ⟨h1,rfl,A,B,hs,ho (h3 A (by rw[hs];simp)),ho (h3 B (by rw[hs];simp))⟩))
def uZ{C:Card}{b:Bet}(h:C.has b row=true):C.isCombo (C.pool b.pool) row=true:=by
 exact(bI _ _▸h).1
theorem C7:∀{ss}{row},fillsSets row ss=true->∀x∈row,∃s∈ss,x∈s
 |[],row,h,x,hx=>by
  have:row=[]:=by simpa[fillsSets]using h
  rw[this]at hx;simp at hx
 |s::t,row,h,x,hx=>by
  obtain⟨y,hy,hq⟩:=any_eq_true.mp h;rw[bI]at hq;by_cases e:x=y
  .subst e;exact⟨s,by simp,‹hq.1›⟩
  .obtain⟨q,YN,SM⟩:=C7 hq.2 x ((xa e).mpr hx);exact⟨q,by simp[YN],SM⟩
theorem x8:∀{k}{row u:List Nat},row.length=k->((row.zip (List.replicate k u)).all (λ(z:Nat×List Nat)=>z.2.contains z.1)=true↔∀x∈row,x∈u)
 |0,row,u,h=>by
  have:=length_eq_zero_iff.mp h;subst this;simp
 |k+1,[],u,h=>by simp at h
 |k+1,x::row,u,h=>by
  rw[ki,kj,eU,bI,x8 ‹h›,forall_mem_cons];simp
def x9(g:CG C){b:Bet}(h:C.setsRight b=true):C.rows b=(bD C (C.pool b.pool)).filter (C.has b):=by
 have hh:=c5 g (C.pool b.pool).race;have ZF:=Oi g (C.pool b.pool);have abr:∀{l:List (List Nat)},l.Sublist (bD C (C.pool b.pool))->(∀x,C.has b x=true->x∈l)->l.filter (C.has b)=(bD C (C.pool b.pool)).filter (C.has b):=λ{l} hs hm=>by
  refine jD ((filter_sublist).trans hs) ZF λx=>⟨λz=>?_,λz=>?_⟩
  .obtain⟨z1,z2⟩:=mem_filter.mp z;exact⟨hs.subset z1,z2⟩
  .exact mem_filter.mpr ⟨hm x z.2,z.2⟩
 have eD:(C.pool b.pool).kind≠ .legs->(C.sets (C.pool b.pool)).headD []=C.headsOf (C.pool b.pool).race:=o_;have tog:(∀s∈b.sets,s.Sublist (C.headsOf (C.pool b.pool).race))->(together b.sets).Sublist (C.headsOf (C.pool b.pool).race):=λhs=>by
  refine gi (ph _) hh.1 λx hx=>?_;obtain⟨_,s,h1,h2⟩:=du.mp hx;exact(hs s h1).subset h2
 have anyC:(C.pool b.pool).kind=.any->(∀s∈b.sets,s.Sublist (C.headsOf (C.pool b.pool).race))->(∀row,C.has b row=true->∀x∈row,x∈together b.sets)->C.rows b=(bD C (C.pool b.pool)).filter (C.has b):=λhk hs hm=>by
  have er:C.rows b=(risingRows (C.pool b.pool).k (together b.sets)).filter (C.has b):=by unfold Card.rows;dsimp only;rw[hk]
  have ea:bD C (C.pool b.pool)=risingRows (C.pool b.pool).k (C.headsOf (C.pool b.pool).race):=by unfold bD;rw[hk];show risingRows _ _=_;rw[eD (by rw[hk];decide)]
  rw[er];refine abr (by rw[ea];exact J4 _ (tog hs)) λrow hr=>?_;have hc:=(qE g _ row).mpr (uZ hr);rw[ea]at hc;obtain⟨c1,c2⟩:=(d5 _).mp hc;exact(d5 _).mpr ⟨c1,gi (hh.1.sublist c2) (ph _) (hm row hr)⟩
 have abt:(C.pool b.pool).kind=.order->b.how≠ .on->(∀s∈b.sets,s.Sublist (C.headsOf (C.pool b.pool).race))->(∀row,C.has b row=true->∀x∈row,x∈together b.sets)->C.rows b=(bD C (C.pool b.pool)).filter (C.has b):=λhk hw hs hm=>by
  have er:C.rows b=(apartRows (List.replicate (C.pool b.pool).k (together b.sets)) []).filter (C.has b):=by
   unfold Card.rows;dsimp only;rw[hk];cases q:b.how with
   |on=>exact absurd q hw|box=>rfl
   |key=>rfl
  have ea:bD C (C.pool b.pool)=cy (C.pool b.pool).k (C.headsOf (C.pool b.pool).race):=by unfold bD;rw[hk];show cy _ _=_;rw[eD (by rw[hk];decide)]
  rw[er];refine abr ?_ λrow hr=>?_
  .have:=uY (ss:=List.replicate (C.pool b.pool).k (together b.sets)) (had:=[]) hh.1.nodup (λs Ii=>by
    rw[(mem_replicate.mp Ii).2];exact tog hs)
   rw[jK]at this;have e0:(C.headsOf (C.pool b.pool).race).filter (λx=>!([]:List Nat).contains x)=C.headsOf (C.pool b.pool).race:=filter_eq_self.mpr λx _=>rfl;rw[e0]at this;rw[ea];exact this
  .have hc:=(qE g _ row).mpr (uZ hr);rw[ea]at hc;obtain⟨c1,c2,c3⟩:=(qA _ hh.1.nodup).mp hc;exact dO.mpr ⟨by rw[jK];exact c1,c2,by simp,(x8 c1).mpr (hm row hr)⟩
 obtain⟨hk,hw,hl,hz⟩|⟨hk,hw,hl,hs⟩|⟨hk,hw,s,es,hs⟩|⟨hk,hw,A,B,es,hA,hB⟩:=iy g h
 .have er:C.rows b=rowsOf b.sets:=by unfold Card.rows;dsimp only;rw[hk]
  have ea:bD C (C.pool b.pool)=rowsOf (C.sets (C.pool b.pool)):=by unfold bD;rw[hk]
  have hs:(rowsOf b.sets).Sublist (bD C (C.pool b.pool)):=by rw[ea];exact Ah hl hz
  rw[er];refine jD hs ZF λrow=>?_;have eh:C.has b row=(C.isCombo (C.pool b.pool) row&&(row.zip b.sets).all λ(z:Nat×List Nat)=>z.2.contains z.1):=by
   unfold Card.has;rw[hw];show(_&&(if(C.pool b.pool).kind=.any then _ else _))=_;rw[af (by rw[hk];decide)]
  rw[eh,bI,<-qE g];constructor
  .intro hm;exact⟨hs.subset hm,hs.subset hm,(iw.mp hm).2⟩
  .rintro⟨h1,_,h2⟩;rw[ea]at h1;exact iw.mpr ⟨by rw[hl];exact(iw.mp h1).1,h2⟩
 .cases GD:(C.pool b.pool).kind with
  |legs=>exact absurd GD hk
  |any=>
   refine anyC GD hs λrow hr x hx=>?_;have eh:C.has b row=(C.isCombo (C.pool b.pool) row&&fillsSets row b.sets):=by
    unfold Card.has;rw[hw];show(_&&(if(C.pool b.pool).kind=.any then _ else _))=_;rw[ag GD]
   rw[eh,bI]at hr;obtain⟨s,h1,h2⟩:=C7 hr.2 x hx;exact du.mpr ⟨hh.2.1 x ((hs s h1).subset h2),s,h1,h2⟩
  |order=>
   have hp:b.sets.length=(C.pool b.pool).k:=by
    rw[hl];unfold Pool.places;rw[af (by rw[GD];decide)]
   have er:C.rows b=apartRows b.sets []:=by unfold Card.rows;dsimp only;rw[GD,hw]
   have ea:bD C (C.pool b.pool)=cy (C.pool b.pool).k (C.headsOf (C.pool b.pool).race):=by unfold bD;rw[GD];show cy _ _=_;rw[eD hk]
   have qM:(apartRows b.sets []).Sublist (bD C (C.pool b.pool)):=by
    have:=uY (ss:=b.sets) (had:=[]) hh.1.nodup hs;have e0:(C.headsOf (C.pool b.pool).race).filter (λx=>!([]:List Nat).contains x)=C.headsOf (C.pool b.pool).race:=filter_eq_self.mpr λx _=>rfl;rw[e0,hp]at this;rw[ea];exact this
   rw[er];refine jD qM ZF λrow=>?_;have eh:C.has b row=(C.isCombo (C.pool b.pool) row&&(row.zip b.sets).all λ(z:Nat×List Nat)=>z.2.contains z.1):=by
    unfold Card.has;rw[hw];show(_&&(if(C.pool b.pool).kind=.any then _ else _))=_;rw[af (by rw[GD];decide)]
   rw[eh,bI,<-qE g];constructor
   .intro hm;exact⟨qM.subset hm,qM.subset hm,(dO.mp hm).2.2.2⟩
   .rintro⟨h1,_,h2⟩;rw[ea]at h1;obtain⟨c1,c2,c3⟩:=(qA _ hh.1.nodup).mp h1;exact dO.mpr ⟨by rw[hp];exact c1,c2,by simp,h2⟩
  |place=>
   have hp:b.sets.length=1:=by
    rw[hl];unfold Pool.places;rw[ag GD]
   obtain⟨s,es⟩:=length_eq_one_iff.mp hp;have SQ:=hs s (by rw[es];simp);have er:C.rows b=s.map λx=>[x]:=by unfold Card.rows;dsimp only;rw[GD,es];rfl
   have ea:bD C (C.pool b.pool)=cy 1 (C.headsOf (C.pool b.pool).race):=by unfold bD;rw[GD];show cy _ _=_;rw[eD hk]
   have e1:∀l:List Nat,cy 1 l=l.map λx=>[x]:=λl=>by
    show(l.flatMap λx=>([[]]:List (List Nat)).map λr=>x::r)=_;rw[flatMap_def]
    induction l with
    |nil=>rfl|cons a l ih=>rw[aJ,mH,ih];rfl
   have qM:(s.map λx=>[x]).Sublist (bD C (C.pool b.pool)):=by rw[ea,e1];exact SQ.map _
   rw[er];refine jD qM ZF λrow=>?_;have eh:C.has b row=(C.isCombo (C.pool b.pool) row&&(row.zip b.sets).all λ(z:Nat×List Nat)=>z.2.contains z.1):=by
    unfold Card.has;rw[hw];show(_&&(if(C.pool b.pool).kind=.any then _ else _))=_;rw[af (by rw[GD];decide)]
   rw[eh,bI,<-qE g,es];constructor
   .intro hm;obtain⟨x,hx,rfl⟩:=mem_map.mp hm;exact⟨qM.subset hm,qM.subset hm,‹hx›⟩
   .rintro⟨h1,_,h2⟩;rw[ea,e1]at h1;obtain⟨x,hx,rfl⟩:=mem_map.mp h1;exact mem_map.mpr ⟨x,‹h2›,rfl⟩
 .have Ii:∀q∈b.sets,q.Sublist (C.headsOf (C.pool b.pool).race):=λq hq=>by
   rw[es]at hq;have:q=s:=‹hq›
   rw[this];exact hs
  have hm:∀row,C.has b row=true->∀x∈row,x∈together b.sets:=λrow hr x hx=>by
   have eh:C.has b row=(C.isCombo (C.pool b.pool) row&&row.all λ(x:Nat)=>(b.sets.headD []).contains x):=by
    unfold Card.has;rw[hw]
   rw[eh,bI,dy,es]at hr;have:x∈s:=‹hr.2 x hx›
   rw[es];exact du.mpr ⟨hh.2.1 x (hs.subset this),s,by simp,this⟩
  obtain hk|hk:=hk
  .exact abt hk (by rw[hw];decide) Ii hm
  .exact anyC hk Ii hm
 .have Ii:∀q∈b.sets,q.Sublist (C.headsOf (C.pool b.pool).race):=λq hq=>by
   rw[es]at hq;obtain e|hq:=mem_cons.mp hq
   .rw[e];exact hA
   .have:q=B:=by simpa using hq
    rw[this];exact hB
  have hm:∀row,C.has b row=true->∀x∈row,x∈together b.sets:=λrow hr x hx=>by
   have eh:C.has b row=(C.isCombo (C.pool b.pool) row&&((b.sets.headD []).all (λ(x:Nat)=>row.contains x)&&row.all λ(x:Nat)=>(b.sets.headD []).contains x||(b.sets.getD 1 []).contains x)):=by
    unfold Card.has;rw[hw]
   rw[eh,bI,bI,es]at hr;have:=all_eq_true.mp hr.2.2 x hx;have:x∈A\/x∈B:=‹this›
   rw[es];obtain q|q:=this
   .exact du.mpr ⟨hh.2.1 x (hA.subset q),A,by simp,q⟩
   .exact du.mpr ⟨hh.2.1 x (hB.subset q),B,by simp,q⟩
  obtain hk|hk:=hk
  .exact abt hk (by rw[hw];decide) Ii hm
  .exact anyC hk Ii hm
noncomputable def eK(C:Card)(b:Bet):List Nat:=(List.range (C.many (C.pool b.pool))).filter λn=>C.has b (C.comboOf (C.pool b.pool) n)
def all_map(g:CG C) p:bD C p=(List.range (C.many p)).map (C.comboOf p):=by
 refine pU λn=>?_;rw[a_];by_cases h:n<C.many p
 .rw[(J5 g h).1,xc h];rfl
 .rw[ot (by rw[Mm g p];omega),ot (by simp;omega)];rfl
def Aj(g:CG C){b:Bet}(h:C.setsRight b=true):C.rows b=(eK C b).map (C.comboOf (C.pool b.pool)):=by
 rw[x9 g h,all_map g,pZ];rfl
theorem u5(g:CG C):∀(l:List Nat),(∀n∈l,n<C.many p)->(l.map (C.comboOf p)).filterMap (C.numberOf p)=l
 |[],_=>rfl
 |a::l,h=>by
  rw[aJ,jM,(J5 g (h a ∅)).2];rw[u5 g l λn hn=>h n (by simp[hn])]
def Ak{b:Bet}:∀n∈eK C b,n<C.many (C.pool b.pool):=λn hn=>mem_range.mp (mem_filter.mp hn).1
def Al{b:Bet}:Up (eK C b):=uw _ (o9 _)
def EX(g:CG C){b:Bet}(h:C.setsRight b=true):C.moneyList b=(eK C b).map λn=>(n,b.stake):=by
 unfold Card.moneyList;rw[Aj g h,u5 g _ Ak]
def C8(g:CG C){b:Bet}(h:C.setsRight b=true):C.manyOf b=(eK C b).length:=by
 have hr:(C.rows b).length=(eK C b).length:=by rw[Aj g h,az]
 unfold Card.manyOf;split
 .rename_i hk;rw[<-hr];have er:C.rows b=rowsOf b.sets:=by unfold Card.rows;dsimp only;rw[hk]
  rw[er,nu]
 .exact hr
def Vc{s t:Option Card}(h:rJ s ws t)(hs:∀C,s=some C->CG C):∀C,t=some C->CG C:=by
 intro D hD;cases s with
 |none=>
  obtain⟨n,_,_,e⟩:=h;rw[e]at hD;cases hD;intro r hr;simp[noCard]at hr
 |some C=>
  have gC:=hs C rfl;obtain⟨r,rest,_,_,_,hr,e⟩|⟨p,rest,x,_,_,_,_,_,e⟩:=h
  .rw[e]at hD;cases hD;intro q hq;obtain z|z:=mem_append.mp hq
   .exact gC q z
   .have:q=r:=by simpa using z
    subst this;obtain⟨w,cs,_,_,_,Zn,_⟩:=hr;exact Zn
  .rw[e]at hD;cases hD;exact gC
theorem Mq:∀{ls}{s t},ig s ls t->(∀C,s=some C->CG C)->∀C,t=some C->CG C
 |[],s,t,h,hs,C,hC=>by
  rw[h]at hC;exact hs C hC
 |l::ls,s,t,h,hs,C,hC=>by
  obtain⟨u,h1,h2⟩:=h;exact Mq h2 (Vc h1 hs) C hC
def Mr{b:Bytes}(h:readCard b=.ok C):CG C:=by
 obtain⟨⟨ls,_,hf⟩,_⟩:=kG.mp h;exact Mq hf (λ_ z=>by cases z) C rfl
def fO(heads:List Nat)(w:Bytes)(s:List Nat):Prop:=(splitOn 44 [] w).mapM numberOf=some s/\risesN s=true/\s.all heads.contains=true
def fP{e:Nat}{l:List Word}{x:(List Nat×Nat)×List Word}:setIn e heads l=.ok x↔∃w,l=w::x.2/\fO heads w.w x.1.1/\x.1.2=w.at_:=by
 unfold setIn;rw[aF];constructor
 .rintro⟨y,h1,h2⟩;have h1:=jv.mp h1;split at h2
  .cases h2
  .rename_i s hs;split at h2
   .rename_i hc;cases h2;exact⟨y.1,h1,⟨hs,hc.1,hc.2⟩,rfl⟩
   .cases h2
 .rintro⟨w,h1,⟨h2,h3,h4⟩,h5⟩;refine⟨(w,x.2),jv.mpr h1,?_⟩;rw[h2];dsimp only;rw[ag ⟨h3,h4⟩];obtain⟨⟨a,b⟩,c⟩:=x;cases h5;rfl
noncomputable def j6:List (List Nat)->List Bytes->List (List Nat)->Prop
 |[],ws,q=>ws=[]/\q=[]|[h],ws,q=>∃w s,ws=[w]/\fO h w s/\q=[s]
 |h::i::t,ws,q=>∃w s rest r,ws=w::ascii "/"::rest/\fO h w s/\j6 (i::t) rest r/\q=s::r
def bX{l:List Word}{w:Bytes}{r:List Bytes}(h:l.map (·.w)=w::r):∃x m,l=x::m/\x.w=w/\m.map (·.w)=r:=by
 cases l with
 |nil=>cases h
 |cons x m=>
  injection h with h1 h2;exact⟨x,m,rfl,h1,h2⟩
theorem qF{e:Nat}:∀{hs}{l}{q},setsIn e hs l=.ok q↔j6 hs (l.map (·.w)) q
 |[],l,q=>by
  show((closed l).map λ(_:Unit)=>[])=.ok q↔_;rw[jT];constructor
  .rintro⟨u,h1,h2⟩;have:=ic.mp h1;subst this;exact⟨rfl,h2.symm⟩
  .rintro⟨h1,h2⟩;have:l=[]:=by simpa using h1
   subst this;exact⟨Unit.unit,rfl,h2.symm⟩
 |[h],l,q=>by
  show(setIn e h l>>=λs=>closed s.2>>=λ_=>pure [s.1.1])=.ok q↔_;rw[aF];constructor
  .rintro⟨s,h1,h2⟩;obtain⟨w,e1,e2,e3⟩:=fP.mp h1;obtain⟨u,h3,h4⟩:=aF.mp h2;have h3:=ic.mp h3;cases h4;exact⟨w.w,s.1.1,by rw[e1,h3];rfl,e2,rfl⟩
  .rintro⟨w,s,e1,e2,e3⟩;obtain⟨x,m,rfl,hw,hm⟩:=bX e1;have:m=[]:=by simpa using hm
   subst this;refine⟨((s,x.at_),[]),fP.mpr ⟨x,rfl,by rw[hw];exact e2,rfl⟩,aF.mpr ⟨Unit.unit,rfl,?_⟩⟩;rw[e3];rfl
 |h::i::t,l,q=>by
  show(setIn e h l>>=λs=>must e "/" s.2>>=λm=>setsIn e (i::t) m>>=λr=>pure (s.1.1::r))=.ok q↔_;rw[aF];constructor
  .rintro⟨s,h1,h2⟩;obtain⟨w,e1,e2,e3⟩:=fP.mp h1;obtain⟨m,h3,h4⟩:=aF.mp h2;obtain⟨v,h5,h6⟩:=iG.mp h3;obtain⟨r,h7,h8⟩:=aF.mp h4;cases h8;refine⟨w.w,s.1.1,m.map (·.w),r,by rw[e1,h5,aJ,aJ,h6],e2,qF.mp h7,rfl⟩
  .rintro⟨w,s,rest,r,e1,e2,e3,e4⟩;obtain⟨x,m,rfl,hw,hm⟩:=bX e1;obtain⟨y,m',rfl,hy,UH⟩:=bX hm;refine⟨((s,x.at_),y::m'),fP.mpr ⟨x,rfl,by rw[hw];exact e2,rfl⟩,aF.mpr ⟨m',iG.mpr ⟨y,rfl,hy⟩,aF.mpr ⟨r,qF.mpr (by rw[UH];exact e3),?_⟩⟩⟩;rw[e4];rfl
noncomputable def dI(C:Card)(p:Pool):List (List Nat):=if p.kind=.legs then C.sets p else List.replicate p.places (C.headsOf p.race)
def ud(p:Pool):Prop:=p.kind=.order\/p.kind=.any
abbrev dP(C:Card)(p:Pool)(hw:Bytes)(tail:List Bytes)(how:How)(sets:List (List Nat)):Prop:=
  (hw=ascii "on"/\how=.on/\j6 (dI C p) tail sets)\/
   (hw=ascii "box"/\ud p/\how=.box/\∃w s,tail=[w]/\fO (C.headsOf p.race) w s/\p.k<=s.length/\sets=[s])\/
   (hw=ascii "key"/\ud p/\how=.key/\∃wa wb A B,tail=[wa,ascii "with",wb]/\fO (C.headsOf p.race) wa A/\A.length<p.k/\fO (C.headsOf p.race) wb B/\
    (B.any λ(y:Nat)=>A.contains y)=false/\p.k<=A.length+B.length/\sets=[A,B])
structure qX(C:Card)(ws:List Bytes)(x:Bet):Prop where
 ex:∃n st hw tail,ws=ascii "bet"::n::ascii "for"::st::hw::tail/\(C.pools.findIdx? λ(p:Pool)=>p.name==n)=some x.pool/\numberOf st=some x.stake/\
  dP C (C.pool x.pool) hw tail x.how x.sets
 s1:1<=x.stake
 s2:x.stake<=1000000
 s3:x.stake%(C.pool x.pool).unit=0
 m1:0<C.manyOf x
 m2:x.stake*C.manyOf x<=COST
def HA{e:Nat}{l:List Word}{q:List (List Nat)}:boxIn e p heads l=.ok q↔∃w s,l.map (·.w)=[w]/\fO heads w s/\p.k<=s.length/\q=[s]:=by
 show(setIn e heads l>>=λs=>holds (decide (p.k<=s.1.1.length)) 4 s.1.2>>=λ_=>closed s.2>>=λ_=>pure [s.1.1])=.ok q↔_;rw[aF];constructor
 .rintro⟨s,h1,h2⟩;obtain⟨w,e1,e2,e3⟩:=fP.mp h1;obtain⟨_,h3,h4⟩:=aF.mp h2;obtain⟨_,h5,h6⟩:=aF.mp h4;have h3:=dj.mp h3;have h5:=ic.mp h5;cases h6;exact⟨w.w,s.1.1,by rw[e1,h5];rfl,e2,‹h3›,rfl⟩
 .rintro⟨w,s,e1,e2,e3,e4⟩;obtain⟨x,m,rfl,hw,hm⟩:=bX e1;have:m=[]:=by simpa using hm
  subst this;refine⟨((s,x.at_),[]),fP.mpr ⟨x,rfl,by rw[hw];exact e2,rfl⟩,aF.mpr ⟨Unit.unit,dj.mpr ‹e3›,aF.mpr ⟨Unit.unit,rfl,?_⟩⟩⟩;rw[e4];rfl
def HB{e:Nat}{l:List Word}{q:List (List Nat)}:keyIn e p heads l=.ok q↔∃wa wb A B,l.map (·.w)=[wa,ascii "with",wb]/\fO heads wa A/\A.length<p.k/\fO heads wb B/\
    (B.any λ(y:Nat)=>A.contains y)=false/\p.k<=A.length+B.length/\q=[A,B]:=by
 show(setIn e heads l>>=λa=>holds (decide (a.1.1.length<p.k)) 4 a.1.2>>=λ_=>must e "with" a.2>>=λm=>setIn e heads m>>=λb=>holds (!(b.1.1.any λ(x:Nat)=>a.1.1.contains x)&&decide (p.k<=a.1.1.length+b.1.1.length)) 4 b.1.2>>=λ_=>closed b.2>>=λ_=>pure [a.1.1,b.1.1])=.ok q↔_;rw[aF];constructor
 .rintro⟨a,h1,h2⟩;obtain⟨w,e1,e2,e3⟩:=fP.mp h1;obtain⟨_,h3,h4⟩:=aF.mp h2;obtain⟨m,h5,h6⟩:=aF.mp h4;obtain⟨b,h7,h8⟩:=aF.mp h6;obtain⟨_,h9,XX⟩:=aF.mp h8;obtain⟨_,P7,Ih⟩:=aF.mp XX;have h3:=dj.mp h3;obtain⟨v,f1,f2⟩:=iG.mp h5;obtain⟨w',g1,g2,g3⟩:=fP.mp h7;have h9:=dj.mp h9;have P7:=ic.mp P7;cases Ih;rw[bI]at h9;exact⟨w.w,w'.w,a.1.1,b.1.1,by rw[e1,f1,g1,P7,aJ,aJ,f2];rfl,e2,‹h3›,g2,‹h9.1›,‹h9.2›,rfl⟩
 .rintro⟨wa,wb,A,B,e1,e2,e3,e4,e5,e6,e7⟩;obtain⟨x,m,rfl,hw,hm⟩:=bX e1;obtain⟨y,m',rfl,hy,UH⟩:=bX hm;obtain⟨z,m'',rfl,hz,ael⟩:=bX UH;have:m''=[]:=by simpa using ael
  subst this;refine⟨((A,x.at_),y::z::[]),fP.mpr ⟨x,rfl,by rw[hw];exact e2,rfl⟩,aF.mpr ⟨Unit.unit,dj.mpr ‹e3›,aF.mpr ⟨[z],iG.mpr ⟨y,rfl,hy⟩,aF.mpr ⟨((B,z.at_),[]),fP.mpr ⟨z,rfl,by rw[hz];exact e4,rfl⟩,
   aF.mpr ⟨Unit.unit,dj.mpr (by rw[bI];exact⟨by rw[e5];rfl,‹e6›⟩),aF.mpr ⟨Unit.unit,rfl,?_⟩⟩⟩⟩⟩⟩
  rw[e7];rfl
def jE p:(p.kind==.order||p.kind==.any)=true↔ud p:=by
 unfold ud;rw[Dk,kM,kM]
def Ms{C:Card}{b x:Bet}{p q:Nat}:(holds (decide (0<C.manyOf b)) 6 p>>=λ_=>holds (decide (b.stake*C.manyOf b<=COST)) 7 q>>=λ_=>(pure b:Except Fault Bet))=.ok x↔x=b/\0<C.manyOf b/\b.stake*C.manyOf b<=COST:=by
 rw[aF];constructor
 .rintro⟨_,h1,h2⟩;obtain⟨_,h3,h4⟩:=aF.mp h2;cases h4;exact⟨rfl,‹dj.mp h1›,‹dj.mp h3›⟩
 .rintro⟨rfl,h1,h2⟩;exact⟨Unit.unit,dj.mpr ‹h1›,aF.mpr ⟨Unit.unit,dj.mpr ‹h2›,rfl⟩⟩
def HC{e:Nat}{x:Bet}:C.betIn ⟨ws,e⟩=.ok x↔qX C (ws.map (·.w)) x:=by
 unfold Card.betIn;rw[aF];constructor
 .rintro⟨m,h1,h2⟩;obtain⟨w0,rfl,k0⟩:=iG.mp h1;obtain⟨n,h3,h4⟩:=aF.mp h2;have h3:=jv.mp h3;subst h3;split at h4
  .cases h4
  rename_i i hi;obtain⟨m2,h5,h6⟩:=aF.mp h4;obtain⟨w2,e2,k2⟩:=iG.mp h5;obtain⟨s,h7,h8⟩:=aF.mp h6;obtain⟨w3,e3,k3,k4,k5,k6⟩:=lW.mp h7;obtain⟨_,h9,XX⟩:=aF.mp h8;have h9:=dj.mp h9;obtain⟨w,P7,Ih⟩:=aF.mp XX;have P7:=jv.mp P7;have hws:(w0::n.1::n.2).map (·.w)=ascii "bet"::n.1.w::ascii "for"::w3.w::w.1.w::w.2.map (·.w):=by
   rw[e2,e3,P7,aJ,aJ,aJ,aJ,aJ,k0,k2]
  rw[hws];dsimp only at Ih;have hb:x.pool=i/\x.stake=s.1.1/\(0<C.manyOf x/\x.stake*C.manyOf x<=COST)/\((w.1.w=ascii "on"/\x.how=.on/\j6 (dI C (C.pool i)) (w.2.map (·.w)) x.sets)\/
    (w.1.w=ascii "box"/\ud (C.pool i)/\x.how=.box/\∃v s,w.2.map (·.w)=[v]/\fO (C.headsOf (C.pool i).race) v s/\(C.pool i).k<=s.length/\x.sets=[s])\/
    (w.1.w=ascii "key"/\ud (C.pool i)/\x.how=.key/\∃wa wb A B,w.2.map (·.w)=[wa,ascii "with",wb]/\fO (C.headsOf (C.pool i).race) wa A/\A.length<(C.pool i).k/\fO (C.headsOf (C.pool i).race) wb B/\
     (B.any λ(y:Nat)=>A.contains y)=false/\(C.pool i).k<=A.length+B.length/\x.sets=[A,B])):=by
   split at Ih
   .rename_i hw;obtain⟨b,XY,P8⟩:=aF.mp Ih;obtain⟨rfl,j1,j2⟩:=Ms.mp P8;obtain⟨q,YN,SM⟩:=jT.mp XY;subst SM;exact⟨rfl,rfl,⟨j1,j2⟩,.inl ⟨hw,rfl,qF.mp YN⟩⟩
   split at Ih
   .rename_i hw;obtain⟨b,XY,P8⟩:=aF.mp Ih;obtain⟨rfl,j1,j2⟩:=Ms.mp P8;obtain⟨q,YN,SM⟩:=jT.mp XY;subst SM;exact⟨rfl,rfl,⟨j1,j2⟩,.inr (.inl ⟨hw.1,(jE _).mp hw.2,rfl,HA.mp YN⟩)⟩
   split at Ih
   .rename_i hw;obtain⟨b,XY,P8⟩:=aF.mp Ih;obtain⟨rfl,j1,j2⟩:=Ms.mp P8;obtain⟨q,YN,SM⟩:=jT.mp XY;subst SM;exact⟨rfl,rfl,⟨j1,j2⟩,.inr (.inr ⟨hw.1,(jE _).mp hw.2,rfl,HB.mp YN⟩)⟩
   .cases Ih
  obtain⟨b1,b2,bm,b3⟩:=hb;rw[<-b1]at hi b3 h9;rw[<-b2]at k3 k4 k5 h9;exact⟨⟨n.1.w,w3.w,w.1.w,w.2.map (·.w),rfl,hi,k3,b3⟩,k4,k5,‹h9›,bm.1,bm.2⟩
 .rintro⟨⟨n,st,hw,tail,e0,hi,k3,hb⟩,k4,k5,k6,k7,k8⟩;obtain⟨w0,m0,rfl,a0,e1⟩:=bX e0;obtain⟨w1,m1,rfl,a1,e2⟩:=bX e1;obtain⟨w2,m2,rfl,a2,e3⟩:=bX e2;obtain⟨w3,m3,rfl,a3,e4⟩:=bX e3;obtain⟨w4,m4,rfl,a4,e5⟩:=bX e4;refine⟨w1::w2::w3::w4::m4,iG.mpr ⟨w0,rfl,a0⟩,aF.mpr ⟨(w1,w2::w3::w4::m4),rfl,?_⟩⟩;rw[a1,hi];refine aF.mpr ⟨w3::w4::m4,iG.mpr ⟨w2,rfl,a2⟩,aF.mpr ⟨((x.stake,w3.at_),w4::m4),lW.mpr ⟨w3,rfl,by rw[a3];exact k3,k4,k5,rfl⟩,aF.mpr ⟨Unit.unit,dj.mpr ‹k6›,aF.mpr ⟨(w4,m4),rfl,?_⟩⟩⟩⟩;have hj:=λ(p q:Nat)=>(Ms (b:=x) (x:=x) (p:=p) (q:=q)).mpr ⟨rfl,k7,k8⟩;obtain⟨xp,xh,xs,xk⟩:=x;obtain⟨b1,b2,b3⟩|⟨b1,b2,b3,b4⟩|⟨b1,b2,b3,b4⟩:=hb
  .subst b2;rw[ag (by rw[a4];exact b1)];exact aF.mpr ⟨_,jT.mpr ⟨xs,qF.mpr (by rw[e5];exact b3),rfl⟩,hj _ _⟩
  .subst b3;rw[af (by rw[a4,b1];decide),ag ⟨by rw[a4];exact b1,(jE _).mpr b2⟩];exact aF.mpr ⟨_,jT.mpr ⟨xs,HA.mpr (by rw[e5];exact b4),rfl⟩,hj _ _⟩
  .subst b3;rw[af (by rw[a4,b1];decide),af (by rw[a4,b1];exact λz=>absurd z.1 ⋯),ag ⟨by rw[a4];exact b1,(jE _).mpr b2⟩];exact aF.mpr ⟨_,jT.mpr ⟨xs,HB.mpr (by rw[e5];exact b4),rfl⟩,hj _ _⟩
def ny c x (r acc:Bytes):splitOn c acc (x::r)=if x=c then acc::splitOn c [] r else splitOn c (acc++ [x]) r:=rfl
theorem HD{c:UInt8}:∀{w acc},splitOn c acc w≠ []
 |[],acc=>by simp[Tote.splitOn]
 |x::r,acc=>by
  rw[ny];split
  .simp
  .exact HD
theorem u6{c:UInt8}:∀{w acc}{y},y∈acc++w->y=c\/∃p∈splitOn c acc w,y∈p
 |[],acc,y,h=>.inr ⟨acc,by simp[Tote.splitOn],‹h›⟩
 |x::r,acc,y,h=>by
  rw[ny];by_cases e:x=c
  .rw[ag e];obtain h|h:=mem_append.mp h
   .exact .inr ⟨acc,by simp,h⟩
   .obtain h|h:=mem_cons.mp h
    .exact .inl (h.trans e)
    .obtain z|⟨p,h1,h2⟩:=u6 (w:=r) (acc:=[]) (y:=y) ‹h›
     .exact .inl z
     .exact .inr ⟨p,by simp[h1],h2⟩
  .rw[af e];exact u6 ‹h›
theorem Am{f:α->Option β}:∀{l:List α}{ys},l.mapM f=some ys->ys.length=l.length/\∀x∈l,∃y∈ys,f x=some y
 |[],ys,h=>by
  cases h;exact⟨rfl,by simp⟩
 |a::l,ys,h=>by
  rw[mapM_cons]at h;cases e1:f a with
  |none=>rw[e1]at h;cases h
  |some y=>
   cases e2:l.mapM f with
   |none=>rw[e1,e2]at h;cases h
   |some zs=>
    rw[e1,e2]at h;cases h;obtain⟨h1,h2⟩:=Am e2;refine⟨by rw[aZ,aZ,h1],λx hx=>?_⟩;obtain e|hx:=mem_cons.mp hx
    .subst e;exact⟨y,by simp,e1⟩
    .obtain⟨z,hz,e⟩:=h2 x hx;exact⟨z,by simp[hz],e⟩
theorem fO.ne{heads s:List Nat}{w:Bytes}(h:fO heads w s):s≠ []:=by
 intro e;have:=(Am h.1).1;rw[e]at this;exact HD (length_eq_zero_iff.mp this.symm)
def fO.plain{heads s:List Nat}{w:Bytes}(h:fO heads w s):Plain w:=by
 have hm:=(Am h.1).2;refine⟨λe=>?_,λc hc=>?_⟩
 .subst e;obtain⟨y,_,hy⟩:=hm [] (by simp[Tote.splitOn]);simp[numberOf]at hy
 .obtain e|⟨p,h1,h2⟩:=u6 (c:=44) (acc:=[]) ‹hc›
  .subst e;decide
  .obtain⟨y,_,hy⟩:=hm p h1;exact(dM hy).2 c h2
theorem j6.plain:∀{hs}{ws}{q},j6 hs ws q->∀w∈ws,Plain w
 |[],ws,q,h,w,hw=>by
  rw[h.1]at hw;simp at hw
 |[_],ws,q,h,w,hw=>by
  obtain⟨v,s,e,h1,_⟩:=h;rw[e]at hw;have:w=v:=‹hw›
  rw[this];exact h1.plain
 |_::i::t,ws,q,h,w,hw=>by
  obtain⟨v,s,rest,r,e,h1,h2,_⟩:=h;rw[e]at hw;obtain z|hw:=mem_cons.mp hw
  .rw[z];exact h1.plain
  .obtain z|hw:=mem_cons.mp hw
   .rw[z];exact⟨by decide,by decide⟩
   .exact j6.plain h2 w hw
def CN(C:Card):Prop:=∀p∈C.pools,isName p.name=true
def find_name{C:Card}(h:(C.pools.findIdx? λ(p:Pool)=>p.name==n)=some i):∃p,C.pools[i]?=some p/\p.name=n/\C.pool i=p:=by
 obtain⟨hi,h1,_⟩:=findIdx?_eq_some_iff_getElem.mp h;refine⟨C.pools[i],bt hi,‹h1›,?_⟩;unfold Card.pool;rw[bt hi];rfl
theorem qX.plain{x:Bet}(cn:CN C)(h:qX C ws x):∀w∈ws,Plain w:=by
 obtain⟨n,st,hw,tail,e,hi,hs,hb⟩:=h.ex;obtain⟨p,hp,hn,_⟩:=find_name hi;have pl:Plain n:=by
  rw[<-hn];exact rK (cn p (bh hp))
 have ht:Plain hw/\∀w∈tail,Plain w:=by
  obtain⟨e1,_,h1⟩|⟨e1,_,_,w,s,e2,h1,_⟩|⟨e1,_,_,wa,wb,A,B,e2,h1,_,h2,_⟩:=hb
  .exact⟨by rw[e1];exact bV ⋯,h1.plain⟩
  .refine⟨by rw[e1];exact bV ⋯,λv hv=>?_⟩;rw[e2]at hv;have:v=w:=by simpa using hv
   rw[this];exact h1.plain
  .refine⟨by rw[e1];exact bV ⋯,λv hv=>?_⟩;rw[e2]at hv;obtain z|hv:=mem_cons.mp hv
   .rw[z];exact h1.plain
   .obtain z|hv:=mem_cons.mp hv
    .rw[z];exact bV ⋯
    .have:v=wb:=by simpa using hv
     rw[this];exact h2.plain
 intro w J6;rw[e]at J6;obtain z|J6:=mem_cons.mp J6
 .rw[z];exact bV ⋯
 obtain z|J6:=mem_cons.mp J6
 .rw[z];exact pl
 obtain z|J6:=mem_cons.mp J6
 .rw[z];exact bV ⋯
 obtain z|J6:=mem_cons.mp J6
 .rw[z];exact dM hs
 obtain z|J6:=mem_cons.mp J6
 .rw[z];exact ht.1
 .exact ht.2 w J6
def Vd{r:Bytes}(h:bW 10 [] r=[[]]):r=[]:=by
 cases r with
 |nil=>rfl
 |cons x r=>
  rw[qm]at h;split at h
  .injection h with h1 h2;obtain⟨w,ws,e,_⟩:=ie 10 r [];rw[e]at h2;cases h2
  .obtain⟨w,ws,e,_⟩:=ie 10 r ([] ++ [x]);rw[e]at h;injection h with h1 h2;simp at h1
def J_{C:Card}(cn:CN C){b:Bytes}{x:Bet}:C.readBet b=.ok x↔∃l,bW 10 [] b=[l,[]]/\qX C (bW 32 [] l) x:=by
 unfold Card.readBet;cases hu:upTo b with
 |none=>
  have e:=(uG b []).mp hu;constructor
  .intro h;cases h
  .rintro⟨l,h,_⟩;rw[e]at h;cases h
 |some lr=>
  obtain⟨l,r⟩:=lr;have e:=(uH b [] l r hu).1;rw[pP]at e;dsimp only;have zj:∀l',bW 10 [] b=[l',[]]↔l'=l/\r=[]:=λl'=>by
   rw[e];constructor
   .intro h;injection h with h1 h2;exact⟨h1.symm,Vd h2⟩
   .rintro⟨rfl,rfl⟩;rfl
  cases hb:badByte true 0 l with
  |some i=>
   constructor
   .intro h;cases h
   .rintro⟨l',h1,h2⟩;obtain⟨rfl,_⟩:=(zj l').mp h1;have:=jx (q:=0) l' [] (h2.plain cn);rw[show([]:Bytes).isEmpty=true from rfl,hb]at this;cases this
  |none=>
   dsimp only;have hw:(wordsFrom 0 [] l).map (·.w)=bW 32 [] l:=words_of l [] hb;constructor
   .intro h;cases hbi:C.betIn ⟨wordsFrom 0 [] l,l.length⟩with
    |error f=>rw[hbi]at h;cases h
    |ok y=>
     rw[hbi]at h;dsimp only at h;split at h
     .rename_i hr;cases h;have:=HC.mp hbi;rw[hw]at this;exact⟨l,(zj l).mpr ⟨rfl,‹hr›⟩,this⟩
     .cases h
   .rintro⟨l',h1,h2⟩;obtain⟨rfl,hr⟩:=(zj l').mp h1;rw[<-hw]at h2;rw[HC.mpr h2];dsimp only;rw[ag (by rw[hr];rfl)]
theorem fO.ok{h s:List Nat}{w:Bytes}(k:fO h w s):SR s h=true:=by
 have hn:=k.ne;obtain⟨_,h2,h3⟩:=k;unfold SR;rw[h2,h3];cases s with
 |nil=>exact absurd rfl hn|cons a l=>rfl
theorem j6.ok:∀{hs}{ws}{q},j6 hs ws q->q.length=hs.length/\∀z∈q.zip hs,SR z.1 z.2=true
 |[],ws,q,h=>by
  rw[h.2];exact⟨rfl,by simp⟩
 |[h0],ws,q,h=>by
  obtain⟨w,s,_,h1,rfl⟩:=h;refine⟨rfl,λz hz=>?_⟩;have:z=(s,h0):=‹hz›
  rw[this];exact h1.ok
 |h0::i::t,ws,q,h=>by
  obtain⟨w,s,rest,r,_,h1,h2,rfl⟩:=h;obtain⟨a,b⟩:=j6.ok h2;refine⟨by rw[aZ,a];rfl,λz hz=>?_⟩;rw[kj]at hz;obtain e|hz:=mem_cons.mp hz
  .rw[e];exact h1.ok
  .exact b z hz
def HE{h:List Nat}{p:List Nat->List Nat->Bool}:∀{q:List (List Nat)},q.length=k->(∀z∈q.zip (List.replicate k h),p z.1 z.2=true)->∀s∈q,p s h=true:=by
 intro q hl hz s hs;obtain⟨i,hi,e⟩:=mG hs;have Qw:i<(q.zip (List.replicate k h)).length:=by simp;omega
 have:=hz (q.zip (List.replicate k h))[i] (pY Qw);rw[getElem_zip,getElem_replicate,e]at this;exact this
def iz{tail:List Bytes}{x:Bet}(hb:dP C (C.pool x.pool) hw tail x.how x.sets):C.setsRight x=true:=by
 unfold Card.setsRight;obtain⟨_,e1,h1⟩|⟨_,hm,e1,w,s,_,h1,h2,h3⟩|⟨_,hm,e1,wa,wb,A,B,_,h1,h2,h3,h4,h5,h6⟩:=hb
 .rw[e1];obtain⟨a,b⟩:=h1.ok;unfold dI at a b;rw[bI,kM];by_cases hk:(C.pool x.pool).kind=.legs
  .rw[ag hk]at a b⊢;refine⟨?_,all_eq_true.mpr b⟩;rw[a,qD hk];unfold Pool.places;rw[af (by rw[hk];decide)]
  .rw[af hk]at a b⊢;rw[jK]at a;exact⟨a,all_eq_true.mpr (HE a b)⟩
 .rw[e1];show(((C.pool x.pool).kind==.order||(C.pool x.pool).kind==.any)&&(x.sets.length==1&&x.sets.all λ(s:List Nat)=>SR s (C.headsOf (C.pool x.pool).race)&&decide ((C.pool x.pool).k<=s.length)))=true;rw[(jE _).mpr hm,h3];simp[h1.ok,h2]
 .rw[e1];show(((C.pool x.pool).kind==.order||(C.pool x.pool).kind==.any)&&(x.sets.length==2&&(x.sets.all (λ(s:List Nat)=>SR s (C.headsOf (C.pool x.pool).race))&&(decide ((x.sets.headD []).length<(C.pool x.pool).k)&&(!((x.sets.getD 1 []).any λ(y:Nat)=>(x.sets.headD []).contains y)&&decide ((C.pool x.pool).k<=(x.sets.headD []).length+(x.sets.getD 1 []).length))))))=true;rw[(jE _).mpr hm,h6];have h4':(!(([A,B]:List (List Nat)).getD 1 []).any λ(y:Nat)=>(([A,B]:List (List Nat)).headD []).contains y)=true:=by
   show(!(B.any λ(y:Nat)=>A.contains y))=true;rw[h4];rfl
  rw[h4'];simp[h1.ok,h3.ok,h2,h5]
structure C9(m:Money):Prop where
 up:Up (m.map λ(x:Nat×Nat)=>x.1)
 pos:∀e∈m,0<e.2
def EY n:Money.on [] n=0:=rfl
def bE a c (l:Money) n:Money.on ((a,c)::l) n=if a=n then c else Money.on l n:=by
 unfold Money.on;rw[KG];by_cases h:a=n
 .have:((a,c).1==n)=true:=by simpa using h
  rw[this,ag h];rfl
 .have:((a,c).1==n)=false:=by simpa using h
  rw[this,af h]
def C9.tail{a:Nat×Nat}{l:Money}(h:C9 (a::l)):C9 l:=⟨(pairwise_cons.mp h.up).2,λe he=>h.pos e (by simp[he])⟩
def C9.lt{a:Nat}{l:Money}(h:C9 ((a,c)::l)):∀e∈l,a<e.1:=λe he=>(pairwise_cons.mp h.up).1 e.1 (mem_map.mpr ⟨e,he,rfl⟩)
def C9.cons{a:Nat}{l:Money}(h:C9 l)(hc:0<c)(hl:∀e∈l,a<e.1):C9 ((a,c)::l):=by
 refine⟨pairwise_cons.mpr ⟨λx hx=>?_,h.up⟩,λe he=>?_⟩
 .obtain⟨e,he,rfl⟩:=mem_map.mp hx;exact hl e he
 .obtain z|z:=mem_cons.mp he
  .rw[z];exact hc
  .exact h.pos e z
theorem lu:∀{l}{n},(∀e∈l,e.1≠n)->Money.on l n=0
 |[],n,_=>rfl
 |(a,c)::l,n,h=>by
  rw[bE,af (h (a,c) ∅),lu λe he=>h e (by simp[he])]
theorem RG:∀{l},C9 l->∀e∈l,Money.on l e.1=e.2
 |[],_,e,he=>by simp at he
 |(a,c)::l,h,e,he=>by
  rw[bE];obtain z|z:=mem_cons.mp he
  .rw[z,ag rfl]
  .have:=h.lt e z;rw[af (),RG h.tail e z]
theorem C_:∀{m o},C9 m->C9 o->(∀n,Money.on m n=Money.on o n)->m=o
 |[],[],_,_,_=>rfl
 |[],(b,d)::o,_,ho,h=>by
  have:=h b;rw[EY,bE,ag rfl]at this;have:=ho.pos (b,d) ∅;omega
 |(a,c)::m,[],hm,_,h=>by
  have:=h a;rw[EY,bE,ag rfl]at this;have:=hm.pos (a,c) ∅;omega
 |(a,c)::m,(b,d)::o,hm,ho,h=>by
  have pc:=hm.pos (a,c) ∅;have pd:=ho.pos (b,d) ∅;have FI:a=b:=by
   obtain z|z|z:=pK a b
   .have e:=h a;rw[bE,ag rfl,bE,af (),lu λe he=>by have:=ho.lt e he;omega]at e;omega
   .exact z
   .have e:=h b;rw[bE,af (),bE,ag rfl,lu λe he=>by have:=hm.lt e he;omega]at e;omega
  subst FI;have vm:c=d:=by
   have e:=h a;rw[bE,ag rfl,bE,ag rfl]at e;exact e
  subst vm;rw[C_ hm.tail ho.tail λn=>?_];by_cases e:a=n
  .rw[lu λe he=>by have:=hm.lt e he;omega,lu λe he=>by have:=ho.lt e he;omega]
  .have:=h n;rw[bE,af e,bE,af e]at this;exact this
def Dc:∀{m o:Money}{k:Nat}{r:Money},Money.less m o=some r->(∀e∈m,k<e.1)->∀e∈r,k<e.1:=by
 intro m o
 induction m,o using Money.less.induct with
 |case1 m=>intro k r h h1;rw[Money.less]at h;cases h;exact h1
 |case2 y m=>intro k r h _;rw[Money.less]at h;cases h
 |case3 x l y m dQ ih=>
  intro k r h h1;rw[Money.less,ag dQ]at h;obtain⟨q,hq,rfl⟩:=Option.map_eq_some_iff.mp h;intro e he;obtain z|z:=mem_cons.mp he
  .rw[z];exact h1 x ∅
  .exact ih hq (λe he=>h1 e (by simp[he])) e z
 |case4 x l y m xG vy=>intro k r h _;rw[Money.less,af xG,ag vy]at h;cases h
 |case5 x l y m xG vy OM=>intro k r h _;rw[Money.less,af xG,af vy,ag OM]at h;cases h
 |case6 x l y m xG vy OM ih=>
  intro k r h h1;rw[Money.less,af xG,af vy,af OM]at h;obtain⟨q,hq,rfl⟩:=Option.map_eq_some_iff.mp h;have hk:=ih hq (λe he=>h1 e (by simp[he]));split
  .exact hk
  .intro e he;obtain z|z:=mem_cons.mp he
   .rw[z];exact h1 x ∅
   .exact hk e z
def Mt:∀{m o:Money},C9 m->C9 o->match Money.less m o with
  |none=>∃n,Money.on m n<Money.on o n
  |some r=>C9 r/\(∀n,Money.on o n<=Money.on m n)/\∀n,Money.on r n=Money.on m n-Money.on o n:=by
 intro m o
 induction m,o using Money.less.induct with
 |case1 m=>intro h1 _;rw[Money.less];exact⟨h1,λn=>cj _,λn=>by rw[EY,Nat.sub_zero]⟩
 |case2 y m=>
  intro _ h2;obtain⟨b,d⟩:=y;rw[Money.less];refine⟨b,?_⟩;rw[EY,bE,ag rfl];exact h2.pos (b,d) ∅
 |case3 x l y m dQ ih=>
  intro h1 h2;obtain⟨a,c⟩:=x;obtain⟨b,d⟩:=y;have dQ:a<b:=dQ;have i:=ih h1.tail h2;rw[Money.less,ag dQ];have hk:∀e∈(b,d)::m,a<e.1:=λe he=>by
   obtain z|z:=mem_cons.mp he
   .rw[z];exact dQ
   .exact xq dQ (h2.lt e z)
  have h0:Money.on ((b,d)::m) a=0:=lu λe he=>by have:=hk e he;omega
  cases hq:Money.less l ((b,d)::m)with
  |none=>
   rw[hq]at i;obtain⟨n,hn⟩:=i;refine⟨n,?_⟩;rw[bE (a:=a)];by_cases e:a=n
   .subst e;rw[h0]at hn;omega
   .rw[af e];exact hn
  |some r=>
   rw[hq]at i;obtain⟨i1,i2,i3⟩:=i;refine⟨i1.cons (h1.pos (a,c) ∅) (Dc hq h1.lt),λn=>?_,λn=>?_⟩
   .rw[bE (a:=a)];by_cases e:a=n
    .subst e;rw[h0];exact cj _
    .rw[af e];exact i2 n
   .rw[bE (a:=a),bE (a:=a)];by_cases e:a=n
    .subst e;rw[ag rfl,ag rfl,h0,Nat.sub_zero]
    .rw[af e,af e];exact i3 n
 |case4 x l y m xG vy=>
  intro h1 h2;obtain⟨a,c⟩:=x;obtain⟨b,d⟩:=y;have vy:b<a:=vy;rw[Money.less,af xG,ag vy];refine⟨b,?_⟩;rw[bE (a:=b),ag rfl,lu λe he=>by
   obtain z|z:=mem_cons.mp he
   .rw[z];show a≠b;omega
   .have:=h1.lt e z;omega]
  exact h2.pos (b,d) ∅
 |case5 x l y m xG vy OM=>
  intro h1 h2;obtain⟨a,c⟩:=x;obtain⟨b,d⟩:=y;have FI:a=b:=by
   have xG:¬a<b:=xG;have vy:¬b<a:=vy;omega
  subst FI;rw[Money.less,af xG,af vy,ag OM];refine⟨a,?_⟩;rw[bE,bE,ag rfl,ag rfl];exact OM
 |case6 x l y m xG vy OM ih=>
  intro h1 h2;obtain⟨a,c⟩:=x;obtain⟨b,d⟩:=y;have FI:a=b:=by
   have xG:¬a<b:=xG;have vy:¬b<a:=vy;omega
  subst FI;have OM:¬c<d:=OM;have i:=ih h1.tail h2.tail;rw[Money.less,af xG,af vy,af OM];have z1:Money.on l a=0:=lu λe he=>by have:=h1.lt e he;omega
  have z2:Money.on m a=0:=lu λe he=>by have:=h2.lt e he;omega
  cases hq:Money.less l m with
  |none=>
   rw[hq]at i;obtain⟨n,hn⟩:=i;refine⟨n,?_⟩;rw[bE,bE];by_cases e:a=n
   .subst e;omega
   .rw[af e,af e];exact hn
  |some r=>
   rw[hq]at i;obtain⟨i1,i2,i3⟩:=i;have hle:∀n,Money.on ((a,d)::m) n<=Money.on ((a,c)::l) n:=λn=>by
    rw[bE,bE];by_cases e:a=n
    .rw[ag e,ag e];omega
    .rw[af e,af e];exact i2 n
   show C9 (if c=d then r else(a,c-d)::r)/\_/\∀n,Money.on (if c=d then r else(a,c-d)::r) n=_;have hr0:Money.on r a=0:=by rw[i3,z1];exact Nat.zero_sub _
   by_cases vm:c=d
   .rw[ag vm];refine⟨i1,hle,λn=>?_⟩;rw[bE,bE];by_cases e:a=n
    .subst e;rw[ag rfl,ag rfl,hr0,vm,Dq]
    .rw[af e,af e];exact i3 n
   .rw[af vm];refine⟨i1.cons () (Dc hq h1.lt),hle,λn=>?_⟩;rw[bE,bE,bE];by_cases e:a=n
    .rw[ag e,ag e,ag e]
    .rw[af e,af e,af e];exact i3 n
def Oj:m.right many=true↔C9 m/\(∀e∈m,e.1<many)/\m.length<=262144/\m.total<=CENTS:=by
 unfold Money.right;simp only[Bool.and_eq_true,all_eq_true,decide_eq_true_eq,iu];constructor
 .rintro⟨h1,h2,h3,h4⟩;exact⟨⟨h1,λe he=>(h2 e he).2⟩,λe he=>(h2 e he).1,h3,h4⟩
 .rintro⟨h1,h2,h3,h4⟩;exact⟨h1.up,λe he=>⟨h2 e he,h1.pos e he⟩,h3,h4⟩
def Mu{l:List Nat}(hl:Up l){s:Nat}(hs:0<s):C9 (l.map λn=>(n,s)):=by
 refine⟨?_,λe he=>?_⟩
 .rw[bQ];have:((λ(x:Nat×Nat)=>x.1)∘λn=>(n,s))=id:=rfl;rw[this,map_id];exact hl
 .obtain⟨n,_,rfl⟩:=mem_map.mp he;exact hs
def Ka(l:List Nat) s n:Money.on (l.map λn=>(n,s)) n=if n∈l then s else 0:=by
 induction l with
 |nil=>rfl
 |cons a l ih=>
  rw[aJ,bE,ih];by_cases e:a=n
  .subst e;simp
  .have:¬n=a:=λz=>e z.symm;simp[e,this]
def Ve{s t:Option Card}(h:rJ s ws t)(hs:∀C,s=some C->CN C):∀C,t=some C->CN C:=by
 intro D hD;cases s with
 |none=>
  obtain⟨n,_,_,e⟩:=h;rw[e]at hD;cases hD;intro r hr;simp[noCard]at hr
 |some C=>
  have gC:=hs C rfl;obtain⟨r,rest,_,_,_,hr,e⟩|⟨p,rest,x,_,_,_,_,hp,e⟩:=h
  .rw[e]at hD;cases hD;exact gC
  .rw[e]at hD;cases hD;intro q hq;obtain z|z:=mem_append.mp hq
   .exact gC q z
   .have:q=p:=by simpa using z
    subst this;exact hp.Zm
theorem Mv:∀{ls}{s t},ig s ls t->(∀C,s=some C->CN C)->∀C,t=some C->CN C
 |[],s,t,h,hs,C,hC=>by
  have h:=h;rw[h]at hC;exact hs C hC
 |l::ls,s,t,h,hs,C,hC=>by
  obtain⟨u,h1,h2⟩:=h;exact Mv h2 (Ve h1 hs) C hC
def Vf{b:Bytes}(h:readCard b=.ok C):CN C:=by
 obtain⟨⟨ls,_,hf⟩,_⟩:=kG.mp h;exact Mv hf (λ_ z=>by cases z) C rfl
end Pd
end
section
namespace Pd
open Tote TotePoolCalls
theorem uf:∀{l m},l.length%2=0->PoolNeutral.pairs (l++m)=PoolNeutral.pairs l++PoolNeutral.pairs m
 |[],m,_=>rfl|[_],m,h=>by simp at h
 |a::b::r,m,h=>by
  show(a.toNat,b.toNat)::PoolNeutral.pairs (r++m)=(a.toNat,b.toNat)::(PoolNeutral.pairs r++PoolNeutral.pairs m);rw[uf (by simp at h;omega)]
theorem nz g:∀ns:List Int,PoolNeutral.pairs (dR g ns)=(ns.filter λk=>decide (0<(aY g k).getD 0)).map λk=>(k.toNat,((aY g k).getD 0).toNat)
 |[]=>rfl
 |k::ns=>by
  show PoolNeutral.pairs ((if 0<(aY g k).getD 0 then [k,(aY g k).getD 0]else [])++dR g ns)=_;rw[uf (by split<;>simp),nz g ns,xf];by_cases h:0<(aY g k).getD 0
  .rw[ag h,ag ‹h›];rfl
  .rw[af h,af ‹h›];rfl
theorem n9:∀{l},l.length%2=0->(∀x∈l,0<=x)->(moneyNums (PoolNeutral.pairs l)).map (λ(n:Nat)=>(n:Int))=l
 |[],_,_=>rfl|[_],h,_=>by simp at h
 |a::b::r,h,hp=>by
  have h1:=hp a ∅;have h2:=hp b ∅;show((a.toNat:Nat):Int)::((b.toNat:Nat):Int)::(moneyNums (PoolNeutral.pairs r)).map (λ(n:Nat)=>(n:Int))=a::b::r;rw[n9 (by simp at h;omega) λx hx=>hp x (by simp[hx]),sC h1,sC h2]
def Vg{g:tS}(h:zJ g out)(nd:(bp g).Nodup)(hk:∀x∈bp g,0<=x):C9 (PoolNeutral.pairs out)/\(∀x∈out,0<=x)/\∀n:Nat,((Money.on (PoolNeutral.pairs out) n:Nat):Int)=max 0 ((aY g n).getD 0):=by
 obtain⟨ns,pm,up,rfl⟩:=h;have h0:∀x∈ns,0<=x:=λx hx=>hk x (pm.mem_iff.mp hx);have lt:ns.Pairwise (·<·):=by
  have nd2:ns.Nodup:=pm.nodup_iff.mpr nd;exact(up.and nd2).imp λ⟨h1,h2⟩=>by omega
 have hp:=tV g ns h0;have mok:C9 (PoolNeutral.pairs (dR g ns)):=by
  rw[nz];refine⟨?_,λe he=>?_⟩
  .rw[bQ];refine pairwise_map.mpr ?_;refine(lt.sublist filter_sublist).imp_of_mem λ{a b} ha hb FI=>?_;have:=h0 a (mem_filter.mp ha).1;show a.toNat<b.toNat;omega
  .obtain⟨k,qi,rfl⟩:=mem_map.mp he;have:=(mem_filter.mp qi).2;simp only[decide_eq_true_eq]at this;show 0<((aY g k).getD 0).toNat;omega
 refine⟨mok,hp,λn=>?_⟩;by_cases hc:0<(aY g n).getD 0
 .have hm:(n:Int)∈ns:=by
   refine pm.mem_iff.mpr ?_;by_cases z:(n:Int)∈bp g
   .exact z
   .rw[jX.mpr z]at hc;exact absurd hc ⋯
  have Bm:(n,((aY g n).getD 0).toNat)∈PoolNeutral.pairs (dR g ns):=by
   rw[nz];refine mem_map.mpr ⟨(n:Int),mem_filter.mpr ⟨hm,‹hc›⟩,?_⟩;rw[gk]
  have e:=RG mok _ Bm;have e:Money.on (PoolNeutral.pairs (dR g ns)) n=((aY g n).getD 0).toNat:=e;rw[e];omega
 .have e:Money.on (PoolNeutral.pairs (dR g ns)) n=0:=by
   refine lu λx hx z=>?_;rw[nz]at hx;obtain⟨k,qi,rfl⟩:=mem_map.mp hx;have h3:=mem_filter.mp qi;have h4:=h0 k h3.1;have z:k.toNat=n:=z;have ek:k=(n:Int):=by omega
   have h5:=h3.2;simp only[decide_eq_true_eq]at h5;rw[ek]at h5;exact hc h5
  rw[e];omega
def Dd{l:List Int}{n:Nat}(h0:∀x∈l,0<=x)(h2:l.length%2=0)(h:fg l (n:Int)=true):C9 (PoolNeutral.pairs l):=by
 rw[GI h0 h2]at h;exact(Oj.mp h).1
theorem ug:∀{l},(∀x∈l,0<=x)->(∀p∈bj l,0<=p.1/\0<=p.2)
 |[],_,p,hp=>by simp[bj]at hp|[_],_,p,hp=>by simp[bj]at hp
 |a::b::r,h,p,hp=>by
  obtain e|e:=mem_cons.mp (show p∈(a,b)::bj r from hp)
  .rw[e];exact⟨h a ∅,h b ∅⟩
  .exact ug (λx hx=>h x (by simp[hx])) p e
def HF{l:List Int}(h:∀x∈l,0<=x):∀x∈bp (bj l),0<=x:=λx hx=>by
 obtain⟨p,hp,rfl⟩:=mem_map.mp hx;exact(ug h p hp).1
def EZ{l:List Int}(h:∀x∈l,0<=x) n:((Money.on (PoolNeutral.pairs l) n:Nat):Int)=(aY (bj l) n).getD 0:=by
 rw[Qi l h,zG]
end Pd
end
section
namespace Pd
open Tote
noncomputable def dG(h:List Nat)(x:Nat):Int:=((h.findIdx λy=>y==x:Nat):Int)
noncomputable def iN(h:List Nat):List Int:=h.map λ(n:Nat)=>(n:Int)
def Vh h (x:Nat):t7 (iN h) (x:Int)=dG h x:=by
 unfold t7 iN dG;rw[findIdx_map];congr 2;funext y;rw[jL];simp;omega
def YQ{h:List Nat}{x:Nat}:(x:Int)∈iN h↔x∈h:=by
 constructor
 .intro z;obtain⟨y,hy,e⟩:=mem_map.mp z;have:y=x:=by omega
  exact this▸hy
 .intro z;exact mem_map.mpr ⟨x,z,rfl⟩
def E1{h:List Nat}(up:Up h){x:Nat}(e:h[i]?=some x):dG h x=(i:Int):=by
 unfold dG;rw[j5 up.nodup e]
def j7{h:List Nat}(up:Up h){x y:Nat}(hx:x∈h)(hy:y∈h):dG h x<dG h y↔x<y:=by
 obtain⟨i,hi,rfl⟩:=mG hx;obtain⟨j,hj,rfl⟩:=mG hy;rw[E1 up (bt hi),E1 up (bt hj)];have m:=pairwise_iff_getElem.mp up;constructor
 .intro z;exact m i j hi hj ()
 .obtain a|a|a:=pK i j
  .omega
  .subst a;omega
  .have:=m j i hj hi a;omega
def ya{h:List Nat}(up:Up h){x y:Nat}(hx:x∈h)(hy:y∈h)(e:dG h x=dG h y):x=y:=by
 have a:=j7 up hx hy;have b:=j7 up hy hx;omega
theorem rW c:∀w acc,splitOn c acc w=bW c acc w
 |[],acc=>rfl
 |x::r,acc=>by
  rw[ny,qm,rW c r [],rW c r (acc++ [x])]
def abu(c:UInt8):sg c.toNat=44↔c=44:=by
 unfold sg;constructor
 .intro h
  repeat' split at h
  all_goals first|omega|(apply UInt8.toNat_inj.mp;simpa using by assumption)
 .rintro rfl;decide
def abv(c:UInt8):sg c.toNat=47↔c=47:=by
 unfold sg;constructor
 .intro h
  repeat' split at h
  all_goals first|omega|(apply UInt8.toNat_inj.mp;simpa using by assumption)
 .rintro rfl;decide
def abw w:cut 44 [] (cw w)=(splitOn 44 [] w).map cw:=by
 rw[rW];exact yX (c:=44) abu w []
def cw_slash w:cw w=lj↔w=ascii "/":=by
 have e:ascii "/"=[47]:=by decide
 rw[e];unfold lj cw;constructor
 .intro h;cases w with
  |nil=>cases h
  |cons c r=>
   injection h with h1 h2;rw[(abv c).mp h1,map_eq_nil_iff.mp h2]
 .rintro rfl;decide
def An{f:α->Option β}{a:α}{l:List α}{ys:List β}:(a::l).mapM f=some ys↔∃y z,f a=some y/\l.mapM f=some z/\ys=y::z:=by
 rw[mapM_cons];cases f a with
 |none=>simp
 |some y=>
  cases e:l.mapM f with
  |none=>simp[e]
  |some z=>
   simp[e];exact⟨λh=>h.symm,λh=>h.symm⟩
theorem HG{h:List Nat}:∀{l:List Bytes},(∀p∈l,dz (cw p)∈iN h)->∃s,l.mapM numberOf=some s/\(l.map λp=>dz (cw p))=iN s/\∀x∈s,x∈h
 |[],_=>⟨[],rfl,rfl,by simp⟩
 |p::l,hp=>by
  obtain⟨s,h1,h2,h3⟩:=HG λq hq=>hp q (bJ _ hq);have hm:=hp p (b9 ..);obtain⟨n,hn,e⟩:=mem_map.mp hm;have o:=rF (by rw[<-e];omega);refine⟨n::s,An.mpr ⟨n,s,by rw[o.1,<-e];rfl,h1,rfl⟩,?_,?_⟩
  .rw[aJ,h2,<-e];rfl
  .intro x hx;obtain rfl|z:=mem_cons.mp hx
   .exact hn
   .exact h3 x z
theorem HH{h:List Nat}(Nq:∀x∈h,x<32):∀{l:List Bytes}{s},l.mapM numberOf=some s->(∀x∈s,x∈h)->(l.map λp=>dz (cw p))=iN s
 |[],s,e,_=>by
  cases e;rfl
 |p::l,s,e,hs=>by
  obtain⟨y,z,h1,h2,rfl⟩:=An.mp e;have:=Nq y (hs y (b9 ..));rw[aJ,HH Nq h2 λx hx=>hs x (bJ _ hx),rE h1 ()];rfl
def Kb{h:List Nat}(up:Up h):∀{s},(∀x∈s,x∈h)->((s.map (dG h)).Pairwise (·<·)↔Up s):=λ{s} hs=>by
 rw[mJ];constructor
 .intro z;exact z.imp_of_mem λ{a b} ha hb e=>(j7 up (hs a ha) (hs b hb)).mp e
 .intro z;exact z.imp_of_mem λ{a b} ha hb e=>(j7 up (hs a ha) (hs b hb)).mpr e
def Mw{h s:List Nat}:(iN s).map (t7 (iN h))=s.map (dG h):=by
 unfold iN;rw[bQ];apply fE;intro x _;exact Vh h x
def uh{h:List Nat}(up:Up h)(Nq:∀x∈h,x<32){w:Bytes}{ps:List Int}:setM (cw w) (iN h)=some ps↔∃s,fO h w s/\ps=s.map (dG h):=by
 unfold setM fO;rw[abw,bQ];show(if((splitOn 44 [] w).map λp=>dz (cw p)).all _=true then(if(((splitOn 44 [] w).map λp=>dz (cw p)).map (t7 (iN h))).Pairwise (·<·)then some (((splitOn 44 [] w).map λp=>dz (cw p)).map (t7 (iN h)))else none)else none)=some ps↔_;generalize splitOn 44 [] w=l;constructor
 .intro z;split at z
  .rename_i fB;split at z
   .rename_i YG;cases z;obtain⟨s,h1,h2,h3⟩:=HG (l:=l) λp hp=>by simpa using all_eq_true.mp fB _ (mem_map.mpr ⟨p,hp,rfl⟩)
    rw[h2,Mw]at YG⊢;exact⟨s,⟨h1,(iu s).mpr ((Kb up h3).mp YG),all_eq_true.mpr λx hx=>‹h3 x hx›⟩,rfl⟩
   .cases z
  .cases z
 .rintro⟨s,⟨h1,h2,h3⟩,rfl⟩;have h3:=λx hx=>by simpa using all_eq_true.mp h3 x hx
  rw[HH Nq h1 h3,Mw,ag,ag ((Kb up h3).mpr ((iu s).mp h2))];rw[dy];intro x hx;obtain⟨n,hn,rfl⟩:=mem_map.mp hx;simpa using YQ.mpr (h3 n hn)
theorem RH:∀{hs}{tail}{YR},hs≠ []->(∀h∈hs,Up h/\∀x∈h,x<32)->
  ((tail.length+1=2*hs.length/\(L2.oJ (tail.map cw)).all (λt=>decide (t=lj))=true/\cK (λx=>setM x.1 x.2) ((L2.bA (tail.map cw)).zip (hs.map iN))=some YR)↔∃q,j6 hs tail q/\YR=List.zipWith (λh s=>s.map (dG h)) hs q)
 |[h],tail,YR,_,hu=>by
  have hh:=hu h (b9 ..);constructor
  .rintro⟨h1,_,h3⟩;obtain⟨w,rfl⟩:=length_eq_one_iff.mp (show tail.length=1 by simp at h1;omega);obtain⟨y,ys,e1,e2,rfl⟩:=bK.mp (show cK (λx=>setM x.1 x.2) ((cw w,iN h)::[])=some YR from h3);cases e2;obtain⟨s,hs,rfl⟩:=(uh hh.1 hh.2).mp e1;exact⟨[s],⟨w,s,rfl,hs,rfl⟩,rfl⟩
  .rintro⟨q,⟨w,s,rfl,hs,rfl⟩,rfl⟩;refine⟨rfl,rfl,?_⟩;exact bK.mpr ⟨s.map (dG h),[],(uh hh.1 hh.2).mpr ⟨s,hs,rfl⟩,rfl,rfl⟩
 |h::i::t,tail,YR,_,hu=>by
  have hh:=hu h (b9 ..);have ih:= @RH (i::t);constructor
  .rintro⟨h1,h2,h3⟩
   match tail,h1 with
   |w::sl::rest,h1=>
    have h2:(L2.oJ (cw w::cw sl::rest.map cw)).all (λt=>decide (t=lj))=true:=h2;rw[L2.xM,eU,bI,jh]at h2;obtain⟨y,ys,e1,e2,rfl⟩:=bK.mp (show cK (λx=>setM x.1 x.2) ((cw w,iN h)::(L2.bA (rest.map cw)).zip ((i::t).map iN))=some YR from h3);obtain⟨s,hs,rfl⟩:=(uh hh.1 hh.2).mp e1;obtain⟨q,hq,rfl⟩:=(ih ∅ (λx hx=>hu x (bJ _ hx))).mp ⟨by simp at h1⊢;omega,h2.2,e2⟩;exact⟨s::q,⟨w,s,rest,q,by rw[(cw_slash sl).mp h2.1],hs,hq,rfl⟩,rfl⟩
  .rintro⟨q,⟨w,s,rest,r,rfl,hs,hr,rfl⟩,rfl⟩;obtain⟨a1,a2,a3⟩:=(ih ∅ (λx hx=>hu x (bJ _ hx))).mpr ⟨r,hr,rfl⟩;refine⟨by simp at a1⊢;omega,?_,?_⟩
   .show(L2.oJ (cw w::cw (ascii "/")::rest.map cw)).all (λt=>decide (t=lj))=true;rw[L2.xM,eU,bI,jh];exact⟨(cw_slash _).mpr rfl,a2⟩
   .exact bK.mpr ⟨_,_,(uh hh.1 hh.2).mpr ⟨s,hs,rfl⟩,a3,rfl⟩
def nA:(mp p).kind=cu↔p.kind=.legs:=fb
def Ao:(mp p).kind=dA↔p.kind=.place:=fZ
def Kc:(mp p).kind=jt↔p.kind=.any:=by
 show cw (g9 p.kind)=jt↔_;cases p.kind<;>decide
def RJ:(mp p).kind=dB↔p.kind=.order:=by
 show cw (g9 p.kind)=dB↔_;cases p.kind<;>decide
def Ap{C:Card}(P:Nu (C.races.map hI) (mp p)):cY (C.races.map hI) (mp p)=(C.sets p).map iN:=by
 have r1:1<=(p.race:Int):=P.r1;have r2:(p.race:Int)<=((C.races.map hI).length:Int):=P.r2;rw[az]at r2;have e:((mp p).race-1).toNat=p.race-1:=by show((p.race:Int)-1).toNat=_;omega
 have ek:(mp p).k.toNat=p.k:=by show((p.k:Int)).toNat=_;omega
 have hh:∀j,1<=j->j-1<C.races.length->(C.races.map hI)[j-1]?=some (iN (C.headsOf j)):=λj h1 h2=>by
  unfold Card.headsOf;rw[a_,bt h2];rfl
 unfold cY mZ Card.sets Pool.legs;rw[e,ek];by_cases hk:p.kind=.legs
 .have qi:=nA.mpr hk;have hl:(p.race:Int)+(p.k:Int)-1<=((C.races.map hI).length:Int):=P.legs qi;rw[az]at hl;rw[ag qi,ag hk];apply pU;intro i;by_cases hi:i<p.k
  .rw[getElem?_take,ag hi,pN,show p.race-1+i=p.race+i-1 by omega,hh _ () (),a_,a_,xc hi];rfl
  .rw[ot (by rw[cW];have:=Nat.min_le_left p.k (List.drop (p.race-1) (C.races.map hI)).length;omega),ot (by simp;omega)]
 .have qi:=λz=>hk (nA.mp z);rw[af qi,af hk,cU,hh _ () ()];rfl
def cw_on w:cw w=N3↔w=ascii "on":=cw_word ⋯ ⋯
def cw_box w:cw w=zZ↔w=ascii "box":=cw_word ⋯ ⋯
def cw_key w:cw w=UU↔w=ascii "key":=cw_word ⋯ ⋯
def cw_with w:cw w=Rf↔w=ascii "with":=cw_word ⋯ ⋯
def cw_bet w:cw w=U4↔w=ascii "bet":=cw_word ⋯ ⋯
def cw_for w:cw w=U5↔w=ascii "for":=cw_word ⋯ ⋯
noncomputable def nB(C:Card)(p:Pool)(sets:List (List Nat)):List (List Int):=if p.kind=.legs then List.zipWith (λh s=>s.map (dG h)) (C.sets p) sets else sets.map λs=>s.map (dG (C.headsOf p.race))
theorem HI{h:List Nat}:∀{n}{q:List (List Nat)},q.length=n->List.zipWith (λh s=>s.map (dG h)) (List.replicate n h) q=q.map λs=>s.map (dG h)
 |0,[],_=>rfl
 |n+1,s::q,e=>by
  rw[ki,zipWith_cons_cons,HI ‹e›];rfl
theorem Aq(x:α):∀n:Nat,(List.replicate n [x]).flatten=List.replicate n x
 |0=>rfl
 |n+1=>by
  rw[ki,mH,Aq x n];rfl
def RK{C:Card}(g:CG C){p:Pool}(P:Nu (C.races.map hI) (mp p)){hw:Bytes}{tail:List Bytes}{ss:List (List Int)}:
  jY ((hw::tail).map cw) (mp p) (cY (C.races.map hI) (mp p))=some ss↔∃how sets,dP C p hw tail how sets/\ss=nB C p sets:=by
 have k1:1<=(p.k:Int):=P.k1;rw[Ap P];unfold jY;show(if cw hw=N3 then Rj (tail.map cw) (mp p) ((C.sets p).map iN)else if(mp p).kind=dB\/(mp p).kind=jt then(if cw hw=zZ then Bn (tail.map cw) (mp p).k (((C.sets p).map iN).getD 0 [])else if cw hw=UU then EG (tail.map cw) (mp p).k (((C.sets p).map iN).getD 0 [])else none)else none)=some ss↔_;by_cases ho:hw=ascii "on"
 .rw[ag ((cw_on hw).mpr ho)];have hl:dI C p≠ []/\((dI C p).length:Int)=wq (mp p)/\(if(mp p).kind=cu then(C.sets p).map iN else(List.replicate (wq (mp p)).toNat ((C.sets p).map iN)).flatten)=(dI C p).map iN/\∀q,q.length=(dI C p).length->List.zipWith (λh s=>s.map (dG h)) (dI C p) q=nB C p q:=by
   unfold dI nB;by_cases hk:p.kind=.legs
   .have e1:=qD (C:=C) hk;have e2:wq (mp p)=(p.k:Int):=by
     unfold wq;rw[af (λz=>by rw[Ao.mp z]at hk;cases hk)];rfl
    rw[ag hk,ag (nA.mpr hk),e2];refine⟨λz=>?_,by omega,rfl,λq _=>by rw[ag hk]⟩;rw[z]at e1;simp at e1;omega
   .have e2:wq (mp p)=(p.places:Int):=by
     unfold wq Pool.places;by_cases hp:p.kind=.place
     .rw[ag (Ao.mpr hp),ag hp];rfl
     .rw[af (λz=>hp (Ao.mp z)),af hp];rfl
    have e3:1<=p.places:=by
     unfold Pool.places;split
     .exact aL _
     .omega
    have e4:C.sets p=[C.headsOf p.race]:=by
     unfold Card.sets Pool.legs;rw[af hk];rfl
    rw[af hk,af (λz=>hk (nA.mp z)),e2,e4,jK];refine⟨λz=>?_,rfl,?_,λq hq=>by rw[af hk,HI hq]⟩
    .have:=b_ List.length z;rw[jK]at this;simp at this;omega
    .show(List.replicate (p.places:Int).toNat [iN (C.headsOf p.race)]).flatten=_;rw[Aq,gk,map_replicate]
  obtain⟨h1,h2,h3,h4⟩:=hl;have hon:=RH (hs:=dI C p) (tail:=tail) (YR:=ss) h1 (λh hh=>by
   unfold dI at hh;split at hh
   .have:=x6 g p h hh;exact⟨this.1,this.2.1⟩
   .rw[wH hh];have:=c5 g p.race;exact⟨this.1,this.2.1⟩)
  have hM:Rj (tail.map cw) (mp p) ((C.sets p).map iN)=some ss↔(tail.length+1=2*(dI C p).length/\(L2.oJ (tail.map cw)).all (λt=>decide (t=lj))=true/\cK (λx=>setM x.1 x.2) ((L2.bA (tail.map cw)).zip ((dI C p).map iN))=some ss):=by
   unfold Rj;rw[h3,az,<-h2];constructor
   .intro z;split at z
    .split at z
     .exact⟨by omega,by assumption,z⟩
     .cases z
    .cases z
   .rintro⟨a,b,c⟩;rw[ag (),ag b];exact c
  rw[hM,hon];constructor
  .rintro⟨q,hq,rfl⟩;exact⟨.on,q,.inl ⟨ho,rfl,hq⟩,h4 q hq.ok.1⟩
  .rintro⟨how,q,hb,rfl⟩;obtain⟨_,_,hq⟩|⟨z,_⟩|⟨z,_⟩:=hb
   .exact⟨q,hq,(h4 q hq.ok.1).symm⟩
   .exact absurd (ho.symm.trans z) ⋯
   .exact absurd (ho.symm.trans z) ⋯
 rw[af (λz=>ho ((cw_on hw).mp z))];have abx:((mp p).kind=dB\/(mp p).kind=jt)↔ud p:=by
  unfold ud;exact or_congr RJ Kc
 by_cases hm:ud p
 .have hk:p.kind≠ .legs:=by
   obtain z|z:=hm<;>rw[z] <;>decide
  have hR:((C.sets p).map iN).getD 0 []=iN (C.headsOf p.race):=by
   unfold Card.sets Pool.legs;rw[af hk];rfl
  have hh:=c5 g p.race;have iD:∀q,nB C p q=q.map λs=>s.map (dG (C.headsOf p.race)):=λq=>by
   unfold nB;rw[af hk]
  have ZG:= @uh (C.headsOf p.race) hh.1 hh.2.1;have hmk:(mp p).k=(p.k:Int):=rfl;rw[ag (abx.mpr hm),hR,hmk];by_cases hb:hw=ascii "box"
  .rw[ag ((cw_box hw).mpr hb)];unfold Bn;rw[az];constructor
   .intro z;split at z
    .rename_i hl;obtain⟨w,rfl⟩:=length_eq_one_iff.mp hl;have z:(match setM (cw w) (iN (C.headsOf p.race))with
      |none=>none|some s=>if(p.k:Int)<=(s.length:Int)then some [s]else none)=some ss:=z
     split at z
     .cases z
     .rename_i s es;obtain⟨s,hs,rfl⟩:=ZG.mp es;split at z
      .rename_i hkl;cases z;rw[az]at hkl;exact⟨.box,[s],.inr (.inl ⟨hb,hm,rfl,w,s,rfl,hs,by omega,rfl⟩),by rw[iD];rfl⟩
      .cases z
    .cases z
   .rintro⟨how,q,hq,rfl⟩;obtain⟨z,_⟩|⟨_,_,_,w,s,rfl,hs,hl,rfl⟩|⟨z,_⟩:=hq
    .exact absurd z ho
    .rw[ag (show [w].length=1 from rfl)];show(match setM (cw w) (iN (C.headsOf p.race))with
      |none=>none|some s=>if(p.k:Int)<=(s.length:Int)then some [s]else none)=_
     rw[ZG.mpr ⟨s,hs,rfl⟩];dsimp only;rw[ag (by rw[az];omega),iD];rfl
    .exact absurd (hb.symm.trans z) ⋯
  rw[af (λz=>hb ((cw_box hw).mp z))];by_cases hky:hw=ascii "key"
  .rw[ag ((cw_key hw).mpr hky)];have fB:∀A B:List Nat,(∀x∈A,x∈C.headsOf p.race)->(∀x∈B,x∈C.headsOf p.race)->(((A.map (dG (C.headsOf p.race))).all (λn=>!decide (n∈B.map (dG (C.headsOf p.race)))))=true↔(B.any λ(y:Nat)=>A.contains y)=false):=λA B hA hB=>by
    rw[dy,<-Bool.not_eq_true,pX];constructor
    .rintro z ⟨y,hy,hc⟩;have hc:y∈A:=by simpa using hc
     have:=z _ (mem_map.mpr ⟨y,hc,rfl⟩);simp only[Bool.not_eq_true',decide_eq_false_iff_not]at this;exact this (mem_map.mpr ⟨y,hy,rfl⟩)
    .intro z n hn;obtain⟨y,hy,rfl⟩:=mem_map.mp hn;simp only[Bool.not_eq_true',decide_eq_false_iff_not];intro hc;obtain⟨v,hv,e⟩:=mem_map.mp hc;have:=ya hh.1 (hB v hv) (hA y hy) e;exact z ⟨v,hv,by rw[this];simpa using hy⟩
   have mq:∀{w:Bytes}{s:List Nat},fO (C.headsOf p.race) w s->∀x∈s,x∈C.headsOf p.race:=λh x hx=>‹all_eq_true.mp h.2.2 x hx›
   unfold EG;rw[az];constructor
   .intro z;split at z
    .rename_i hl;obtain⟨wa,wm,wb,rfl⟩:∃a b c,tail=[a,b,c]:=by
      obtain⟨a,r,rfl,h2⟩:=Je hl.1;obtain⟨b,c,rfl⟩:=Gy h2;exact⟨a,b,c,rfl⟩
     have e0:wm=ascii "with":=(cw_with wm).mp hl.2;have z:(match setM (cw wa) (iN (C.headsOf p.race))with
      |none=>none
      |some A=>match setM (cw wb) (iN (C.headsOf p.race))with
       |none=>none|some B=>if(A.length:Int)<(p.k:Int)then(if A.all (λn=>!decide (n∈B))=true then(if(p.k:Int)<=(A.length:Int)+(B.length:Int)then some [A,B]else none)else none)else none)=some ss:=z
     split at z
     .cases z
     .rename_i A eA;obtain⟨A,hA,rfl⟩:=ZG.mp eA;split at z
      .cases z
      .rename_i B eB;obtain⟨B,hB,rfl⟩:=ZG.mp eB;split at z
       .rename_i c1;split at z
        .rename_i c2;split at z
         .rename_i c3;cases z;rw[az]at c1 c3;rw[az]at c3;exact⟨.key,[A,B],.inr (.inr ⟨hky,hm,rfl,wa,wb,A,B,by rw[e0],hA,by omega,hB,(fB A B (mq hA) (mq hB)).mp c2,by omega,rfl⟩),by rw[iD];rfl⟩
         .cases z
        .cases z
       .cases z
    .cases z
   .rintro⟨how,q,hq,rfl⟩;obtain⟨z,_⟩|⟨z,_⟩|⟨_,_,_,wa,wb,A,B,rfl,hA,c1,hB,c2,c3,rfl⟩:=hq
    .exact absurd z ho
    .exact absurd z hb
    .rw[ag ⟨rfl,(cw_with _).mpr rfl⟩];show(match setM (cw wa) (iN (C.headsOf p.race))with
      |none=>none
      |some A=>match setM (cw wb) (iN (C.headsOf p.race))with
       |none=>none|some B=>if(A.length:Int)<(p.k:Int)then(if A.all (λn=>!decide (n∈B))=true then(if(p.k:Int)<=(A.length:Int)+(B.length:Int)then some [A,B]else none)else none)else none)=_
     rw[ZG.mpr ⟨A,hA,rfl⟩];dsimp only;rw[ZG.mpr ⟨B,hB,rfl⟩];dsimp only;rw[ag (by rw[az];omega),ag ((fB A B (mq hA) (mq hB)).mpr c2),ag (by rw[az,az];omega),iD];rfl
  rw[af (λz=>hky ((cw_key hw).mp z))];constructor
  .intro z;cases z
  .rintro⟨how,q,hq,_⟩;obtain⟨z,_⟩|⟨z,_⟩|⟨z,_⟩:=hq
   .exact absurd z ho
   .exact absurd z hb
   .exact absurd z hky
 .rw[af (λz=>hm (abx.mp z))];constructor
  .intro z;cases z
  .rintro⟨how,q,hq,_⟩;obtain⟨z,_⟩|⟨_,z,_⟩|⟨_,z,_⟩:=hq
   .exact absurd z ho
   .exact absurd z hm
   .exact absurd z hm
def prod_cons a l:product (a::l)=a*product l:=ub a l
theorem De:∀hs sets ns,sets.length=hs.length->((List.zipWith (λh s=>s.map (dG h)) hs sets).zip (hs.map iN)).foldl gf ns=ns.flatMap λm=>(rowsOf sets).map λr=>m*((product (hs.map List.length):Nat):Int)+((rankLegs hs r:Nat):Int)
 |[],[],ns,_=>by
  show ns=ns.flatMap λm=>[m*((1:Nat):Int)+((0:Nat):Int)]
  induction ns with
  |nil=>rfl
  |cons a l ih=>
   rw[kS,<-ih];simp
 |h::t,s::q,ns,e=>by
  show((List.zipWith (λh s=>s.map (dG h)) t q).zip (t.map iN)).foldl gf (gf ns (s.map (dG h),iN h))=_;rw[De t q _ ‹e›];unfold gf;rw[flatMap_assoc];congr 1;funext m;show((s.map (dG h)).map λp=>m*((iN h).length:Int)+p).flatMap _=((s.flatMap λx=>(rowsOf q).map λr=>x::r)).map _;rw[map_flatMap,bQ,flatMap_map];congr 1;funext x;rw[bQ];apply fE;intro r _;show(m*((iN h).length:Int)+dG h x)*((product (t.map List.length):Nat):Int)+((rankLegs t r:Nat):Int)=m*((product ((h::t).map List.length):Nat):Int)+(((h.findIdx λ(y:Nat)=>y==x)*product (t.map List.length)+rankLegs t r:Nat):Int);have e1:(iN h).length=h.length:=by unfold iN;rw[az]
  rw[aJ,prod_cons,e1];unfold dG
  push_cast
  rw[xB,xg,Int.add_assoc]
def Ol(e:sets.length=hs.length):oY ((List.zipWith (λh s=>s.map (dG h)) hs sets).zip (hs.map iN))=iN ((rowsOf sets).map (rankLegs hs)):=by
 unfold oY;rw[De hs sets [0] e];simp only[flatMap_cons,flatMap_nil,append_nil];unfold iN;rw[bQ];apply fE;intro r _;rw[Int.zero_mul,pS];rfl
def Kd:∀{hs sets},sets.length=hs.length->jj (List.zipWith (λh s=>s.map (dG h)) hs sets)=((product (sets.map List.length):Nat):Int):=by
 have:∀(hs sets:List (List Nat))(a:Int),sets.length=hs.length->(List.zipWith (λh s=>s.map (dG h)) hs sets).foldl (λr (l:List Int)=>r*(l.length:Int)) a=a*((product (sets.map List.length):Nat):Int):=by
  intro hs
  induction hs with
  |nil=>
   intro sets a e;cases sets with
   |nil=>show a=a*((1:Nat):Int);simp
   |cons _ _=>cases e
  |cons h t ih=>
   intro sets a e;cases sets with
   |nil=>cases e
   |cons s q=>
    show(List.zipWith (λh s=>s.map (dG h)) t q).foldl (λr (l:List Int)=>r*(l.length:Int)) (a*((s.map (dG h)).length:Int))=_;rw[ih q _ ‹e›,aJ,prod_cons,az]
    push_cast
    rw[xg]
 intro hs sets e;unfold jj;rw[this hs sets 1 e,Int.one_mul]
def Vi{h:List Nat}(up:Up h):h.map (dG h)=(List.range h.length).map λ(i:Nat)=>(0:Int)+(i:Int):=by
 apply pU;intro i;rw[a_,a_];by_cases hi:i<h.length
 .rw[bt hi,xc hi];show some (dG h h[i])=some _;rw[E1 up (bt hi)];show some (i:Int)=some ((0:Int)+(i:Int));rw[pS]
 .rw[ot (),ot (by simp;omega)];rfl
def Vj{h had:List Nat}{row:List Int}(up:Up h)(hr:∀x∈h,(dG h x∈row↔x∈had)):cZ h.length row=(h.filter λx=>!had.contains x).map (dG h):=by
 unfold cZ;rw[<-Vi up,pZ];congr 1;apply pV;intro x hx;show(!decide (dG h x∈row))=!had.contains x;congr 1;rw[jL,jh,hr x hx];simp
def E2:∀{l:List Nat},l.Nodup->l.zipIdx=l.map λx=>(x,l.findIdx λy=>y==x):=λ{l} nd=>by
 apply pU;intro i;rw[getElem?_zipIdx,a_];cases e:l[i]? with
 |none=>rfl
 |some x=>
  show some (x,0+i)=some (x,_);rw[j5 nd e,jN]
def Vk{h had s:List Nat}{row p:List Int}(up:Up h)(hr:∀x∈h,(dG h x∈row↔x∈had))(hs:s.Sublist h)(hp:∀x∈h,(dG h x∈p↔x∈s)):
  i_ h.length p (row,num)=(s.filter λx=>!had.contains x).map λx=>(row++ [dG h x],num*(((h.filter λx=>!had.contains x).length:Nat):Int)+((((h.filter λx=>!had.contains x).findIdx λy=>y==x):Nat):Int)):=by
 unfold i_;dsimp only;rw[Vj up hr];generalize YS:(h.filter λx=>!had.contains x)=av;have upa:Up av:=by rw[<-YS];exact uw _ up
 have mq:∀x∈av,x∈h:=λx hx=>by rw[<-YS]at hx;exact(mem_filter.mp hx).1
 have e1:(av.map (dG h)).zipIdx=(av.map λx=>(x,av.findIdx λy=>y==x)).map λy=>(dG h y.1,y.2):=by
  rw[<-E2 upa.nodup,zipIdx_map];rfl
 have e2:(s.filter λx=>!had.contains x)=av.filter λx=>decide (x∈s):=by
  have:s=h.filter λx=>decide (x∈s):=jD hs up.nodup λx=>by
   rw[jh];exact⟨λz=>⟨hs.subset z,z⟩,λz=>z.2⟩
  rw[<-YS,xo]
  conv=>lhs;rw[this]
  rw[xo];apply pV;intro x _;exact Bool.and_comm _ _
 rw[e1,bQ,filterMap_map,e2,az];have fc:∀{f g:Nat->Option (List Int×Int)}{l:List Nat},(∀x∈l,f x=g x)->l.filterMap f=l.filterMap g:=λ{f g l} e=>by
  induction l with
  |nil=>rfl
  |cons a l ih=>
   rw[jM,jM,e a ∅,ih λx hx=>e x (by simp[hx])]
 rw[<-filterMap_eq_map,filterMap_filter];refine fc λx hx=>?_;show(if dG h x∈p then some (row++ [dG h x],num*((av.length:Nat):Int)+(((av.findIdx λy=>y==x):Nat):Int))else none)=_;by_cases c:x∈s
 .rw[ag ((hp x (mq x hx)).mpr c)];simp[c]
 .rw[af (λz=>c ((hp x (mq x hx)).mp z))];simp[c]
theorem Ar{f g:α->List β}:∀{l:List α},(∀x∈l,f x=g x)->l.flatMap f=l.flatMap g
 |[],_=>rfl|a::l,e=>by rw[kS,kS,e a ∅,Ar λx hx=>e x (by simp[hx])]
theorem u9 n:∀(ps:List (List Int)) rows,ps.foldl (jm n) rows=rows.flatMap λx=>ps.foldl (jm n) [x]
 |[],rows=>by
  show rows=rows.flatMap λx=>[x];rw[flatMap_singleton']
 |p::ps,rows=>by
  show ps.foldl (jm n) (jm n rows p)=_;rw[u9 n ps];show(rows.flatMap (i_ n p)).flatMap _=_;rw[flatMap_assoc];congr 1;funext x;show(i_ n p x).flatMap _=ps.foldl (jm n) ([x].flatMap (i_ n p));rw[flatMap_singleton,u9 n ps]
def nD(h:List Nat)(p:List Int)(s:List Nat):Prop:=s.Sublist h/\∀x∈h,(dG h x∈p↔x∈s)
theorem As{h:List Nat}(up:Up h):∀{ps}{ss},PySem.Paired (nD h) ps ss->∀row had num,(∀x∈h,(dG h x∈row↔x∈had))->
  ps.foldl (jm h.length) [(row,num)]=(apartRows ss had).map λr=>(row++r.map (dG h),num*((orders (h.filter λx=>!had.contains x).length ss.length:Nat):Int)+((rankOrder (h.filter λx=>!had.contains x) r:Nat):Int))
 |_,_,.nil,row,had,num,_=>by
  show [(row,num)]=[(row++ [],num*((orders (h.filter λx=>!had.contains x).length 0:Nat):Int)+((0:Nat):Int))];rw[kJ];simp
 |_,_,.cons (a:=p) (b:=s) (l₁:=ps) (l₂:=ss) Il t,row,had,num,hr=>by
  show ps.foldl (jm h.length) (jm h.length [(row,num)] p)=_;rw[u9,show jm h.length [(row,num)] p=i_ h.length p (row,num)from flatMap_singleton ..,Vk up hr Il.1 Il.2,flatMap_map];show _=((s.filter λ(x:Nat)=>!had.contains x).flatMap λ(x:Nat)=>(apartRows ss (x::had)).map λ(r:List Nat)=>x::r).map _;rw[map_flatMap];generalize YS:(h.filter λx=>!had.contains x)=av at*;have upa:Up av:=by rw[<-YS];exact uw _ up
  refine Ar λx hx=>?_;have hxs:=mem_filter.mp hx;have hxh:=Il.1.subset hxs.1;have hxa:x∈av:=by rw[<-YS];exact mem_filter.mpr ⟨hxh,hxs.2⟩
  have aem:(h.filter λy=>!(x::had).contains y)=av.erase x:=by
   rw[upa.nodup.erase_eq_filter,<-YS,xo];apply pV;intro y _;rw[contains_cons];cases had.contains y<;>simp[bne]
  rw[As up t (row++ [dG h x]) (x::had) _ (λy hy=>by
   rw[jr,sO,hr y hy,sk];constructor
   .rintro(z|z)
    .exact .inr z
    .exact .inl (ya up hy hxh z)
   .rintro(z|z)
    .exact .inr (by rw[z])
    .exact .inl z),aem,bQ]
  apply fE;intro r hrr;have hlr:=(dO.mp hrr).1;have QK:=rg hxa;have hl0:=wV hxa;obtain⟨m,hm⟩:∃m,av.length=m+1:=⟨av.length-1,by omega⟩;show(row++ [dG h x] ++r.map (dG h),_)=(row++(dG h x::r.map (dG h)),num*((orders av.length (ss.length+1):Nat):Int)+(((av.findIdx λ(y:Nat)=>y==x)*orders (av.length-1) r.length+rankOrder (av.erase x) r:Nat):Int));rw[QK,hlr,hm,g_];show(_,_)=(_,num*(((m+1)*orders m ss.length:Nat):Int)+_);congr 1
  push_cast
  rw[xB,xg,Int.add_assoc]
def pj{h:List Nat}(up:Up h){ps:List (List Int)}(t:PySem.Paired (nD h) ps ss):eJ h.length ps=(apartRows ss []).map λr=>(r.map (dG h),((rankOrder h r:Nat):Int)):=by
 unfold eJ;rw[As up t [] [] 0 (λx _=>by simp)];apply fE;intro r _;rw[pP,Int.zero_mul,pS];have:(h.filter λx=>!([]:List Nat).contains x)=h:=filter_eq_self.mpr λx _=>rfl;rw[this]
noncomputable def YT(k:Nat)(how:How)(sets:List (List Nat)):List (List Nat):=match how with
 |.on=>apartRows sets []|.box=>apartRows (List.replicate k (sets.headD [])) []
 |.key=>(apartRows (List.replicate k (together sets)) []).filter λr=>(sets.headD []).all λx=>r.contains x
def ui{h s:List Nat}(up:Up h)(hs:s.Sublist h):nD h (s.map (dG h)) s:=⟨hs,λx hx=>by
 constructor
 .intro z;obtain⟨y,hy,e⟩:=mem_map.mp z;exact ya up (hs.subset hy) hx e▸hy
 .intro z;exact mem_map.mpr ⟨x,z,rfl⟩⟩
theorem Df{h:List Nat}(up:Up h):∀{sets},(∀s∈sets,s.Sublist h)->PySem.Paired (nD h) (sets.map λs=>s.map (dG h)) sets
 |[],_=>.nil|s::q,hs=>.cons (ui up (hs s ∅)) (Df up λt ht=>hs t (by simp[ht]))
theorem Au{h:List Nat}{s:List Nat}(e:nD h p s):∀k:Nat,PySem.Paired (nD h) (List.replicate k p) (List.replicate k s)
 |0=>.nil|k+1=>.cons e (Au e k)
def lz{h A B:List Nat}(up:Up h)(Nq:∀x∈h,x<32)(hA:A.Sublist h)(hB:B.Sublist h):nD h (A.map (dG h)++B.map (dG h)) (together [A,B]):=by
 have mem:∀x,x∈together [A,B]↔x<32/\(x∈A\/x∈B):=λx=>by
  rw[du];constructor
  .rintro⟨a,s,hs,hx⟩;obtain rfl|hs:=mem_cons.mp hs
   .exact⟨a,.inl hx⟩
   .rw[mem_singleton.mp hs]at hx;exact⟨a,.inr hx⟩
  .rintro⟨a,hx|hx⟩
   .exact⟨a,A,by simp,hx⟩
   .exact⟨a,B,by simp,hx⟩
 refine⟨gi (ph _) up λx hx=>?_,λx hx=>?_⟩
 .obtain z|z:=((mem x).mp hx).2
  .exact hA.subset z
  .exact hB.subset z
 .rw[jr,(ui up hA).2 x hx,(ui up hB).2 x hx,mem x];exact⟨λz=>⟨Nq x hx,z⟩,λz=>z.2⟩
def E3{s:List Nat}(up:Up s)(Nq:∀x∈s,x<32):together [s]=s:=by
 refine(jD (gi up (o9 32) λx hx=>mem_range.mpr (Nq x hx)) (o9 32).nodup λx=>?_).symm;simp;exact λz=>Nq x z
def Ke{h A:List Nat}(up:Up h)(hA:A.Sublist h)(hr:∀x∈r,x∈h):hasAll (r.map (dG h)) (A.map (dG h))=A.all λx=>r.contains x:=by
 unfold hasAll;rw[List.all_map,jL,dy,dy];refine forall_congr' λx=>imp_congr_right λhx=>?_;show decide (dG h x∈r.map (dG h))=true↔r.contains x=true;rw[jh];constructor
 .intro z;obtain⟨y,hy,e⟩:=mem_map.mp z;have:=ya up (hr y hy) (hA.subset hx) e;simpa[this]using hy
 .intro z;exact mem_map.mpr ⟨x,‹z›,rfl⟩
def HJ{h:List Nat}(hs:∀s∈ss,s.Sublist h)(hr:r∈apartRows ss []):∀x∈r,x∈h:=λx hx=>by
 have:=dO.mp hr;obtain⟨i,hi,rfl⟩:=mG hx;have hi3:i<ss.length:=by rw[<-this.1];exact hi
 have Qw:i<(r.zip ss).length:=by rw[mM];omega
 have h3:=all_eq_true.mp this.2.2.2 _ (pY Qw);rw[getElem_zip]at h3;exact(hs _ (pY hi3)).subset ‹h3›
def HK(g:CG C){x:Bet}{tail:List Bytes}(hb:dP C (C.pool x.pool) hw tail x.how x.sets)(hk:(C.pool x.pool).kind≠ .legs):
  j0 (cw hw) (nB C (C.pool x.pool) x.sets) (C.pool x.pool).k (C.headsOf (C.pool x.pool).race).length=(YT (C.pool x.pool).k x.how x.sets).map λr=>(r.map (dG (C.headsOf (C.pool x.pool).race)),((rankOrder (C.headsOf (C.pool x.pool).race) r:Nat):Int)):=by
 have hr:=iz hb;have hh:=c5 g (C.pool x.pool).race;have hc:=iy g hr;have iD:nB C (C.pool x.pool) x.sets=x.sets.map λs=>s.map (dG (C.headsOf (C.pool x.pool).race)):=by
  unfold nB;rw[af hk]
 rw[iD];generalize C.pool x.pool=p at*;generalize C.headsOf p.race=h at*;obtain⟨up,Nq,_⟩:=hh;unfold j0 YT;obtain⟨e1,e2,_⟩|⟨e1,_,e2,w,s,_,_,_,e3⟩|⟨e1,_,e2,wa,wb,A,B,_,_,_,_,_,_,e3⟩:=hb
 .rw[ag ((cw_on hw).mpr e1),e2];have hs:∀s∈x.sets,s.Sublist h:=by
   obtain⟨z,_⟩|⟨_,_,_,z⟩|⟨_,z,_⟩|⟨_,z,_⟩:=hc
   .exact absurd z hk
   .exact z
   .rw[e2]at z;cases z
   .rw[e2]at z;cases z
  exact pj up (Df up hs)
 .have hs:s.Sublist h:=by
   obtain⟨z,_⟩|⟨_,z,_⟩|⟨_,_,s',z,y⟩|⟨_,z,_⟩:=hc
   .exact absurd z hk
   .rw[e2]at z;cases z
   .rw[e3]at z;cases z;exact y
   .rw[e2]at z;cases z
  rw[af (λz=>by rw[e1]at z;exact absurd z ⋯),ag ((cw_box hw).mpr e1),e2,e3];show eJ h.length (List.replicate p.k [s.map (dG h)]).flatten=_;rw[Aq];exact pj up (Au (ui up hs) p.k)
 .have hs:A.Sublist h/\B.Sublist h:=by
   obtain⟨z,_⟩|⟨_,z,_⟩|⟨_,z,_⟩|⟨_,_,A',B',z,y⟩:=hc
   .exact absurd z hk
   .rw[e2]at z;cases z
   .rw[e2]at z;cases z
   .rw[e3]at z;cases z;exact y
  rw[af (λz=>by rw[e1]at z;exact absurd z ⋯),af (λz=>by rw[e1]at z;exact absurd z ⋯),e2,e3];show(eJ h.length (List.replicate p.k (A.map (dG h)++B.map (dG h)))).filter (λx=>hasAll x.1 (A.map (dG h)))=((apartRows (List.replicate p.k (together [A,B])) []).filter λr=>A.all λx=>r.contains x).map _;have ht:=lz up Nq hs.1 hs.2;rw[pj up (Au ht p.k),pZ];congr 1;apply pV;intro r hr;exact Ke up hs.1 (HJ (λs hs=>by rw[wH hs];exact ht.1) hr)
def Dg{C:Card}(g:CG C){b:Bet}(h:C.setsRight b=true):eK C b=(C.rows b).map λrow=>match(C.pool b.pool).kind with
  |.any=>rankAny ((C.sets (C.pool b.pool)).headD []) row|.legs=>rankLegs (C.sets (C.pool b.pool)) row
  |_=>rankOrder ((C.sets (C.pool b.pool)).headD []) row:=by
 have hc:∀row∈C.rows b,C.isCombo (C.pool b.pool) row=true:=λrow hr=>by
  rw[x9 g h]at hr;exact uZ (mem_filter.mp hr).2
 conv=>lhs;rw[<-u5 g (eK C b) Ak,<-Aj g h]
 have:∀l:List (List Nat),(∀row∈l,C.isCombo (C.pool b.pool) row=true)->l.filterMap (C.numberOf (C.pool b.pool))=l.map λrow=>match(C.pool b.pool).kind with
  |.any=>rankAny ((C.sets (C.pool b.pool)).headD []) row|.legs=>rankLegs (C.sets (C.pool b.pool)) row
  |_=>rankOrder ((C.sets (C.pool b.pool)).headD []) row:=by
  intro l
  induction l with
  |nil=>intro _;rfl
  |cons a l ih=>
   intro hl;rw[jM,vT (hl a ∅),aJ,<-ih λr hr=>hl r (by simp[hr])]
   try rfl
 exact this _ hc
def Mx{C:Card}{b:Bet}(e:b.how=.box):C.has b row=(C.isCombo (C.pool b.pool) row&&row.all λ(x:Nat)=>(b.sets.headD []).contains x):=by
 unfold Card.has;rw[e]
def has_key{C:Card}{b:Bet}(e:b.how=.key):C.has b row=(C.isCombo (C.pool b.pool) row&&((b.sets.headD []).all (λ(x:Nat)=>row.contains x)&&row.all λ(x:Nat)=>(b.sets.headD []).contains x||(b.sets.getD 1 []).contains x)):=by
 unfold Card.has;rw[e]
def gS{u:List Nat}:r∈apartRows (List.replicate k u) []↔r.length=k/\r.Nodup/\∀x∈r,x∈u:=by
 rw[dO,jK];constructor
 .rintro⟨a,b,_,d⟩;exact⟨a,b,(x8 a).mp d⟩
 .rintro⟨a,b,d⟩;exact⟨a,b,by simp,(x8 a).mpr d⟩
def RL(g:CG C){x:Bet}{tail:List Bytes}(hb:dP C (C.pool x.pool) hw tail x.how x.sets)(hk:(C.pool x.pool).kind=.place\/(C.pool x.pool).kind=.order):
  C.rows x=YT (C.pool x.pool).k x.how x.sets:=by
 have hr:=iz hb;have hh:=c5 g (C.pool x.pool).race;have hc:=iy g hr;have qi:(C.pool x.pool).kind≠ .legs:=by
  obtain z|z:=hk<;>rw[z] <;>decide
 have h1:(C.sets (C.pool x.pool)).headD []=C.headsOf (C.pool x.pool).race:=o_ qi;unfold Card.rows YT;dsimp only;obtain hk|hk:=hk
 .rw[hk];obtain⟨z,_⟩|⟨_,e2,hl,_⟩|⟨z,_⟩|⟨z,_⟩:=hc
  .exact absurd z qi
  .rw[e2];unfold Pool.places at hl;rw[ag hk]at hl;obtain⟨s,hs⟩:=length_eq_one_iff.mp hl;rw[hs];show s.map (λx=>[x])=(s.filter λx=>!([]:List Nat).contains x).flatMap λx=>[[x]];have ef:(s.filter λx=>!([]:List Nat).contains x)=s:=filter_eq_self.mpr (λ_ _=>rfl);have em:∀l:List Nat,l.map (λx=>[x])=l.flatMap λx=>[[x]]:=λl=>by
    induction l with
    |nil=>rfl|cons a l ih=>rw[aJ,kS,<-ih];rfl
   rw[ef,em]
  .rw[hk]at z;rcases z with z|z<;>cases z
  .rw[hk]at z;rcases z with z|z<;>cases z
 .have combo:∀{r:List Nat}{u:List Nat},(∀y∈u,y∈C.headsOf (C.pool x.pool).race)->r∈apartRows (List.replicate (C.pool x.pool).k u) []->C.isCombo (C.pool x.pool) r=true:=λ{r u} hu hr=>by
   obtain⟨a,b,d⟩:=gS.mp hr;unfold Card.isCombo;rw[hk];dsimp only;rw[h1,bI,bI,kM,jh,dy];exact⟨a,b,λy hy=>‹hu y (d y hy)›⟩
  rw[hk];obtain⟨z,_⟩|⟨_,e2,hl,_⟩|⟨_,e2,s,e3,hs⟩|⟨_,e2,A,B,e3,hA,hB⟩:=hc
  .exact absurd z qi
  .rw[e2]
  .rw[e2];have ups:Up s:=su hs hh.1;have e4:together x.sets=s:=by rw[e3];exact E3 ups λy hy=>hh.2.1 y (hs.subset hy)
   have e5:x.sets.headD []=s:=by rw[e3];rfl
   show(apartRows (List.replicate (C.pool x.pool).k (together x.sets)) []).filter (C.has x)=apartRows (List.replicate (C.pool x.pool).k (x.sets.headD [])) [];rw[e4,e5];refine filter_eq_self.mpr λr hr=>?_;rw[Mx e2,e5,combo (λy hy=>hs.subset hy) hr,sF,dy];exact λy hy=>by simpa using(gS.mp hr).2.2 y hy
  .rw[e2];have e5:x.sets.headD []=A:=by rw[e3];rfl
   have e6:x.sets.getD 1 []=B:=by rw[e3];rfl
   show(apartRows (List.replicate (C.pool x.pool).k (together x.sets)) []).filter (C.has x)=(apartRows (List.replicate (C.pool x.pool).k (together x.sets)) []).filter λr=>(x.sets.headD []).all λx=>r.contains x;apply pV;intro r hr;have hu:∀y∈together x.sets,y∈A\/y∈B:=λy hy=>by
    obtain⟨_,s,hs,z⟩:=du.mp hy;rw[e3]at hs;obtain rfl|hs:=mem_cons.mp hs
    .exact .inl z
    .rw[mem_singleton.mp hs]at z;exact .inr z
   rw[has_key e2,combo (λy hy=>by rcases hu y hy with z|z;exact hA.subset z;exact hB.subset z) hr,sF,e5,e6];have:(r.all λx=>A.contains x||B.contains x)=true:=all_eq_true.mpr λy hy=>by
    obtain z|z:=hu y ((gS.mp hr).2.2 y hy)<;>simp[z]
   rw[this,xl]
theorem HL{r:α->α->Prop}(as:∀a b,r a b->¬r b a):∀{l m:List α},l.Pairwise r->m.Pairwise r->(∀x,x∈l↔x∈m)->l=m
 |[],[],_,_,_=>rfl|[],b::m,_,_,h=>absurd ((h b).mpr ∅) ∅
 |a::l,[],_,_,h=>absurd ((h a).mp ∅) ∅
 |a::l,b::m,hl,hm,h=>by
  have FO:=pairwise_cons.mp hl;have UH:=pairwise_cons.mp hm;have e:a=b:=by
   obtain z|z:=mem_cons.mp ((h a).mp ∅)
   .exact z
   .obtain y|y:=mem_cons.mp ((h b).mpr ∅)
    .exact y.symm
    .exact absurd (UH.1 a z) (as _ _ (FO.1 b y))
  subst e;have ir:=λx z=>as x x z z;rw[HL as FO.2 UH.2 λx=>?_];constructor
  .intro z;obtain y|y:=mem_cons.mp ((h x).mp (by simp[z]))
   .subst y;exact absurd (FO.1 x z) (ir x)
   .exact y
  .intro z;obtain y|y:=mem_cons.mp ((h x).mpr (by simp[z]))
   .subst y;exact absurd (UH.1 x z) (ir x)
   .exact y
theorem HM:∀a b:List Int,HT.lexLt a b=true->¬HT.lexLt b a=true
 |[],[],h=>by cases h
 |[],_::_,_=>by intro z;cases z
 |_::_,[],h=>by cases h
 |x::a,y::b,h=>by
  rw[HT.h_]at h⊢;by_cases e:x=y
  .rw[ag e]at h;rw[ag e.symm];exact HM a b h
  .rw[af e,jh]at h;rw[af (λz=>e z.symm),jh];omega
def HN:∀{k}{l r},r∈risingRows (k+1) l->∃y t,r=y::t/\y∈l:=λ{k l r} hr=>by
 cases r with
 |nil=>
  have:=gR (k+1) hr;simp at this
 |cons y t=>exact⟨y,t,rfl,iL (k+1) hr y ∅⟩
theorem rX{h:List Nat}(up:Up h):∀k l,Up l->(∀x∈l,x∈h)->((risingRows k l).map λr=>r.map (dG h)).Pairwise λa b=>HT.lexLt a b=true
 |0,l,_,_=>by
  cases l<;>exact pairwise_singleton _ _
 |k+1,[],_,_=>List.Pairwise.nil
 |k+1,x::l,ul,hl=>by
  have ul':=pairwise_cons.mp ul;show(((risingRows k l).map λ(r:List Nat)=>x::r)++risingRows (k+1) l).map _|>.Pairwise _;rw[ed,pairwise_append];refine⟨?_,rX up (k+1) l ul'.2 λy hy=>hl y (by simp[hy]),?_⟩
  .have ih:=rX up k l ul'.2 λy hy=>hl y (by simp[hy]);rw[bQ,mJ];rw[mJ]at ih;refine ih.imp λ{a b} e=>?_;show HT.lexLt (dG h x::a.map (dG h)) (dG h x::b.map (dG h))=true;rw[HT.h_,ag rfl];exact e
  .intro a ha b hb;obtain⟨r,hr,rfl⟩:=mem_map.mp ha;obtain⟨r0,_,rfl⟩:=mem_map.mp hr;obtain⟨s,hs,rfl⟩:=mem_map.mp hb;obtain⟨y,t,rfl,hy⟩:=HN hs;have dQ:=(j7 up (hl x ∅) (hl y (by simp[hy]))).mpr (ul'.1 y hy);show HT.lexLt (dG h x::r0.map (dG h)) (dG h y::t.map (dG h))=true;rw[HT.h_,af (),jh];exact dQ
theorem u_:∀{ss}{row},fillsSets row ss=true↔∃r:List Nat,r.Perm row/\r.length=ss.length/\(r.zip ss).all (λ(z:Nat×List Nat)=>z.2.contains z.1)=true
 |[],row=>by
  show row.isEmpty=true↔_;constructor
  .intro z;have:row=[]:=by simpa using z
   exact⟨[],by rw[this],rfl,rfl⟩
  .rintro⟨r,h1,h2,_⟩;have:r=[]:=length_eq_zero_iff.mp h2;rw[this]at h1;have:=h1.nil_eq;simp[<-this]
 |s::t,row=>by
  show(row.any λ(x:Nat)=>s.contains x&&fillsSets (row.erase x) t)=true↔_;rw[pX];constructor
  .rintro⟨x,hx,h⟩;rw[bI]at h;obtain⟨r,h1,h2,h3⟩:=u_.mp h.2;refine⟨x::r,((List.Perm.cons x h1).trans (perm_cons_erase hx).symm),by simp[h2],?_⟩;rw[kj,eU,h3,xl];exact h.1
  .rintro⟨r,h1,h2,h3⟩;cases r with
   |nil=>cases h2
   |cons x r=>
    rw[kj,eU,bI]at h3;have hx:x∈row:=h1.subset ∅;refine⟨x,hx,?_⟩;rw[bI];refine⟨h3.1,u_.mpr ⟨r,?_,‹h2›,h3.2⟩⟩;have:=(h1.trans (perm_cons_erase hx));exact(perm_cons x).mp this
def Kf{C:Card}{b:Bet}(e:b.how=.on)(k:(C.pool b.pool).kind=.any):C.has b row=(C.isCombo (C.pool b.pool) row&&fillsSets row b.sets):=by
 unfold Card.has;rw[e];dsimp only;rw[ag k]
def My(g:CG C){x:Bet}(hr:C.setsRight x=true)(hk:(C.pool x.pool).kind=.any)(hl:row.length=(C.pool x.pool).k)(hu:Up row)(mq:∀y∈row,y∈C.headsOf (C.pool x.pool).race):
  C.has x row=true↔∃r∈YT (C.pool x.pool).k x.how x.sets,r.Perm row:=by
 have hh:=c5 g (C.pool x.pool).race;have hc:=iy g hr;have qi:(C.pool x.pool).kind≠ .legs:=by rw[hk];decide
 have h1:(C.sets (C.pool x.pool)).headD []=C.headsOf (C.pool x.pool).race:=o_ qi;have combo:C.isCombo (C.pool x.pool) row=true:=by
  unfold Card.isCombo;rw[hk];dsimp only;rw[h1,bI,bI,kM,dy];exact⟨hl,(iu row).mpr hu,λy hy=>‹mq y hy›⟩
 unfold YT;obtain⟨z,_⟩|⟨_,e2,Yd,hs⟩|⟨_,e2,s,e3,hs⟩|⟨_,e2,A,B,e3,hA,hB⟩:=hc
 .exact absurd z qi
 .rw[Kf e2 hk,combo,sF,e2,u_];constructor
  .rintro⟨r,h1,h2,h3⟩;exact⟨r,dO.mpr ⟨h2,h1.nodup_iff.mpr hu.nodup,by simp,h3⟩,h1⟩
  .rintro⟨r,h1,h2⟩;have:=dO.mp h1;exact⟨r,h2,this.1,this.2.2.2⟩
 .have e5:x.sets.headD []=s:=by rw[e3];rfl
  rw[Mx e2,combo,sF,e2,dy];dsimp only;rw[e5];constructor
  .intro z;exact⟨row,gS.mpr ⟨hl,hu.nodup,λy hy=>‹z y hy›⟩,List.Perm.refl _⟩
  .rintro⟨r,h1,h2⟩ y hy;simpa using(gS.mp h1).2.2 y (h2.mem_iff.mpr hy)
 .have e5:x.sets.headD []=A:=by rw[e3];rfl
  have e6:x.sets.getD 1 []=B:=by rw[e3];rfl
  have ht:=lz hh.1 hh.2.1 hA hB;have hm:∀y,y∈together x.sets↔y∈A\/y∈B:=λy=>by
   rw[e3,du];constructor
   .rintro⟨_,s,hs,z⟩;obtain rfl|hs:=mem_cons.mp hs
    .exact .inl z
    .rw[mem_singleton.mp hs]at z;exact .inr z
   .rintro(z|z)
    .exact⟨hh.2.1 y (hA.subset z),A,by simp,z⟩
    .exact⟨hh.2.1 y (hB.subset z),B,by simp,z⟩
  rw[has_key e2,combo,sF,e2,e5,e6,bI,dy,dy];constructor
  .rintro⟨a,b⟩;refine⟨row,mem_filter.mpr ⟨gS.mpr ⟨hl,hu.nodup,λy hy=>(hm y).mpr ?_⟩,?_⟩,List.Perm.refl _⟩
   .have:=b y hy;simpa using this
   .rw[dy];exact a
  .rintro⟨r,h1,h2⟩;obtain⟨h3,h4⟩:=mem_filter.mp h1;rw[dy]at h4;refine⟨λy hy=>?_,λy hy=>?_⟩
   .have:=h4 y hy;simp at this⊢;exact h2.mem_iff.mp this
   .have:=(hm y).mp ((gS.mp h3).2.2 y (h2.mem_iff.mpr hy));simpa using this
def YV(g:CG C){x:Bet}(hr:C.setsRight x=true)(hk:(C.pool x.pool).kind=.any)(h:r∈YT (C.pool x.pool).k x.how x.sets):r.length=(C.pool x.pool).k/\r.Nodup/\∀y∈r,y∈C.headsOf (C.pool x.pool).race:=by
 have hh:=c5 g (C.pool x.pool).race;have qi:(C.pool x.pool).kind≠ .legs:=by rw[hk];decide
 obtain⟨z,_⟩|⟨_,e2,Yd,hs⟩|⟨_,e2,s,e3,hs⟩|⟨_,e2,A,B,e3,hA,hB⟩:=iy g hr
 .exact absurd z qi
 .rw[e2]at h;have:=dO.mp h;refine⟨?_,this.2.1,HJ hs h⟩;rw[this.1,Yd];unfold Pool.places;rw[af (by rw[hk];decide)]
 .rw[e2,e3]at h;have:=gS.mp h;exact⟨this.1,this.2.1,λy hy=>hs.subset (this.2.2 y hy)⟩
 .rw[e2]at h;have:=gS.mp (mem_filter.mp h).1;rw[e3]at this;exact⟨this.1,this.2.1,λy hy=>(lz hh.1 hh.2.1 hA hB).1.subset (this.2.2 y hy)⟩
def Mz{h:List Nat}(up:Up h)(hu:Up row)(mq:∀y∈row,y∈h)(p:r.Perm row):qW (row.map (dG h)) (r.map (dG h)):=by
 refine⟨(p.map _).symm,?_⟩;exact((Kb up mq).mpr hu).imp λh=>Int.le_of_lt h
def any_rows(g:CG C){x:Bet}{tail:List Bytes}(hb:dP C (C.pool x.pool) hw tail x.how x.sets)(hk:(C.pool x.pool).kind=.any)(mem:∀k,k∈out↔∃y∈j0 (cw hw) (nB C (C.pool x.pool) x.sets) (C.pool x.pool).k (C.headsOf (C.pool x.pool).race).length,qW k y.1)(so:out.Pairwise λa b=>HT.lexLt a b=true):
  out=(C.rows x).map λr=>r.map (dG (C.headsOf (C.pool x.pool).race)):=by
 have hr:=iz hb;have hh:=c5 g (C.pool x.pool).race;have qi:(C.pool x.pool).kind≠ .legs:=by rw[hk];decide
 have h1:(C.sets (C.pool x.pool)).headD []=C.headsOf (C.pool x.pool).race:=o_ qi;have RM:C.rows x=(risingRows (C.pool x.pool).k (C.headsOf (C.pool x.pool).race)).filter (C.has x):=by
  rw[x9 g hr];unfold bD;rw[hk,h1]
 have YC:∀r∈C.rows x,r.length=(C.pool x.pool).k/\Up r/\(∀y∈r,y∈C.headsOf (C.pool x.pool).race)/\C.has x r=true:=λr hr=>by
  rw[RM]at hr;obtain⟨a,b⟩:=mem_filter.mp hr;have:=(d5 _).mp a;exact⟨this.1,su this.2 hh.1,λy hy=>this.2.subset hy,b⟩
 refine HL (λa b=>HM a b) so ?_ λk=>?_
 .have:=rX hh.1 (C.pool x.pool).k (C.headsOf (C.pool x.pool).race) hh.1 (λ_ h=>h);rw[mJ]at this⊢;rw[RM];exact uw _ this
 .rw[mem k,HK g hb qi,mem_map];constructor
  .rintro⟨y,hy,hs⟩;obtain⟨r,YW,rfl⟩:=mem_map.mp hy;obtain⟨a1,a2,a3⟩:=YV g hr hk YW;have qM:((C.headsOf (C.pool x.pool).race).filter λy=>decide (y∈r)).Sublist (C.headsOf (C.pool x.pool).race):=filter_sublist;generalize aby:((C.headsOf (C.pool x.pool).race).filter λy=>decide (y∈r))=row at qM;have hu:Up row:=su qM hh.1;have hp:r.Perm row:=by
    rw[perm_ext_iff_of_nodup a2 hu.nodup];intro y;rw[<-aby,mem_filter,jh];exact⟨λz=>⟨a3 y z,z⟩,λz=>z.2⟩
   have hl:row.length=(C.pool x.pool).k:=by rw[<-hp.length_eq];exact a1
   refine⟨row,?_,hs.eq (Mz hh.1 hu (λy hy=>qM.subset hy) hp)▸rfl⟩;rw[RM];exact mem_filter.mpr ⟨(d5 _).mpr ⟨hl,qM⟩,(My g hr hk hl hu λy hy=>qM.subset hy).mpr ⟨r,YW,hp⟩⟩
  .rintro⟨row,hm,rfl⟩;obtain⟨hl,hu,mq,aen⟩:=YC row hm;obtain⟨r,YW,hp⟩:=(My g hr hk hl hu mq).mp aen;exact⟨_,mem_map.mpr ⟨r,YW,rfl⟩,Mz hh.1 hu mq hp⟩
def E4(n k:Nat):CD (n:Int) (k:Int)=((choose n k:Nat):Int):=by
 unfold CD choose;rw[gk,f7,f7];rfl
theorem HP f:∀(l:List Nat) a,(((l.map f).foldl (λ(a b:Nat)=>a+b) a:Nat):Int)=(a:Int)+(l.map λj=>((f j:Nat):Int)).sum
 |[],a=>by simp
 |x::l,a=>by
  rw[aJ,fG,HP f l (a+f x),aJ,sum_cons];omega
theorem vU{h:List Nat}(up:Up h):∀r lo num,Up r->(∀y∈r,y∈h.drop lo)->jZ h.length (r.map (dG h)) (lo:Int) num=num+((rankAny (h.drop lo) r:Nat):Int)
 |[],lo,num,_,_=>by
  show num=num+((rankAny (h.drop lo) []:Nat):Int);have:rankAny (h.drop lo) []=0:=by unfold rankAny;rfl
  rw[this];simp
 |x::r,lo,num,hu,mq=>by
  have KY:=pairwise_cons.mp hu;obtain⟨i,hi,e⟩:=mG (mq x ∅);have e?:(h.drop lo)[i]?=some x:=by rw[bt hi,e]
  have upd:Up (h.drop lo):=su (drop_sublist _ _) up;have eh:h[lo+i]?=some x:=by rw[<-pN];exact e?
  have iD:=E1 up eh;have YX:=j5 upd.nodup e?;have dQ:=(List.getElem?_eq_some_iff.mp eh).1;show jZ h.length (r.map (dG h)) (dG h x+1) (num+EJ h.length (r.map (dG h)).length (lo:Int) (dG h x))=_;rw[iD,show((lo+i:Nat):Int)+1=((lo+i+1:Nat):Int) by omega,vU up r (lo+i+1) _ KY.2 (λy hy=>?_)]
  .show _=num+((((List.range ((h.drop lo).findIdx λ(y:Nat)=>y==x)).map λ(j:Nat)=>choose ((h.drop lo).length-1-j) r.length).foldl (λ(a b:Nat)=>a+b) 0+rankAny ((h.drop lo).drop (((h.drop lo).findIdx λ(y:Nat)=>y==x)+1)) r:Nat):Int);rw[YX,drop_drop,show lo+(i+1)=lo+i+1 by omega];have hb:EJ h.length (r.map (dG h)).length (lo:Int) ((lo+i:Nat):Int)=((((List.range i).map λ(j:Nat)=>choose ((h.drop lo).length-1-j) r.length).foldl (λ(a b:Nat)=>a+b) 0:Nat):Int):=by
    unfold EJ;rw[HP,show(((lo+i:Nat):Int)-(lo:Int)).toNat=i by omega,az,dW];rw[show(((0:Nat)):Int)=0 from rfl,pS];congr 1;apply fE;intro j hj;have hj:=mem_range.mp hj;rw[show(h.length:Int)-((lo:Int)+(j:Int))-1=((h.length-lo-1-j:Nat):Int) by omega,E4]
   rw[hb];omega
  .obtain⟨j,hj,ej⟩:=mG (mq y (by simp[hy]));have hxy:=KY.1 y hy;have hij:i<j:=by
    obtain a|a|a:=pK i j
    .exact a
    .subst a;omega
    .have:=pairwise_iff_getElem.mp upd j i hj hi a;omega
   rw[mem_iff_getElem?];refine⟨j-i-1,?_⟩;rw[pN,show lo+i+1+(j-i-1)=lo+j by omega,<-pN,bt hj,ej]
def RN{h:List Nat}(up:Up h)(hu:Up r)(mq:∀y∈r,y∈h):jZ h.length (r.map (dG h)) 0 0=((rankAny h r:Nat):Int):=by
 have:=vU up r 0 0 hu ‹mq›;rw[drop_zero]at this;rw[show((0:Nat):Int)=0 from rfl]at this;rw[this,pS]
end Pd
end
section
namespace Pd
open Tote TotePoolCalls
def Vl(g:CG C){x:Bet}{tail:List Bytes}(hb:dP C (C.pool x.pool) hw tail x.how x.sets)(hk:(C.pool x.pool).kind≠ .legs)(hn:rR (mp (C.pool x.pool)) (cw hw) (nB C (C.pool x.pool) x.sets) (C.headsOf (C.pool x.pool).race).length nums):nums=iN (eK C x):=by
 have hr:=iz hb;have hh:=c5 g (C.pool x.pool).race;have h1:(C.sets (C.pool x.pool)).headD []=C.headsOf (C.pool x.pool).race:=o_ hk;have ek:(mp (C.pool x.pool)).k.toNat=(C.pool x.pool).k:=by show((C.pool x.pool).k:Int).toNat=_;omega
 unfold rR at hn;rw[ek]at hn;rw[Dg g hr,h1];by_cases ka:(C.pool x.pool).kind=.any
 .rw[ag (Kc.mpr ka)]at hn;obtain⟨out,mem,so,rfl⟩:=hn;rw[any_rows g hb ka mem so];unfold iN;rw[bQ,bQ,ka];apply fE;intro r YW;have mq:Up r/\∀y∈r,y∈C.headsOf (C.pool x.pool).race:=by
   rw[x9 g hr]at YW;have:=(mem_filter.mp YW).1;unfold bD at this;rw[ka,h1]at this;have:=(d5 _).mp this;exact⟨su this.2 hh.1,λy hy=>this.2.subset hy⟩
  exact RN hh.1 mq.1 mq.2
 .rw[af (λz=>ka (Kc.mp z))]at hn;have ko:(C.pool x.pool).kind=.place\/(C.pool x.pool).kind=.order:=by
   cases e:(C.pool x.pool).kind with
   |place=>exact .inl rfl|order=>exact .inr rfl
   |any=>exact absurd e ka|legs=>exact absurd e hk
  rw[hn,HK g hb hk,RL g hb ko];unfold iN;rw[bQ,bQ];apply fE;intro r _;show((rankOrder (C.headsOf (C.pool x.pool).race) r:Nat):Int)=_;obtain e|e:=ko<;>rw[e] <;>rfl
def MA(g:CG C){x:Bet}(hr:C.setsRight x=true)(P:Nu (C.races.map hI) (mp (C.pool x.pool)))(hk:(C.pool x.pool).kind=.legs):
  oY ((nB C (C.pool x.pool) x.sets).zip (cY (C.races.map hI) (mp (C.pool x.pool))))=iN (eK C x)/\jj (nB C (C.pool x.pool) x.sets)=((C.manyOf x:Nat):Int):=by
 have hl:x.sets.length=(C.sets (C.pool x.pool)).length:=by
  obtain⟨_,_,z,_⟩|⟨z,_⟩|⟨z,_⟩|⟨z,_⟩:=iy g hr
  .exact z
  .exact absurd hk z
  .rw[hk]at z;rcases z with z|z<;>cases z
  .rw[hk]at z;rcases z with z|z<;>cases z
 rw[Ap P];unfold nB;rw[ag hk,Ol hl,Kd hl,Dg g hr];constructor
 .congr 1;have:C.rows x=rowsOf x.sets:=by unfold Card.rows;dsimp only;rw[hk]
  rw[this];apply fE;intro r _;rw[hk]
 .unfold Card.manyOf;rw[ag hk]
theorem Av:∀{l:List MP},(l.map (·.name)).Nodup->q∈l->l.filter (λz=>decide (z.name=q.name))=[q]
 |a::l,nd,hq=>by
  rw[aJ,nodup_cons]at nd;obtain rfl|z:=mem_cons.mp hq
  .rw[filter_cons_of_pos ∅];congr 1;rw[filter_eq_nil_iff];intro y hy e;exact nd.1 (mem_map.mpr ⟨y,hy,‹e›⟩)
  .rw[filter_cons_of_neg,Av nd.2 z];intro e;exact nd.1 (mem_map.mpr ⟨q,z,(by simpa using e:a.name=q.name).symm⟩)
def HQ{ps:List MP}(h:d6 codes=some (rs,ps)):(ps.map (·.name)).Nodup:=by
 unfold d6 at h;split at h
 .cases h
 .cases h
 split at h
 .cases h
 split at h
 .cases h
 split at h
 .cases h
 split at h
 .cases h
 split at h
 .cases h
 split at h
 .cases h;assumption
 .cases h
def RO{n v:Bytes}(hv:isName v=true):cw n=cw v↔n=v:=by
 constructor
 .intro h;have hp:(toN v).all (λc=>isLet c||cp c)=true:=by
   have:ji (cw v)=true:=by rw[tJ];exact hv
   unfold ji at this;simp only[Bool.and_eq_true]at this;have h4:=this.2.2.2;have e:=(cw_eq h4).mp rfl;rw[e];exact h4
  have e:=(cw_eq hp).mpr rfl;exact(cw_word rfl hp).mp (h.trans e)
 .rintro rfl;rfl
def Om{w:Bytes}{u:Nat}(hu:0<u){s:Int}:oW (cw w) (u:Int)=some s↔∃k:Nat,numberOf w=some k/\1<=k/\k<=1000000/\k%u=0/\s=(k:Int):=by
 unfold oW;constructor
 .intro h;split at h
  .rename_i c;cases h;have o:=rF (w:=w) ();refine⟨(dz (cw w)).toNat,o.1,by omega,by omega,?_,by omega⟩;have:((dz (cw w)).toNat:Int)%(u:Int)=0:=by rw[sC ()];exact c.2.2
   omega
  .cases h
 .rintro⟨k,h1,h2,h3,h4,rfl⟩;rw[rE h1 (),ag ⟨by omega,by omega,by omega⟩]
def Dh{b:Bytes}:i7 (cw b)=some [ws]↔∃l,bW 10 [] b=[l,[]]/\ws=cl (bW 32 [] l):=by
 rw[uI];constructor
 .intro h;split at h
  .rename_i e;have h:=Option.some.inj h;obtain⟨l,hl,hw⟩:=map_eq_singleton_iff.mp h;exact⟨l,(mV).mpr ⟨e,hl.symm⟩,hw.symm⟩
  .cases h
 .rintro⟨l,h1,rfl⟩;obtain⟨e1,e2⟩:=(mV (ls:=[l])).mp h1;rw[ag e1,<-e2];rfl
def Oo(k1:1<=p.k){tail:List Bytes}(h:dP C p hw tail how sets):tail≠ []:=by
 obtain⟨_,_,h⟩|⟨_,_,_,w,s,h,_⟩|⟨_,_,_,wa,wb,A,B,h,_⟩:=h
 .have iF:dI C p≠ []:=by
   unfold dI;intro z;split at z
   .rename_i hk;have:=qD (C:=C) hk;rw[z]at this;simp at this;omega
   .have:=b_ List.length z;unfold Pool.places at this;split at this
    .cases this
    .simp at this;omega
  match dI C p,iF,h with
  |[_],_,⟨w,s,e,_⟩=>rw[e];simp|_::_::_,_,⟨w,s,rest,r,e,_⟩=>rw[e];simp
 .rw[h];simp
 .rw[h];simp
def list1{l:List α}{n:Nat}(h:n+1<=l.length):∃a t,l=a::t/\n<=t.length:=by
 cases l with
 |nil=>cases h
 |cons a t=>exact⟨a,t,rfl,Nat.le_of_succ_le_succ h⟩
def abz{l:List α}(h:6<=l.length):∃a b c d e t,l=a::b::c::d::e::t/\t≠ []:=by
 obtain⟨a,l1,rfl,h1⟩:=list1 h;obtain⟨b,l2,rfl,h2⟩:=list1 h1;obtain⟨c,l3,rfl,h3⟩:=list1 h2;obtain⟨d,l4,rfl,h4⟩:=list1 h3;obtain⟨e,l5,rfl,h5⟩:=list1 h4;exact⟨a,b,c,d,e,l5,rfl,λz=>by rw[z]at h5;cases h5⟩
def RP(C:Card)(b:Bytes):Option (MP×Int×List (List Int)×Option (List Int))->Prop
 |none=>∀x,C.readBet b≠ .ok x
 |some (q,st,ss,o)=>∃x,C.readBet b=.ok x/\C.setsRight x=true/\C.pool x.pool∈C.pools/\q=mp (C.pool x.pool)/\st=(x.stake:Int)/\1<=x.stake/\ss=nB C (C.pool x.pool) x.sets/\(match o with
  |none=>(C.pool x.pool).kind=.legs/\262144<C.manyOf x|some nums=>nums=iN (eK C x)/\C.manyOf x<=262144)
def Vm(g:CG C)(hk:p.kind≠ .legs)(h4:p.k<=4):C.many p<=262144:=by
 have h1:∀n k:Nat,n<25->k<5->orders n k<=262144:=by
  have:∀n:Fin 25,∀k:Fin 5,orders n.val k.val<=262144:=by decide+kernel
  intro n k a b;exact this ⟨n,a⟩ ⟨k,b⟩
 have hl:=(uc g p).2.2;unfold Card.many;cases e:p.kind with
 |place=>dsimp only;omega|order=>exact h1 _ _ () ()
 |any=>
  exact aX (Nat.div_le_self _ _) (h1 _ _ () ())
 |legs=>exact absurd e hk
def uj{k m:Nat}:(k:Int)*(m:Int)<=2147483647↔k*m<=COST:=by
 rw[<-sI];unfold COST;generalize k*m=z;omega
def MB{t b:Bytes}(hC:readCard t=.ok C){r:Option (MP×Int×List (List Int)×Option (List Int))}(h:oZ (cw b) (C.races.map hI) (C.pools.map mp) r):RP C b r:=by
 have g:=Mr hC;have cn:=Vf hC;obtain⟨XB,_⟩:=Li hC;have hpb:=(C5 XB).1;have ZF:=HQ XB;have rb:=λx=> @J_ C cn b x;have no:(∀x,¬∃l,bW 10 [] b=[l,[]]/\qX C (bW 32 [] l) x)->r=none->RP C b r:=by
  rintro z rfl;intro x e;exact z x ((rb x).mp e)
 unfold oZ at h;by_cases hl:∃l,bW 10 [] b=[l,[]]
 case neg=>
  refine no (λx ⟨l,e,_⟩=>hl ⟨l,e⟩) ?_;split at h
  .rename_i ws e;obtain⟨l,e,_⟩:=Dh.mp e;exact absurd ⟨l,e⟩ hl
  .exact h
 obtain⟨l,zj⟩:=hl;rw[Dh.mpr ⟨l,zj,rfl⟩]at h;dsimp only at h;have ZH:(∀x,¬qX C (bW 32 [] l) x)->r=none->RP C b r:=λz=>no λx ⟨l',e,k⟩=>by
  rw[zj]at e;cases e;exact z x k
 generalize hW:bW 32 [] l=W at*;by_cases hw:∃n st hw tail,W=ascii "bet"::n::ascii "for"::st::hw::tail/\tail≠ []
 case neg=>
  refine ZH (λx k=>?_) ?_
  .obtain⟨n,st,J6,tail,e,hi,_,hb⟩:=k.ex;obtain⟨p,hp,_,e2⟩:=find_name hi;have k1:1<=((C.pool x.pool).k:Int):=(hpb (mp (C.pool x.pool)) (mem_map.mpr ⟨_,by rw[e2];exact bh hp,rfl⟩)).N_.k1;exact hw ⟨n,st,J6,tail,e,Oo () hb⟩
  .split at h
   .rename_i c;obtain⟨c1,c2,c3⟩:=c;rw[az]at c1;obtain⟨a0,a1,a2,a3,a4,t,e,ht⟩:=abz c1;rw[e]at c2 c3;exact absurd ⟨a1,a3,a4,t,by rw[e,(cw_bet a0).mp c2,(cw_for a2).mp c3],ht⟩ hw
   .exact h
 obtain⟨n,st,hw,tail,eW,htl⟩:=hw;have aeT:=length_pos_iff.mpr htl;rw[ag ⟨by rw[eW];simp;omega,by rw[eW];exact(cw_bet _).mpr rfl,by rw[eW];exact(cw_for _).mpr rfl⟩]at h;have g1:(cl W).getD 1 []=cw n:=by rw[eW];rfl
 have g3:(cl W).getD 3 []=cw st:=by rw[eW];rfl
 have g4:(cl W).getD 4 []=cw hw:=by rw[eW];rfl
 have gd:(cl W).drop 4=(hw::tail).map cw:=by rw[eW];rfl
 rw[g1,g3,g4,gd]at h;have ex':∀x,qX C W x->(C.pools.findIdx? λ(p:Pool)=>p.name==n)=some x.pool/\numberOf st=some x.stake/\dP C (C.pool x.pool) hw tail x.how x.sets:=λx k=>by
  obtain⟨n',BG,J6,tail',e,hi,hs,hb⟩:=k.ex;rw[eW]at e;injection e with _ e;injection e with e1 e;injection e with _ e;injection e with e2 e;injection e with e3 e4;rw[e1,e2,e3,e4];exact⟨hi,hs,hb⟩
 cases YX:(C.pools.findIdx? λ(p:Pool)=>p.name==n)with
 |none=>
  refine ZH (λx k=>by rw[YX]at ex';cases(ex' x k).1) ?_;have:(C.pools.map mp).filter (λq=>decide (q.name=cw n))=[]:=by
   rw[filter_eq_nil_iff];intro q hq e;obtain⟨p,hp,rfl⟩:=mem_map.mp hq;have e:=of_decide_eq_true e;have:=(RO (cn p hp)).mp e.symm;have hf:=findIdx?_eq_none_iff.mp YX p hp;rw[this]at hf;simp at hf
  rw[this]at h;exact h
 |some i=>
 obtain⟨p,hpi,vA,hpe⟩:=find_name YX;have Ik:=bh hpi;have pb:=hpb (mp p) (mem_map.mpr ⟨p,Ik,rfl⟩);have aeo:(C.pools.map mp).filter (λq=>decide (q.name=cw n))=[mp p]:=by
  rw[<-vA];exact Av ZF (mem_map.mpr ⟨p,Ik,rfl⟩)
 rw[aeo]at h;dsimp only at h;have exi:∀x,qX C W x->x.pool=i/\C.pool x.pool=p/\numberOf st=some x.stake/\dP C p hw tail x.how x.sets:=λx k=>by
  obtain⟨a,b,c⟩:=ex' x k;rw[YX]at a;have a:=Option.some.inj a;rw[<-a,hpe]at c;exact⟨a.symm,by rw[<-a];exact hpe,b,c⟩
 have u0:0<p.unit:=by
  have:=pb.u.1;have:0<(p.unit:Int):=this;omega
 have qe:= @Om st p.unit u0;have eu:(mp p).u=(p.unit:Int):=rfl;rw[eu]at h;cases es:oW (cw st) (p.unit:Int)with
 |none=>
  rw[es]at h;refine ZH (λx k=>?_) h;obtain⟨_,e2,e3,_⟩:=exi x k;have:=qe.mpr ⟨x.stake,e3,k.s1,k.s2,by rw[<-e2];exact k.s3,rfl⟩;rw[es]at this;cases this
 |some s=>
 rw[es]at h;obtain⟨k,k0,k1,k2,k3,rfl⟩:=qe.mp es;have hsi:= @RK C g p pb.N_ hw tail;cases ess:jY ((hw::tail).map cw) (mp p) (cY (C.races.map hI) (mp p))with
 |none=>
  rw[ess]at h;refine ZH (λx kk=>?_) h;have:=hsi.mpr ⟨x.how,x.sets,(exi x kk).2.2.2,rfl⟩;rw[ess]at this;cases this
 |some ss=>
 rw[ess]at h;dsimp only at h;obtain⟨how,sets,Ws,SQ⟩:=hsi.mp ess;have same:∀x,qX C W x->ss=nB C (C.pool x.pool) x.sets/\x.stake=k:=λx kk=>by
  obtain⟨_,e2,e3,e4⟩:=exi x kk;have:=hsi.mpr ⟨x.how,x.sets,e4,rfl⟩;rw[ess]at this;exact⟨by rw[e2];exact Option.some.inj this,by rw[k0]at e3;exact(Option.some.inj e3).symm⟩
 have mkx:∀x:Bet,x=⟨i,how,sets,k⟩->0<C.manyOf x->x.stake*C.manyOf x<=COST->qX C W x:=by
  rintro x rfl m1 m2;exact⟨⟨n,st,hw,tail,eW,YX,k0,by rw[hpe];exact Ws⟩,k1,k2,by rw[hpe];exact k3,m1,m2⟩
 obtain⟨x,hx⟩:∃x:Bet,x=⟨i,how,sets,k⟩:=⟨_,rfl⟩;have xp:C.pool x.pool=p:=by rw[hx];exact hpe
 have xs:x.stake=k:=by rw[hx]
 have xss:ss=nB C (C.pool x.pool) x.sets:=by rw[xp,hx];exact SQ
 have Wt:dP C (C.pool x.pool) hw tail x.how x.sets:=by rw[xp,hx];exact Ws
 have xr:=iz Wt;by_cases hk:p.kind=.legs
 .rw[ag (nA.mpr hk)]at h;have lg:∀y:Bet,C.pool y.pool=p->C.setsRight y=true->ss=nB C (C.pool y.pool) y.sets->jj ss=((C.manyOf y:Nat):Int):=λy e1 e2 e3=>by
   rw[e3];exact(MA g e2 (by rw[e1];exact pb.N_) (by rw[e1];exact hk)).2
  have lx:=lg x xp xr xss;by_cases hc:0<jj ss/\(k:Int)*jj ss<=2147483647
  .rw[ag hc,lx]at h;rw[lx]at hc;have bL:=mkx x hx () (by rw[xs];exact uj.mp hc.2);rw[h];refine⟨x,(rb x).mpr ⟨l,zj,hW▸bL⟩,xr,by rw[xp];exact Ik,by rw[xp],by rw[xs],by rw[xs];exact k1,xss,?_⟩;by_cases hm:((C.manyOf x:Nat):Int)<=262144
   .rw[ag hm];refine⟨?_,by omega⟩;have:=(MA g xr (by rw[xp];exact pb.N_) (by rw[xp];exact hk)).1;rw[<-this,xss,xp]
   .rw[af hm];exact⟨by rw[xp];exact hk,by omega⟩
  .rw[af hc]at h;refine ZH (λy ky=>hc ?_) h;obtain⟨s1,s2⟩:=same y ky;obtain⟨_,e2,_,e4⟩:=exi y ky;have ly:=lg y e2 (iz (by rw[e2];exact e4)) s1;rw[ly];have m1:=ky.m1;have m2:=ky.m2;rw[s2]at m2;exact⟨by omega,uj.mpr m2⟩
 .rw[af (λz=>hk (nA.mp z))]at h;obtain⟨nums,hn,hif⟩:=h;have eI:((cY (C.races.map hI) (mp p)).getD 0 []).length=(C.headsOf p.race).length:=by
   rw[Ap pb.N_];unfold Card.sets Pool.legs;rw[af hk];show(iN (C.headsOf (p.race+0))).length=_;unfold iN;rw[az,wQ]
  rw[eI]at hn;have nm:∀y:Bet,C.pool y.pool=p->dP C p hw tail y.how y.sets->ss=nB C (C.pool y.pool) y.sets->nums=iN (eK C y)/\nums.length=C.manyOf y:=λy e1 e2 e3=>by
   have e4:dP C (C.pool y.pool) hw tail y.how y.sets:=by rw[e1];exact e2
   have:=Vl g e4 (by rw[e1];exact hk) (by rw[<-e3,e1];exact hn);refine⟨this,?_⟩;rw[this,C8 g (iz e4)];unfold iN;rw[az]
  have nx:=nm x xp (by rw[<-xp];exact Wt) xss;by_cases hc:0<(nums.length:Int)/\(k:Int)*(nums.length:Int)<=2147483647
  .rw[ag hc]at hif;rw[nx.2]at hc;have bL:=mkx x hx () (by rw[xs];exact uj.mp hc.2);rw[hif];refine⟨x,(rb x).mpr ⟨l,zj,hW▸bL⟩,xr,by rw[xp];exact Ik,by rw[xp],by rw[xs],by rw[xs];exact k1,xss,nx.1,?_⟩;rw[C8 g xr];have h4:(p.k:Int)<=4:=pb.nl (λz=>hk (nA.mp z));have hm:C.many (C.pool x.pool)<=262144:=by rw[xp];exact Vm g hk ()
   refine aX ?_ hm;refine aX (ou _ _) ?_;rw[sE];exact aL _
  .rw[af hc]at hif;refine ZH (λy ky=>hc ?_) hif;obtain⟨s1,s2⟩:=same y ky;obtain⟨_,e2,_,e4⟩:=exi y ky;have ly:=(nm y e2 e4 s1).2;rw[ly];have m1:=ky.m1;have m2:=ky.m2;rw[s2]at m2;exact⟨by omega,uj.mpr m2⟩
def Vn{card bet:List Int}(hc:∀x∈card,0<=x/\x<=255)(hb:∀x∈bet,0<=x/\x<=255)(m0:∀x∈ms,0<=x)(m2:ms.length%2=0){r:Int×Int×Option (List (List Int)×MP×Int×List (List Int)×Option (List Int))}(h:Ae card bet ms r) g:
  (r.1<0/\(let a:=ofBetMoney (PoolNeutral.text card) (PoolNeutral.text bet) (PoolNeutral.pairs ms) g;a.code::a.nums)=[r.1])\/
  (∃(C:Card) (x:Bet) (st:Int) (ss:List (List Int)) (o:Option (List Int)),CG C/\C.setsRight x=true/\Nu (C.races.map hI) (mp (C.pool x.pool))/\r=(0,((C.many (C.pool x.pool):Nat):Int),some (C.races.map hI,mp (C.pool x.pool),st,ss,o))/\st=(x.stake:Int)/\1<=x.stake/\ss=nB C (C.pool x.pool) x.sets/\fg ms ((C.many (C.pool x.pool):Nat):Int)=true/\
   (match o with
   |none=>(C.pool x.pool).kind=.legs/\262144<C.manyOf x
   |some nums=>nums=iN (eK C x)/\C.manyOf x<=262144)/\(let a:=ofBetMoney (PoolNeutral.text card) (PoolNeutral.text bet) (PoolNeutral.pairs ms) g;a.code::a.nums)=(let a:=g C x;a.code::a.nums)):=by
 have el:∀l:List Int,(PoolNeutral.text l).length=l.length:=λl=>by unfold PoolNeutral.text PoolNeutral.nats;rw[az,az]
 have ect:ck bet=cw (PoolNeutral.text bet):=zb hb;unfold Ae at h;unfold ofBetMoney ofCard TEXT LOOKED;rw[el,el];by_cases h1:4096<bet.length
 .rw[ag (.inr h1)]at h;rw[ag h1,h];exact .inl ⟨by decide,rfl⟩
 by_cases h2:65536<card.length
 .rw[ag (.inl h2)]at h;rw[af h1,ag h2,h];exact .inl ⟨by decide,rfl⟩
 rw[af (),zb hc]at h;rw[af h1,af h2];cases hr:readCard (PoolNeutral.text card)with
 |error e=>
  cases hq:d6 (cw (PoolNeutral.text card))with
  |none=>
   rw[hq]at h;rw[h];exact .inl ⟨by show(-8:Int)<0;decide,rfl⟩
  |some c=>
   obtain⟨C,z,_⟩:=Qg hq;rw[hr]at z;cases z
 |ok C=>
  obtain⟨hq,_⟩:=Li hr;rw[hq,ect]at h;dsimp only at h⊢;obtain⟨hB,e⟩|⟨q,hB,e⟩:=h
  .have:=MB hr hB;rw[e];refine .inl ⟨by show(-6:Int)<0;decide,?_⟩;cases hx:C.readBet (PoolNeutral.text bet)with
   |error _=>rfl|ok x=>exact absurd hx (this x)
  .obtain⟨q,st,ss,o⟩:=q;obtain⟨x,hx,hs,hp,rfl,e1,e2,e3,e4⟩:=MB hr hB;have pin:=Qh hq (mp (C.pool x.pool)) (mem_map.mpr ⟨_,hp,rfl⟩);rw[hx];dsimp only at e⊢;rw[count_eq pin]at e;rw[<-GI m0 m2];by_cases hz:fg ms ((C.many (C.pool x.pool):Nat):Int)=true
   .rw[ag hz]at e;rw[ag hz];exact .inr ⟨C,x,st,ss,o,Mr hr,hs,pin,e,e1,e2,e3,hz,e4,rfl⟩
   .rw[af hz]at e;rw[af hz,e];exact .inl ⟨by show(-3:Int)<0;decide,rfl⟩
def Oq nums st:bp (o5 nums st)=nums:=by
 unfold bp o5;rw[bQ];exact map_id' _
theorem Di st (k:Nat):∀nums:List Nat,aY (o5 (iN nums) st) (k:Int)=if k∈nums then some st else none
 |[]=>rfl
 |a::l=>by
  show aY (((a:Int),st)::o5 (iN l) st) (k:Int)=_;rw[cH,Di st k l];by_cases e:a=k
  .rw[ag (by rw[e]),ag (by simp[e])]
  .rw[af ()];by_cases c:k∈l
   .rw[ag c,ag (by simp[c])]
   .rw[af c,af (by simp[c];omega)]
def Aw{l:List Nat}(h:l.Nodup):(iN l).Nodup:=by
 unfold iN;rw[wG,mJ];exact(nodup_iff_pairwise_ne.mp h).imp λh z=>h ()
theorem MC{st:Int}:∀{ns:List Int}{g g':tS},ns.Nodup->iV st g ns=some g'->∀n∈ns,st<=(aY g n).getD 0
 |[],_,_,_,_,_,h=>by simp at h
 |a::ns,g,g',nd,h,n,hn=>by
  obtain⟨h1,h2⟩:=nodup_cons.mp nd;unfold iV at h;split at h
  .cases h
  .rename_i c;obtain z|z:=mem_cons.mp hn
   .rw[z];omega
   .have k:=MC h2 h n z;rw[uM,af (show¬n=a from λq=>h1 (by rw[<-q];exact z))]at k;exact k
theorem MD{st:Int}:∀{ns:List Int}{g:tS},ns.Nodup->iV st g ns=none->∃n,n∈ns/\(aY g n).getD 0<st
 |[],_,_,h=>nomatch h
 |a::ns,g,nd,h=>by
  obtain⟨h1,h2⟩:=nodup_cons.mp nd;unfold iV at h;split at h
  .exact⟨a,by simp,by omega⟩
  .obtain⟨n,hn,k⟩:=MD h2 h;rw[uM,af (show¬n=a from λq=>h1 (by rw[<-q];exact hn))]at k;exact⟨n,by simp[hn],k⟩
def Vo{nums:List Nat}{st n:Nat}(up:Up nums)(s1:1<=st)(m0:∀x∈ms,0<=x)(m2:ms.length%2=0)(hm:fg ms (n:Int)=true)(ht:iV (st:Int) (bj ms) (iN nums)=none):Money.less (PoolNeutral.pairs ms) (nums.map λn=>(n,st))=none:=by
 obtain⟨n',hn,hl⟩:=MD (Aw up.nodup) ht;unfold iN at hn;obtain⟨k,hk,rfl⟩:=mem_map.mp hn;have hj:=Mt (Dd m0 m2 hm) (Mu up s1);cases h:Money.less (PoolNeutral.pairs ms) (nums.map λn=>(n,st))with
 |none=>rfl
 |some r=>
  rw[h]at hj;have:=hj.2.1 k;rw[Ka,ag hk]at this;have hl:(aY (bj ms) (k:Int)).getD 0<(st:Int):=hl;rw[<-EZ m0]at hl;omega
def RQ{out:List Int}{nums:List Nat}{st n:Nat}{g:tS}(up:Up nums)(s1:1<=st)(m0:∀x∈ms,0<=x)(m2:ms.length%2=0)(hm:fg ms (n:Int)=true)(ht:iV (st:Int) (bj ms) (iN nums)=some g)(h:zJ g out):Money.less (PoolNeutral.pairs ms) (nums.map λn=>(n,st))=some (PoolNeutral.pairs out)/\∀x∈out,0<=x:=by
 have bL:=MC (Aw up.nodup) ht;have hg:=uW ht;subst hg;have nd:=CJ (o5 (iN nums) (-(st:Int))) (bj ms) (vM hm);have hk:=G8 (P:=λx=>0<=x) (o5 (iN nums) (-(st:Int))) (bj ms) (HF m0) (λp hp=>by
  unfold o5 iN at hp;rw[bQ]at hp;obtain⟨a,_,rfl⟩:=mem_map.mp hp;exact Int.natCast_nonneg a)
 obtain⟨h1,h2,h3⟩:=Vg h nd hk;have hj:=Mt (Dd m0 m2 hm) (Mu up s1);have hle:∀k,Money.on (nums.map λn=>(n,st)) k<=Money.on (PoolNeutral.pairs ms) k:=λk=>by
  rw[Ka];by_cases c:k∈nums
  .rw[ag c];have h4:=bL k (by unfold iN;exact mem_map.mpr ⟨k,c,rfl⟩);rw[<-EZ m0]at h4;omega
  .rw[af c];exact cj _
 cases hl:Money.less (PoolNeutral.pairs ms) (nums.map λn=>(n,st))with
 |none=>
  rw[hl]at hj;obtain⟨k,hk⟩:=hj;have:=hle k;omega
 |some r=>
  rw[hl]at hj;refine⟨b_ some (C_ hj.1 h1 λk=>?_),h2⟩;have e:=h3 k;have l:=hle k;rw[hj.2.2];rw[Ka]at l⊢;rw[G9 (k:Int) _ _ (by rw[Oq];exact Aw up.nodup),<-EZ m0,Di]at e;split at e
  .rename_i c;rw[ag c]at l⊢;have e:((Money.on (PoolNeutral.pairs out) k:Nat):Int)=max 0 (((Money.on (PoolNeutral.pairs ms) k:Nat):Int)+ -(st:Int)):=e;omega
  .rename_i c;rw[af c];have e:((Money.on (PoolNeutral.pairs out) k:Nat):Int)=max 0 (((Money.on (PoolNeutral.pairs ms) k:Nat):Int)+0):=e;omega
def Vp{card bet ans:List Int}(hc:∀x∈card,0<=x/\x<=255)(hb:∀x∈bet,0<=x/\x<=255)(m0:∀x∈ms,0<=x)(m2:ms.length%2=0)(h:Mj card bet ms ans):PyWqaqcm.back card bet ms=ans:=by
 have e:PyWqaqcm.back card bet ms=(let a:=ofBetMoney (PoolNeutral.text card) (PoolNeutral.text bet) (PoolNeutral.pairs ms) (λC x=>match C.back x (PoolNeutral.pairs ms)with
  |none=>says (-5)|some z=>hands z);a.code::a.nums):=rfl
 rw[e];obtain⟨r,hA,Br⟩:=h;rcases Vn hc hb m0 m2 hA (λC x=>match C.back x (PoolNeutral.pairs ms)with
  |none=>says (-5)|some z=>hands z)with⟨hn,e⟩|⟨C,x,st,ss,o,g,hs,pin,rfl,rfl,s1,_,hm,ho,e⟩
 .rw[ag hn]at Br;rw[e,Br]
 .rw[e];rw[af (show¬(0:Int)<0 by decide)]at Br;dsimp only at Br⊢;unfold Card.back ENTRIES;cases o with
  |none=>
   rw[ag ho.2];exact Br.symm
  |some nums=>
   obtain⟨rfl,hle⟩:=ho;dsimp only at Br;rw[af (),EX g hs];cases ht:iV (x.stake:Int) (bj ms) (iN (eK C x))with
   |none=>
    rw[ht]at Br;rw[Vo Al s1 m0 m2 hm ht];exact Br.symm
   |some gg=>
    rw[ht]at Br;obtain⟨out,zF,rfl⟩:=Br;obtain⟨p1,p2⟩:=RQ Al s1 m0 m2 hm ht zF;rw[p1];show(0:Int)::(moneyNums (PoolNeutral.pairs out)).map (λ(n:Nat)=>(n:Int))=0::out;rw[n9 (JA zF) p2]
end Pd
end
section
namespace L2
open PySem PySem.Spec PyProof.Rows
inductive Ent(w:World):List DictEntry->List (Key×V)->Prop
 |nil:Ent w [] []
 |cons {e:DictEntry} {es:List DictEntry} {k:Key} {v:V} {kvs:List (Key×V)} :gY k e.key=true->e.hash=n_ w k->RelV v e.val->Ent w es kvs->Ent w (e::es) ((k,v)::kvs)
theorem Ent.pairs{P:Program}{w:World}:∀{es:List DictEntry}{kvs:List (Key×V)},Ent w es kvs->∃vs:List (Key×Value),KV kvs vs/\Pairs (bM P w) es vs/\vs.map (·.1)=kvs.map (·.1)/\es.length=kvs.length/\∀e∈es,∃k,gY k e.key=true/\e.hash=n_ w k
 |_,_,.nil=>⟨[],.nil,.nil,rfl,rfl,by simp⟩
 |_,_,.cons (e:=e) (k:=k) (v:=v) a b c r=>by
  obtain⟨vs,h1,h2,h3,h4,h5⟩:=Ent.pairs (P:=P) r;refine⟨(k,e.val)::vs,.cons ⟨rfl,c⟩ h1,.cons a rfl h2,by rw[aJ,aJ,h3],by rw[aZ,aZ,h4],λx hx=>?_⟩;obtain z|z:=mem_cons.mp hx
  .subst z;exact⟨k,a,b⟩
  .exact h5 x z
def RR{es:Array DictEntry}(l:K.lookup d=some {cls:=.type "dict",data:=.dict es ep})(hd:(d==sysModules)=false)(h:Ent w es.toList kvs)(nd:(kvs.map (·.1)).Nodup):KD P w K d kvs:=by
 obtain⟨vs,h1,h2,h3,h4,h5⟩:=h.pairs (P:=P);refine⟨_,es,ep,vs,l,hd,⟨rfl,rfl,rfl⟩,rfl,by rw[<-h4,cM],h1,λe he=>h5 e ‹he›,h2,by rw[h3];exact nd⟩
def ME x t:gY (Sum.inr x) (.str x t)=true:=by simp[gY,Value.isStrOf]
def pq x t:gY (Sum.inl x) (.int x t)=true:=by simp[gY,Value.isInt]
def Vq{a b:Int}{t u:Tok}{e:Nat}(l:K.lookup p=some {cls:=.type "tuple",data:=.seq #[.int a t,.int b u] e}):jP K H p [.int a,.int b]:=
 .inr ⟨_,_,_,l,rfl,rfl,by rw[cE];show 2<=16777216;decide,.cons ⟨_,rfl⟩ (.cons ⟨_,rfl⟩ .nil)⟩
noncomputable def DH(K:PySem.W.Frag)(x:Str)(st:Stmt):Prop:=∃f fd,PySem.W.nsIn K mainGlobals x=some (some (.ref f))/\K9 K x x st f fd
def dh{kV doc cf:Value}(a:PySem.W.nsIn K mainGlobals x=some (some (.ref f)))(l:K.lookup f=some ⟨oc,od,.func (PySem.W.fnOf x x (fQ st) (cq st) (ao st) .none kV doc pm an cf ct),IC⟩)(c:PySem.W.codeIn K cf x=true)(k:PySem.W.keepIn K (.ref f)=true):DH K x st:=⟨_,_,a,IV l c k⟩
theorem DH.d(D:DH K x st)(X:K.In h)(G:h.Ns mainGlobals mg)(hb:∀kV doc pm an cf ct us,us.length=ps.length->bindArgs (PySem.W.fnOf x x (fQ st) (cq st) (ao st) .none kV doc pm an cf ct) ⟨us,[]⟩=pure (ps.zip us)):Def K mg x st ps:=by
 obtain⟨f,fd,a,F⟩:=D;exact⟨_,_,bP X G a,F,F.binds hb⟩
end L2
namespace Pd
open PySem PySem.Spec PyProof.Rows L2 TL
def RT:([Sum.inr (Str.ofString "place"),Sum.inr (Str.ofString "order"),Sum.inr (Str.ofString "any"),Sum.inr (Str.ofString "legs")]:List Key).Nodup:=by decide+kernel
def RU:([Sum.inl 0,Sum.inl 4,Sum.inl 6,Sum.inl 8,Sum.inl 10,Sum.inl 12,Sum.inl 14]:List Key).Nodup:=by decide+kernel
def RV:([Sum.inl 32,Sum.inl 10,Sum.inl 44,Sum.inl 47]:List Key).Nodup:=by decide+kernel
def abA:Str.ofString " "=S [32]:=by decide+kernel
def abB:Str.ofString "\n"=S [10]:=by decide+kernel
def abC:Str.ofString ","=S [44]:=by decide+kernel
def abD:Str.ofString "/"=S [47]:=by decide+kernel
def abE:Str.ofString "any"=S jt:=by decide+kernel
def YY:Str.ofString "pool"=S yR:=by decide+kernel
def YZ:Str.ofString "from"=S yS:=by decide+kernel
def Y0:Str.ofString "take"=S yT:=by decide+kernel
def Vr:Str.ofString "break"=S rB:=by decide+kernel
def Vs:Str.ofString "least"=S rC:=by decide+kernel
def Y1:Str.ofString "unit"=S yU:=by decide+kernel
def Y2:Str.ofString "none"=S yV:=by decide+kernel
def RW:Str.ofString "refund"=S ju:=by decide+kernel
def Vt:Str.ofString "carry"=S mU:=by decide+kernel
def Vu:Str.ofString "fewer"=S gA:=by decide+kernel
def Vv(h:PoolNeutral.asked [[5],card,bet,money]=true):money.length%2=0:=by
 unfold PoolNeutral.asked at h;simp only[Bool.and_eq_true]at h;have h2:=h.2.2.1;simp[PoolNeutral.pairRows,PoolNeutral.nats]at h2;omega
def all_mk(X:K.In h)(G:h.Ns mainGlobals mg)(hfa:mg "back"=some (.ref fa))(rY:DH K "is_right" Eg)(j8:DH K "sum_of_cents" Eh)(pA:DH K "by_number" EL)(rZ:DH K "in_pairs" ua)(jc:DH K "without_stake" iK)(fz:DH K "count_combinations" Ef)(jd:DH K "count_choices" Ed)(nE:DH K "count_rows" Ec)(nF:DH K "count_sets" Ee)(lB:DH K "leg_numbers" Hu)(je:DH K "numbered_rows" z3)(nH:DH K "set_number" Ma)(vd:DH K "sign_of" Lk)(ve:DH K "text_of" GN)(r9:DH K "lines_of" zi)(vf:DH K "is_name" GO)(pB:DH K "number_of" xO)(vg:DH K "require" t5)(sf:DH K "read_bet" Md)(j9:DH K "check_staked" x3)(lC:DH K "pool_called" t6)(nI:DH K "read_stake" EE)(pC:DH K "read_sets" L8)(vh:DH K "read_on" Zw)(sh:DH K "read_box" UT)(si:DH K "read_key" Rc)(sj:DH K "read_set" JR)(gT:DH K "numbers_of_race" z9)(j_:DH K "rows_of_form" Hv)(vi:DH K "has_all" t8)(Ax:DH K "demand" xQ)(jf:DH K "number_within" xR)(pD:DH K "read_card" vK)(pE:DH K "check_day" Us)(lD:DH K "count_races" D_)(pF:DH K "read_race" zk)(pG:DH K "read_pool" CA)(gU:DH K "read_pool_races" qv)(fA:DH K "check_names_differ" xT)(Kg:DH K "back" C6)(vj:DH K "ask_bet" Mi)(gE:PySem.W.nsIn K mainGlobals "MOST_PAIRS"=some (some (.int 262144 Vw)))(gF:PySem.W.nsIn K mainGlobals "MOST_CENTS"=some (some (.int 281474976710655 Vx)))(ik:PySem.W.nsIn K mainGlobals "LETTERS"=some (some (.str "abcdefghijklmnopqrstuvwxyz" ZI)))(md:PySem.W.nsIn K mainGlobals "DIGITS"=some (some (.str "0123456789" abF)))(me:PySem.W.nsIn K mainGlobals "STRANGE"=some (some (.str "?" ZJ)))(dq:PySem.W.nsIn K mainGlobals "MOST_NAME_BYTES"=some (some (.int 12 MF)))(fJ:PySem.W.nsIn K mainGlobals "MOST_DIGITS"=some (some (.int 7 SU)))(gG:PySem.W.nsIn K mainGlobals "MOST_STAKE"=some (some (.int 1000000 Vy)))(fK:PySem.W.nsIn K mainGlobals "MOST_STAKED"=some (some (.int 2147483647 SV)))(d7:PySem.W.nsIn K mainGlobals "MOST_NUMBERED"=some (some (.int 262144 OO)))(fL:PySem.W.nsIn K mainGlobals "LEAST_WORDS"=some (some (.int 6 SW)))(gH:PySem.W.nsIn K mainGlobals "MOST_RACES"=some (some (.int 16 Vz)))(gI:PySem.W.nsIn K mainGlobals "MOST_POOLS"=some (some (.int 64 VA)))(d8:PySem.W.nsIn K mainGlobals "LEAST_RUNNERS"=some (some (.int 2 OQ)))(fh:PySem.W.nsIn K mainGlobals "MOST_RUNNERS"=some (some (.int 24 RX)))(fi:PySem.W.nsIn K mainGlobals "MOST_COUPLES"=some (some (.int 8 RY)))(iR:PySem.W.nsIn K mainGlobals "MOST_TAKE"=some (some (.int 400 Wu)))(gJ:PySem.W.nsIn K mainGlobals "MOST_BREAK"=some (some (.int 1000 VB)))(iS:PySem.W.nsIn K mainGlobals "MOST_UNIT"=some (some (.int 10000 Wv)))(fM:PySem.W.nsIn K mainGlobals "POOL_LENGTH"=some (some (.int 16 SX)))(dr:PySem.W.nsIn K mainGlobals "MOST_CARD_BYTES"=some (some (.int 65536 MG)))(dN:PySem.W.nsIn K mainGlobals "MOST_BET_BYTES"=some (some (.int 4096 Ot)))(tK:PySem.W.nsIn K mainGlobals "all"=some none)(zg:PySem.W.nsIn K mainGlobals "dict"=some none)(f9:PySem.W.nsIn K mainGlobals "enumerate"=some none)(GK:PySem.W.nsIn K mainGlobals "int"=some none)(cv:PySem.W.nsIn K mainGlobals "len"=some none)(qS:PySem.W.nsIn K mainGlobals "ord"=some none)(iH:PySem.W.nsIn K mainGlobals "range"=some none)(Cy:PySem.W.nsIn K mainGlobals "set"=some none)(iT:PySem.W.nsIn K mainGlobals "sorted"=some none)(GL:PySem.W.nsIn K mainGlobals "sum"=some none)(tL:PySem.W.nsIn K mainGlobals "tuple"=some none)(zh:PySem.W.nsIn K mainGlobals "zip"=some none)(E5:PySem.W.nsIn K mainGlobals "NoBet"=some (some (.ref RZ)))(E6:PySem.W.excIn K RZ [.type "ValueError",.type "Exception",.type "BaseException",.type "object"] "ValueError.__new__"=true)(R1:PySem.W.nsIn K mainGlobals "Bet"=some (some (.ref uk)))(R3:PySem.W.findIn K (.ref uk) "__init__"=some (some (.ref R4)))(R5:K.lookup R4=some ⟨aep,aer,.func (PySem.W.fnOf "__init__" "Bet.__init__" (fQ mn) (cq mn) (ao mn) .none aes aeu aev aew Y3 aex),aey⟩)(R6:PySem.W.codeIn K Y3 "Bet.__init__"=true)(R7:PySem.W.keepIn K (.ref R4)=true)(R8:PySem.W.isFn K (.ref R4)=true)(R9:PySem.W.plainGet K uk Str.empty=true)(R_:PySem.W.hasDictIn K uk=true)(Sb:PySem.W.plainOver K uk=true)(Sd:PySem.W.findIn K (.ref uk) "__setattr__"=some (some (.builtin "object.__setattr__")))(Se:PySem.W.makesIn K uk=true)(Sf:PySem.W.keepIn K (.ref uk)=true)(qG:PySem.W.findIn K (.ref uk) "pool"=some none)(nJ:PySem.W.findIn K (.ref uk) "stake"=some none)(qH:PySem.W.findIn K (.ref uk) "sets"=some none)(jy:PySem.W.findIn K (.ref uk) "numbers"=some none)(Ay:PySem.W.nsIn K mainGlobals "NoCard"=some (some (.ref MH)))(Az:PySem.W.excIn K MH [.type "ValueError",.type "Exception",.type "BaseException",.type "object"] "ValueError.__new__"=true)(Kh:PySem.W.nsIn K mainGlobals "Pool"=some (some (.ref kb)))(Ki:PySem.W.findIn K (.ref kb) "__init__"=some (some (.ref Kj)))(Kk:K.lookup Kj=some ⟨aci,acj,.func (PySem.W.fnOf "__init__" "Pool.__init__" (fQ jA) (cq jA) (ao jA) .none acn aco acp acq VC acr),acs⟩)(Kl:PySem.W.codeIn K VC "Pool.__init__"=true)(Km:PySem.W.keepIn K (.ref Kj)=true)(Kn:PySem.W.isFn K (.ref Kj)=true)(Ko:PySem.W.plainGet K kb Str.empty=true)(Kp:PySem.W.hasDictIn K kb=true)(Kq:PySem.W.plainOver K kb=true)(Kr:PySem.W.findIn K (.ref kb) "__setattr__"=some (some (.builtin "object.__setattr__")))(Ks:PySem.W.makesIn K kb=true)(Kt:PySem.W.keepIn K (.ref kb)=true)(kc:PySem.W.findIn K (.ref kb) "name"=some none)(ke:PySem.W.findIn K (.ref kb) "kind"=some none)(um:PySem.W.findIn K (.ref kb) "k"=some none)(iW:PySem.W.findIn K (.ref kb) "races"=some none)(nM:PySem.W.findIn K (.ref kb) "unit"=some none)(E7:PySem.W.nsIn K mainGlobals "Asked"=some (some (.ref jg)))(E8:PySem.W.findIn K (.ref jg) "__init__"=some (some (.ref yb)))(E9:K.lookup yb=some ⟨abG,abH,.func (PySem.W.fnOf "__init__" "Asked.__init__" (fQ dZ) (cq dZ) (ao dZ) (.ref MI) abI abJ abK abL Sg abM),abN⟩)(E_:PySem.W.codeIn K Sg "Asked.__init__"=true)(Fb:PySem.W.keepIn K (.ref yb)=true)(Fc:K.lookup MI=some {cls:=.type "tuple",data:=.seq #[.int 0 acu,.none] acv})(Fd:PySem.W.isFn K (.ref yb)=true)(Fe:PySem.W.plainGet K jg Str.empty=true)(Ff:PySem.W.hasDictIn K jg=true)(Fg:PySem.W.plainOver K jg=true)(Fh:PySem.W.findIn K (.ref jg) "__setattr__"=some (some (.builtin "object.__setattr__")))(Fi:PySem.W.makesIn K jg=true)(Fj:PySem.W.keepIn K (.ref jg)=true)(gV:PySem.W.findIn K (.ref jg) "refusal"=some none)(dJ:PySem.W.findIn K (.ref jg) "combinations"=some none)(nN:PySem.W.findIn K (.ref jg) "bet"=some none)(Fl:PySem.W.nsIn K mainGlobals "MARKS"=some (some (.ref yc)))(Fm:K.lookup yc=some {cls:=.type "dict",data:=.dict #[⟨Sh,.int 32 abO,.str " " abP⟩,⟨Si,.int 10 abQ,.str "\n" abR⟩,⟨Sj,.int 44 abS,.str "," abT⟩,⟨Sl,.int 47 abU,.str "/" abV⟩] acw})(Fn:(yc==sysModules)=false)(AA:Sh=n_ w (Sum.inl 32))(AB:Si=n_ w (Sum.inl 10))(AF:Sj=n_ w (Sum.inl 44))(AG:Sl=n_ w (Sum.inl 47))(Fo:PySem.W.nsIn K mainGlobals "KINDS"=some (some (.ref Fp)))(Fq:K.lookup Fp=some {cls:=.type "dict",data:=.dict #[⟨Sn,.str "place" abW,.ref HR⟩,⟨Sq,.str "order" abX,.ref HS⟩,⟨Sr,.str "any" abY,.ref HU⟩,⟨Ss,.str "legs" abZ,.ref HV⟩] acy})(Fs:(Fp==sysModules)=false)(AH:Sn=n_ w (Sum.inr (Str.ofString "place")))(AI:K.lookup HR=some {cls:=.type "tuple",data:=.seq #[.int 1 ab0,.int 4 ab1] ab2})(AJ:Sq=n_ w (Sum.inr (Str.ofString "order")))(AK:K.lookup HS=some {cls:=.type "tuple",data:=.seq #[.int 2 ab3,.int 4 ab4] ab5})(AO:Sr=n_ w (Sum.inr (Str.ofString "any")))(AQ:K.lookup HU=some {cls:=.type "tuple",data:=.seq #[.int 2 ab6,.int 3 ab7] ab8})(AU:Ss=n_ w (Sum.inr (Str.ofString "legs")))(AV:K.lookup HV=some {cls:=.type "tuple",data:=.seq #[.int 2 ab9,.int 6 ab_] acd})(Ft:PySem.W.nsIn K mainGlobals "NONES"=some (some (.ref MJ)))(Fu:K.lookup MJ=some {cls:=.type "tuple",data:=.seq #[.str "refund" ace,.str "carry" acf,.str "fewer" acg] acz})(nO:PySem.W.nsIn K mainGlobals "POOL_WORDS"=some (some (.ref nP)))(nQ:K.lookup nP=some {cls:=.type "dict",data:=.dict #[⟨Bs,.int 0 SY,.str "pool" S0⟩,⟨Bt,.int 4 S2,.str "from" S3⟩,⟨Bu,.int 6 S4,.str "take" S5⟩,⟨Bv,.int 8 S7,.str "break" S8⟩,⟨Bw,.int 10 S9,.str "least" S_⟩,⟨Bx,.int 12 Ta,.str "unit" Tc⟩,⟨By,.int 14 Td,.str "none" Te⟩] VD})(nS:(nP==sysModules)=false)(lE:Bs=n_ w (Sum.inl 0))(lF:Bt=n_ w (Sum.inl 4))(lH:Bu=n_ w (Sum.inl 6))(lI:Bv=n_ w (Sum.inl 8))(lJ:Bw=n_ w (Sum.inl 10))(lK:Bx=n_ w (Sum.inl 12))(lL:By=n_ w (Sum.inl 14)):
  ∃fd:FuncData,(∀s us,us.length=(["card","bet","money"]:List Str).length->BindsTo s fd ⟨us,[]⟩ ((["card","bet","money"]:List Str).zip us))/\∀base:Heap,K.In base->base.Ns mainGlobals mg->oa P w K mg base eY 7 fa fd ["card","bet","money"] (J0 K):=by
 obtain⟨f0,fd0,a0,Sv⟩:=Kg;have e:=hfa.symm.trans (bP X G a0);cases e;obtain⟨oc,od,kV,doc,pm,an,cf,ct,IC,rfl,lk,vm⟩:=Sv.ex;have Ku:Def K mg "is_right" Eg ["money","combinations"]:=rY.d X G λ_ _ _ _ _ _ us hl=>by obtain⟨_,_,rfl⟩:=mW hl;rfl
 have AW:Def K mg "sum_of_cents" Eh ["money"]:=j8.d X G λ_ _ _ _ _ _ us hl=>by obtain⟨_,rfl⟩:=oj hl;rfl
 have HW:Def K mg "by_number" EL ["money"]:=pA.d X G λ_ _ _ _ _ _ us hl=>by obtain⟨_,rfl⟩:=oj hl;rfl
 have Kv:Def K mg "in_pairs" ua ["cents"]:=rZ.d X G λ_ _ _ _ _ _ us hl=>by obtain⟨_,rfl⟩:=oj hl;rfl
 have wy:Def K mg "without_stake" iK ["money","numbers","stake"]:=jc.d X G λ_ _ _ _ _ _ us hl=>by obtain⟨_,_,_,rfl⟩:=Jj hl;rfl
 have pH:Def K mg "count_combinations" Ef ["pool"]:=fz.d X G λ_ _ _ _ _ _ us hl=>by obtain⟨_,rfl⟩:=oj hl;rfl
 have wA:Def K mg "count_choices" Ed ["lists"]:=jd.d X G λ_ _ _ _ _ _ us hl=>by obtain⟨_,rfl⟩:=oj hl;rfl
 have Fv:Def K mg "count_rows" Ec ["interests","k"]:=nE.d X G λ_ _ _ _ _ _ us hl=>by obtain⟨_,_,rfl⟩:=mW hl;rfl
 have Fw:Def K mg "count_sets" Ee ["interests","k"]:=nF.d X G λ_ _ _ _ _ _ us hl=>by obtain⟨_,_,rfl⟩:=mW hl;rfl
 have Bz:Def K mg "leg_numbers" Hu ["sets","races"]:=lB.d X G λ_ _ _ _ _ _ us hl=>by obtain⟨_,_,rfl⟩:=mW hl;rfl
 have wB:Def K mg "numbered_rows" z3 ["sets","interests"]:=je.d X G λ_ _ _ _ _ _ us hl=>by obtain⟨_,_,rfl⟩:=mW hl;rfl
 have Fx:Def K mg "set_number" Ma ["row","interests"]:=nH.d X G λ_ _ _ _ _ _ us hl=>by obtain⟨_,_,rfl⟩:=mW hl;rfl
 have Ou:Def K mg "sign_of" Lk ["byte"]:=vd.d X G λ_ _ _ _ _ _ us hl=>by obtain⟨_,rfl⟩:=oj hl;rfl
 have Ov:Def K mg "text_of" GN ["codes"]:=ve.d X G λ_ _ _ _ _ _ us hl=>by obtain⟨_,rfl⟩:=oj hl;rfl
 have Kw:Def K mg "lines_of" zi ["text"]:=r9.d X G λ_ _ _ _ _ _ us hl=>by obtain⟨_,rfl⟩:=oj hl;rfl
 have Ow:Def K mg "is_name" GO ["word"]:=vf.d X G λ_ _ _ _ _ _ us hl=>by obtain⟨_,rfl⟩:=oj hl;rfl
 have HX:Def K mg "number_of" xO ["word"]:=pB.d X G λ_ _ _ _ _ _ us hl=>by obtain⟨_,rfl⟩:=oj hl;rfl
 have Ox:Def K mg "require" t5 ["holds"]:=vg.d X G λ_ _ _ _ _ _ us hl=>by obtain⟨_,rfl⟩:=oj hl;rfl
 have Kx:Def K mg "read_bet" Md ["codes","pools"]:=sf.d X G λ_ _ _ _ _ _ us hl=>by obtain⟨_,_,rfl⟩:=mW hl;rfl
 have AX:Def K mg "check_staked" x3 ["stake","combinations"]:=j9.d X G λ_ _ _ _ _ _ us hl=>by obtain⟨_,_,rfl⟩:=mW hl;rfl
 have BA:Def K mg "pool_called" t6 ["name","pools"]:=lC.d X G λ_ _ _ _ _ _ us hl=>by obtain⟨_,_,rfl⟩:=mW hl;rfl
 have Fy:Def K mg "read_stake" EE ["word","unit"]:=nI.d X G λ_ _ _ _ _ _ us hl=>by obtain⟨_,_,rfl⟩:=mW hl;rfl
 have HY:Def K mg "read_sets" L8 ["words","pool"]:=pC.d X G λ_ _ _ _ _ _ us hl=>by obtain⟨_,_,rfl⟩:=mW hl;rfl
 have Oy:Def K mg "read_on" Zw ["words","pool"]:=vh.d X G λ_ _ _ _ _ _ us hl=>by obtain⟨_,_,rfl⟩:=mW hl;rfl
 have Ky:Def K mg "read_box" UT ["words","pool"]:=sh.d X G λ_ _ _ _ _ _ us hl=>by obtain⟨_,_,rfl⟩:=mW hl;rfl
 have Kz:Def K mg "read_key" Rc ["words","pool"]:=si.d X G λ_ _ _ _ _ _ us hl=>by obtain⟨_,_,rfl⟩:=mW hl;rfl
 have KA:Def K mg "read_set" JR ["word","interests"]:=sj.d X G λ_ _ _ _ _ _ us hl=>by obtain⟨_,_,rfl⟩:=mW hl;rfl
 have uo:Def K mg "numbers_of_race" z9 ["form","sets","pool"]:=gT.d X G λ_ _ _ _ _ _ us hl=>by obtain⟨_,_,_,rfl⟩:=Jj hl;rfl
 have AY:Def K mg "rows_of_form" Hv ["form","sets","k","interests"]:=j_.d X G λ_ _ _ _ _ _ us hl=>by obtain⟨_,_,_,_,rfl⟩:=Ui hl;rfl
 have Oz:Def K mg "has_all" t8 ["row","places"]:=vi.d X G λ_ _ _ _ _ _ us hl=>by obtain⟨_,_,rfl⟩:=mW hl;rfl
 have Sw:Def K mg "demand" xQ ["holds"]:=Ax.d X G λ_ _ _ _ _ _ us hl=>by obtain⟨_,rfl⟩:=oj hl;rfl
 have wC:Def K mg "number_within" xR ["word","lowest","highest"]:=jf.d X G λ_ _ _ _ _ _ us hl=>by obtain⟨_,_,_,rfl⟩:=Jj hl;rfl
 have HZ:Def K mg "read_card" vK ["codes"]:=pD.d X G λ_ _ _ _ _ _ us hl=>by obtain⟨_,rfl⟩:=oj hl;rfl
 have H_:Def K mg "check_day" Us ["words"]:=pE.d X G λ_ _ _ _ _ _ us hl=>by obtain⟨_,rfl⟩:=oj hl;rfl
 have BD:Def K mg "count_races" D_ ["lines"]:=lD.d X G λ_ _ _ _ _ _ us hl=>by obtain⟨_,rfl⟩:=oj hl;rfl
 have Ia:Def K mg "read_race" zk ["words"]:=pF.d X G λ_ _ _ _ _ _ us hl=>by obtain⟨_,rfl⟩:=oj hl;rfl
 have Ib:Def K mg "read_pool" CA ["words","races"]:=pG.d X G λ_ _ _ _ _ _ us hl=>by obtain⟨_,_,rfl⟩:=mW hl;rfl
 have uq:Def K mg "read_pool_races" qv ["word","kind","k","races"]:=gU.d X G λ_ _ _ _ _ _ us hl=>by obtain⟨_,_,_,_,rfl⟩:=Ui hl;rfl
 have pI:Def K mg "check_names_differ" xT ["pools"]:=fA.d X G λ_ _ _ _ _ _ us hl=>by obtain⟨_,rfl⟩:=oj hl;rfl
 have OA:Def K mg "ask_bet" Mi ["card","bet","money"]:=vj.d X G λ_ _ _ _ _ _ us hl=>by obtain⟨_,_,_,rfl⟩:=Jj hl;rfl
 have T:Tx mg:=⟨⟨_,bP X G gE⟩,⟨_,bP X G gF⟩,⟨_,bP X G ik⟩,⟨_,bP X G md⟩,⟨_,bP X G me⟩,⟨_,bP X G dq⟩,⟨_,bP X G fJ⟩,⟨_,bP X G gG⟩,⟨_,bP X G fK⟩,⟨_,bP X G d7⟩,⟨_,bP X G fL⟩,⟨_,bP X G gH⟩,⟨_,bP X G gI⟩,⟨_,bP X G d8⟩,⟨_,bP X G fh⟩,⟨_,bP X G fi⟩,⟨_,bP X G iR⟩,⟨_,bP X G gJ⟩,⟨_,bP X G iS⟩,⟨_,bP X G fM⟩,⟨_,bP X G dr⟩,⟨_,bP X G dN⟩,iY X G tK,iY X G zg,iY X G f9,iY X G GK,iY X G cv,iY X G qS,iY X G iH,iY X G Cy,iY X G iT,iY X G GL,iY X G tL,iY X G zh⟩;have Wi:Nb K mg RZ:=⟨bP X G E5,E6⟩;have Ww:=IV (st:=mn) R5 R6 R7;have ach:=Ww.binds (ps:=["self","pool","stake","sets","numbers"]) λ_ _ _ _ _ _ us hl=>by obtain⟨_,_,_,_,_,rfl⟩:=aaJ hl;rfl
 have Wx:FV K uk:=⟨R9,R_,Sb,Sd⟩;have NCF:Nc K mg MH:=⟨bP X G Ay,Az⟩;have Sx:=IV (st:=jA) Kk Kl Km;have Y4:=Sx.binds (ps:=["self","name","kind","k","races","unit"]) λ_ _ _ _ _ _ us hl=>by obtain⟨_,_,_,_,_,_,rfl⟩:=adS hl;rfl
 have Fz:FV K kb:=⟨Ko,Kp,Kq,Kr⟩;have VE:Ue K "__init__" "Asked.__init__" dZ (.ref MI) yb _:=⟨⟨_,_,_,_,_,_,_,_,_,rfl,E9,E_⟩,Fb⟩;have ML:FV K jg:=⟨Fe,Ff,Fg,Fh⟩;have TG:Tg P w K mg:=by
  refine⟨⟨Fp,HR,HS,HU,HV,bP X G Fo,?_,λH=>Vq AI,λH=>Vq AK,λH=>Vq AQ,λH=>Vq AV⟩,⟨nP,bP X G nO,?_⟩,⟨MJ,bP X G Ft,λH=>?_⟩⟩
  .rw[<-Ek,<-LA,<-abE,<-zp];exact RR Fq Fs (.cons (ME _ _) AH rfl (.cons (ME _ _) AJ rfl (.cons (ME _ _) AO rfl (.cons (ME _ _) AU rfl .nil)))) RT
  .rw[<-YY,<-YZ,<-Y0,<-Vr,<-Vs,<-Y1,<-Y2];exact RR nQ nS (.cons (pq _ _) lE ⟨_,rfl⟩ (.cons (pq _ _) lF ⟨_,rfl⟩ (.cons (pq _ _) lH ⟨_,rfl⟩ (.cons (pq _ _) lI ⟨_,rfl⟩ (.cons (pq _ _) lJ ⟨_,rfl⟩ (.cons (pq _ _) lK ⟨_,rfl⟩ (.cons (pq _ _) lL ⟨_,rfl⟩ .nil))))))) RU
  .rw[<-RW,<-Vt,<-Vu];exact .inr ⟨_,_,_,Fu,rfl,rfl,by have:=bF;show 3<=_;omega,.cons ⟨_,rfl⟩ (.cons ⟨_,rfl⟩ (.cons ⟨_,rfl⟩ .nil))⟩
 have TM:∃dm,mg "MARKS"=some (.ref dm)/\KD P w K dm (MK.map λp=>((Sum.inl p.1:Key),V.str (S p.2))):=by
  refine⟨yc,bP X G Fl,?_⟩;show KD P w K yc [(Sum.inl 32,V.str (S [32])),(Sum.inl 10,V.str (S [10])),(Sum.inl 44,V.str (S [44])),(Sum.inl 47,V.str (S [47]))];rw[<-abA,<-abB,<-abC,<-abD];exact RR Fm Fn (.cons (pq _ _) AA ⟨_,rfl⟩ (.cons (pq _ _) AB ⟨_,rfl⟩ (.cons (pq _ _) AF ⟨_,rfl⟩ (.cons (pq _ _) AG ⟨_,rfl⟩ .nil)))) RV
 refine⟨PySem.W.fnOf "back" "back" (fQ C6) (cq C6) (ao C6) .none kV doc pm an cf ct,λs us hu=>by obtain⟨_,_,_,rfl⟩:=Jj hu;exact .of_eq rfl,λbase _ _=>?_⟩;have OB:=Um (P:=P) (w:=w) (base:=base) Ou T TM;have jB:=Uq Ov OB;have ip:=Qo (P:=P) (w:=w) (base:=base) Kw;have qw:=Ur (P:=P) (w:=w) (base:=base) Ow T;have ft:=NF (P:=P) (w:=w) (base:=base) HX T;have bg:=NI (P:=P) (w:=w) (base:=base) Sw NCF;have aV:=NK wC ft bg;have oQ:=X7 H_ T qw bg;have k9:=Qs (P:=P) (w:=w) (base:=base) BD;have oR:=Ut Ia T aV bg;have gL:=GX uq T aV bg;have j4:CL P w K mg base "Bet" uk ["self","pool","stake","sets","numbers"] (jC uk) ["pool","stake","sets","numbers"]:=⟨⟨_,_,⟨Se,R3,R8,Sf⟩,JY Ww Wx qG nJ qH jy,ach⟩,bP X G R1,Wx,by
  intro f hf;simp only[mem_cons,not_mem_nil,or_false]at hf;obtain rfl|rfl|rfl|rfl:=hf
  .exact qG
  .exact nJ
  .exact qH
  .exact jy⟩
 have aS:CL P w K mg base "Pool" kb ["self","name","kind","k","races","unit"] (dD kb) ["name","kind","k","races","unit"]:=⟨⟨_,_,⟨Ks,Ki,Kn,Kt⟩,GY Sx Fz kc ke um iW nM,Y4⟩,bP X G Kh,Fz,by
  intro f hf;simp only[mem_cons,not_mem_nil,or_false]at hf;obtain rfl|rfl|rfl|rfl|rfl:=hf
  .exact kc
  .exact ke
  .exact um
  .exact iW
  .exact nM⟩
 have cP:CLA P w K mg base jg:=⟨⟨_,_,⟨Fi,E8,Fd,Fj⟩,El VE ML gV dJ nN,G5 Fc⟩,bP X G E7,ML,by
  intro f hf;simp only[mem_cons,not_mem_nil,or_false]at hf;obtain rfl|rfl|rfl:=hf
  .exact gV
  .exact dJ
  .exact nN⟩
 have oS:=Uu Ib T TG qw aV bg gL aS;have fj:=NM pI Fz kc bg;have o8:=Uw HZ T jB ip bg oQ k9 oR oS fj;have dY:=QD (P:=P) (w:=w) (base:=base) Fv T;have dg:=QE (P:=P) (w:=w) (base:=base) wA T;have fD:=QF Fw dY;have jW:=QG (P:=P) (w:=w) (base:=base) AW T;have rV:=QH Ku T jW;have fw:=QJ pH Fz ke um iW T dY fD dg;have o7:=RB (P:=P) (w:=w) (base:=base) HW T;have rS:=JZ (P:=P) (w:=w) (base:=base) Kv T;have aK:=JQ (P:=P) (w:=w) (base:=base) Ox Wi;have gO:=N1 AX T aK;have nj:=Rb Fy T ft aK;have ll:=N2 BA T aS aK;have dE:=Yt KA T ft aK;have rP:=Yu Ky T aS dE aK;have rQ:=Yw Kz T aS dE aK;have uR:=aa_ Oy T aS dE aK;have o4:=UY HY T aS uR rP rQ aK;have d9:=Rl (P:=P) (w:=w) (base:=base) wB T;have lq:=UZ (P:=P) (w:=w) (base:=base) Bz T;have nh:=U0 Fx T fD;have uU:=N8 (P:=P) (w:=w) (base:=base) Oz T;have j3:=U1 AY T d9 uU;have gP:=U3 uo T aS j3 nh;have rT:=U7 Kx T jB ip aK ll nj o4 dg gO lq gP aS j4;have uX:=Va OA T NCF Wi cP j4 o8 rT rV fw;have jb:=wx wy T o7 rS;exact Vb Sv T cP j4 uX jb
end Pd
end
structure PySem.W.Fast:Prop where(tw7377289077561347297 tw9945072024422451956 tw7216483121630574949 tw16614943098680721417 tw9959558093244737127 tw11618390279006157861 tw5438010666308763433 tw795999059719816179 tw4593444550737022005 tw578664122199152122 tw3830520057010020130 tw6609885559977450681 tw8585626290475248815 tw9633844594229497610 tw14877922057060458138 tw4104969476782980008 tw5630584612345854269 tw12604203468823174991 tw470645632530230971 tw7648668921677807498 tw1669274140755213310 tw10176586612941012954 tw362110784890144630 tw15208174748207717451 tw6366716142722630970 tw8015469922657823630 tw3699840808766808201 tw4840772193456847965 tw7775863773845357055 tw2768894769845282604 tw6260544307864819790 tw11138699390747360139 tw14775035156861476359 tw4922202114480688553 tw9923837782094223657 tw2636771066937194595 tw9423179523481510704 tw6160621017482629230 tw7349951134822850529 tw7175903499042688326 tw871537517992302545 tw3285784465880125630 tw11773489027309872575 tw369440961497934506 tw10119100086475604432 tw4960595438025158479 tw376267111025023584 tw13385409219870910292 tw15707906991413481698 tw7830328324319922659 tw434306486946542008 tw8702597964512206708 tw3610999045680960853 tw6044322545137521035 tw8287710866625695312 tw15776115157570120270 tw17846131867547360578 tw11364004190063878406 tw11569411745849651800 tw13882558796571247536 tw3634795644216680269 tw4138737637498385555 tw7994794059981415649 tw6313190747453637007 tw10176687346466630506 tw11599026899096519791 tw7226411224292666167 tw2407484601905666105 tw2708023619306870397 tw15370448852708242291 tw3407698717679522206 tw6799208994222656963 tw5382638065193103634 tw7202230718927781289 tw10487994865113259524 tw16079872161164192242 tw11637479572819913905 tw4567835988089230229 tw5738804341365771893 tw10469908908672129124 tw12951810543752295586 tw3823683907412246555 tw18100878412787176379 tw15215606230339990113 tw11037347744494888870 tw18192680714684748454 tw17761193693764205903 tw7890351888530894429 tw13450514122255228087 tw9312114106132608194 tw6663482536072338447 tw1542567629463951381 tw12600694459786133270 tw12218870191373214704 tw16825147500942050736 tw4230045331755581845 tw16446697815390137353 tw344935108961341521 tw12105842582785705238 tw11288930737265484723 tw12375882704092714055 tw15040131726458098552 tw6039057282058016280 tw5895385768111439297 tw960264609258930203 tw9852494112702102992 tw9456393415889189874 tw9850077628214376590 tw14936223802315284655 tw3936185517671496852 tw1726243031199999684 tw3479273588657437405 tw18307607412461225842 tw557998766032887431 tw5886136127683763966 tw15810078936653742480 tw4402144768196542217 tw10387851182441273945 tw872059282159853596 tw706814185498696907 tw7279840723705341169 tw4615308011519706477 tw8810388828230675786 tw10455041548609298533 tw1206607310719337685 tw7054053581198320609 tw3730341519563364487 tw18323561673067727445 tw7882046828555966995 tw4313338878708026690 tw12168730940959777075 tw343705701387570661 tw11515260852968153237 tw18407339108241347038 tw17662369568804549248 tw17964912473572863179 tw17630826908498145599 tw16583419183081769114 tw9139340897591077846 tw6677606968531720839 tw4107472231469004895 tw13132235149398365013 tw2046232226141726538 tw13908683858620106466 tw9501578351310059035 tw16885382927955717244 tw13424853186075716979 tw13635410361919479763 tw13404067137908983402 tw1745391617040442829 tw3836653445224904570 tw18421045493986472426 tw6685640630893434926 tw2373589983125241238 tw215232612683579634 tw2106493082912672348 tw6731774491566780978 tw4925814621625450420 tw9350269758442745467 tw10601523728457202572 tw16943643488562610523 tw1979297218878768634 tw7319765695981852689 tw4753748992194608069 tw4414726676448053071 tw1801186472114493265 tw10962500301899653084 tw13854283588304859049 tw5532697717922779354 tw14861058495318188446 tw13208201931426779915 tw3876916712656308613 tw12640627744893594088 tw240868573818076062 tw9216948848505592118 tw2987031118028751621 tw13200310398787375555 tw12030584874175241166 tw14310629347064688928 tw4017711689901158044 tw775258842439865485 tw13792936467581404515 tw18307090743904219991 tw16989058966868829141 tw7912668433856381218 tw2245208283069726405 tw8030570910039759708 tw17298529203102536683 tw12486028024862747919 tw6043875313952577882 tw3194812577275327573 tw1445955573021087310 tw10941224345912576812 tw11911867628270434318 tw1738592689939009813 tw12072138431228401638 tw13007530915853933080 tw8083244019060651253 tw6953592865851466789 tw2468603859995306513 tw10126074787118615454 tw17676492514428543618 tw3555557506151134691 tw6394071068705922352 tw15667567217630714304 tw5016674172375907775 tw4757930005199895978 tw1257121303337984611 tw3332436966381018859 tw16253588156191839542 tw18321429114848643582 tw40017559841086320 tw5612241655742444273 tw2293129985618390787 tw14498734829031226907 tw12137784426717115787 tw1534697175069934991 tw9863168490414320528 tw14704347386975234446 tw1351943087938550522 tw422040786516824939 tw6903332584194607296 tw3575310392064790149 tw6769854692576630840 tw15330686284830357871 tw6236512513083131192 tw17935989371576204772 tw6017050510223184283 tw2463213370495818615 tw10533963108752341873 tw2712503436258970742 tw12106115125074277145 tw91282955294502430 tw17608320710527440829 tw12259406593461721104 tw9350919964654233790 tw10071242653795851241 tw5872412159589784781 tw2238445080377974570 tw17376469115656112468 tw5508791264896992226 tw1529290932435233091 tw8521525291849422147 tw14611274642407017913 tw10925159724121329754 tw6315137023988793908 tw3456015399593056387 tw18205109193379356745 tw5685643024013150933 tw3509723306346810371 tw9891289090133844345 tw4012559789775715810 tw17619331699334096418 tw1699249119189815065 tw4898669190166572819 tw6706410021571533863 tw18236921980926242149 tw3024488354287498062 tw7475229498684760119 tw10122347479299084788:True)
open PySem PySem.W PyProof.Rows
set_option maxRecDepth 100000 in
set_option maxHeartbeats 0 in
theorem PySem.Challenge.cw_poolday_s05_back_holds : PySem.Challenge.rw_poolday_s05_back.Holds := by
 w_on;k_headS;(case hw=>exact⟨[.list [],.list [],.list []],by decide+kernel,by decide+kernel⟩)
 k_fillS
 refine L2.IU (r:=PySem.Challenge.rw_poolday_s05_back) (k:=7) (CX:=L2.eY) (ps:= ["card","bet","money"]) (sp:=Pd.J0) (by decide+kernel) rfl rfl ⟨rfl,by decide,by decide⟩ (fun w h Y=>PySem.W.kIn_of Y) ?F ?S (fun _ _ _ _ z=>z)
 case F=>
  intro w mg fa h Y KX G hmg;refine' Pd.all_mk KX G hmg ?rY ?j8 ?pA ?rZ ?jc ?fz ?jd ?nE ?nF ?lB ?je ?nH ?vd ?ve ?r9 ?vf ?pB ?vg ?sf ?j9 ?lC ?nI ?pC ?vh ?sh ?si ?sj ?gT ?j_ ?vi ?Ax ?jf ?pD ?pE ?lD ?pF ?pG ?gU ?fA ?Kg ?vj ?gE ?gF ?ik ?md ?me ?dq ?fJ ?gG ?fK ?d7 ?fL ?gH ?gI ?d8 ?fh ?fi ?iR ?gJ ?iS ?fM ?dr ?dN ?tK ?zg ?f9 ?GK ?cv ?qS ?iH ?Cy ?iT ?GL ?tL ?zh ?E5 ?E6 ?R1 ?R3 ?R5 ?R6 ?R7 ?R8 ?R9 ?R_ ?Sb ?Sd ?Se ?Sf ?qG ?nJ ?qH ?jy ?Ay ?Az ?Kh ?Ki ?Kk ?Kl ?Km ?Kn ?Ko ?Kp ?Kq ?Kr ?Ks ?Kt ?kc ?ke ?um ?iW ?nM ?E7 ?E8 ?E9 ?E_ ?Fb ?Fc ?Fd ?Fe ?Ff ?Fg ?Fh ?Fi ?Fj ?gV ?dJ ?nN ?Fl ?Fm ?Fn ?AA ?AB ?AF ?AG ?Fo ?Fq ?Fs ?AH ?AI ?AJ ?AK ?AO ?AQ ?AU ?AV ?Ft ?Fu ?nO ?nQ ?nS ?lE ?lF ?lH ?lI ?lJ ?lK ?lL
  (case rY=>apply L2.dh<;>k_is)
  (case j8=>apply L2.dh<;>k_is)
  (case pA=>apply L2.dh<;>k_is)
  (case rZ=>apply L2.dh<;>k_is)
  (case jc=>apply L2.dh<;>k_is)
  (case fz=>apply L2.dh<;>k_is)
  (case jd=>apply L2.dh<;>k_is)
  (case nE=>apply L2.dh<;>k_is)
  (case nF=>apply L2.dh<;>k_is)
  (case lB=>apply L2.dh<;>k_is)
  (case je=>apply L2.dh<;>k_is)
  (case nH=>apply L2.dh<;>k_is)
  (case vd=>apply L2.dh<;>k_is)
  (case ve=>apply L2.dh<;>k_is)
  (case r9=>apply L2.dh<;>k_is)
  (case vf=>apply L2.dh<;>k_is)
  (case pB=>apply L2.dh<;>k_is)
  (case vg=>apply L2.dh<;>k_is)
  (case sf=>apply L2.dh<;>k_is)
  (case j9=>apply L2.dh<;>k_is)
  (case lC=>apply L2.dh<;>k_is)
  (case nI=>apply L2.dh<;>k_is)
  (case pC=>apply L2.dh<;>k_is)
  (case vh=>apply L2.dh<;>k_is)
  (case sh=>apply L2.dh<;>k_is)
  (case si=>apply L2.dh<;>k_is)
  (case sj=>apply L2.dh<;>k_is)
  (case gT=>apply L2.dh<;>k_is)
  (case j_=>apply L2.dh<;>k_is)
  (case vi=>apply L2.dh<;>k_is)
  (case Ax=>apply L2.dh<;>k_is)
  (case jf=>apply L2.dh<;>k_is)
  (case pD=>apply L2.dh<;>k_is)
  (case pE=>apply L2.dh<;>k_is)
  (case lD=>apply L2.dh<;>k_is)
  (case pF=>apply L2.dh<;>k_is)
  (case pG=>apply L2.dh<;>k_is)
  (case gU=>apply L2.dh<;>k_is)
  (case fA=>apply L2.dh<;>k_is)
  (case Kg=>apply L2.dh<;>k_is)
  (case vj=>apply L2.dh<;>k_is)
  (case gE=>k_is)
  (case gF=>k_is)
  (case ik=>k_is)
  (case md=>k_is)
  (case me=>k_is)
  (case dq=>k_is)
  (case fJ=>k_is)
  (case gG=>k_is)
  (case fK=>k_is)
  (case d7=>k_is)
  (case fL=>k_is)
  (case gH=>k_is)
  (case gI=>k_is)
  (case d8=>k_is)
  (case fh=>k_is)
  (case fi=>k_is)
  (case iR=>k_is)
  (case gJ=>k_is)
  (case iS=>k_is)
  (case fM=>k_is)
  (case dr=>k_is)
  (case dN=>k_is)
  (case tK=>k_is)
  (case zg=>k_is)
  (case f9=>k_is)
  (case GK=>k_is)
  (case cv=>k_is)
  (case qS=>k_is)
  (case iH=>k_is)
  (case Cy=>k_is)
  (case iT=>k_is)
  (case GL=>k_is)
  (case tL=>k_is)
  (case zh=>k_is)
  (case E5=>k_is)
  (case E6=>k_exc)
  (case R1=>k_is)
  (case R3=>k_is)
  (case R5=>k_is)
  (case R6=>k_is)
  (case R7=>k_is)
  (case R8=>k_is)
  (case R9=>k_is)
  (case R_=>k_is)
  (case Sb=>k_is)
  (case Sd=>k_is)
  (case Se=>k_is)
  (case Sf=>k_is)
  (case qG=>k_is)
  (case nJ=>k_is)
  (case qH=>k_is)
  (case jy=>k_is)
  (case Ay=>k_is)
  (case Az=>k_exc)
  (case Kh=>k_is)
  (case Ki=>k_is)
  (case Kk=>k_is)
  (case Kl=>k_is)
  (case Km=>k_is)
  (case Kn=>k_is)
  (case Ko=>k_is)
  (case Kp=>k_is)
  (case Kq=>k_is)
  (case Kr=>k_is)
  (case Ks=>k_is)
  (case Kt=>k_is)
  (case kc=>k_is)
  (case ke=>k_is)
  (case um=>k_is)
  (case iW=>k_is)
  (case nM=>k_is)
  (case E7=>k_is)
  (case E8=>k_is)
  (case E9=>k_is)
  (case E_=>k_is)
  (case Fb=>k_is)
  (case Fc=>k_is)
  (case Fd=>k_is)
  (case Fe=>k_is)
  (case Ff=>k_is)
  (case Fg=>k_is)
  (case Fh=>k_is)
  (case Fi=>k_is)
  (case Fj=>k_is)
  (case gV=>k_is)
  (case dJ=>k_is)
  (case nN=>k_is)
  (case Fl=>k_is)
  (case Fm=>k_is)
  (case Fn=>rfl)
  (case AA=>rfl)
  (case AB=>rfl)
  (case AF=>rfl)
  (case AG=>rfl)
  (case Fo=>k_is)
  (case Fq=>k_is)
  (case Fs=>rfl)
  (case AH=>rfl)
  (case AI=>k_is)
  (case AJ=>rfl)
  (case AK=>k_is)
  (case AO=>rfl)
  (case AQ=>k_is)
  (case AU=>rfl)
  (case AV=>k_is)
  (case Ft=>k_is)
  (case Fu=>k_is)
  (case nO=>k_is)
  (case nQ=>k_is)
  (case nS=>rfl)
  (case lE=>rfl)
  (case lF=>rfl)
  (case lH=>rfl)
  (case lI=>rfl)
  (case lJ=>rfl)
  (case lK=>rfl)
  (case lL=>rfl)
 case S=>
  intro K H xs a hO hwi aez hx;obtain⟨card,bet,money,u⟩:=a;cases hx with
  |cons h1 hx=>
  cases hx with
  |cons h2 hx=>
  cases hx with
  |cons h3 hx=>
  cases hx;cases h1 with
  |lst s1 d1=>
  cases h2 with
  |lst s2 d2=>
  cases h3 with
  |lst s3 d3=>
  have e1:=L2.xH card _ d1;subst e1;have e2:=L2.xH bet _ d2;subst e2;have e3:=L2.xH money _ d3;subst e3;have hw:((Codec.inLen 0 66000 card&&card.all (Codec.inInt 0 255))&&((Codec.inLen 0 4200 bet&&bet.all (Codec.inInt 0 255))&&((Codec.inLen 0 16000 money&&money.all (Codec.inInt 0 18446744073709551615))&&true)))=true:=hwi;simp only[Bool.and_eq_true,all_eq_true,Codec.inInt_iff,Codec.inNat_iff]at hw;have hev:money.length%2=0:=Pd.Vv (card:=card) (bet:=bet) aez;refine⟨_,_,_,card,bet,money,rfl,s1,hw.1.2,(Codec.inNat_iff.mp hw.1.1).2,s2,hw.2.1.2,(Codec.inNat_iff.mp hw.2.1.1).2,s3,(Codec.inNat_iff.mp hw.2.2.1.1).2,hev,fun ans H' p ha hp=>?_⟩;show L2.Dw K H' (.ref p) (.list ((PyWqaqcm.back card bet money).map WData.int));rw[Pd.Vp hw.1.2 hw.2.1.2 (fun x hx=>(hw.2.2.1.2 x hx).1) hev ha];exact .lst (L2.aM.of hp) (L2.K6 _)
