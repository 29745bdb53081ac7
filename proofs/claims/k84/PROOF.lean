import PyProof.Rows.All
import Wide.All
import OpenK.AllK
import Wide.FinOn
import Lean
import PyProof.EqAt
import PyProof.EqKinds
import PyProof.TupleCall
import PyProof.NeKinds
import PyProof.FactsAll.range_2
import PyProof.FactsAll.tuple_2
import PyProof.FactsAll.tuple
import PyProof.ListRange
import PySem.Challenge.RW_starsieve_k84_whole_boxes_apart
set_option compiler.extract_closed false
set_option bootstrap.genMatcherCode false
set_option genSizeOf false
set_option Elab.async false
set_option maxRecDepth 100000
noncomputable section
local macro_rules|`(def $n:declId $s:optDeclSig $v:declVal)=>do return (←`(noncomputable def $n:declId $s:optDeclSig $v:declVal)).raw.rewriteBottomUp (·.setInfo .none)
local macro_rules|`(abbrev $n:declId $s:optDeclSig $v:declVal)=>do return (←`(noncomputable abbrev $n:declId $s:optDeclSig $v:declVal)).raw.rewriteBottomUp (·.setInfo .none)
local macro_rules|`(theorem $n:declId $s:declSig $v:declVal)=>do
 if n.raw.getPos?.isNone then Lean.Macro.throwUnsupported
 return (←`(theorem $n:declId $s:declSig $v:declVal)).raw.rewriteBottomUp (·.setInfo .none)
def nZf.{u}{a:Sort u}(h:false=true):a:=nomatch h
local macro_rules|`(~~~$x)=>`(($x).heap.objs.size)
local macro_rules|`(↥$x)=>`(PySem.wpAny (PySem.model ($x).prog ($x).w) ($x).A)
local macro_rules|`(tactic|rfl')=>`(tactic|kernel_rfl)
local macro_rules|`(tactic|ac_rfl)=>`(tactic|decide +kernel)
abbrev PF:=PySem.W.Frag
set_option linter.all false
namespace L2
open PySem PySem.Spec PyProof.Rows
def ae:=@Bool.and_eq_true
def af:=@List.length_map
def ag:=@And.intro
def al:=@PySem.wpAny_bind
def am:=@List.getElem?_eq_some_iff
def ar:=@Option.map_eq_some_iff
def av:=@PySem.Heap.get?_push_of_some
def aw:=@List.size_toArray
def ax:=@List.getElem?_map
def ay:=@Nat.le_refl
def aE:=@List.length_append
def aI:=@List.mem_cons_of_mem
def aS:=@List.mem_cons_self
def aT:=@List.mem_append_right
def a7:=@Bool.false_ne_true
def a8:=@List.getElem?_eq_getElem
def a9:=@beq_iff_eq
def ba:=@List.mem_of_getElem?
def bb:=@List.mem_map
def bg:=@PySem.wpAny_pure
def bi:=@PySem.Heap.lt_size
def bn:=@Option.some.injEq
def bo:=@List.drop_eq_getElem_cons
def bp:=@List.map_cons
def bq:=@List.mem_singleton
def br:=@List.map_append
def bv:=@PySem.Heap.get?_push_size
def bP:=@List.mem_append
def bS:=@List.length_replicate
def bX:=@List.length_take
def b6:=@decide_eq_true_iff
def b9:=@Nat.lt_of_lt_of_le
def ca:=@List.contains_iff_mem
def cb:=@decide_eq_true
def ce:=@List.take_length
def cf:=@List.take_add_one
def ci:=@List.mem_cons
def ck:=@List.flatMap_cons
def cp:=@Nat.le_trans
def cq:=@List.all_eq_true
def cr:=@List.length_drop
def cw:=@List.length_set
def cy:=@decide_eq_false
def cK:=@List.mem_of_mem_take
theorem cS:type_of% @List.length_cons:=@List.length_cons
def dc:=@List.getD_eq_getElem?_getD
theorem de:type_of% @List.replicate_succ:=@List.replicate_succ
def dk:=@List.mem_filter
theorem dr:type_of% @Int.toNat_natCast:=@Int.toNat_natCast
def dv:=@Option.isSome_iff_exists
def dy:=@PyProof.Rows.slot_tuple_getitem
def dA:=@Nat.ne_of_lt
def dE:=@Option.some.inj
def dL:=@List.cons.injEq
def dP:=@Bool.or_eq_true
def dQ:=@Int.eq_ofNat_of_zero_le
def dS:=@PySem.wpAny_mono
def d3:=@PySem.wpAny_field
def d4:=@List.getElem_mem
def d5:=@PyProof.Rows.callWith_type1
def d6:=@List.map_nil
def ee:=@List.length_eq_zero_iff
def ef:=@Nat.zero_le
def eg:=@List.append_nil
def eh:=@List.mem_flatMap
def ek:=@List.map_map
def en:=@List.filter_eq_nil_iff
def ez:=@List.getElem?_range
def eA:=@List.mem_range
def eI:=@PySem.W.kia_one
def eJ:=@List.filter_append
def eK:=@List.drop_length
theorem eL:type_of% @Array.length_toList:=@Array.length_toList
def eM:=@of_decide_eq_true
def eP:=@List.take_of_length_le
def eR:=@List.append_assoc
def eS:=@beq_eq_false_iff_ne
def eT:=@PySem.mem_of_lookup
def eW:=@Option.isNone_iff_eq_none
def e6:=@List.getElem?_append_left
def e7:=@Nat.le_add_right
def e8:=@List.isEmpty_iff
def e9:=@Nat.lt_irrefl
def fb:=@PySem.F.plainAttrs_list
def fe:=@PySem.wpAny_holding
def ff:=@Bool.eq_iff_iff
def fg:=@PySem.Heap.size_push
def fh:=@PySem.wpAny_truthy_bool
def fk:=@PySem.wpAny_callSpecial?_slot
def fm:=@List.flatMap_nil
def fo:=@List.getElem?_eq_none
def fq:=@PySem.wpAny_setField_rec
def ft:=@PySem.wpAny_seqItems
def fv:=@Nat.pow_le_pow_right
theorem fw:type_of% @List.flatten_cons:=@List.flatten_cons
def fx:=@PySem.wpAny_newObj_type
def fy:=@Int.emod_lt_of_pos
def fA:=@PySem.wpAny_call_entry
def fE:=@congrArg
def fF:=@and_true
def fI:=@List.range_succ
def fN:=@List.dropLast_concat_getLast
def fR:=@Int.emod_nonneg
theorem fS:type_of% @List.nil_append:=@List.nil_append
def fT:=@List.length_range
def ga:=@Bool.not_eq_true'
def gc:=@PySem.wpAny_passesOwn
def gd:=@List.mem_append_left
def ge:=@List.lt_irrefl
def gg:=@List.drop_zero
def gi:=@Nat.zero_add
def gl:=@Nat.lt_succ_self
def gp:=@Bool.not_eq_true
def gt:=@List.length_pos_iff
def gu:=@List.flatMap_append
def gv:=@PySem.call_meets
def gx:=@List.eq_of_mem_replicate
def gy:=@PySem.F.slot_tuple_iterator_next
def gz:=@Bool.and_true
def gE:=@List.nodup_cons
def gI:=@List.mem_filterMap
def gL:=@List.findIdx?_cons
def gN:=@List.countP_append
def gS:=@Nat.le_succ
def gT:=@List.set_eq_take_append_cons_drop
def gV:=@List.findIdx?_eq_some_iff_getElem
theorem gX:type_of% @List.length_singleton:=@List.length_singleton
def g0:=@Option.map_map
def g6:=@Nat.ne_of_gt
def g7:=@List.drop_eq_nil_of_le
def g9:=@Bool.false_and
def hJ:=@Bool.and_false
def hR:=@List.take_append_drop
def hU:=@List.cons_lt_cons_iff
def hV:=@Array.getElem?_toList
def hW:=@List.flatMap_map
theorem hX:type_of% @Nat.pow_succ:=@Nat.pow_succ
theorem hZ:type_of% @List.sum_cons:=@List.sum_cons
theorem ia:type_of% @Option.map_some:=@Option.map_some
def ib:=@PySem.wpAny_standAt
theorem ic:type_of% @List.getElem?_cons_succ:=@List.getElem?_cons_succ
abbrev Key:=Sum Int Str
def Dq:Key->Value->Bool
 |.inl k,v=>Value.isInt k v
 |.inr x,v=>Value.isStrOf x v
def W3(w:World):Key->Int
 |.inl k=>hashInt k
 |.inr x=>hashStr w x
theorem gG:∀{k:Key}{v:Value},Dq k v=true->(∃i t,k=Sum.inl i/\v=Value.int i t)\/(∃x t,k=Sum.inr x/\v=Value.str x t)
 |.inl i,v,h=>by
  obtain ⟨t,e⟩:=Value.isInt_shape (k:=i) (v:=v) h;exact .inl ⟨i,t,rfl,e⟩
 |.inr x,v,h=>by
  obtain ⟨t,e⟩:=Value.isStrOf_shape (x:=x) (v:=v) h;exact .inr ⟨x,t,rfl,e⟩
theorem W4(a b:Int):decide ((Sum.inl a:Key)=Sum.inl b)=(a==b):=by
 by_cases e:a=b
 ·subst e;simp
 ·have h:¬(Sum.inl a:Key)=Sum.inl b:=λq=>e (Sum.inl.inj q);rw[cy h];exact (eS.mpr e).symm
theorem W5(a b:Str):decide ((Sum.inr a:Key)=Sum.inr b)=decide (a=b):=by
 by_cases e:a=b
 ·subst e;simp
 ·have h:¬(Sum.inr a:Key)=Sum.inr b:=λq=>e (Sum.inr.inj q);rw[cy h,cy e]
theorem W6(a:Int)(b:Str):decide ((Sum.inl a:Key)=Sum.inr b)=false:=cy (λq=>nomatch q)
theorem W7(a:Str)(b:Int):decide ((Sum.inr a:Key)=Sum.inl b)=false:=cy (λq=>nomatch q)
def xH(prog:Program)(w:World):PySem.KeyKind prog w Key where
 is:=Dq
 hash:=W3 w
 inj:=λv a b ha hb=>by
  rcases gG ha with ⟨i,t,rfl,rfl⟩ |⟨x,t,rfl,rfl⟩
  ·rcases gG hb with ⟨j,u,rfl,e⟩ |⟨y,u,rfl,e⟩
   ·injection e with e1 _;rw[e1]
   ·exact nomatch e
  ·rcases gG hb with ⟨j,u,rfl,e⟩ |⟨y,u,rfl,e⟩
   ·exact nomatch e
   ·injection e with e1 _;rw[e1]
 byValue:=λk v h=>by
  rcases gG h with ⟨i,t,rfl,rfl⟩ |⟨x,t,rfl,rfl⟩ <;> rfl
 pyHash:=λhv h=>by
  rcases gG hv with ⟨i,t,rfl,rfl⟩ |⟨x,t,rfl,rfl⟩
  ·exact wpAny_pyHash_int h
  ·exact wpAny_pyHash_str h
 eqBool:=λhu hv h=>by
  rcases gG hu with ⟨i,t,rfl,rfl⟩ |⟨x,t,rfl,rfl⟩
  ·rcases gG hv with ⟨j,u,rfl,rfl⟩ |⟨y,u,rfl,rfl⟩
   ·rw[W4]at h;exact wpAny_eqBool_int h
   ·rw[W6]at h;exact SeqAt.EqAt.int_str i t y u _ _ _ _ h
  ·rcases gG hv with ⟨j,u,rfl,rfl⟩ |⟨y,u,rfl,rfl⟩
   ·rw[W7]at h;exact SeqAt.EqAt.str_int x t j u _ _ _ _ h
   ·rw[W5]at h;exact wpAny_eqBool_str h
 «strs»:=λk x t v h=>by
  rcases gG h with ⟨i,u,rfl,e⟩ |⟨y,u,rfl,e⟩
  ·exact nomatch e
  ·injection e with e1 _;subst e1;cases v <;> rfl
inductive V where
 |non |bl (b:Bool) |int (i:Int) |str (x:Str) |byt (b:Array UInt8) |flt (b:UInt64) |ref (a:Addr) |ty (n:String)
 deriving DecidableEq
def RelV:V->Value->Prop
 |.non,u=>u=Value.none
 |.bl b,u=>u=Value.bool b
 |.int i,u=>∃t,u=Value.int i t
 |.str x,u=>∃t,u=Value.str x t
 |.byt b,u=>∃t,u=Value.bytes b t
 |.flt b,u=>∃t,u=Value.float b t
 |.ref a,u=>u=Value.ref a
 |.ty n,u=>u=Value.type n
abbrev Vals:List V->List Value->Prop:=Paired RelV
theorem Vals.length{xs:List V}{us:List Value}(r:Vals xs us):xs.length=us.length:=Paired.length r
theorem Vals.get:∀{xs:List V}{us:List Value}{i:Nat}{x:V},Vals xs us->xs[i]?=some x->∃u,us[i]?=some u/\RelV x u
 |_,_,_,_,.nil,e=>by simp at e
 |_,_,0,_,.cons r _,e=>by simp at e;subst e;exact ⟨_,rfl,r⟩
 |_,_,i+1,x,.cons _ t,e=>by
  obtain ⟨u,h1,h2⟩:=Vals.get (i:=i) (x:=x) t (by simpa using e);exact ⟨u,by simpa using h1,h2⟩
theorem Vals.set{x:V}{u:Value}(r:RelV x u):∀{xs:List V}{us:List Value}(i:Nat),Vals xs us->Vals (xs.set i x) (us.set i u)
 |_,_,_,.nil=>.nil
 |_,_,0,.cons _ t=>.cons r t
 |_,_,i+1,.cons q t=>.cons q (Vals.set r i t)
theorem Vals.append:∀{xs ys:List V}{us ws:List Value},Vals xs us->Vals ys ws->Vals (xs++ys) (us++ws)
 |_,_,_,_,.nil,s=>s
 |_,_,_,_,.cons r t,s=>.cons r (Vals.append t s)
theorem Vals.take:∀{xs:List V}{us:List Value}(n:Nat),Vals xs us->Vals (xs.take n) (us.take n)
 |_,_,0,_=>.nil
 |_,_,_+1,.nil=>.nil
 |_,_,n+1,.cons r t=>.cons r (Vals.take n t)
theorem Vals.drop:∀{xs:List V}{us:List Value}(n:Nat),Vals xs us->Vals (xs.drop n) (us.drop n)
 |_,_,0,r=>r
 |_,_,_+1,.nil=>.nil
 |_,_,n+1,.cons _ t=>Vals.drop n t
def xJ:Option V->Option Value->Prop
 |some v,some u=>RelV v u
 |none,none=>True
 |_,_=>False
def KV{κ:Type}:List (κ×V)->List (κ×Value)->Prop:=Paired λ(p:κ×V) (q:κ×Value)=>p.1=q.1/\RelV p.2 q.2
def kV:Key->V
 |.inl i=>.int i
 |.inr x=>.str x
inductive HO where
 |lst (xs:List V)
 |tup (xs:List V)
 |dK (kvs:List (Key×V)) |dT (kvs:List (List Key×V))
 |set (S:Int->Bool) (n:Nat)
 |ins (C dx:Addr) (fs:List (Str×V))
 |own (x:Addr)
 |xd (fs:List (Str×V))
 |met (f x:Addr)
 |rng (lo hi:Int)
 |frz (o:Obj) (u:HO)
 |tbl (ps:Array Value)
 |ext (φ:Heap->Prop)
abbrev Hp:=Addr->Option HO
def upd(H:Hp)(a:Addr)(o:HO):Hp:=λb=>if b=a then some o else H b
theorem gH{H:Hp}{a:Addr}{o:HO}:upd H a o a=some o:=by unfold upd;rw[if_pos rfl]
theorem aX{H:Hp}{a b:Addr}{o:HO}(h:b≠a):upd H a o b=H b:=by unfold upd;rw[if_neg h]
theorem Ds{H:Hp}{a b:Addr}{o u:HO}(h:H a=some o)(h':H b=some u)(d:o≠u):a≠b:=by intro e;subst e;rw[h]at h';exact d (dE h')
theorem b7{H:Hp}{a b:Addr}{o:HO}(h:H a=some o)(h':H b=none):a≠b:=by intro e;subst e;rw[h]at h';cases h'
section
variable (P:Program) (w:World)
def ObjOk(H:Hp)(h:Heap)(a:Addr):HO->Prop
 |.lst xs=>xs.length<=sizeLine/\∃(its:List Value) (n:Nat),Vals xs its/\h.get? a=some { cls:=.type "list",data:=.seq its.toArray n }
 |.tup xs=>xs.length<=sizeLine/\∃its:List Value,Vals xs its/\IsTup h a its.toArray
 |.dK kvs=>kvs.length<=sizeLine/\(a==sysModules)=false/\∃vs,KV kvs vs/\h.DictOf (xH P w) a vs
 |.dT kvs=>kvs.length<=sizeLine/\(a==sysModules)=false/\∃xs:List (List Key×Addr×Value),
   Paired (λ(p:List Key×V) (q:List Key×Addr×Value)=>p.1=q.1/\H q.2.1=some (.tup (p.1.map kV))/\RelV p.2 q.2.2) kvs xs/\
   ∃o es ep,h.get? a=some o/\o.ExactDict/\o.data=.dict es ep/\es.toList=xs.map (entryOfKey (tupleKind (xH P w)))/\(xs.map (·.1)).Nodup
 |.set S n=>h.SetOf (intKind P w) a S n
 |.ins C dx fs=>H dx=some (.own a)/\fs.length<=1000/\dx≠a/\h.get? a=some (PySem.W.instObj C dx)/\
   ∃mA,h.Ns1 dx mA/\(∀f,xJ (fs.lookup f) (mA f))/\PySem.Within mA (fs.map (·.1))
 |.own _=>∃o,h.get? a=some o
 |.xd fs=>∃mA,h.Ns1 a mA/\∀f,xJ (fs.lookup f) (mA f)
 |.rng lo hi=>∃t u v,h.get? a=some { cls:=.type "range",data:=.fields #[.int lo t,.int hi u,.int 1 v] }
 |.frz o u=>h.get? a=some o/\ObjOk H h a u
 |.tbl ps=>h.get? a=some { cls:=.none,data:=.fields ps }
 |.met f x=>h.get? a=some (PySem.W.methodObj (.ref f) (.ref x))
 |.ext φ=>φ h/\(∃o,h.get? a=some o)/\∀h1 h2:Heap,φ h1->(∀o,h1.get? a=some o->h2.get? a=some o)->φ h2
def HOk(H:Hp)(h:Heap):Prop:=∀a o,H a=some o->ObjOk P w H h a o
end
section
variable {P:Program} {w:World} {H H':Hp} {h h':Heap} {a:Addr} {o:HO}
theorem ObjOk.lt(x:ObjOk P w H h a o):a < h.objs.size:=by
 cases o with
 |lst xs=>obtain ⟨_,_,_,_,e⟩:=x;exact bi e
 |tup xs=>obtain ⟨_,_,_,p⟩:=x;exact p.lt
 |dK kvs=>obtain ⟨_,_,_,_,o,_,_,e,_⟩:=x;exact bi e
 |dT kvs=>obtain ⟨_,_,_,_,o,_,_,e,_⟩:=x;exact bi e
 |set S n=>obtain ⟨o,_,_,_,e,_⟩:=x;exact bi e
 |ins C dx fs=>obtain ⟨_,_,_,e,_⟩:=x;exact bi e
 |own y=>obtain ⟨_,e⟩:=x;exact bi e
 |xd fs=>obtain ⟨_,⟨_,_,_,e,_⟩,_⟩:=x;exact bi e
 |rng lo hi=>obtain ⟨_,_,_,e⟩:=x;exact bi e
 |frz ob u=>obtain ⟨e,_⟩:=x;exact bi e
 |tbl ps=>exact bi (show h.get? a=some _ from x)
 |met f y=>exact bi (show h.get? a=some _ from x)
 |ext φ=>obtain ⟨_,⟨_,e⟩,_⟩:=x;exact bi e
theorem Paired.mapP{α β:Type}{F G:α->β->Prop}:∀{l₁:List α}{l₂:List β},Paired F l₁ l₂->(∀a b,F a b->G a b)->Paired G l₁ l₂
 |_,_,.nil,_=>.nil
 |_,_,.cons r t,f=>.cons (f _ _ r) (Paired.mapP t f)
theorem ObjOk.stay(x:ObjOk P w H h a o)(k:∀b u,(b=a\/H b=some (.own a))->h.get? b=some u->h'.get? b=some u)
  (ho:∀b,H b=some (.own a)->H' b=some (.own a)) (ht:∀b xs,H b=some (.tup xs)->H' b=some (.tup xs)):ObjOk P w H' h' a o:=by
 induction o with
 |lst xs=>obtain ⟨z,its,n,r,e⟩:=x;exact ⟨z,its,n,r,k _ _ (.inl rfl) e⟩
 |tup xs=>obtain ⟨z,its,r,ob,e,c⟩:=x;exact ⟨z,its,r,ob,k _ _ (.inl rfl) e,c⟩
 |dK kvs=>obtain ⟨z,y,vs,r,ob,es,ep,e,c⟩:=x;exact ⟨z,y,vs,r,ob,es,ep,k _ _ (.inl rfl) e,c⟩
 |dT kvs=>
  obtain ⟨z,y,xs,r,ob,es,ep,e,c⟩:=x;exact ⟨z,y,xs,Paired.mapP r λp q z=>⟨z.1,ht _ _ z.2.1,z.2.2⟩,ob,es,ep,k _ _ (.inl rfl) e,c⟩
 |set S n=>obtain ⟨ob,es,ep,t,e,c⟩:=x;exact ⟨ob,es,ep,t,k _ _ (.inl rfl) e,c⟩
 |ins C dx fs=>
  obtain ⟨d,z,ne,e,mA,⟨od,es,ep,e2,c⟩,r⟩:=x;exact ⟨ho _ d,z,ne,k _ _ (.inl rfl) e,mA,⟨od,es,ep,k _ _ (.inr d) e2,c⟩,r⟩
 |own y=>obtain ⟨ob,e⟩:=x;exact ⟨ob,k _ _ (.inl rfl) e⟩
 |xd fs=>obtain ⟨mA,⟨od,es,ep,e,c⟩,r⟩:=x;exact ⟨mA,⟨od,es,ep,k _ _ (.inl rfl) e,c⟩,r⟩
 |rng lo hi=>obtain ⟨t,u,v,e⟩:=x;exact ⟨t,u,v,k _ _ (.inl rfl) e⟩
 |frz ob u ih=>obtain ⟨e,q⟩:=x;exact ⟨k _ _ (.inl rfl) e,ih q⟩
 |tbl ps=>
  have e:h.get? a=some { cls:=.none,data:=.fields ps }:=x;show h'.get? a=some { cls:=.none,data:=.fields ps };exact k a _ (.inl rfl) e
 |met f y=>
  have e:h.get? a=some (PySem.W.methodObj (.ref f) (.ref y)):=x;show h'.get? a=some (PySem.W.methodObj (.ref f) (.ref y));exact k a _ (.inl rfl) e
 |ext φ=>obtain ⟨p,⟨o,e⟩,st⟩:=x;exact ⟨st _ _ p λo q=>k _ _ (.inl rfl) q,⟨o,k _ _ (.inl rfl) e⟩,st⟩
theorem HOk.lt(x:HOk P w H h)(e:H a=some o):a < h.objs.size:=(x a o e).lt
theorem HOk.fresh(x:HOk P w H h)(e:h.objs.size<=a):H a=none:=by
 cases q:H a with
 |none=>rfl
 |some u=>exact absurd (b9 (x.lt q) e) (e9 _)
theorem HOk.kept(x:HOk P w H h)(k:∀b u,h.get? b=some u->h'.get? b=some u):HOk P w H h':=λa o e=>
 (x a o e).stay (λb u _ q=>k b u q) (λ_ q=>q) λ_ _ q=>q
theorem HOk.laid(x:HOk P w H h)(k:∀b u,h.get? b=some u->h'.get? b=some u)(hp:h.objs.size<=a)(new:ObjOk P w (upd H a o) h' a o):HOk P w (upd H a o) h':=λb u e=>by
 have hn:=x.fresh hp;by_cases hb:b=a
 ·subst hb;rw[gH]at e;cases e;exact new
 ·rw[aX hb]at e;exact (x b u e).stay (λc v _ q=>k c v q) (λc q=>by rw[aX (b7 q hn)];exact q) λc xs q=>by rw[aX (b7 q hn)];exact q
end
def Rd(H:Hp)(a:Addr)(u:HO):Prop:=H a=some u\/∃o,H a=some (.frz o u)
theorem Rd.ok{P:Program}{w:World}{H:Hp}{h:Heap}{a:Addr}{u:HO}(r:Rd H a u)(x:HOk P w H h):ObjOk P w H h a u:=by
 rcases r with r |⟨o,r⟩
 ·exact x a u r
 ·obtain ⟨_,q⟩:=x a _ r;exact q
def Mut:Option HO->Prop
 |some (.lst _)=>True
 |some (.dK _)=>True
 |some (.dT _)=>True
 |some (.set _ _)=>True
 |some (.ins _ _ _)=>True
 |some (.ext _)=>True
 |_=>False
section
variable {P:Program} {w:World} {H:Hp} {h h':Heap} {x e:Addr} {o':HO}
theorem HOk.write(ok:HOk P w H h)(mu:Mut (H x))(he:e=x\/H e=some (.own x))(k:∀b u,b≠e->h.get? b=some u->h'.get? b=some u)(heo:∃u,h'.get? e=some u)
  (new:ObjOk P w (upd H x o') h' x o'):HOk P w (upd H x o') h':=λb u q=>by
 have nown:∀c y,H c=some (.own y)->c≠x:=λc y r z=>by subst z;rw[r]at mu;exact mu
 have ntup:∀c xs,H c=some (.tup xs)->c≠x:=λc xs r z=>by subst z;rw[r]at mu;exact mu
 by_cases hb:b=x
 ·subst hb;rw[gH]at q;cases q;exact new
 ·rw[aX hb]at q;by_cases hbe:b=e
  ·have q':H b=some (.own x):=by
    rcases he with z |z
    ·exact absurd (hbe.trans z) hb
    ·rw[hbe];exact z
   rw[q]at q';cases q';obtain ⟨v,hv⟩:=heo;exact ⟨v,by rw[hbe];exact hv⟩
  ·refine (ok b u q).stay (λc v hc r=>k c v ?_ r) (λc r=>by rw[aX (nown c b r)];exact r) λc xs r=>by rw[aX (ntup c xs r)];exact r
   rcases hc with rfl |hc
   ·exact hbe
   ·rintro rfl;rcases he with z |z
    ·exact nown c b hc z
    ·rw[hc]at z;cases z;exact hb rfl
end
structure Un(fs ex:List Addr)(H H':Hp)(h h':Heap):Prop where
 keep:∀b o,h.get? b=some o->H b=none->b∉fs->b∉ex->h'.get? b=some o
 slot:∀b o,h.get? b=some o->H b=none->b∈fs->b∉ex->∃sl,h'.get? b=some { o with slots:=sl }
 free:∀b o,h.get? b=some o->H b=none->b∉ex->H' b=none
 there:∀b o,h.get? b=some o->b∉ex->∃o',h'.get? b=some o'
 tups:∀b xs,H b=some (.tup xs)->H' b=some (.tup xs)
 frzs:∀b o u,H b=some (.frz o u)->H' b=some (.frz o u)
 tbls:∀b ps,H b=some (.tbl ps)->∃more,H' b=some (.tbl (ps++more))
section
variable {fs fs' ex ex':List Addr} {H H1 H2:Hp} {h h1 h2 h':Heap} {a x e:Addr} {o:HO}
theorem Un.any(u:Un fs ex H H1 h h1){b:Addr}{ob:Obj}(q:h.get? b=some ob)(n:H b=none)(hx:b∉ex):∃sl,h1.get? b=some { ob with slots:=sl }:=by
 by_cases hb:b∈fs
 ·exact u.slot b ob q n hb hx
 ·exact ⟨ob.slots,u.keep b ob q n hb hx⟩
theorem Un.kept(k:∀b u,h.get? b=some u->h'.get? b=some u):Un fs ex H H h h':=
 ⟨λb ob q _ _ _=>k b ob q,λb ob q _ _ _=>⟨ob.slots,k b ob q⟩,λ_ _ _ n _=>n,λb ob q _=>⟨ob,k b ob q⟩,λ_ _ q=>q,λ_ _ _ q=>q,λ_ ps q=>⟨#[],by rw[q];simp⟩⟩
theorem Un.refl:Un fs ex H H h h:=Un.kept λ_ _ q=>q
theorem Un.laid(k:∀b u,h.get? b=some u->h'.get? b=some u)(hp:h.objs.size<=a)(hn:H a=none):Un fs ex H (upd H a o) h h' where
 keep:=λb u q _ _ _=>k b u q
 slot:=λb u q _ _ _=>⟨u.slots,k b u q⟩
 free:=λb u q n _=>by rw[aX (dA (b9 (bi q) hp))];exact n
 there:=λb u q _=>⟨u,k b u q⟩
 tups:=λb xs q=>by rw[aX (b7 q hn)];exact q
 frzs:=λb u xs q=>by rw[aX (b7 q hn)];exact q
 tbls:=λb ps q=>⟨#[],by rw[aX (b7 q hn),q];simp⟩
theorem Un.write(mu:Mut (H x))(he:e=x\/H e=some (.own x))(k:∀b u,b≠e->h.get? b=some u->h'.get? b=some u)(heo:∃u,h'.get? e=some u):Un fs ex H (upd H x o) h h':=by
 have hx:∀b,H b=none->b≠x:=λb n z=>by subst z;rw[n]at mu;exact mu
 have hb:∀b,H b=none->b≠e:=λb n z=>by
  subst z;rcases he with r |r
  ·exact hx b n r
  ·rw[n]at r;cases r
 have hm:∀b u,H b=some u->¬Mut (some u)->b≠x:=λb u q nm z=>by subst z;rw[q]at mu;exact nm mu
 refine ⟨λb u q n _ _=>k b u (hb b n) q,λb u q n _ _=>⟨u.slots,k b u (hb b n) q⟩,λb u q n _=>by rw[aX (hx b n)];exact n,λb u q _=>?_,
  λb xs q=>by rw[aX (hm b _ q λz=>z)];exact q,λb u xs q=>by rw[aX (hm b _ q λz=>z)];exact q,λb ps q=>⟨#[],by rw[aX (hm b _ q λz=>z),q];simp⟩⟩
 by_cases hbe:b=e
 ·subst hbe;exact heo
 ·exact ⟨u,k b u hbe q⟩
end
def trk(h:Heap)(H:Hp):List Addr:=(List.range h.objs.size).filter λa=>(H a).isSome
def dF(h:Heap)(H:Hp):Heap:=PySem.W.hideAll h (trk h H)
theorem W8(h:Heap)(H:Hp):(dF h H).objs.size=h.objs.size:=PySem.W.hideAll_size _ _
theorem W9{h:Heap}{H:Hp}{b:Addr}{o:Obj}(e:h.get? b=some o)(n:H b=none):(dF h H).get? b=some o:=
 PySem.W.hideAll_get _ e λhm=>by
  have q:(H b).isSome=true:=(dk.mp hm).2;rw[n]at q;simp at q
theorem Xa{h:Heap}{H:Hp}{b:Addr}{o:Obj}(e:(dF h H).get? b=some o):h.get? b=some o/\H b=none:=by
 have e':h.get? b=some o:=PySem.W.of_hideAll (trk h H) e;refine ⟨e',?_⟩;cases q:H b with
 |none=>rfl
 |some x=>
  have hm:b∈trk h H:=dk.mpr ⟨eA.mpr (bi e'),by simp[q]⟩;have z:(dF h H).get? b=none:=PySem.W.hideAll_none (trk h H) hm;rw[z]at e;cases e
def Xb(g h:Heap)(L:Addr):List (Addr×Obj):=(List.range h.objs.size).filterMap λa=>if a=L\/(g.get? a).isSome=true then none else (h.get? a).map λo=>(a,o)
def rest(g h:Heap)(L d:Addr):List (Addr×Obj):=(Xb g h L).filter λp=>decide (p.1≠d)
structure Mod(K:PF)(mg:Str->Option Value)(base:Heap):Prop where
 kin:K.In base
 glob:base.Ns mainGlobals mg
 blt:∃mb,base.Ns builtinsNs mb/\∀x:Str,x≠"__name__"->mb x=bootBuiltins x
 nolimit:base.NoLimit
structure Cx where
 prog:Program
 w:World
 K:PF
 mg:Str->Option Value
 base:Heap
 A:Around
 N:List Str
 s₀:Shared
 H₀:Hp
 env:Env
 outer:List Env
 stack:List Env
 ex:List Addr
 fn:Str->Bool
 calm:Bool
 pn:List (Addr×Obj)
 xe:Value->Shared->Prop
def frs(l:List Env):List Addr:=l.filterMap (·.frame)
abbrev Cx.fs(X:Cx):List Addr:=frs X.outer
def Vis(sc:Scope)(x:Str):Prop:=sc.names.lookup x=some .local\/sc.names.lookup x=some .cell\/sc.names.lookup x=some .free
def Loc(sc:Scope)(x:Str):Prop:=sc.names.lookup x=some .local\/sc.names.lookup x=some .cell
def Look(env:Env)(h:Heap)(m:Str->Option Value)(x:Str)(u:Value):Prop:=
 (env.kindOf x=some .local/\m x=some u)\/((env.kindOf x=some .cell\/env.kindOf x=some .free)/\∃c,env.cells.lookup x=some c/\h.IsCell c (some u))
structure Cx.Ok(X:Cx):Prop where
 mod:Mod X.K X.mg X.base
 kind:X.env.scope.kind=.function
 glob:X.env.globals=mainGlobals
 blt:X.env.builtins=builtinsNs
 above:X.s₀.heap.objs.size<=X.env.locals
 inj:∀x y c,X.env.cells.lookup x=some c->X.env.cells.lookup y=some c->x=y
 has:∀x,(X.env.kindOf x=some .cell\/X.env.kindOf x=some .free)->∃c,X.env.cells.lookup x=some c
 cab:∀x c,X.fn x=true->X.env.cells.lookup x=some c->X.s₀.heap.objs.size<=c
 hd:X.calm=true->X.A.handled=none
 frames:X.A.frames=some X.stack
 stk:X.stack=X.outer\/(X.stack=X.env::X.outer/\X.env.frame=some X.env.locals)
 exf:∀b∈X.ex,b≠X.env.locals/\∀x c,X.env.cells.lookup x=some c->c≠b
 bs:∀b o,X.base.get? b=some o->X.s₀.heap.get? b=some o/\X.H₀ b=none
 bsz:X.base.objs.size<=X.s₀.heap.objs.size
 noex:∀b o,X.base.get? b=some o->b∉X.ex
 exfs:∀b∈X.ex,b∉X.fs
 funs:X.s₀.heap.FunFrames X.base X.outer
 frf:∀b∈X.fs,X.H₀ b=none
structure Inv(X:Cx)(pins:List (Addr×Obj))(Y:List (Option V))(H:Hp)(s:Shared):Prop where
 ok:X.Ok
 os:s.os=X.s₀.os
 bare:AllBare s.gens
 base:Un X.fs X.ex X.H₀ H X.s₀.heap s.heap
 loc:∃m,s.heap.Ns X.env.locals m/\∀(i:Nat)(x:Str)(v:V),X.N[i]?=some x->Y[i]?=some (some v)->Vis X.env.scope x->∃u,RelV v u/\Look X.env s.heap m x u
 cell:∀x c,X.env.cells.lookup x=some c->∃v,s.heap.IsCell c v
 free:H X.env.locals=none
 freeC:∀x c,X.env.cells.lookup x=some c->H c=none
 pin:∀p∈X.pn++pins,s.heap.get? p.1=some p.2/\H p.1=none/\p.1≠X.env.locals/\p.1∉X.fs/\∀v,p.2.data≠.cell v
 hok:HOk X.prog X.w H s.heap
 len:Y.length=X.N.length
section
variable {X:Cx} {pins:List (Addr×Obj)} {σ:List (Option V)} {H H':Hp} {s:Shared} {h':Heap}
theorem Cx.Ok.nofr(ok:X.Ok){b:Addr}{o:Obj}(e:X.base.get? b=some o):b∉X.fs:=λhb=>by
 have:=(ok.funs.mem hb).1;rw[e]at this;cases this
theorem Inv.bs(I:Inv X pins σ H s):∀b o,X.base.get? b=some o->s.heap.get? b=some o/\H b=none:=λb o e=>
 ⟨I.base.keep b o (I.ok.bs b o e).1 (I.ok.bs b o e).2 (I.ok.nofr e) (I.ok.noex b o e),I.base.free b o (I.ok.bs b o e).1 (I.ok.bs b o e).2 (I.ok.noex b o e)⟩
theorem Inv.bk(I:Inv X pins σ H s):∀b o,X.base.get? b=some o->s.heap.get? b=some o:=λb o e=>(I.bs b o e).1
theorem Inv.mod(I:Inv X pins σ H s):Mod X.K X.mg X.base:=I.ok.mod
theorem Inv.kIn(I:Inv X pins σ H s):X.K.In s.heap:=I.ok.mod.kin.keeps I.bk
theorem Inv.lt(I:Inv X pins σ H s):X.env.locals < (~~~s):=let ⟨_,hn,_⟩:=I.loc;hn.lt
theorem Inv.sz(I:Inv X pins σ H s):X.s₀.heap.objs.size<=(~~~s):=cp I.ok.above (Nat.le_of_lt I.lt)
theorem Inv.nofs(I:Inv X pins σ H s){a:Addr}(h:(~~~s)<=a):a∉X.fs:=λhb=>by
 obtain ⟨_,o,ho,_⟩:=I.ok.funs.mem hb;exact absurd (b9 (bi ho) (cp I.sz h)) (e9 _)
theorem Inv.cne(I:Inv X pins σ H s):∀x c,X.env.cells.lookup x=some c->c≠X.env.locals:=λx c e z=>by
 obtain ⟨v,o,ho,hd⟩:=I.cell x c e;obtain ⟨m,⟨o',es,ep,ho',hd',_⟩,_⟩:=I.loc;rw[z,ho']at ho;cases ho;rw[hd']at hd;cases hd
theorem Inv.funs(I:Inv X pins σ H s):s.heap.FunFrames X.base X.outer:=by
 have all:∀(l:List Env),(∀b∈frs l,b∈X.fs)->X.s₀.heap.FunFrames X.base l->s.heap.FunFrames X.base l:=by
  intro l;induction l with
  |nil=>intro _ _;trivial
  |cons env r ih=>
   intro hs hl;obtain ⟨hk,⟨L,o,hf,hn,ho,hd⟩,hr⟩:=hl;have hL:L∈X.fs:=hs L (by unfold frs;rw[List.filterMap_cons,hf];exact aS);obtain ⟨sl,e⟩:=I.base.slot L o ho (I.ok.frf L hL) hL λz=>I.ok.exfs L z hL;exact ⟨hk,⟨L,_,hf,hn,e,hd⟩,ih (λb hb=>hs b (by unfold frs;rw[List.filterMap_cons,hf];exact aI _ hb)) hr⟩
 exact all X.outer (λ_ hb=>hb) I.ok.funs
theorem Inv.stack(I:Inv X pins σ H s):s.heap.FunFrames X.base X.stack:=by
 rcases I.ok.stk with e |⟨e,hf⟩
 ·rw[e];exact I.funs
 ·rw[e];obtain ⟨m,hn,_⟩:=I.loc;refine .cons (by rw[I.ok.kind];decide) hf hn ?_ I.funs;exact Heap.get?_none_of_le (cp I.ok.bsz I.ok.above)
theorem Inv.stkSub(I:Inv X pins σ H s):∀b∈frs X.stack,b∈X.env.locals::X.fs:=λb hb=>by
 rcases I.ok.stk with e |⟨e,hf⟩
 ·rw[e]at hb;exact aI _ hb
 ·rw[e]at hb;unfold frs at hb;rw[List.filterMap_cons,hf]at hb;exact hb
theorem Inv.stkFree(I:Inv X pins σ H s):∀b∈frs X.stack,H b=none:=λb hb=>by
 rcases ci.mp (I.stkSub b hb) with e |hb
 ·rw[e];exact I.free
 ·obtain ⟨_,o,ho,_⟩:=I.ok.funs.mem hb;exact I.base.free b o ho (I.ok.frf b hb) λz=>I.ok.exfs b z hb
theorem Inv.step{g':Array GenState}{t':Nat}{d':Drawn}{ch:List Addr}(I:Inv X pins σ H s)
  (hch:∀b∈ch,(b∈X.ex\/X.s₀.heap.objs.size<=b)/\b≠X.env.locals/\(∀x c,X.env.cells.lookup x=some c->c≠b)/\∀p∈X.pn++pins,p.1≠b)
  (keep:∀b o,b≠X.env.locals->b∉X.fs->b∉ch->s.heap.get? b=some o->H b=none->h'.get? b=some o)
  (slot:∀b o,b≠X.env.locals->b∈X.fs->b∉ch->s.heap.get? b=some o->H b=none->∃sl,h'.get? b=some { o with slots:=sl }) (free:∀b o,b∉ch->s.heap.get? b=some o->H b=none->H' b=none)
  (there:∀b o,b∉ch->s.heap.get? b=some o->∃o',h'.get? b=some o')
  (tups:∀b xs,H b=some (.tup xs)->H' b=some (.tup xs)) (frzs:∀b o u,H b=some (.frz o u)->H' b=some (.frz o u)) (tbls:∀b ps,H b=some (.tbl ps)->∃more,H' b=some (.tbl (ps++more)))
  (ns:∀m,s.heap.Ns X.env.locals m->h'.Ns X.env.locals m) (hok:HOk X.prog X.w H' h') (hg:AllBare g'):
  Inv X pins σ H' { s with heap:=h',gens:=g',drawn:=d',toks:=t' }:=by
 have neL:∀b o,X.s₀.heap.get? b=some o->b≠X.env.locals:=λb o e=>dA (b9 (bi e) I.ok.above);have neC:∀b o,X.s₀.heap.get? b=some o->b∉X.ex->b∉ch:=λb o e hx hb=>by
  rcases (hch b hb).1 with z |z
  ·exact hx z
  ·exact absurd (b9 (bi e) z) (e9 _)
 have cellK:∀x c,X.env.cells.lookup x=some c->∀v,s.heap.IsCell c v->h'.IsCell c v:=λx c e v ⟨o,ho,hd⟩=>by
  have nch:c∉ch:=λz=>(hch c z).2.2.1 x c e rfl;by_cases hc:c∈X.fs
  ·obtain ⟨sl,q⟩:=slot c o (I.cne x c e) hc nch ho (I.freeC x c e);exact ⟨_,q,hd⟩
  ·exact ⟨o,keep c o (I.cne x c e) hc nch ho (I.freeC x c e),hd⟩
 refine ⟨I.ok,I.os,hg,⟨λb o e n hb hx=>?_,λb o e n hb hx=>?_,λb o e n hx=>?_,λb o e hx=>?_,λb xs e=>tups b xs (I.base.tups b xs e),λb o xs e=>frzs b o xs (I.base.frzs b o xs e),λb ps e=>?_⟩,?_,λx c e=>?_,?_,λx c e=>?_,λp hp=>?_,hok,I.len⟩
 ·exact keep b o (neL b o e) hb (neC b o e hx) (I.base.keep b o e n hb hx) (I.base.free b o e n hx)
 ·obtain ⟨sl,e1⟩:=I.base.slot b o e n hb hx;obtain ⟨sl',e2⟩:=slot b _ (neL b o e) hb (neC b o e hx) e1 (I.base.free b o e n hx);exact ⟨sl',e2⟩
 ·obtain ⟨o',e1⟩:=I.base.there b o e hx;exact free b o' (neC b o e hx) e1 (I.base.free b o e n hx)
 ·obtain ⟨o',e1⟩:=I.base.there b o e hx;exact there b o' (neC b o e hx) e1
 ·obtain ⟨m1,e1⟩:=I.base.tbls b ps e;obtain ⟨m2,e2⟩:=tbls b _ e1;exact ⟨m1++m2,by rw[e2,Array.append_assoc]⟩
 ·obtain ⟨m,hn,hl⟩:=I.loc;refine ⟨m,ns m hn,λi x v e1 e2 e3=>?_⟩;obtain ⟨u,r,l⟩:=hl i x v e1 e2 e3;refine ⟨u,r,?_⟩;rcases l with l |⟨k,c,e,z⟩
  ·exact .inl l
  ·exact .inr ⟨k,c,e,cellK x c e _ z⟩
 ·obtain ⟨v,z⟩:=I.cell x c e;exact ⟨v,cellK x c e v z⟩
 ·obtain ⟨m,⟨o,_,_,ho,_⟩,_⟩:=I.loc;exact free _ o (λz=>(hch _ z).2.1 rfl) ho I.free
 ·obtain ⟨v,o,ho,hd⟩:=I.cell x c e;exact free c o (λz=>(hch c z).2.2.1 x c e rfl) ho (I.freeC x c e)
 ·obtain ⟨e,n,ne,nf,d⟩:=I.pin p hp;have nch:p.1∉ch:=λz=>(hch p.1 z).2.2.2 p hp rfl;exact ⟨keep p.1 p.2 ne nf nch e n,free p.1 p.2 nch e n,ne,nf,d⟩
theorem Inv.un{t':Nat}(I:Inv X pins σ H s)(u:Un X.fs [] H H' s.heap h')(hok:HOk X.prog X.w H' h'):Inv X pins σ H' { s with heap:=h',toks:=t' }:=by
 obtain ⟨m,⟨o,es,ep,ho,r⟩,_⟩:=id I.loc;obtain ⟨sl,hL⟩:=u.any ho I.free (by simp);exact I.step (g':=s.gens) (d':=s.drawn) (ch:=[]) (λ_ z=>nomatch z) (λb o _ hb _ e n=>u.keep b o e n hb (by simp)) (λb o _ hb _ e n=>u.slot b o e n hb (by simp)) (λb o _ e n=>u.free b o e n (by simp)) (λb o _ e=>u.there b o e (by simp)) u.tups u.frzs u.tbls (λm' hm=>by
  obtain ⟨o',es',ep',ho',r'⟩:=hm;rw[ho]at ho';cases ho';exact ⟨_,es',ep',hL,r'⟩) hok I.bare
theorem Inv.call{g':Array GenState}{t':Nat}{d':Drawn}{ch:List Addr}(I:Inv X pins σ H s)(u:Un (frs X.stack) ch H H' s.heap h')(hok:HOk X.prog X.w H' h')(hg:AllBare g')
  (hch:∀b∈ch,(b∈X.ex\/X.s₀.heap.objs.size<=b)/\b≠X.env.locals/\(∀x c,X.env.cells.lookup x=some c->c≠b)/\∀p∈X.pn++pins,p.1≠b):
  Inv X pins σ H' { s with heap:=h',gens:=g',drawn:=d',toks:=t' }:=by
 obtain ⟨m,⟨o,es,ep,ho,r⟩,_⟩:=id I.loc;obtain ⟨sl,hL⟩:=u.any ho I.free λz=>(hch _ z).2.1 rfl;exact I.step (ch:=ch) hch (λb o hL hb hc e n=>u.keep b o e n (λz=>(ci.mp (I.stkSub b z)).elim hL hb) hc) (λb o _ _ hc e n=>u.any e n hc) (λb o hc e n=>u.free b o e n hc) (λb o hc e=>u.there b o e hc) u.tups u.frzs u.tbls (λm' hm=>by
  obtain ⟨o',es',ep',ho',r'⟩:=hm;rw[ho]at ho';cases ho';exact ⟨_,es',ep',hL,r'⟩) hok hg
theorem Inv.turned{t':Nat}{it:Addr}(I:Inv X pins σ H s)(k:∀b o,b≠it->s.heap.get? b=some o->h'.get? b=some o)(hn:H it=none)(hL:it≠X.env.locals)
  (h1:it∈X.ex\/X.s₀.heap.objs.size<=it) (h2:∀x c,X.env.cells.lookup x=some c->c≠it) (h3:∀p∈X.pn++pins,p.1≠it):Inv X pins σ H { s with heap:=h',toks:=t' }:=by
 have nit:∀b u,H b=some u->b≠it:=λb u e z=>by rw[z,hn]at e;cases e
 refine I.step (g':=s.gens) (d':=s.drawn) (ch:=[it]) (λb hb=>?_) (λb o _ _ hc e _=>k b o (λz=>hc (by simp[z])) e) (λb o _ _ hc e _=>⟨o.slots,k b o (λz=>hc (by simp[z])) e⟩) (λ_ _ _ _ n=>n)
  (λb o hc e=>⟨o,k b o (λz=>hc (by simp[z])) e⟩) (λ_ _ e=>e) (λ_ _ _ e=>e) (λb ps e=>⟨#[],by rw[e];simp⟩) (λm hm=>?_) (λb u e=>?_) I.bare
 ·have e:b=it:=by simpa using hb
  subst e;exact ⟨h1,hL,h2,h3⟩
 ·obtain ⟨o,es,ep,ho,r⟩:=hm;exact ⟨o,es,ep,k _ o (Ne.symm hL) ho,r⟩
 ·refine (I.hok b u e).stay (λc v hc q=>k c v ?_ q) (λ_ q=>q) λ_ _ q=>q;rcases hc with z |z
  ·rw[z];exact nit b u e
  ·exact nit c _ z
theorem Inv.tok(I:Inv X pins σ H s)(t:Nat):Inv X pins σ H { s with toks:=t }:=I.un (h':=s.heap) (t':=t) Un.refl I.hok
theorem Inv.kept{t':Nat}(I:Inv X pins σ H s)(k:∀b u,s.heap.get? b=some u->h'.get? b=some u):Inv X pins σ H { s with heap:=h',toks:=t' }:=I.un (Un.kept k) (I.hok.kept k)
theorem Inv.laid{a:Addr}{o:HO}{t':Nat}(I:Inv X pins σ H s)(k:∀b u,s.heap.get? b=some u->h'.get? b=some u)(hp:(~~~s)<=a)(new:ObjOk X.prog X.w (upd H a o) h' a o):
  Inv X pins σ (upd H a o) { s with heap:=h',toks:=t' }:=I.un (Un.laid k hp (I.hok.fresh hp)) (I.hok.laid k hp new)
theorem Inv.write{x e:Addr}{o:HO}{t':Nat}(I:Inv X pins σ H s)(mu:Mut (H x))(he:e=x\/H e=some (.own x))(k:∀b u,b≠e->s.heap.get? b=some u->h'.get? b=some u)(heo:∃u,h'.get? e=some u)
  (new:ObjOk X.prog X.w (upd H x o) h' x o):Inv X pins σ (upd H x o) { s with heap:=h',toks:=t' }:=I.un (Un.write mu he k heo) (I.hok.write mu he k heo new)
theorem Inv.pins_of{pins':List (Addr×Obj)}(I:Inv X pins σ H s)(h:∀p∈pins',s.heap.get? p.1=some p.2/\H p.1=none/\p.1≠X.env.locals/\p.1∉X.fs/\∀v,p.2.data≠.cell v):Inv X pins' σ H s:=
 ⟨I.ok,I.os,I.bare,I.base,I.loc,I.cell,I.free,I.freeC,λp hp=>(bP.mp hp).elim (λz=>I.pin p (gd _ z)) (h p),I.hok,I.len⟩
theorem Dt{N:List Str}(hN:N.Nodup){i j:Nat}{x:Str}(a:N[i]?=some x)(b:N[j]?=some x):i=j:=by obtain ⟨h1,e1⟩:=am.mp a;obtain ⟨h2,e2⟩:=am.mp b;exact (List.getElem_inj hN).mp (e1.trans e2.symm)
theorem Xc{M:Model}{A:Around}{E:Value->Shared->Prop}{i:Nat}{x:Str}{v:V}{u:Value}{Q:Unit->Shared->Prop}(I:Inv X pins σ H s)(hN:X.N.Nodup)(hi:X.N[i]?=some x)(hx:Loc X.env.scope x)(r:RelV v u)
  (h:∀s',Inv X pins (σ.set i (some v)) H s'->(∃a,Heap.SameBut a s.heap s'.heap/\(a=X.env.locals\/X.env.cells.lookup x=some a))->Q () s') (hf:X.fn x=true\/X.env.scope.names.lookup x=some .local:=by first |exact .inl rfl |exact .inr rfl |assumption):wpAny M A (storeName X.env x u) Q E s:=by
 obtain ⟨m,hn,hl⟩:=id I.loc;have hcls:(X.env.scope.kind==.class||(X.env.scope.kind==.module&&X.env.locals != X.env.globals))=false:=by rw[I.ok.kind];rfl
 have hiσ:i < σ.length:=by rw[I.len];exact (am.mp hi).1
 have cne:=I.cne;have tracked:∀{a:Addr}{h':Heap},(∃o,s.heap.get? a=some o/\H a=none)->Heap.SameBut a s.heap h'->HOk X.prog X.w H h':=λ{a h'} ha hs b ob e=>by
  obtain ⟨_,_,hfree⟩:=ha;refine (I.hok b ob e).stay (λc w' hc q=>(hs.2 c ?_).trans q) (λ_ q=>q) λ_ _ q=>q;rintro rfl;rcases hc with rfl |hc
  ·rw[hfree]at e;cases e
  ·rw[hfree]at hc;cases hc
 rcases hx with hk |hk
 ·refine wpAny_storeName_local hk hn (λh' hn' hs=>?_) hcls;obtain ⟨oL,_,_,hoL,_⟩:=id hn;refine h _ ⟨I.ok,I.os,I.bare,⟨λb o e n hb hx=>?_,λb o e n hb hx=>?_,I.base.free,λb o e hx=>?_,I.base.tups,I.base.frzs,I.base.tbls⟩,⟨_,hn',λj y v' e1 e2 e3=>?_⟩,λy c e=>?_,I.free,I.freeC,λp hp=>?_,tracked ⟨oL,hoL,I.free⟩ hs,by simpa using I.len⟩ ⟨_,hs,.inl rfl⟩
  ·exact (hs.2 b (dA (b9 (bi e) I.ok.above))).trans (I.base.keep b o e n hb hx)
  ·obtain ⟨sl,e1⟩:=I.base.slot b o e n hb hx;exact ⟨sl,(hs.2 b (dA (b9 (bi e) I.ok.above))).trans e1⟩
  ·obtain ⟨o',e1⟩:=I.base.there b o e hx;exact ⟨o',(hs.2 b (dA (b9 (bi e) I.ok.above))).trans e1⟩
  ·by_cases hj:j=i
   ·subst hj;rw[hi]at e1;cases e1;rw[List.getElem?_set_self hiσ]at e2;cases e2;exact ⟨u,r,.inl ⟨hk,by simp⟩⟩
   ·rw[List.getElem?_set_ne (Ne.symm hj)]at e2;obtain ⟨u',r',q⟩:=hl j y v' e1 e2 e3;refine ⟨u',r',?_⟩;rcases q with ⟨k,e⟩ |⟨k,c,e,z⟩
    ·refine .inl ⟨k,?_⟩;have:y≠x:=λe=>hj (Dt hN e1 (e ▸ hi));simp[this,e]
    ·exact .inr ⟨k,c,e,z.sameBut hs (cne y c e)⟩
  ·obtain ⟨w',z⟩:=I.cell y c e;exact ⟨w',z.sameBut hs (cne y c e)⟩
  ·obtain ⟨e,n,ne,nf,d⟩:=I.pin p hp;exact ⟨(hs.2 p.1 ne).trans e,n,ne,nf,d⟩
 ·have hfn:X.fn x=true:=by
   rcases hf with z |z
   ·exact z
   ·rw[z]at hk;cases hk
  obtain ⟨c,hc⟩:=I.ok.has x (.inl hk);obtain ⟨w',z⟩:=I.cell x c hc;refine wpAny_storeName_cell I.ok.kind hk hc z (λh' hc' hs=>?_);obtain ⟨oc,hoc,hocd⟩:=id z;refine h { s with heap:=h' } ⟨I.ok,I.os,I.bare,⟨λb o e n hb hx=>?_,λb o e n hb hx=>?_,I.base.free,λb o e hx=>?_,I.base.tups,I.base.frzs,I.base.tbls⟩,⟨m,hn.sameBut hs (Ne.symm (cne x c hc)),λj y v' e1 e2 e3=>?_⟩,λy c' e=>?_,I.free,I.freeC,λp hp=>?_,tracked ⟨oc,hoc,I.freeC x c hc⟩ hs,by simpa using I.len⟩ ⟨c,hs,.inr hc⟩
  ·exact (hs.2 b (dA (b9 (bi e) (I.ok.cab x c hfn hc)))).trans (I.base.keep b o e n hb hx)
  ·obtain ⟨sl,e1⟩:=I.base.slot b o e n hb hx;exact ⟨sl,(hs.2 b (dA (b9 (bi e) (I.ok.cab x c hfn hc)))).trans e1⟩
  ·obtain ⟨o',e1⟩:=I.base.there b o e hx;exact ⟨o',(hs.2 b (dA (b9 (bi e) (I.ok.cab x c hfn hc)))).trans e1⟩
  ·by_cases hj:j=i
   ·subst hj;rw[hi]at e1;cases e1;rw[List.getElem?_set_self hiσ]at e2;cases e2;exact ⟨u,r,.inr ⟨.inl hk,c,hc,hc'⟩⟩
   ·rw[List.getElem?_set_ne (Ne.symm hj)]at e2;obtain ⟨u',r',q⟩:=hl j y v' e1 e2 e3;refine ⟨u',r',?_⟩;rcases q with q |⟨k,c',e,z'⟩
    ·exact .inl q
    ·refine .inr ⟨k,c',e,z'.sameBut hs ?_⟩;rintro rfl;exact hj (Dt hN e1 (I.ok.inj _ _ _ e hc ▸ hi))
  ·by_cases hcc:c'=c
   ·subst hcc;exact ⟨_,hc'⟩
   ·obtain ⟨w2,z2⟩:=I.cell y c' e;exact ⟨w2,z2.sameBut hs hcc⟩
  ·obtain ⟨e,n,ne,nf,d⟩:=I.pin p hp;refine ⟨(hs.2 p.1 ?_).trans e,n,ne,nf,d⟩;intro q;rw[q,hoc]at e;have q':oc=p.2:=dE e;exact d w' (by rw[<-q'];exact hocd)
theorem rZ{M:Model}{A:Around}{E:Value->Shared->Prop}{i:Nat}{x:Str}{v:V}{u:Value}{Q:Unit->Shared->Prop}(I:Inv X pins σ H s)(hN:X.N.Nodup)(hi:X.N[i]?=some x)(hx:Loc X.env.scope x)(r:RelV v u)
  (h:∀s',Inv X pins (σ.set i (some v)) H s'->Q () s') (hf:X.fn x=true\/X.env.scope.names.lookup x=some .local:=by first |exact .inl rfl |exact .inr rfl |assumption):wpAny M A (storeName X.env x u) Q E s:=
 Xc I hN hi hx r (λs' I' _=>h s' I') hf
theorem Inv.call'{s':Shared}{ch:List Addr}(I:Inv X pins σ H s)(ho:s'.os=s.os)(u:Un (frs X.stack) ch H H' s.heap s'.heap)(hok:HOk X.prog X.w H' s'.heap)(hg:AllBare s'.gens)
  (hch:∀b∈ch,(b∈X.ex\/X.s₀.heap.objs.size<=b)/\b≠X.env.locals/\(∀x c,X.env.cells.lookup x=some c->c≠b)/\∀p∈X.pn++pins,p.1≠b):Inv X pins σ H' s':=by
 obtain ⟨h',g',d',t',o'⟩:=s';have e:o'=s.os:=ho;subst e;exact I.call (g':=g') (t':=t') (d':=d') u hok hg hch
end
abbrev XK:=Value->Option Addr->Hp->Prop
abbrev St:=List (Option V)
abbrev VK:=V->Hp->Prop
abbrev TE:=St->Hp->VK->Prop
abbrev TT:=St->Hp->(Bool->Hp->Prop)->Prop
abbrev TA:=St->Hp->(List V->Hp->Prop)->Prop
structure Ends where
 nx:St->Hp->Prop
 rt:VK
 bk:St->Hp->Prop:=λ_ _=>False
 ct:St->Hp->Prop:=λ_ _=>False
abbrev TS:=Ends->St->Hp->Prop
def EP(X:Cx)(pins:List (Addr×Obj))(Y:St)(Q:VK)(u:Value)(s':Shared):Prop:=∃v H',Inv X pins Y H' s'/\RelV v u/\Q v H'
def TP(X:Cx)(pins:List (Addr×Obj))(Y:St)(Q:Bool->Hp->Prop)(b:Bool)(s':Shared):Prop:=∃H',Inv X pins Y H' s'/\Q b H'
def AP(X:Cx)(pins:List (Addr×Obj))(Y:St)(Q:List V->Hp->Prop)(us:List Value)(s':Shared):Prop:=∃vs H',Inv X pins Y H' s'/\Vals vs us/\Q vs H'
def SP(X:Cx)(pins:List (Addr×Obj))(D:Ends)(f:Flow)(s':Shared):Prop:=
 match f with
 |.next=>∃σ' H',Inv X pins σ' H' s'/\D.nx σ' H'
 |.brk=>∃σ' H',Inv X pins σ' H' s'/\D.bk σ' H'
 |.cont=>∃σ' H',Inv X pins σ' H' s'/\D.ct σ' H'
 |.ret u=>∃v σ' H',Inv X pins σ' H' s'/\RelV v u/\D.rt v H'
def PE(X:Cx)(e:Expr)(t:TE):Prop:=
 ∀(pins:List (Addr×Obj))(s:Shared)(Y:St)(H:Hp)(Q:VK),Inv X pins Y H s->t Y H Q->↥X (eval e X.env) (EP X pins Y Q) X.xe s
def PT(X:Cx)(e:Expr)(t:TT):Prop:=
 ∀(pins:List (Addr×Obj))(s:Shared)(Y:St)(H:Hp)(Q:Bool->Hp->Prop),Inv X pins Y H s->t Y H Q->↥X (isTrue e X.env (eval e X.env)) (TP X pins Y Q) X.xe s
def PW(X:Cx)(e:Expr)(t:TT):Prop:=
 ∀(whole:Sem Value)(pins:List (Addr×Obj))(s:Shared)(Y:St)(H:Hp)(Q:Bool->Hp->Prop),Inv X pins Y H s->t Y H Q->↥X (isTrue e X.env whole) (TP X pins Y Q) X.xe s
theorem PW.pt{X:Cx}{e:Expr}{t:TT}(h:PW X e t):PT X e t:=h _
def PA(X:Cx)(es:List Expr)(t:TA):Prop:=
 ∀(pos:Pos)(pins:List (Addr×Obj))(s:Shared)(Y:St)(H:Hp)(Q:List V->Hp->Prop),Inv X pins Y H s->t Y H Q->↥X (spliced (backTo pos (starEach es X.env))) (AP X pins Y Q) X.xe s
def PS(X:Cx)(st:Stmt)(t:TS):Prop:=
 ∀(pins:List (Addr×Obj))(s:Shared)(Y:St)(H:Hp)(D:Ends),Inv X pins Y H s->t D Y H->↥X (exec st X.env) (SP X pins D) X.xe s
def PSs(X:Cx)(st:List Stmt)(t:TS):Prop:=
 ∀(pins:List (Addr×Obj))(s:Shared)(Y:St)(H:Hp)(D:Ends),Inv X pins Y H s->t D Y H->↥X (execs st X.env) (SP X pins D) X.xe s
theorem thn{α:Type}{t:Sem α}{Q Q':α->Shared->Prop}{M:Model}{A:Around}{E:Value->Shared->Prop}{s:Shared}(h:wpAny M A t Q E s)(hQ:∀a s,Q a s->Q' a s):wpAny M A t Q' E s:=dS h hQ λ_ _ x=>x
section
variable {X:Cx}
theorem bin{a b:Expr}{ta tb:TE}(ha:PE X a ta)(hb:PE X b tb){pins:List (Addr×Obj)}{s:Shared}{Y:St}{H:Hp}{R:V->V->Hp->Prop}(I:Inv X pins Y H s)(h:ta Y H λx H1=>tb Y H1 λy H2=>R x y H2)
  {α:Type} {Q:α->Shared->Prop} {f:Value->Value->Sem α}
  (hf:∀v u s2 x y H2,Inv X pins Y H2 s2->RelV x v->RelV y u->R x y H2->↥X (f v u) Q X.xe s2):
  ↥X (eval a X.env) (λv s₁=>↥X (eval b X.env) (λu s₂=>↥X (f v u) Q X.xe s₂) X.xe s₁) X.xe s:=by
 refine thn (ha pins s Y H _ I h) λv s1 ⟨x,H1,I1,r1,q1⟩=>?_;refine thn (hb pins s1 Y H1 _ I1 q1) λu s2 ⟨y,H2,I2,r2,q2⟩=>?_;exact hf v u s2 x y H2 I2 r1 r2 q2
def Du(i:Nat):TE:=λY H Q=>∃v,Y[i]?=some (some v)/\Q v H
def tC(v:V):TE:=λ_ H Q=>Q v H
theorem Dv {i:Nat} {x:Str} {pos:Pos} (hN:X.N[i]?=some x) (hv:Vis X.env.scope x) (hd:(x==("__debug__":Str))=false:=by decide) (hcd:(x==("__classdict__":Str))=false:=by decide):PE X (.Name x pos) (Du i):=by
 intro pins s Y H Q I h;obtain ⟨v,e,h⟩:=h;obtain ⟨m,hn,hl⟩:=I.loc;obtain ⟨u,r,l⟩:=hl i x v hN e hv;have fin:EP X pins Y Q u s:=⟨v,H,I,r,h⟩;rcases l with ⟨hk,hm⟩ |⟨hk,c,hc,hcell⟩
 ·exact wpAny_Name (wpAny_loadName_local I.ok.kind hk hn hm fin) hd
 ·rcases hk with hk |hk
  ·exact wpAny_Name (wpAny_loadName_cell I.ok.kind hk hc hcell fin) hd
  ·exact wpAny_Name (wpAny_loadName_free I.ok.kind hk hc hcell fin hcd) hd
theorem Xd{i j pos}:PE X (.Constant (.int i) j pos) (tC (.int i)):=λ_ _ _ H _ I h=>wpAny_Constant_int ⟨.int i,H,I.tok _,⟨_,rfl⟩,h⟩
theorem Xe{b j pos}:PE X (.Constant (.bool b) j pos) (tC (.bl b)):=λ_ _ _ H _ I h=>Constant_bool ⟨.bl b,H,I,rfl,h⟩
theorem Xf{j pos}:PE X (.Constant .none j pos) (tC .non):=λ_ _ _ H _ I h=>Constant_none ⟨.non,H,I,rfl,h⟩
theorem Dw{x j pos}:PE X (.Constant (.str x) j pos) (tC (.str x)):=λ_ _ _ H _ I h=>Calls.Constant_str ⟨.str x,H,I.tok _,⟨_,rfl⟩,h⟩
def Gl(X:Cx)(x:Str):Prop:=X.env.kindOf x=some .globalImplicit
theorem xK{E:Value->Shared->Prop}{pins:List (Addr×Obj)}{s:Shared}{Y:St}{H:Hp}{x:Str}{u:Value}{pos:Pos}{Q:Value->Shared->Prop}(I:Inv X pins Y H s)(hg:Gl X x)(hm:X.mg x=some u)(h:Q u s)
  (hd:(x==("__debug__":Str))=false:=by decide):↥X (eval (.Name x pos) X.env) Q E s:=
 Calls.Name_function_global I.ok.kind hg (Calls.loadGlobal_global (by rw[I.ok.glob];exact I.mod.glob.keeps I.bk) hm h) hd
theorem gJ{E:Value->Shared->Prop}{pins:List (Addr×Obj)}{s:Shared}{Y:St}{H:Hp}{x:Str}{u:Value}{pos:Pos}{Q:Value->Shared->Prop}(I:Inv X pins Y H s)(hg:Gl X x)(hm:X.mg x=none)(hv:bootBuiltins x=some u)(h:Q u s)
  (hn:x≠"__name__":=by decide) (hd:(x==("__debug__":Str))=false:=by decide):↥X (eval (.Name x pos) X.env) Q E s:=by
 obtain ⟨mb,h1,h2⟩:=I.mod.blt;exact Calls.Name_function_global I.ok.kind hg (Calls.loadGlobal_builtin (by rw[I.ok.glob];exact I.mod.glob.keeps I.bk) hm (by rw[I.ok.blt];exact h1.keeps I.bk) ((h2 x hn).trans hv) h) hd
theorem Xg {x:Str} {v:V} {u:Value} {pos:Pos} (hg:Gl X x) (hm:X.mg x=some u) (r:RelV v u) (hd:(x==("__debug__":Str))=false:=by decide):PE X (.Name x pos) (tC v):=
 λ_ _ _ H _ I h=>xK I hg hm ⟨v,H,I,r,h⟩ hd
theorem Xh {x:Str} {v:V} {u:Value} {pos:Pos} (hg:Gl X x) (hm:X.mg x=none) (hv:bootBuiltins x=some u) (r:RelV v u) (hn:x≠"__name__":=by decide) (hd:(x==("__debug__":Str))=false:=by decide):PE X (.Name x pos) (tC v):=
 λ_ _ _ H _ I h=>gJ I hg hm hv ⟨v,H,I,r,h⟩ hn hd
variable {a b:Expr} {ta tb:TE} {pos:Pos}
variable {tA tB':TT} {rest:List Expr}
def Xi(t u:TT):TT:=λY H Q=>t Y H λc H1=>if c=true then u Y H1 Q else Q false H1
def tOr(t u:TT):TT:=λY H Q=>t Y H λc H1=>if c=true then Q true H1 else u Y H1 Q
def Xj(t:TT):TT:=λY H Q=>t Y H λc H1=>Q (!c) H1
theorem Xk(ha:PT X a tA):PW X (.BoolOp .And [a] pos) tA:=by
 intro wh pins s Y H Q I h;refine isTrue_and (thn (ha pins s Y H Q I h) λc s1 e=>?_);cases c with
 |true=>exact isTrue_and_nil e
 |false=>exact e
theorem Xl(ha:PT X a tA):PW X (.BoolOp .Or [a] pos) tA:=by
 intro wh pins s Y H Q I h;refine isTrue_or (thn (ha pins s Y H Q I h) λc s1 e=>?_);cases c with
 |false=>exact isTrue_or_nil e
 |true=>exact e
theorem Xm(ha:PT X a tA)(hb:PW X (.BoolOp .And (b::rest) pos) tB'):PW X (.BoolOp .And (a::b::rest) pos) (Xi tA tB'):=by
 intro wh pins s Y H Q I h;refine isTrue_and (thn (ha pins s Y H _ I h) λc s1 ⟨H1,I1,q1⟩=>?_);cases c with
 |true=>exact hb wh pins s1 Y H1 Q I1 q1
 |false=>exact ⟨H1,I1,q1⟩
theorem Xo(ha:PT X a tA)(hb:PW X (.BoolOp .Or (b::rest) pos) tB'):PW X (.BoolOp .Or (a::b::rest) pos) (tOr tA tB'):=by
 intro wh pins s Y H Q I h;refine isTrue_or (thn (ha pins s Y H _ I h) λc s1 ⟨H1,I1,q1⟩=>?_);cases c with
 |true=>exact ⟨H1,I1,q1⟩
 |false=>exact hb wh pins s1 Y H1 Q I1 q1
theorem Xp(ha:PT X a tA):PT X (.UnaryOp .Not a pos) (Xj tA):=by intro pins s Y H Q I h;exact isTrue_not (ha pins s Y H (λc H1=>Q (!c) H1) I h)
def Xq(ta tb:TE):TE:=λY H Q=>ta Y H λx H1=>∃c,x=.bl c/\if c=true then tb Y H1 Q else Q (.bl false) H1
def Xr(ta tb:TE):TE:=λY H Q=>ta Y H λx H1=>∃c,x=.bl c/\if c=true then Q (.bl true) H1 else tb Y H1 Q
theorem Xu{op}{t:TE}(h:PE X a t):PE X (.BoolOp op [a] pos) t:=λpins s Y H Q I hw=>BoolOp_one (h pins s Y H Q I hw)
theorem Xv(ha:PE X a ta)(hb:PE X (.BoolOp .And (b::rest) pos) tb):PE X (.BoolOp .And (a::b::rest) pos) (Xq ta tb):=by
 intro pins s Y H Q I h;refine BoolOp_and (thn (ha pins s Y H _ I h) λv s1 ⟨x,H1,I1,r1,q1⟩=>?_);obtain ⟨c,rfl,q1⟩:=q1;cases r1;refine fh ?_;cases c with
 |true=>exact hb pins s1 Y H1 Q I1 q1
 |false=>exact ⟨.bl false,H1,I1,rfl,q1⟩
theorem Xw(ha:PE X a ta)(hb:PE X (.BoolOp .Or (b::rest) pos) tb):PE X (.BoolOp .Or (a::b::rest) pos) (Xr ta tb):=by
 intro pins s Y H Q I h;refine BoolOp_or (thn (ha pins s Y H _ I h) λv s1 ⟨x,H1,I1,r1,q1⟩=>?_);obtain ⟨c,rfl,q1⟩:=q1;cases r1;refine fh ?_;cases c with
 |false=>exact hb pins s1 Y H1 Q I1 q1
 |true=>exact ⟨.bl true,H1,I1,rfl,q1⟩
def tIf(t:TT)(ta tb:TE):TE:=λY H Q=>t Y H λc H1=>if c=true then ta Y H1 Q else tb Y H1 Q
theorem Xx{c:Expr}(hc:PT X c tA)(ha:PE X a ta)(hb:PE X b tb):PE X (.IfExp c a b pos) (tIf tA ta tb):=by
 intro pins s Y H Q I h;refine wpAny_IfExp (thn (hc pins s Y H _ I h) λd s1 ⟨H1,I1,q1⟩=>?_);cases d with
 |true=>exact ha pins s1 Y H1 Q I1 q1
 |false=>exact hb pins s1 Y H1 Q I1 q1
end
def SqL(K:PF)(H:Hp)(a:Addr)(xs:List V):Prop:=
 Rd H a (.lst xs)\/
  ∃(o:Obj) (its:Array Value) (n:Nat),K.lookup a=some o/\o.cls=.type "list"/\o.dict=none/\o.data=.seq its n/\its.size<=sizeLine/\Vals xs its.toList
def SqT(K:PF)(H:Hp)(a:Addr)(xs:List V):Prop:=
 Rd H a (.tup xs)\/
  ∃(o:Obj) (its:Array Value) (n:Nat),K.lookup a=some o/\o.cls=.type "tuple"/\o.data=.seq its n/\its.size<=sizeLine/\Vals xs its.toList
def Xy:Value->Option V
 |.none=>some .non
 |.bool b=>some (.bl b)
 |.int i _=>some (.int i)
 |.str x _=>some (.str x)
 |.bytes b _=>some (.byt b)
 |.float b _=>some (.flt b)
 |.ref a=>some (.ref a)
 |.type n=>some (.ty n)
 |_=>none
theorem RelV.abs{x:V}{u:Value}(r:RelV x u):Xy u=some x:=by
 cases x with
 |non=>cases r;rfl
 |bl _=>cases r;rfl
 |int _=>obtain ⟨t,rfl⟩:=r;rfl
 |str _=>obtain ⟨t,rfl⟩:=r;rfl
 |byt _=>obtain ⟨t,rfl⟩:=r;rfl
 |flt _=>obtain ⟨t,rfl⟩:=r;rfl
 |ref _=>cases r;rfl
 |ty _=>cases r;rfl
theorem RelV.inj{x y:V}{u:Value}(r:RelV x u)(q:RelV y u):x=y:=dE (r.abs.symm.trans q.abs)
theorem Vals.inj:∀{xs ys:List V}{us:List Value},Vals xs us->Vals ys us->xs=ys
 |_,_,_,.nil,.nil=>rfl
 |_,_,_,.cons r t,.cons r' t'=>by rw[r.inj r',Vals.inj t t']
section
variable {X:Cx} {pins:List (Addr×Obj)} {σ:St} {H:Hp} {s:Shared} {a:Addr} {xs ys:List V}
theorem SqL.of{K:PF}(h:H a=some (.lst xs)):SqL K H a xs:=.inl (.inl h)
theorem SqT.of{K:PF}(h:H a=some (.tup xs)):SqT K H a xs:=.inl (.inl h)
theorem Inv.list(I:Inv X pins σ H s)(h:SqL X.K H a xs):∃its:List Value,Vals xs its/\PlainL s.heap a its.toArray/\xs.length<=sizeLine:=by
 rcases h with h |⟨o,its,n,hk,hc,hd,hs,hz,r⟩
 ·obtain ⟨z,its,n,r,e⟩:=h.ok I.hok;exact ⟨its,r,⟨_,n,e,rfl,rfl,rfl⟩,z⟩
 ·refine ⟨its.toList,r,⟨o,n,I.kIn a o hk,hc,hd,by simpa using hs⟩,?_⟩;have e:=r.length;simp only[eL]at e;omega
theorem Inv.tuple(I:Inv X pins σ H s)(h:SqT X.K H a xs):∃its:List Value,Vals xs its/\IsTup s.heap a its.toArray/\xs.length<=sizeLine:=by
 rcases h with h |⟨o,its,n,hk,hc,hs,hz,r⟩
 ·obtain ⟨z,its,r,p⟩:=h.ok I.hok;exact ⟨its,r,p,z⟩
 ·refine ⟨its.toList,r,⟨o,I.kIn a o hk,hc,n,by simpa using hs⟩,?_⟩;have e:=r.length;simp only[eL]at e;omega
theorem Inv.list_inj(I:Inv X pins σ H s)(h:SqL X.K H a xs)(h':SqL X.K H a ys):xs=ys:=by
 obtain ⟨its,r,⟨o,n,e,_,_,d⟩,_⟩:=I.list h;obtain ⟨its',r',⟨o',n',e',_,_,d'⟩,_⟩:=I.list h';rw[e]at e';cases e';rw[d]at d';injection d' with d1 _;have:its=its':=by simpa using fE Array.toList d1
 subst this;exact r.inj r'
theorem Inv.tuple_inj(I:Inv X pins σ H s)(h:SqT X.K H a xs)(h':SqT X.K H a ys):xs=ys:=by
 obtain ⟨its,r,⟨o,e,_,n,d⟩,_⟩:=I.tuple h;obtain ⟨its',r',⟨o',e',_,n',d'⟩,_⟩:=I.tuple h';rw[e]at e';cases e';rw[d]at d';injection d' with d1 _;have:its=its':=by simpa using fE Array.toList d1
 subst this;exact r.inj r'
end
abbrev Cx.wish(X:Cx)(E:Value->Shared->Prop):Cx:={ X with xe:=E }
abbrev Cx.nox(X:Cx):Cx:=X.wish λ_ _=>False
theorem Cx.Ok.wish{X:Cx}(ok:X.Ok)(E:Value->Shared->Prop):(X.wish E).Ok:=
 ⟨ok.mod,ok.kind,ok.glob,ok.blt,ok.above,ok.inj,ok.has,ok.cab,ok.hd,ok.frames,ok.stk,ok.exf,ok.bs,ok.bsz,ok.noex,ok.exfs,ok.funs,ok.frf⟩
theorem Cx.Ok.unwish{X:Cx}{E:Value->Shared->Prop}(ok:(X.wish E).Ok):X.Ok:=
 ⟨ok.mod,ok.kind,ok.glob,ok.blt,ok.above,ok.inj,ok.has,ok.cab,ok.hd,ok.frames,ok.stk,ok.exf,ok.bs,ok.bsz,ok.noex,ok.exfs,ok.funs,ok.frf⟩
section
variable {X:Cx} {pins:List (Addr×Obj)} {σ:St} {H:Hp} {s:Shared} {E:Value->Shared->Prop}
theorem Inv.wish(I:Inv X pins σ H s)(E:Value->Shared->Prop):Inv (X.wish E) pins σ H s:=⟨I.ok.wish E,I.os,I.bare,I.base,I.loc,I.cell,I.free,I.freeC,I.pin,I.hok,I.len⟩
theorem Inv.unwish(I:Inv (X.wish E) pins σ H s):Inv X pins σ H s:=⟨I.ok.unwish,I.os,I.bare,I.base,I.loc,I.cell,I.free,I.freeC,I.pin,I.hok,I.len⟩
theorem SP.unwish{D:Ends}{f:Flow}{s':Shared}(h:SP (X.wish E) pins D f s'):SP X pins D f s':=by
 cases f with
 |next=>obtain ⟨σ',H',I,q⟩:=h;exact ⟨σ',H',I.unwish,q⟩
 |brk=>obtain ⟨σ',H',I,q⟩:=h;exact ⟨σ',H',I.unwish,q⟩
 |cont=>obtain ⟨σ',H',I,q⟩:=h;exact ⟨σ',H',I.unwish,q⟩
 |ret u=>obtain ⟨v,σ',H',I,r,q⟩:=h;exact ⟨v,σ',H',I.unwish,r,q⟩
theorem PSs.nox{st:List Stmt}{t:TS}(h:PSs X.nox st t):PSs X st t:=λpins s σ H D I hw=>
 dS (h pins s σ H D (I.wish _) hw) (λ_ _ q=>q.unwish) λ_ _ z=>False.elim z
end
section
variable {X:Cx} {st:Stmt} {rest:List Stmt} {t u:TS} {e:Expr} {te:TE} {pos:Pos}
def Dy:TS:=λD Y H=>D.nx Y H
def Xz(t u:TS):TS:=λD Y H=>t { D with nx:=u D } Y H
theorem XC:PSs X [] Dy:=λ_ _ Y H _ I h=>wpAny_execs_nil ⟨Y,H,I,h⟩
theorem XD(h1:PS X st t)(h2:PSs X rest u):PSs X (st::rest) (Xz t u):=by
 intro pins s Y H D I h;refine wpAny_execs_cons (thn (h1 pins s Y H { D with nx:=u D } I h) λf s1 q=>?_);cases f with
 |next=>
  obtain ⟨σ',H',I',q⟩:=q;exact h2 pins s1 σ' H' D I' q
 |ret v=>exact q
 |brk=>exact q
 |cont=>exact q
def XF:TS:=λD Y H=>D.bk Y H
def XH:TS:=λD Y H=>D.ct Y H
theorem XJ:PS X (.Pass pos) Dy:=λ_ _ Y H _ I h=>wpAny_Pass ⟨Y,H,I,h⟩
theorem XM:PS X (.Break pos) XF:=λ_ _ Y H _ I h=>wpAny_Break ⟨Y,H,I,h⟩
theorem XN:PS X (.Continue pos) XH:=λ_ _ Y H _ I h=>wpAny_Continue ⟨Y,H,I,h⟩
theorem Inv.quiet{pins:List (Addr×Obj)}{Y:St}{H:Hp}{s:Shared}(I:Inv X pins Y H s):interactive X.env=false:=by simp[interactive,I.ok.kind]
def XQ(te:TE):TS:=λD Y H=>te Y H λ_ H1=>D.nx Y H1
theorem XS(he:PE X e te)(hs:swapsWith e none pos.line X.env=pure false:=by rfl):PS X (.Expr e pos) (XQ te):=by intro pins s Y H D I h;exact wpAny_Expr_any (thn (he pins s Y H _ I h) λv s1 ⟨x,H1,I1,r1,q1⟩=>⟨Y,H1,I1,q1⟩) I.quiet hs
def Dz(te:TE):TS:=λD Y H=>te Y H D.rt
theorem XX(he:PE X e te):PS X (.Return (some e) pos) (Dz te):=by intro pins s Y H D I h;exact wpAny_Return_some (thn (he pins s Y H _ I h) λv s1 ⟨x,H1,I1,r1,q1⟩=>⟨x,Y,H1,I1,r1,q1⟩)
def X3:TS:=λD _ H=>D.rt .non H
theorem X4:PS X (.Return none pos) X3:=λ_ _ Y H _ I h=>wpAny_Return_none ⟨.non,Y,H,I,rfl,h⟩
def X5(c:TT)(t u:TS):TS:=λD Y H=>c Y H λb H1=>if b=true then t D Y H1 else u D Y H1
theorem X6{c:Expr}{a b:List Stmt}{tc:TT}(hc:PT X c tc)(ha:PSs X a t)(hb:PSs X b u):PS X (.If c a b pos) (X5 tc t u):=by
 intro pins s Y H D I h;refine wpAny_If (thn (hc pins s Y H _ I h) λd s1 ⟨H1,I1,q1⟩=>?_);cases d with
 |true=>exact ha pins s1 Y H1 D I1 q1
 |false=>exact hb pins s1 Y H1 D I1 q1
def X7:TS:=λ_ _ _=>False
theorem X8:PS X st X7:=λ_ _ _ _ _ _ h=>h.elim
end
abbrev TG:=V->St->Hp->(St->Hp->Prop)->Prop
abbrev TGs:=List V->St->Hp->(St->Hp->Prop)->Prop
def PG(X:Cx)(target:Expr)(t:TG):Prop:=
 ∀(pins:List (Addr×Obj))(s:Shared)(Y:St)(H:Hp)(v:V)(u:Value)(Q:St->Hp->Prop),Inv X pins Y H s->RelV v u->t v Y H Q->
  ↥X (assign target X.env u) (λ_ s'=>∃σ' H',Inv X pins σ' H' s'/\Q σ' H') X.xe s
def PGs(X:Cx)(ts:List Expr)(t:TGs):Prop:=
 ∀(pins:List (Addr×Obj))(s:Shared)(Y:St)(H:Hp)(vs:List V)(us:List Value)(Q:St->Hp->Prop),Inv X pins Y H s->Vals vs us->t vs Y H Q->
  ↥X (assignInOrder ((assignEach ts X.env).map (·.2)) us) (λ_ s'=>∃σ' H',Inv X pins σ' H' s'/\Q σ' H') X.xe s
abbrev lC:=V->V->V->Hp->(Hp->Prop)->Prop
def sr(X:Cx)(t:lC):Prop:=
 ∀(pins:List (Addr×Obj))(s:Shared)(Y:St)(H:Hp)(o i v:V)(ov iv u:Value)(Q:Hp->Prop),Inv X pins Y H s->RelV o ov->RelV i iv->RelV v u->t o i v H Q->
  ↥X (setItem ov iv u) (λ_ s'=>∃H',Inv X pins Y H' s'/\Q H') X.xe s
abbrev TIp:=V->V->Hp->VK->Prop
def PIp(X:Cx)(op:Operator)(t:TIp):Prop:=
 ∀(pins:List (Addr×Obj))(s:Shared)(Y:St)(H:Hp)(x y:V)(v u:Value)(Q:VK),Inv X pins Y H s->RelV x v->RelV y u->t x y H Q->
  ↥X (inplaceOp op v u) (EP X pins Y Q) X.xe s
section
variable {X:Cx} {pos:Pos}
def su(i:Nat):TG:=λv Y H Q=>Q (Y.set i (some v)) H
theorem Yb{i:Nat}{x:Str}(hN:X.N.Nodup)(hi:X.N[i]?=some x)(hx:Loc X.env.scope x)(hf:X.fn x=true\/X.env.scope.names.lookup x=some .local:=by first |exact .inl rfl |exact .inr rfl |assumption):PG X (.Name x pos) (su i):=by intro pins s Y H v u Q I r h;exact wpAny_assign_Name (rZ I hN hi hx r (λs' I'=>⟨_,H,I',h⟩) hf)
def Yc:TGs:=λvs Y H Q=>vs=[]/\Q Y H
def Yd(t:TG)(u:TGs):TGs:=λvs Y H Q=>∃v r,vs=v::r/\t v Y H λσ' H'=>u r σ' H' Q
theorem Ye:PGs X [] Yc:=by intro pins s Y H vs us Q I r h;obtain ⟨e,h⟩:=h;subst e;cases r;exact assignInOrder_nil ⟨Y,H,I,h⟩
theorem Yg{e:Expr}{es:List Expr}{t:TG}{u:TGs}(h1:PG X e t)(h2:PGs X es u)
  (hs:(assignEach (e::es) X.env).map (·.2)=assign e X.env::(assignEach es X.env).map (·.2):=by rfl):PGs X (e::es) (Yd t u):=by
 intro pins s Y H vs us Q I r h;obtain ⟨v,vr,e1,h⟩:=h;subst e1;cases r with
 |cons r rr=>
  rw[hs];refine assignInOrder_cons (thn (h1 pins s Y H _ _ _ I r h) λ_ s1 ⟨σ1,H1,I1,q1⟩=>?_);exact h2 pins s1 σ1 H1 _ _ Q I1 rr q1
def Yh(K:PF)(n:Nat)(t:TGs):TG:=λv Y H Q=>∃a xs,v=.ref a/\SqT K H a xs/\xs.length=n/\t xs Y H Q
theorem Yi{es:List Expr}{k:Nat}{t:TGs}{n:Nat}(hc:X.calm=true)(h:PGs X es t)
  (hn:(assignEach es X.env).length=n:=by rfl) (hst:(assignEach es X.env).findIdx? (·.1)=none:=by rfl):PG X (.Tuple es k pos) (Yh X.K n t):=by
 intro pins s Y H v u Q I r hw;obtain ⟨a,xs,e1,hq,hl,hw⟩:=hw;subst e1;cases r;obtain ⟨its,rv,ht,hz⟩:=I.tuple hq;refine assign_Tuple_tuple (I.ok.hd hc) ht (by simp[hn,<-hl,rv.length]) hst λh' hx=>?_;have I1:Inv X pins Y H { s with heap:=h' }:=I.kept (t':=s.toks) λb o e=>hx b o (dA (bi e)) e;exact h pins _ Y H xs _ Q I1 (by simpa using rv) hw
def Yj(to ti:TE)(t:lC):TG:=λv Y H Q=>to Y H λo H1=>ti Y H1 λi H2=>t o i v H2 λH3=>Q Y H3
theorem Yk{o i:Expr}{to ti:TE}{t:lC}(ho:PE X o to)(hi:PE X i ti)(hs:sr X t)
  (ha:∀v,assign (.Subscript o i pos) X.env v=(do
   let ov <-holding [v] (eval o X.env)
   let iv <-holding [v,ov] (eval i X.env)
   standAt pos
   holding [v,ov,iv] (setItem ov iv v)
   release [v,ov,iv] []):=by intro _;rfl):PG X (.Subscript o i pos) (Yj to ti t):=by
 intro pins s Y H v u Q I r h;rw[ha];refine al (fe (thn (ho pins s Y H _ I h) λov s1 ⟨x,H1,I1,r1,q1⟩=>?_));refine al (fe (thn (hi pins s1 Y H1 _ I1 q1) λiv s2 ⟨y,H2,I2,r2,q2⟩=>?_));refine al (ib (al (fe (thn (hs pins s2 Y H2 x y v ov iv u _ I2 r1 r2 r q2) λ_ s3 ⟨H3,I3,q3⟩=>?_))));exact wpAny_release ⟨Y,H3,I3,q3⟩
def sy(te:TE)(g:TG):TS:=λD Y H=>te Y H λx H1=>g x Y H1 D.nx
theorem DG{tg e:Expr}{te:TE}{g:TG}(he:PE X e te)(hg:PG X tg g)(hs:swapsWithSole [tg] e pos.line X.env=pure false:=by rfl)(hw:swappedStores [tg] e X.env=pure none:=by rfl)
  (h1:(assignEach [tg] X.env).map (·.2)=[assign tg X.env]:=by rfl):PS X (.Assign [tg] e pos) (sy te g):=by
 intro pins s Y H D I h;refine wpAny_Assign_stores (thn (he pins s Y H _ I h) λv s1 ⟨x,H1,I1,r1,q1⟩=>?_) hs hw;rw[h1];exact thn (hg pins s1 Y H1 x v _ I1 r1 q1) λ_ s2 q=>q
theorem xM{i:Nat}{x:Str}{e:Expr}{te:TE}{pos':Pos}(hN:X.N.Nodup)(hi:X.N[i]?=some x)(hx:Loc X.env.scope x)(he:PE X e te)(hs:swapsWith e (some (.Name x pos')) pos.line X.env=pure false:=by rfl)(hf:X.fn x=true\/X.env.scope.names.lookup x=some .local:=by first |exact .inl rfl |exact .inr rfl |assumption):
  PS X (.Assign [.Name x pos'] e pos) (sy te (su i)):=by
 intro pins s Y H D I h;refine wpAny_Assign_Name (thn (he pins s Y H _ I h) λv s1 ⟨y,H1,I1,r1,q1⟩=>?_) hs;exact rZ I1 hN hi hx r1 (λs2 I2=>⟨_,H1,I2,q1⟩) hf
def Yl(i:Nat)(te:TE)(ti:TIp):TS:=λD Y H=>∃x,Y[i]?=some (some x)/\te Y H λy H1=>ti x y H1 λz H2=>D.nx (Y.set i (some z)) H2
theorem Ym{i:Nat}{x:Str}{e:Expr}{te:TE}{op:Operator}{ti:TIp}{pos':Pos}(hN:X.N.Nodup)(hi:X.N[i]?=some x)(hx:Loc X.env.scope x)(he:PE X e te)(ho:PIp X op ti)(hf:X.fn x=true\/X.env.scope.names.lookup x=some .local:=by first |exact .inl rfl |exact .inr rfl |assumption):
  PS X (.AugAssign (.Name x pos') op e pos) (Yl i te ti):=by
 intro pins s Y H D I h;obtain ⟨v,e1,h⟩:=h;obtain ⟨m,hn,hl⟩:=I.loc;have vis:Vis X.env.scope x:=by rcases hx with k |k;exact .inl k;exact .inr (.inl k)
 obtain ⟨u,r,l⟩:=hl i x v hi e1 vis;refine wpAny_AugAssign_Name ?_;have go:↥X (eval e X.env) (λw s₂=>↥X (inplaceOp op u w) (λr s₃=>↥X (storeName X.env x r) (λ_=>SP X pins D .next) X.xe s₃) X.xe s₂) X.xe s:=by refine thn (he pins s Y H _ I h) λw s1 ⟨y,H1,I1,r1,q1⟩=>?_;refine thn (ho pins s1 Y H1 v y u w _ I1 r r1 q1) λz s2 ⟨zv,H2,I2,r2,q2⟩=>?_;exact rZ I2 hN hi hx r2 (λs3 I3=>⟨_,H2,I3,q2⟩) hf
 rcases l with ⟨hk,hm⟩ |⟨hk,c,hc,hcell⟩
 ·exact wpAny_loadName_local I.ok.kind hk hn hm go
 ·rcases hk with hk |hk
  ·exact wpAny_loadName_cell I.ok.kind hk hc hcell go
  ·rcases hx with k |k
   ·have:X.env.scope.names.lookup x=some .free:=hk;rw[k]at this;cases this
   ·have:X.env.scope.names.lookup x=some .free:=hk;rw[k]at this;cases this
def Yn(to ti te:TE)(tget:V->V->Hp->VK->Prop)(tip:TIp)(tset:lC):TS:=λD Y H=>to Y H λo H1=>ti Y H1 λi H2=>tget o i H2 λx H3=>te Y H3 λy H4=>tip x y H4 λz H5=>tset o i z H5 λH6=>D.nx Y H6
def DK(X:Cx)(t:V->V->Hp->VK->Prop):Prop:=
 ∀(pins:List (Addr×Obj))(s:Shared)(Y:St)(H:Hp)(o i:V)(ov iv:Value)(Q:VK),Inv X pins Y H s->RelV o ov->RelV i iv->t o i H Q->
  ↥X (getItem ov iv) (EP X pins Y Q) X.xe s
theorem Yo{o i e:Expr}{to ti te:TE}{tget:V->V->Hp->VK->Prop}{tip:TIp}{tset:lC}{op:Operator}{tpos:Pos}(ho:PE X o to)(hi:PE X i ti)(hg:DK X tget)(he:PE X e te)(hp:PIp X op tip)(hs:sr X tset)
  (ha:∀ov iv new,augStore i ov iv new=(do holding [new,ov,iv] (setItem ov iv new);release [new,ov,iv] [];pure .next):=by intros;rfl):PS X (.AugAssign (.Subscript o i tpos) op e pos) (Yn to ti te tget tip tset):=by
 intro pins s Y H D I h;refine wpAny_AugAssign_SubscriptAny (thn (ho pins s Y H _ I h) λov s1 ⟨x1,H1,I1,r1,q1⟩=>?_) ha;refine thn (hi pins s1 Y H1 _ I1 q1) λiv s2 ⟨x2,H2,I2,r2,q2⟩=>?_;refine thn (hg pins s2 Y H2 x1 x2 ov iv _ I2 r1 r2 q2) λold s3 ⟨x3,H3,I3,r3,q3⟩=>?_;refine thn (he pins s3 Y H3 _ I3 q3) λv s4 ⟨x4,H4,I4,r4,q4⟩=>?_;refine thn (hp pins s4 Y H4 x3 x4 old v _ I4 r3 r4 q4) λnew s5 ⟨x5,H5,I5,r5,q5⟩=>?_;exact thn (hs pins s5 Y H5 x1 x2 x5 ov iv new _ I5 r1 r2 r5 q5) λ_ s6 ⟨H6,I6,q6⟩=>⟨Y,H6,I6,q6⟩
end
section
variable {X:Cx} {pos:Pos}
def Yp(c:TT)(tb:TS):TS:=λD Y H=>∃W:Nat->St->Hp->Prop,(∃m,W m Y H)/\∀m Y H,W m Y H->
 c Y H λb H1=>if b=true then ∃N:St->Hp->Prop,(∀σ' H',N σ' H'->∃m',m' < m/\W m' σ' H')/\tb { D with nx:=N,ct:=N,bk:=D.nx } Y H1 else D.nx Y H1
theorem Yq{c:Expr}{body:List Stmt}{tc:TT}{tb:TS}(hp:PassesOwn (model X.prog X.w) X.A X.env X.xe)(hc:PT X c tc)(hb:PSs X body tb):PS X (.While c body [] pos) (Yp tc tb):=by
 intro pins s Y H D I h;obtain ⟨W,⟨m0,w0⟩,turn⟩:=h;refine wpAny_While (codeAny_whileLoop (λn s'=>∃σ' H',Inv X pins σ' H' s'/\W n σ' H') ?_ m0 ⟨Y,H,I,w0⟩);rintro n s1 ⟨σ1,H1,I1,w1⟩;refine gc hp (thn (hc pins s1 σ1 H1 _ I1 (turn n σ1 H1 w1)) λb s2 ⟨H2,I2,q2⟩=>?_);cases b with
 |true=>
  obtain ⟨N,hN,q2⟩:=q2;rw[if_pos rfl];refine gc hp (thn (hb pins s2 σ1 H2 _ I2 q2) λf s3 q3=>?_);cases f with
  |next=>
   obtain ⟨σ3,H3,I3,n3⟩:=q3;obtain ⟨m',hm,w3⟩:=hN σ3 H3 n3;exact ⟨m',hm,σ3,H3,I3,w3⟩
  |cont=>
   obtain ⟨σ3,H3,I3,n3⟩:=q3;obtain ⟨m',hm,w3⟩:=hN σ3 H3 n3;exact ⟨m',hm,σ3,H3,I3,w3⟩
  |brk=>exact q3
  |ret v=>exact q3
 |false=>
  rw[if_neg a7];exact wpAny_execs_nil ⟨σ1,H2,I2,q2⟩
end
structure It where
 go:Nat->Hp->Prop
 yld:Nat->Hp->V->Hp->Prop
 stop:Nat->Hp->Prop
def eV(X:Cx)(pins:List (Addr×Obj))(H:Hp)(b:Addr):Prop:=
 H b=none/\b≠X.env.locals/\b∉X.fs/\(b∈X.ex\/X.s₀.heap.objs.size<=b)/\(∀x c,X.env.cells.lookup x=some c->c≠b)/\∀p∈X.pn++pins,p.1≠b
theorem Inv.fpOk{X:Cx}{pins:List (Addr×Obj)}{Y:St}{H H':Hp}{s:Shared}{b:Addr}(I:Inv X pins Y H s)(hb:(~~~s)<=b)(hn:H' b=none):eV X pins H' b:=by
 refine ⟨hn,g6 (b9 I.lt hb),I.nofs hb,.inr (cp I.sz hb),λx c e z=>?_,λp hp z=>?_⟩
 ·obtain ⟨v,q⟩:=I.cell x c e;exact absurd (b9 q.lt (by rw[z];exact hb)) (e9 _)
 ·exact absurd (b9 (bi (I.pin p hp).1) (by rw[z];exact hb)) (e9 _)
structure Turn(P:Program)(w:World)(K:PF)(tg:Expr)(J:It)(fp:List Addr)(it:Addr)(tn:Nat->Heap->Prop):Prop where
 mem:it∈fp
 obj:∀i h,tn i h->∀b∈fp,∃o,h.get? b=some o/\∀v,o.data≠.cell v
 keep:∀i h h',tn i h->(∀b∈fp,∀o,h.get? b=some o->h'.get? b=some o)->tn i h'
 item:∀(X:Cx),X.prog=P->X.w=w->X.K=K->X.calm=true->∀(i:Nat)(pins:List (Addr×Obj))(s:Shared)(Y:St)(H:Hp)(E:Value->Shared->Prop),Inv X pins Y H s->(∀b∈fp,eV X pins H b)->tn i s.heap->J.go i H->
  wpAny (model P w) X.A (pyNext (.ref it)) (λr s1=>∃u,r=some u/\
   wpAny (model P w) X.A (letOwnedTupleGo tg (.ref it) u) (λ_ s2=>∃x H',Inv X pins Y H' s2/\RelV x u/\J.yld i H x H'/\tn (i+1) s2.heap/\∀b∈fp,H' b=none) E s1) E s
 done:∀(X:Cx),X.prog=P->X.w=w->X.K=K->X.calm=true->∀(i:Nat)(pins:List (Addr×Obj))(s:Shared)(Y:St)(H:Hp)(E:Value->Shared->Prop),Inv X pins Y H s->(∀b∈fp,eV X pins H b)->tn i s.heap->J.stop i H->
  wpAny (model P w) X.A (pyNext (.ref it)) (λr s1=>r=none/\Inv X pins Y H s1) E s
 self:∀(A:Around)(i:Nat)(s:Shared)(Q:Value->Shared->Prop)(E:Value->Shared->Prop),tn i s.heap->Q (.ref it) s->wpAny (model P w) A (pyIter (.ref it)) Q E s
abbrev TI:=St->Hp->(It->Hp->Prop)->Prop
def PIE(X:Cx)(pins:List (Addr×Obj))(Y:St)(tg:Expr)(R:It->Hp->Prop)(itv:Value)(s2:Shared):Prop:=
 ∃(it:Addr)(fp:List Addr)(tn:Nat->Heap->Prop)(J:It)(H':Hp),itv=.ref it/\Inv X pins Y H' s2/\Turn X.prog X.w X.K tg J fp it tn/\tn 0 s2.heap/\(∀b∈fp,eV X pins H' b)/\R J H'
def PI(X:Cx)(tg iter:Expr)(wi:TI):Prop:=
 ∀(pins:List (Addr×Obj))(s:Shared)(Y:St)(H:Hp)(R:It->Hp->Prop),Inv X pins Y H s->wi Y H R->
  ↥X (eval iter X.env) (λv s1=>↥X (pyIter v) (PIE X pins Y tg R) X.xe s1) X.xe s
theorem lE{M:Model}{A:Around}{E:Value->Shared->Prop}{s:Shared}{tg:Expr}{it:Addr}{u:Value}{o:Obj}{n:String}{vs:Array Value}{Q:Unit->Shared->Prop}(ho:s.heap.get? it=some o)(hc:o.cls=.type n)(hd:o.data=.fields vs)
  (hn:["enumerate","zip","dict_itemiterator","dict_reverseitemiterator","odict_iterator","itertools.zip_longest","itertools.pairwise"].contains n=false) (hQ:Q () s):wpAny M A (letOwnedTupleGo tg (.ref it) u) Q E s:=by
 unfold letOwnedTupleGo;cases tg <;> first
  |exact bg hQ
  | (cases u <;> first
    |exact bg hQ
    | (refine al (wpAny_load ho ?_)
       rw[hc,hd];show wpAny M A (if (["enumerate","zip","dict_itemiterator","dict_reverseitemiterator","odict_iterator","itertools.zip_longest","itertools.pairwise"].contains n&&vs[0]?==some (rawInt _))=true then _ else _) Q E s;rw[if_neg (by intro h;rw[hn,g9]at h;cases h)];exact bg hQ))
def Itl(K:PF)(a:Addr):It:=
 ⟨λi H=>∃xs x,SqL K H a xs/\xs[i]?=some x,λi H x H'=>H'=H/\∀xs,SqL K H a xs->xs[i]?=some x,λi H=>∃xs,SqL K H a xs/\xs.length<=i⟩
def Itt(K:PF)(a:Addr):It:=
 ⟨λi H=>∃xs x,SqT K H a xs/\xs[i]?=some x,λi H x H'=>H'=H/\∀xs,SqT K H a xs->xs[i]?=some x,λi H=>∃xs,SqT K H a xs/\xs.length<=i⟩
def Itr(lo:Int)(n:Nat):It:=⟨λi _=>i < n,λi H x H'=>H'=H/\x=.int (lo+i),λi _=>n<=i⟩
theorem DN{P:Program}{w:World}{K:PF}{tg:Expr}(a it:Addr):Turn P w K tg (Itl K a) [it] it (λi h=>h.IsListIter it a i) where
 mem:=by simp
 obj:=λi h st b hb=>by
  have e:b=it:=by simpa using hb
  subst e;obtain ⟨o,e,c,d⟩:=st;exact ⟨o,e,λv z=>by rw[d]at z;cases z⟩
 keep:=λi h h' st k=>st.at λo e=>k it (by simp) o e
 item:=by intro X hP hw hK hc i pins s Y H E I hf st hg;subst hP hw hK;obtain ⟨xs,x,hq,hx⟩:=hg;obtain ⟨its,rv,p,hz⟩:=I.list hq;obtain ⟨u,hu,ru⟩:=rv.get hx;obtain ⟨f0,f1,f2,f3,f4,f5⟩:=hf it (by simp);refine wpAny_pyNext_list_item st p.isList (x:=u) (by simpa using hu) λh' st' sb=>?_;have I1:Inv X pins Y H { s with heap:=h' }:=I.turned (t':=s.toks) (λb o hb e=>(sb.2 b hb).trans e) f0 f1 f3 f4 f5;obtain ⟨o,e,c,d⟩:=id st';exact ⟨u,rfl,lE (s:={ s with heap:=h' }) e c d (by decide) ⟨x,H,I1,ru,⟨rfl,λys hy=>by rw[I.list_inj hy hq];exact hx⟩,st',λb hb=>(hf b hb).1⟩⟩
 done:=by intro X hP hw hK hc i pins s Y H E I hf st hg;subst hP hw hK;obtain ⟨xs,hq,hx⟩:=hg;obtain ⟨its,rv,p,hz⟩:=I.list hq;obtain ⟨f0,f1,f2,f3,f4,f5⟩:=hf it (by simp);have hl:=rv.length;exact wpAny_pyNext_list_end (I.ok.hd hc) st p.isList (by simp;omega) λh' eb=>⟨rfl,I.turned (t':=s.toks) (λb o hb e=>eb b o hb e) f0 f1 f3 f4 f5⟩
 self:=λ_ _ _ _ _ st h=>wpAny_pyIter_listiter st h
theorem DP{P:Program}{w:World}{K:PF}{tg:Expr}(a it:Addr):Turn P w K tg (Itt K a) [it] it (λi h=>h.IsTupleIter it a i) where
 mem:=by simp
 obj:=λi h st b hb=>by
  have e:b=it:=by simpa using hb
  subst e;obtain ⟨o,e,c,d⟩:=st;exact ⟨o,e,λv z=>by rw[d]at z;cases z⟩
 keep:=λi h h' st k=>st.at λo e=>k it (by simp) o e
 item:=by intro X hP hw hK hc i pins s Y H E I hf st hg;subst hP hw hK;obtain ⟨xs,x,hq,hx⟩:=hg;obtain ⟨its,rv,p,hz⟩:=I.tuple hq;obtain ⟨u,hu,ru⟩:=rv.get hx;obtain ⟨f0,f1,f2,f3,f4,f5⟩:=hf it (by simp);refine wpAny_pyNext_tuple_item st (show s.heap.IsTuple a its.toArray from p) (x:=u) (by simpa using hu) λh' st' sb=>?_;have I1:Inv X pins Y H { s with heap:=h' }:=I.turned (t':=s.toks) (λb o hb e=>(sb.2 b hb).trans e) f0 f1 f3 f4 f5;obtain ⟨o,e,c,d⟩:=id st';exact ⟨u,rfl,lE (s:={ s with heap:=h' }) e c d (by decide) ⟨x,H,I1,ru,⟨rfl,λys hy=>by rw[I.tuple_inj hy hq];exact hx⟩,st',λb hb=>(hf b hb).1⟩⟩
 done:=by intro X hP hw hK hc i pins s Y H E I hf st hg;subst hP hw hK;obtain ⟨xs,hq,hx⟩:=hg;obtain ⟨its,rv,p,hz⟩:=I.tuple hq;obtain ⟨f0,f1,f2,f3,f4,f5⟩:=hf it (by simp);have hl:=rv.length;exact wpAny_pyNext_tuple_end (I.ok.hd hc) st (show s.heap.IsTuple a its.toArray from p) (by simp;omega) λh' eb=>⟨rfl,I.turned (t':=s.toks) (λb o hb e=>eb b o hb e) f0 f1 f3 f4 f5⟩
 self:=λ_ _ _ _ _ st h=>wpAny_pyIter_tupleiter st h
theorem Yr{P:Program}{w:World}{K:PF}{tg:Expr}(it:Addr)(lo:Int)(n:Nat):Turn P w K tg (Itr lo n) [it] it (λi h=>IsRangeIter h it (lo+(i:Nat) * 1) ((n:Int) - (i:Nat)) 1) where
 mem:=by simp
 obj:=λi h st b hb=>by
  have e:b=it:=by simpa using hb
  subst e;exact ⟨_,st,λv z=>by
   have z':Data.fields _=Data.cell v:=z;cases z'⟩
 keep:=λi h h' st k=>k it (by simp) _ st
 item:=by intro X hP hw hK hc i pins s Y H E I hf st hg;subst hP hw hK;obtain ⟨f0,f1,f2,f3,f4,f5⟩:=hf it (by simp);have W:=Walks.range (prog:=X.prog) (w:=X.w) (I.ok.hd hc) it lo 1 n;refine W.item i s _ _ hg st λv h' tk hv st' kk=>?_;obtain ⟨t,rfl⟩:=hv;have I1:Inv X pins Y H { s with heap:=h',toks:=tk }:=I.turned (λb o hb e=>kk b o (by simpa using hb) e) f0 f1 f3 f4 f5;refine ⟨_,rfl,lE (s:={ s with heap:=h',toks:=tk }) (n:="range_iterator") st' rfl rfl (by decide) ⟨.int (lo+i),H,I1,⟨t,?_⟩,⟨rfl,rfl⟩,st',λb hb=>(hf b hb).1⟩⟩;rw[Int.mul_one]
 done:=by intro X hP hw hK hc i pins s Y H E I hf st hg;subst hP hw hK;obtain ⟨f0,f1,f2,f3,f4,f5⟩:=hf it (by simp);exact wpAny_pyNext_range_end (I.ok.hd hc) st (by have:n<=i:=hg;omega) λh' eb=>⟨rfl,I.turned (t':=s.toks) (λb o hb e=>eb b o hb e) f0 f1 f3 f4 f5⟩
 self:=λ_ _ _ _ _ st h=>wpAny_pyIter_rangeiter st h
section
variable {X:Cx} {tg:Expr}
theorem DQ{pins:List (Addr×Obj)}{Y:St}{H:Hp}{s:Shared}{R:It->Hp->Prop}{E:Value->Shared->Prop}{lo hi:Int}{t u v:Tok}{tk:Nat}(I:Inv X pins Y H s)(h1:-(2 ^ 62)<=lo)(h2:lo < 2 ^ 62)(h3:-(2 ^ 62)<=hi)(h4:hi < 2 ^ 62)
  (q:R (Itr lo (hi - lo).toNat) H):↥X (pyIter (.ref (~~~s))) (PIE X pins Y tg R) E { s with heap:=s.heap.push { cls:=.type "range",data:=.fields #[.int lo t,.int hi u,.int 1 v] },toks:=tk }:=by
 refine wpAny_pyIter_range (IsRange.new ..) (small_one h1 h2 h3 h4) ?_;have I1:Inv X pins Y H { s with heap:=s.heap.push { cls:=.type "range",data:=.fields #[.int lo t,.int hi u,.int 1 v] },toks:=tk }:=I.kept λb o e=>av _ e;refine ⟨(s.heap.push { cls:=.type "range",data:=.fields #[.int lo t,.int hi u,.int 1 v] }).objs.size,[(s.heap.push { cls:=.type "range",data:=.fields #[.int lo t,.int hi u,.int 1 v] }).objs.size],_,_,H,rfl,
  I1.kept (t':=tk) λb o e=>av _ e,Yr _ lo (hi - lo).toNat,?_,λb hb=>?_,q⟩
 ·have e1:lo+((0:Nat):Int) * 1=lo:=by simp
  have e2:(((hi - lo).toNat:Nat):Int) - ((0:Nat):Int)=Builtin.Range.rangeSize lo hi 1:=by rw[rangeSize_one];split <;> omega
  show IsRangeIter _ _ (lo+((0:Nat):Int) * 1) ((((hi - lo).toNat:Nat):Int) - ((0:Nat):Int)) 1;rw[e1,e2];exact bv _ rfl
 ·have e:b=(s.heap.push { cls:=.type "range",data:=.fields #[.int lo t,.int hi u,.int 1 v] }).objs.size:=by simpa using hb
  subst e;exact I1.fpOk (ay _) (I1.hok.fresh (ay _))
def Ys(ta:TA):TI:=λY H R=>ta Y H λvs H1=>∃j:Int,vs=[.int j]/\-(2 ^ 62)<=j/\j < 2 ^ 62/\R (Itr 0 j.toNat) H1
def Yt(ta:TA):TI:=λY H R=>ta Y H λvs H1=>∃i j:Int,vs=[.int i,.int j]/\(-(2 ^ 62)<=i/\i < 2 ^ 62/\-(2 ^ 62)<=j/\j < 2 ^ 62)/\R (Itr i (j - i).toNat) H1
theorem Yu {a:Expr} {ta:TA} {p pos:Pos} (hg:Gl X "range") (hm:X.mg "range"=none) (ha:PA X [a] ta) (hs:starEach [a] X.env=[(false,eval a X.env)]:=by rfl):PI X tg (.Call (.Name "range" p) [a] [] pos) (Ys ta):=by
 intro pins s Y H R I h;refine Call_ (gJ I hg hm boot_range (d5 (thn (ha pos pins s Y H _ I h) λus s1 ⟨vs,H1,I1,r1,q1⟩=>?_) hs rfl));obtain ⟨j,e,q1,q2,q⟩:=q1;subst e;cases r1 with
 |cons r rr=>
  cases rr;obtain ⟨t,rfl⟩:=r;exact call_range_1 (DQ I1 (by omega) (by omega) q1 q2 (by simpa using q))
theorem Yv {a b:Expr} {ta:TA} {p pos:Pos} (hg:Gl X "range") (hm:X.mg "range"=none) (ha:PA X [a,b] ta) (hs:starEach [a,b] X.env=[(false,eval a X.env),(false,eval b X.env)]:=by rfl) (hs2:starEach [b] X.env=[(false,eval b X.env)]:=by rfl):
  PI X tg (.Call (.Name "range" p) [a,b] [] pos) (Yt ta):=by
 intro pins s Y H R I h;refine Call_ (gJ I hg hm boot_range (d5 (thn (ha pos pins s Y H _ I h) λus s1 ⟨vs,H1,I1,r1,q1⟩=>?_) (by rw[hs,hs2]) (by rw[hs2];rfl)));obtain ⟨i,j,e,⟨q1,q2,q3,q4⟩,q⟩:=q1;subst e;cases r1 with
 |cons r rr=>
  cases rr with
  |cons r' rr=>
   cases rr;obtain ⟨t,rfl⟩:=r;obtain ⟨t',rfl⟩:=r';exact call_range_2 (DQ I1 q1 q2 q3 q4 q)
def Yw(wi:TI)(g:TG)(tb:TS):TS:=λD Y H=>wi Y H λJ H1=>∃W:Nat->Nat->St->Hp->Prop,(∃m,W 0 m Y H1)/\∀i m Y H,W i m Y H->
 (J.stop i H/\D.nx Y H)\/(J.go i H/\∃N:St->Hp->Prop,(∀σ' H',N σ' H'->∃m',m' < m/\W (i+1) m' σ' H')/\∀x H',J.yld i H x H'->g x Y H' λσ2 H2=>tb { D with nx:=N,ct:=N,bk:=D.nx } σ2 H2)
def jN(fp:List Addr)(h:Heap):List (Addr×Obj):=fp.filterMap λb=>(h.get? b).map λo=>(b,o)
theorem jO{fp:List Addr}{h:Heap}{b:Addr}{o:Obj}(hb:b∈fp)(e:h.get? b=some o):(b,o)∈jN fp h:=gI.mpr ⟨b,hb,by rw[e];rfl⟩
theorem xN{fp:List Addr}{h:Heap}{p:Addr×Obj}(hp:p∈jN fp h):p.1∈fp/\h.get? p.1=some p.2:=by
 obtain ⟨b,hb,e⟩:=gI.mp hp;cases q:h.get? b with
 |none=>rw[q]at e;cases e
 |some o=>
  rw[q]at e;have e':(b,o)=p:=dE e;subst e';exact ⟨hb,q⟩
theorem Inv.pinned{pins:List (Addr×Obj)}{Y:St}{H:Hp}{s:Shared}{fp:List Addr}(I:Inv X pins Y H s)(hf:∀b∈fp,eV X pins H b)(ho:∀b∈fp,∃o,s.heap.get? b=some o/\∀v,o.data≠.cell v):Inv X (pins++jN fp s.heap) Y H s:=
 I.pins_of λp hp=>(bP.mp hp).elim (λz=>I.pin p (aT _ z)) λz=>by
  obtain ⟨hb,e⟩:=xN z;obtain ⟨f0,f1,f2,_⟩:=hf p.1 hb;obtain ⟨o,e',d⟩:=ho p.1 hb;rw[e]at e';cases e';exact ⟨e,f0,f1,f2,d⟩
theorem Inv.unpinned{pins pl:List (Addr×Obj)}{Y:St}{H:Hp}{s:Shared}(I:Inv X (pins++pl) Y H s):Inv X pins Y H s:=I.pins_of λp hp=>I.pin p (aT _ (gd _ hp))
theorem Yx{iter:Expr}{body:List Stmt}{wi:TI}{g:TG}{tb:TS}{pos:Pos}(hp:PassesOwn (model X.prog X.w) X.A X.env X.xe)(hc:X.calm=true)(hi:PI X tg iter wi)(hg:PG X tg g)(hb:PSs X body tb)
  (hs:∀x,foldedSetIterable iter X.env x=pure x:=by intro _;rfl):PS X (.For tg iter body [] pos) (Yw wi g tb):=by
 intro pins s Y H D I h;refine wpAny_For (thn (hi pins s Y H _ I h) λv s1 h1=>thn h1 λitv s2 h2=>?_) hs;obtain ⟨it,fp,tn,J,H2,e,I2,T,st2,f2,W,⟨m0,w0⟩,turn⟩:=h2;subst e
 -- what stays true of the iterator's objects through the loop
 have stat:∀{H':Hp},(∀b∈fp,H' b=none)->∀b∈fp,eV X pins H' b:=λhn b hb=>⟨hn b hb,(f2 b hb).2⟩;refine codeAny_forLoop_any (λn s'=>∃i σ' H',Inv X pins σ' H' s'/\tn i s'.heap/\(∀b∈fp,H' b=none)/\W i n σ' H') ?_ m0 ⟨0,Y,H2,I2,st2,λb hb=>(f2 b hb).1,w0⟩;rintro n s3 ⟨i,σ3,H3,I3,st3,fr3,w3⟩;rcases turn i n σ3 H3 w3 with ⟨stop,qn⟩ |⟨go,N,hN,step⟩
 ·refine gc hp (thn (T.done X rfl rfl rfl hc i pins s3 σ3 H3 X.xe I3 (stat fr3) st3 stop) λr s4 ⟨hr,I4⟩=>?_);subst hr;exact wpAny_execs_nil ⟨σ3,H3,I4,qn⟩
 ·refine gc hp (thn (T.item X rfl rfl rfl hc i pins s3 σ3 H3 X.xe I3 (stat fr3) st3 go) λr s4 ⟨u,hr,h4⟩=>?_);subst hr;refine gc hp (thn h4 λ_ s5 ⟨x,H5,I5,r5,y5,st5,fr5⟩=>?_);have I5':=I5.pinned (stat fr5) (T.obj _ _ st5);refine gc hp (thn (hg _ s5 σ3 H5 x u _ I5' r5 (step x H5 y5)) λ_ s6 ⟨σ6,H6,I6,q6⟩=>?_);refine gc hp (thn (hb _ s6 σ6 H6 _ I6 q6) λf s7 q7=>?_);have again:∀{σ7:St}{H7:Hp},Inv X (pins++jN fp s5.heap) σ7 H7 s7->N σ7 H7->∃m,m < n/\∃i σ' H',Inv X pins σ' H' s7/\tn i s7.heap/\(∀b∈fp,H' b=none)/\W i m σ' H':=λ{σ7 H7} I7 n7=>by
   obtain ⟨m',hm,w7⟩:=hN σ7 H7 n7;refine ⟨m',hm,i+1,σ7,H7,I7.unpinned,T.keep _ _ _ st5 λb hb o e=>(I7.pin (b,o) (aT _ (aT _ (jO hb e)))).1,λb hb=>?_,w7⟩;obtain ⟨o,e,d⟩:=T.obj _ _ st5 b hb;exact (I7.pin (b,o) (aT _ (aT _ (jO hb e)))).2.1
  cases f with
  |next=>obtain ⟨σ7,H7,I7,n7⟩:=q7;exact again I7 n7
  |cont=>obtain ⟨σ7,H7,I7,n7⟩:=q7;exact again I7 n7
  |brk=>obtain ⟨σ7,H7,I7,q7⟩:=q7;exact ⟨σ7,H7,I7.unpinned,q7⟩
  |ret v=>obtain ⟨x7,σ7,H7,I7,r7,q7⟩:=q7;exact ⟨x7,σ7,H7,I7.unpinned,r7,q7⟩
end
abbrev R2:=V->V->Hp->VK->Prop
def OpR(X:Cx)(f:Value->Value->Sem Value)(r:R2):Prop:=
 ∀(pins:List (Addr×Obj))(s:Shared)(Y:St)(H:Hp)(x y:V)(v u:Value)(Q:VK),Inv X pins Y H s->RelV x v->RelV y u->r x y H Q->
  ↥X (f v u) (EP X pins Y Q) X.xe s
def UnR(X:Cx)(f:Value->Sem Value)(r:V->Hp->VK->Prop):Prop:=
 ∀(pins:List (Addr×Obj))(s:Shared)(Y:St)(H:Hp)(x:V)(v:Value)(Q:VK),Inv X pins Y H s->RelV x v->r x H Q->
  ↥X (f v) (EP X pins Y Q) X.xe s
def bW(X:Cx)(f:Value)(r:List V->Hp->VK->Prop):Prop:=
 ∀(pins:List (Addr×Obj))(s:Shared)(Y:St)(H:Hp)(xs:List V)(us:List Value)(Q:VK),Inv X pins Y H s->Vals xs us->r xs H Q->
  ↥X (call f us) (EP X pins Y Q) X.xe s
def Yy(X:Cx)(r:V->Hp->(Bool->Hp->Prop)->Prop):Prop:=
 ∀(pins:List (Addr×Obj))(s:Shared)(Y:St)(H:Hp)(x:V)(v:Value)(Q:Bool->Hp->Prop),Inv X pins Y H s->RelV x v->r x H Q->
  ↥X (truthy v) (TP X pins Y Q) X.xe s
def tOp(r:R2)(ta tb:TE):TE:=λY H Q=>ta Y H λx H1=>tb Y H1 λy H2=>r x y H2 Q
def tUn(r:V->Hp->VK->Prop)(ta:TE):TE:=λY H Q=>ta Y H λx H1=>r x H1 Q
def rI(C:Int->Int->Prop)(g:Int->Int->V):R2:=λx y H Q=>∃i j,x=.int i/\y=.int j/\C i j/\Q (g i j) H
def rI0(g:Int->Int->V):R2:=λx y H Q=>∃i j,x=.int i/\y=.int j/\Q (g i j) H
def rU(g:Int->V):V->Hp->VK->Prop:=λx H Q=>∃i,x=.int i/\Q (g i) H
section
variable {X:Cx} {a b c:Expr} {ta tb tc:TE} {pos:Pos}
theorem xO(ha:PE X a ta)(hb:PE X b tb){pins:List (Addr×Obj)}{s:Shared}{Y:St}{H:Hp}{R:V->V->Hp->Prop}(I:Inv X pins Y H s)
  (h:ta Y H λx H1=>tb Y H1 λy H2=>R x y H2) {Q:Value->Shared->Prop} {f:Value->Value->Sem Value}
  (hf:∀v u s2 x y H2,Inv X pins Y H2 s2->RelV x v->RelV y u->R x y H2->↥X (f v u) Q X.xe s2):
  ↥X (eval a X.env) (λv s₁=>↥X (eval b X.env) (λu s₂=>↥X (f v u) Q X.xe s₂) X.xe s₁) X.xe s:=by
 refine thn (ha pins s Y H _ I h) λv s1 ⟨x,H1,I1,r1,q1⟩=>?_;refine thn (hb pins s1 Y H1 _ I1 q1) λu s2 ⟨y,H2,I2,r2,q2⟩=>?_;exact hf v u s2 x y H2 I2 r1 r2 q2
theorem Yz{op:Operator}{r:R2}(ho:OpR X (binaryOp op) r)(ha:PE X a ta)(hb:PE X b tb):PE X (.BinOp a op b pos) (tOp r ta tb):=by intro pins s Y H Q I h;exact wpAny_BinOp (xO ha hb I h λv u s2 x y H2 I2 rx ry q=>ho pins s2 Y H2 x y v u Q I2 rx ry q)
theorem YB{op:UnaryOp}{r:V->Hp->VK->Prop}(ho:UnR X (unaryOp op) r)(ha:PE X a ta):PE X (.UnaryOp op a pos) (tUn r ta):=by intro pins s Y H Q I h;exact UnaryOp_ (thn (ha pins s Y H _ I h) λv s1 ⟨x,H1,I1,r1,q1⟩=>ho pins s1 Y H1 x v Q I1 r1 q1)
theorem opI{f:Value->Value->Sem Value}{C:Int->Int->Prop}{g:Int->Int->Int}
  (rule:∀(i j:Int)(t u:Tok)(s:Shared)(Q:Value->Shared->Prop)(E:Value->Shared->Prop),C i j->Q (.int (g i j) s.toks) { s with toks:=s.toks+1 }->↥X (f (.int i t) (.int j u)) Q E s):
  OpR X f (rI C λi j=>.int (g i j)):=by
 intro pins s Y H x y v u Q I rx ry h;obtain ⟨i,j,rfl,rfl,hc,q⟩:=h;obtain ⟨t,rfl⟩:=rx;obtain ⟨t',rfl⟩:=ry;exact rule i j t t' s _ _ hc ⟨.int (g i j),H,I.tok _,⟨_,rfl⟩,q⟩
theorem sE{f:Value->Value->Sem Value}{g:Int->Int->Int}
  (rule:∀(i j:Int)(t u:Tok)(s:Shared)(Q:Value->Shared->Prop)(E:Value->Shared->Prop),Q (.int (g i j) s.toks) { s with toks:=s.toks+1 }->↥X (f (.int i t) (.int j u)) Q E s):
  OpR X f (rI0 λi j=>.int (g i j)):=by
 intro pins s Y H x y v u Q I rx ry h;obtain ⟨i,j,rfl,rfl,q⟩:=h;obtain ⟨t,rfl⟩:=rx;obtain ⟨t',rfl⟩:=ry;exact rule i j t t' s _ _ ⟨.int (g i j),H,I.tok _,⟨_,rfl⟩,q⟩
def sG(i j:Int):Prop:=0<=j/\j<=1000000/\i.natAbs < 2 ^ 64
def CMul(i j:Int):Prop:=(-(2 ^ 64) < i/\i < 2 ^ 64)\/(-(2 ^ 64) < j/\j < 2 ^ 64)
theorem CMul.ok{i j:Int}(h:CMul i j):IntMulOk i j:=by
 rcases h with ⟨h1,h2⟩ |⟨h1,h2⟩
 ·exact .of_left (intBits_le_64 h1 h2)
 ·exact .of_right (intBits_le_64 h1 h2)
theorem YC:OpR X (binaryOp .Add) (rI0 λi j=>.int (i+j)):=sE λ_ _ _ _ _ _ _ q=>add_int q
theorem YD:OpR X (binaryOp .Sub) (rI0 λi j=>.int (i - j)):=sE λ_ _ _ _ _ _ _ q=>sub_int q
theorem YF:OpR X (binaryOp .Mult) (rI CMul λi j=>.int (i * j)):=opI λ_ _ _ _ _ _ _ hc q=>mul_int q hc.ok
theorem YG:OpR X (binaryOp .Mod) (rI (λ_ j=>0 < j) λi j=>.int (i % j)):=opI λi j _ _ _ _ _ hc q=>by
 have h1:(0:Int) < j:=hc;exact mod_int' (by omega) (by rw[Int.fmod_eq_emod_of_nonneg i (by omega)];exact q)
theorem YH:OpR X (binaryOp .Pow) (rI sG λi j=>.int (i ^ j.toNat)):=opI λ_ _ _ _ _ _ _ hc q=>pow_int_small hc.1 hc.2.1 hc.2.2 q
theorem YJ:OpR X (inplaceOp .Add) (rI0 λi j=>.int (i+j)):=sE λ_ _ _ _ _ _ _ q=>iadd_int q
theorem YK:OpR X (inplaceOp .Sub) (rI0 λi j=>.int (i - j)):=sE λ_ _ _ _ _ _ _ q=>isub_int q
theorem unI{f:Value->Sem Value}{g:Int->Int}
  (rule:∀(i:Int)(t:Tok)(s:Shared)(Q:Value->Shared->Prop)(E:Value->Shared->Prop),Q (.int (g i) s.toks) { s with toks:=s.toks+1 }->↥X (f (.int i t)) Q E s):
  UnR X f (rU λi=>.int (g i)):=by
 intro pins s Y H x v Q I rx h;obtain ⟨i,rfl,q⟩:=h;obtain ⟨t,rfl⟩:=rx;exact rule i t s _ _ ⟨.int (g i),H,I.tok _,⟨_,rfl⟩,q⟩
theorem YL:UnR X (unaryOp .USub) (rU λi=>.int (-i)):=unI λ_ _ _ _ _ q=>neg_int q
end
section
variable {X:Cx} {a b c:Expr} {ta tb tc:TE} {pos:Pos}
theorem DR{pins:List (Addr×Obj)}{Y:St}{H:Hp}{s:Shared}{Q:VK}{k k':Bool}(I:Inv X pins Y H s)(q:Q (.bl k) H)(e:k=k'):EP X pins Y Q (.bool k') s:=by subst e;exact ⟨.bl k,H,I,rfl,q⟩
theorem YM:OpR X (compareOp .Is) (λx y H Q=>y=.non/\Q (.bl (decide (x=.non))) H):=by
 intro pins s Y H x y v u Q I rx ry h;obtain ⟨rfl,q⟩:=h;cases ry;refine is_none_gen (DR I q ?_);cases x <;> first
  | (cases rx;rfl)
  | (obtain ⟨t,rfl⟩:=rx;rfl)
theorem YQ:OpR X (compareOp .IsNot) (λx y H Q=>y=.non/\Q (.bl (!decide (x=.non))) H):=by
 intro pins s Y H x y v u Q I rx ry h;obtain ⟨rfl,q⟩:=h;cases ry;refine isnot_none_gen (DR I q ?_);cases x <;> first
  | (cases rx;rfl)
  | (obtain ⟨t,rfl⟩:=rx;rfl)
theorem YS{op:CmpOp}{r:R2}(ho:OpR X (compareOp op) r)(ha:PE X a ta)(hb:PE X b tb)(hm:behindInMarks op b=false):PE X (.Compare a [op] [b] pos) (tOp r ta tb):=by intro pins s Y H Q I h;exact wpAny_Compare1 (xO ha hb I h λv u s2 x y H2 I2 rx ry q=>ho pins s2 Y H2 x y v u Q I2 rx ry q) hm
def DW(t:TE):TT:=λY H Q=>t Y H λx H'=>∃k,x=.bl k/\Q k H'
theorem YT{op:CmpOp}{r:R2}(ho:OpR X (compareOp op) r)(ha:PE X a ta)(hb:PE X b tb)(hm:behindInMarks op b=false):PT X (.Compare a [op] [b] pos) (DW (tOp r ta tb)):=by
 intro pins s Y H Q I h;refine wpAny_isTrue_Compare1 (thn (ha pins s Y H _ I h) λv s1 ⟨x,H1,I1,r1,q1⟩=>thn (hb pins s1 Y H1 _ I1 q1) λu s2 ⟨y,H2,I2,r2,q2⟩=>
  thn (ho pins s2 Y H2 x y v u _ I2 r1 r2 q2) λc s3 ⟨z,H3,I3,r3,k,e,q3⟩=>?_) hm
 subst e;cases r3;exact fh ⟨H3,I3,q3⟩
def xP(r r':R2)(ta tb tc:TE):TE:=λY H Q=>ta Y H λx H1=>tb Y H1 λy H2=>r x y H2 λz H3=>∃k,z=.bl k/\
 (if k=true then tc Y H3 λw' H4=>r' y w' H4 Q else Q (.bl false) H3)
theorem YW{op op':CmpOp}{r r':R2}(ho:OpR X (compareOp op) r)(ho':OpR X (compareOp op') r')(ha:PE X a ta)(hb:PE X b tb)(hc:PE X c tc)
  (hm:lastMarks [op,op'] [b,c]=false:=by with_unfolding_all rfl):PE X (.Compare a [op,op'] [b,c] pos) (xP r r' ta tb tc):=by
 intro pins s Y H Q I h;refine Compare_chain (thn (ha pins s Y H _ I h) λv s1 ⟨x,H1,I1,r1,q1⟩=>chain_link (thn (hb pins s1 Y H1 _ I1 q1) λu s2 ⟨y,H2,I2,r2,q2⟩=>
  thn (ho pins s2 Y H2 x y v u _ I2 r1 r2 q2) λd s3 ⟨z,H3,I3,r3,k,e,q3⟩=>?_)) hm
 subst e;cases r3;refine fh ?_;cases k with
 |false=>exact ite_ff ⟨.bl false,H3,I3,rfl,q3⟩
 |true=>exact ite_tt (chain_last (thn (hc pins s3 Y H3 _ I3 q3) λw' s4 ⟨z',H4,I4,r4,q4⟩=>ho' pins s4 Y H4 y z' u w' Q I4 r2 r4 q4))
theorem YX{op op':CmpOp}{r r':R2}(ho:OpR X (compareOp op) r)(ho':OpR X (compareOp op') r')(ha:PE X a ta)(hb:PE X b tb)(hc:PE X c tc)
  (hm:lastMarks [op,op'] [b,c]=false:=by with_unfolding_all rfl):PT X (.Compare a [op,op'] [b,c] pos) (DW (xP r r' ta tb tc)):=by
 intro pins s Y H Q I h;refine isTrue_chain (thn (ha pins s Y H _ I h) λv s1 ⟨x,H1,I1,r1,q1⟩=>test_link (thn (hb pins s1 Y H1 _ I1 q1) λu s2 ⟨y,H2,I2,r2,q2⟩=>
  thn (ho pins s2 Y H2 x y v u _ I2 r1 r2 q2) λd s3 ⟨z,H3,I3,r3,k,e,q3⟩=>?_)) hm
 subst e;cases r3;refine fh ?_;cases k with
 |false=>
  obtain ⟨k',e',q'⟩:=q3;cases e';exact ite_ff ⟨H3,I3,q'⟩
 |true=>
  refine ite_tt (test_last (thn (hc pins s3 Y H3 _ I3 q3) λw' s4 ⟨z',H4,I4,r4,q4⟩=>thn (ho' pins s4 Y H4 y z' u w' _ I4 r2 r4 q4) λd' s5 ⟨z2,H5,I5,r5,k2,e2,q5⟩=>?_));subst e2;cases r5;exact fh ⟨H5,I5,q5⟩
def sH(K:PF)(x:V)(H:Hp)(k:Bool):Prop:=
 match x with
 |.non=>k=false
 |.bl b=>k=b
 |.int i=>k=(i != 0)
 |.str y=>y.length<=sizeLine/\k=((y.length:Int) != 0)
 |.byt y=>y.size<=sizeLine/\k=((y.size:Int) != 0)
 |.ref p=>(∃xs,SqL K H p xs/\k=!xs.isEmpty)\/(∃xs,SqT K H p xs/\k=!xs.isEmpty)\/∃kvs,H p=some (.dK kvs)/\k=!kvs.isEmpty
 |_=>False
theorem YZ{κ:Type}{kvs:List (κ×V)}{vs:List (κ×Value)}(r:KV kvs vs):(!vs.isEmpty)=!kvs.isEmpty:=by cases r <;> rfl
theorem DX{xs:List V}{its:List Value}(r:Vals xs its):(!its.toArray.isEmpty)=!xs.isEmpty:=by cases r <;> simp
theorem iy:(sizeLine:Nat) < 2 ^ 63:=by rw[sizeLine_eq];decide
theorem DY:Yy X (λx H Q=>∃k,sH X.K x H k/\Q k H):=by
 intro pins s Y H x v Q I rx h;obtain ⟨k,e,q⟩:=h;have hl:=iy;have hs:sizeLine=16777216:=sizeLine_eq;cases x with
 |non=>
  cases rx;have e':k=false:=e;subst e';exact truthy_none ⟨H,I,q⟩
 |bl b=>
  cases rx;have e':k=b:=e;subst e';exact fh ⟨H,I,q⟩
 |int i=>
  obtain ⟨t,rfl⟩:=rx;have e':k=(i != 0):=e;subst e';exact PySem.P.truthy_int ⟨H,I,q⟩
 |str y=>
  obtain ⟨t,rfl⟩:=rx;obtain ⟨hy,e'⟩:y.length<=sizeLine/\k=((y.length:Int) != 0):=e;subst e';exact PySem.P.truthy_str (by omega) ⟨H,I.tok _,q⟩
 |byt y=>
  obtain ⟨t,rfl⟩:=rx;obtain ⟨hy,e'⟩:y.size<=sizeLine/\k=((y.size:Int) != 0):=e;subst e';exact PySem.W.truthy_bytes (by omega) ⟨H,I.tok _,q⟩
 |ref p=>
  cases rx;have e':(∃xs,SqL X.K H p xs/\k=!xs.isEmpty)\/(∃xs,SqT X.K H p xs/\k=!xs.isEmpty)\/∃kvs,H p=some (.dK kvs)/\k=!kvs.isEmpty:=e;rcases e' with ⟨xs,hx,e'⟩ |⟨xs,hx,e'⟩ |⟨kvs,hx,e'⟩
  ·subst e';obtain ⟨its,r,pl,hz⟩:=I.list hx;have hlen:=r.length;exact wpAny_truthy_list pl.isList (by simp only[aw];omega) ⟨H,I.tok _,by rw[DX r];exact q⟩
  ·subst e';obtain ⟨its,r,pl,hz⟩:=I.tuple hx;have hlen:=r.length;exact truthy_tuple pl (by simp only[aw];omega) ⟨H,I.tok _,by rw[DX r];exact q⟩
  ·subst e';obtain ⟨hz,hS,vs,r,m⟩:kvs.length<=sizeLine/\(p==sysModules)=false/\∃vs,KV kvs vs/\s.heap.DictOf (xH X.prog X.w) p vs:=I.hok p _ hx;have hlen:kvs.length=vs.length:=Paired.length r;exact wpAny_truthy_dict hS m (by omega) ⟨H,I.tok _,by rw[YZ r];exact q⟩
 |_=>exact (show False from e).elim
theorem Y0(ha:PE X a ta)(he:∀whole,isTrue a X.env whole=(do let v <-whole;standAt a.pos;holding [v] (truthy v))):
  PT X a (λY H Q=>ta Y H λx H'=>∃k,sH X.K x H' k/\Q k H'):=by
 intro pins s Y H Q I h;exact isTrue_plain (thn (ha pins s Y H _ I h) λv s1 ⟨x,H1,I1,r1,q1⟩=>DY pins s1 Y H1 x v Q I1 r1 q1) (he _)
theorem Y4:OpR X (binaryOp .Add) (λx y H Q=>∃i j,x=.str i/\y=.str j/\i.length+j.length<=sizeLine/\Q (.str (i++j)) H):=by intro pins s Y H x y v u Q I rx ry h;obtain ⟨i,j,rfl,rfl,hz,q⟩:=h;obtain ⟨t,rfl⟩:=rx;obtain ⟨t',rfl⟩:=ry;exact add_str (λt' tk=>⟨.str (i++j),H,I.tok _,⟨_,rfl⟩,q⟩) hz
theorem Y5:OpR X (inplaceOp .Add) (λx y H Q=>∃i j,x=.str i/\y=.str j/\i.length+j.length<=sizeLine/\Q (.str (i++j)) H):=by intro pins s Y H x y v u Q I rx ry h;obtain ⟨i,j,rfl,rfl,hz,q⟩:=h;obtain ⟨t,rfl⟩:=rx;obtain ⟨t',rfl⟩:=ry;exact iadd_str (λt' tk=>⟨.str (i++j),H,I.tok _,⟨_,rfl⟩,q⟩) hz
theorem vals1{x:V}{us:List Value}(r:Vals [x] us):∃u,us=[u]/\RelV x u:=by
 cases r with
 |cons r1 r2=>cases r2;exact ⟨_,rfl,r1⟩
theorem vals2{x y:V}{us:List Value}(r:Vals [x,y] us):∃u w',us=[u,w']/\RelV x u/\RelV y w':=by
 cases r with
 |cons r1 r2=>
  cases r2 with
  |cons r3 r4=>cases r4;exact ⟨_,_,rfl,r1,r3⟩
theorem Ea:bW X (.type "int") (λxs H Q=>(∃i,xs=[.int i]/\Q (.int i) H)\/∃k,xs=[.bl k]/\Q (.int (if k then 1 else 0)) H):=by
 intro pins s Y H xs us Q I r h;rcases h with ⟨i,rfl,q⟩ |⟨k,rfl,q⟩
 ·obtain ⟨u,rfl,t,rfl⟩:=vals1 r;exact call_int_int ⟨.int i,H,I,⟨_,rfl⟩,q⟩
 ·obtain ⟨u,rfl,r1⟩:=vals1 r;cases r1;exact call_int_bool ⟨.int (if k then 1 else 0),H,I.tok _,⟨_,rfl⟩,q⟩
end
structure ObjM(h:Heap)(x dx C:Addr)(mA:Str->Option Value):Prop where
 obj:h.get? x=some (PySem.W.instObj C dx)
 ns:h.Ns1 dx mA
 ne:dx≠x
theorem Y6{h:Heap}{dx:Addr}{mA:Str->Option Value}(n:h.Ns1 dx mA):∃od,h.get? dx=some od/\∀name,PySem.W.lookIn name od=some (mA name):=by
 obtain ⟨o,es,ep,ho,hd,hk,_,hm⟩:=n;refine ⟨o,ho,λname=>?_⟩;have e:=hm name;unfold nsFind findBy at e;rw[<-Array.find?_toList]at e;unfold PySem.W.lookIn;rw[hd];dsimp only;split
 ·rename_i y q;rw[q]at e;exact fE some e
 ·rename_i q;rw[q]at e;have a:es.toList.any (·.refKey)=false:=by
   rw[List.any_eq_false];intro y hy;obtain ⟨z,t,hkey⟩:=hk y (Array.mem_toList_iff.mp hy);simp[DictEntry.refKey,hkey]
  have a':¬es.toList.any (·.refKey)=true:=by rw[a];exact a7
  rw[if_neg a'];exact fE some e
theorem ObjM.look{h:Heap}{x dx C:Addr}{mA:Str->Option Value}(I:ObjM h x dx C mA):∃od,PySem.W.InstAt h x (PySem.W.instObj C dx) C (some od)/\∀name,PySem.W.lookIn name od=some (mA name):=
 let ⟨od,ho,hl⟩:=Y6 I.ns
 ⟨od,⟨I.obj,rfl,rfl,ho⟩,hl⟩
section
variable {P:Program} {w:World} {H H':Hp} {h h':Heap} {a C dx:Addr} {fs fs':List (Str×V)}
theorem Y7(hok:HOk P w H h)(e:H a=some (.ins C dx fs)):∃mA,ObjM h a dx C mA/\(∀f,xJ (fs.lookup f) (mA f))/\PySem.Within mA (fs.map (·.1))/\fs.length<=1000/\H dx=some (.own a):=by obtain ⟨d,z,ne,ob,mA,n,r,q⟩:=(show ObjOk P w H h a (.ins C dx fs) from hok a _ e);exact ⟨mA,⟨ob,n,ne⟩,r,q,z,d⟩
end
structure Cls(K:PF)(C:Addr):Prop where
 pg:PySem.W.plainGet K C Str.empty=true
 hd:PySem.W.hasDictIn K C=true
 po:PySem.W.plainOver K C=true
 sa:PySem.W.findIn K (.ref C) "__setattr__"=some (some (.builtin "object.__setattr__"))
theorem Cls.get{K:PF}{C:Addr}(c:Cls K C)(f:Str):PySem.W.plainGet K C f=true:=c.pg
def Y8(K:PF)(C:Addr)(f:Str):Prop:=PySem.W.findIn K (.ref C) f=some none
structure Meth(K:PF)(C:Addr)(m:Str)(f:Addr):Prop where
 at_:PySem.W.findIn K (.ref C) m=some (some (.ref f))
 fn:PySem.W.isFn K (.ref f)=true
 kp:PySem.W.keepIn K (.ref f)=true
section
variable {X:Cx} {pins:List (Addr×Obj)} {σ:St} {H:Hp} {s:Shared} {A:Around} {E:Value->Shared->Prop} {Q:Value->Shared->Prop} {c:Value} {b:Bool}
inductive TyOf (K:PF) (H:Hp):V->Value->Prop where
 |non:TyOf K H .non (.type "NoneType")
 |bl (x:Bool):TyOf K H (.bl x) (.type "bool")
 |int (i:Int):TyOf K H (.int i) (.type "int")
 |str (x:Str):TyOf K H (.str x) (.type "str")
 |flt (x:UInt64):TyOf K H (.flt x) (.type "float")
 |lst {a:Addr} {xs:List V} (e:H a=some (.lst xs)):TyOf K H (.ref a) (.type "list")
 |frz {a:Addr} {o:Obj} {xs:List V} (e:H a=some (.frz o (.lst xs))):TyOf K H (.ref a) (.type "list")
 |tup {a:Addr} {xs:List V} (e:H a=some (.tup xs)):TyOf K H (.ref a) (.type "tuple")
 |dK {a:Addr} {kvs:List (Key×V)} (e:H a=some (.dK kvs)):TyOf K H (.ref a) (.type "dict")
 |dT {a:Addr} {kvs:List (List Key×V)} (e:H a=some (.dT kvs)):TyOf K H (.ref a) (.type "dict")
 |ins {a C dx:Addr} {fs:List (Str×V)} (e:H a=some (.ins C dx fs)) (cl:Cls K C) (ha:PySem.W.findIn K (.ref C) "__class__"=some (some (.builtin "object.__class__")))
   (hn:PySem.W.specialIn K (.builtin "object.__class__") "__get__"=some (some (.builtin "getset_descriptor.__get__"))) (htk:PySem.W.takesIn K (.builtin "object.__class__")=some true)
   (hm:PySem.W.mroIn K C (.type "object")=some true):TyOf K H (.ref a) (.ref C)
theorem Y9{x:V}{u t:Value}(I:Inv X pins σ H s)(rx:RelV x u)(ty:TyOf X.K H x t)(e:PySem.W.kitOne X.K t c=some b)(h:∀tk,Q (.bool b) { s with toks:=tk }):
  wpAny (model X.prog X.w) A (call (.builtin "isinstance") [u,c]) Q E s:=by
 cases ty with
 |non=>cases (show u=Value.none from rx);exact eI PySem.W.kitx_none I.kIn True.intro e (λz=>nomatch z) h
 |bl y=>cases (show u=Value.bool y from rx);exact eI PySem.W.kitx_bool I.kIn True.intro e (λz=>nomatch z) h
 |int i=>obtain ⟨t,q⟩:=(show ∃t,u=Value.int i t from rx);cases q;exact eI PySem.W.kitx_int I.kIn True.intro e (λz=>nomatch z) h
 |str y=>obtain ⟨t,q⟩:=(show ∃t,u=Value.str y t from rx);cases q;exact eI PySem.W.kitx_str I.kIn True.intro e (λz=>nomatch z) h
 |flt y=>obtain ⟨t,q⟩:=(show ∃t,u=Value.float y t from rx);cases q;exact eI PySem.W.kitx_float I.kIn True.intro e (λz=>nomatch z) h
 | @lst a xs ea=>
  cases (show u=Value.ref a from rx);obtain ⟨_,_,n,_,h1⟩:=(show ObjOk X.prog X.w H s.heap a (.lst xs) from I.hok a _ ea);exact eI PySem.W.kitx_list I.kIn ⟨_,h1,rfl⟩ e (λz=>nomatch z) h
 | @frz a ob xs ea=>
  cases (show u=Value.ref a from rx);obtain ⟨_,_,_,n,_,h1⟩:=(show ObjOk X.prog X.w H s.heap a (.frz ob (.lst xs)) from I.hok a _ ea);exact eI PySem.W.kitx_list I.kIn ⟨_,h1,rfl⟩ e (λz=>nomatch z) h
 | @tup a xs ea=>
  cases (show u=Value.ref a from rx);obtain ⟨_,_,_,p⟩:=(show ObjOk X.prog X.w H s.heap a (.tup xs) from I.hok a _ ea);obtain ⟨o,h1,h2,_⟩:=p;exact eI PySem.W.kitx_tuple I.kIn ⟨o,h1,h2⟩ e (λz=>nomatch z) h
 | @dK a kvs ea=>
  cases (show u=Value.ref a from rx);obtain ⟨_,_,vs,_,p⟩:=(show ObjOk X.prog X.w H s.heap a (.dK kvs) from I.hok a _ ea);obtain ⟨o,es,ep,h1,h2,_⟩:=p;exact eI PySem.W.kitx_dict I.kIn ⟨o,h1,h2.1⟩ e (λz=>nomatch z) h
 | @dT a kvs ea=>
  cases (show u=Value.ref a from rx);obtain ⟨_,_,xs,_,o,es,ep,h1,h2,_⟩:=(show ObjOk X.prog X.w H s.heap a (.dT kvs) from I.hok a _ ea);exact eI PySem.W.kitx_dict I.kIn ⟨o,h1,h2.1⟩ e (λz=>nomatch z) h
 | @ins a C dx fs ea cl ha hn htk hm=>
  cases (show u=Value.ref a from rx);obtain ⟨mA,O,_⟩:=Y7 I.hok ea;obtain ⟨od,J,_⟩:=O.look;exact eI (PySem.W.kitx_own (cl.get _) cl.hd ha hn htk hm) I.kIn J e (λz=>nomatch z) h
end
structure Room(k:Nat)(A:Around):Prop where
 hd:A.handled=none
 dp:A.depth+3 * k+5 < recursionLimit
 un:A.units+16 * k+200 < cLine
theorem Room.mono{j k:Nat}{A:Around}(r:Room k A)(h:j<=k):Room j A:=⟨r.hd,by have:=r.dp;omega,by have:=r.un;omega⟩
theorem Room.deeper{k:Nat}{A:Around}(r:Room (k+1) A)(env:Env):Room k (A.deeper env):=
 ⟨r.hd,by have:=r.dp;show A.depth+1+3 * k+5 < _;omega,by have:=r.un;show A.units+3+16 * k+200 < _;omega⟩
theorem Room.depth{k:Nat}{A:Around}(r:Room k A):A.depth < recursionLimit:=by have:=r.dp;omega
def Za:TA:=λ_ H Q=>Q [] H
def Zb(ta:TE)(tr:TA):TA:=λY H Q=>ta Y H λx H1=>tr Y H1 λxs H2=>Q (x::xs) H2
section
variable {X:Cx} {e:Expr} {es:List Expr} {te:TE} {t:TA} {pos:Pos}
theorem jk:PA X [] Za:=λ_ _ _ _ H Q I h=>Calls.spliced_nil ⟨[],H,I,.nil,h⟩
theorem gK(ha:PE X e te)(hr:PA X es t)(hs:starEach (e::es) X.env=(false,eval e X.env)::starEach es X.env:=by rfl):PA X (e::es) (Zb te t):=by intro pos pins s Y H Q I h;rw[hs];show wpAny _ _ (spliced ((false,eval e X.env)::backTo pos (starEach es X.env))) _ _ s;refine Calls.spliced_cons (thn (ha pins s Y H _ I h) λu s1 ⟨x,H1,I1,r1,q1⟩=>?_);exact thn (hr pos pins s1 Y H1 _ I1 q1) λus s2 ⟨xs,H2,I2,r2,q2⟩=>⟨x::xs,H2,I2,.cons r1 r2,q2⟩
def Zc(t:TA):TE:=λY H Q=>t Y H λxs H1=>xs.length<=sizeLine/\∀p,H1 p=none->Q (.ref p) (upd H1 p (.tup xs))
def Zd(t:TA):TE:=λY H Q=>t Y H λxs H1=>xs.length<=sizeLine/\∀p,H1 p=none->Q (.ref p) (upd H1 p (.lst xs))
theorem Ze{x1}(h:PA X es t):PE X (.Tuple es x1 pos) (Zc t):=by intro pins s Y H Q I hq;refine wpAny_Tuple_spliced (thn (h pos pins s Y H _ I hq) λus s1 ⟨xs,H1,I1,r,z,q⟩=>⟨by rw[<-r.length];exact z,?_⟩);have hf:H1 s1.heap.objs.size=none:=I1.hok.fresh (ay _);refine ⟨.ref s1.heap.objs.size,upd H1 s1.heap.objs.size (.tup xs),I1.laid (t':=s1.toks) (λb u e=>av _ e) (ay _) ?_,rfl,q _ hf⟩;exact ⟨z,us,r,⟨_,bv _ rfl,rfl,_,rfl⟩⟩
theorem Zf(h:PA X es t):PE X (.List es pos) (Zd t):=by intro pins s Y H Q I hq;refine wpAny_List_spliced (thn (h pos pins s Y H _ I hq) λus s1 ⟨xs,H1,I1,r,z,q⟩=>⟨by rw[<-r.length];exact z,?_⟩);have hf:H1 s1.heap.objs.size=none:=I1.hok.fresh (ay _);refine ⟨.ref s1.heap.objs.size,upd H1 s1.heap.objs.size (.lst xs),I1.laid (t':=s1.toks) (λb u e=>av _ e) (ay _) ?_,rfl,q _ hf⟩;exact ⟨z,us,0,r,bv _ rfl⟩
end
abbrev Sp:=List V->Hp->VK->XK->Prop
abbrev CXT:=List Env->Hp->Shared->XK->Value->Shared->Prop
structure Env0(P:Program)(w:World)(K:PF)(mg:Str->Option Value)(base:Heap)(A:Around)(outer:List Env)(s:Shared)(H:Hp):Prop where
 frames:A.frames=some outer
 mod:Mod K mg base
 bs:∀b o,base.get? b=some o->s.heap.get? b=some o/\H b=none
 bsz:base.objs.size<=(~~~s)
 funs:s.heap.FunFrames base outer
 frf:∀b∈frs outer,H b=none
 hok:HOk P w H s.heap
 bare:AllBare s.gens
def CE(outer:List Env)(P:Program)(w:World)(H:Hp)(s:Shared)(Q:VK)(u:Value)(s':Shared):Prop:=
 ∃v H',s'.os=s.os/\AllBare s'.gens/\Un (frs outer) [] H H' s.heap s'.heap/\HOk P w H' s'.heap/\RelV v u/\Q v H'
def CR(CX:CXT)(outer:List Env)(P:Program)(w:World)(H:Hp)(s:Shared)(Q:VK)(E:XK)(r:Result)(s':Shared):Prop:=
 match r with
 |.ok (.ret u)=>CE outer P w H s Q u s'
 |.ok _=>False
 |.error e=>CX outer H s E e s'
structure FnOk(P:Program)(w:World)(K:PF)(mg:Str->Option Value)(base:Heap)(CX:CXT)(k:Nat)(f:Addr)(fd:FuncData)(ps:List Str)(sp:Sp):Prop where
 len:∀vs H Q E,sp vs H Q E->vs.length=ps.length
 run:∀(A:Around)(outer:List Env)(s:Shared)(H:Hp)(args:Args)(us:List Value)(vs:List V)(Q:VK)(E:XK),Room k A->Env0 P w K mg base A outer s H->BindsTo s fd args (ps.zip us)->Vals vs us->sp vs H Q E->
  codeAny (model P w) A (.call (.ref f) args) (CR CX outer P w H s Q E) s
theorem FnOk.mono{P:Program}{w:World}{K:PF}{mg:Str->Option Value}{base:Heap}{CX:CXT}{j k:Nat}{f:Addr}{fd:FuncData}{ps:List Str}{sp:Sp}(F:FnOk P w K mg base CX j f fd ps sp)(h:j<=k):
  FnOk P w K mg base CX k f fd ps sp:=⟨F.len,λA outer s H args us vs Q E hr=>F.run A outer s H args us vs Q E (hr.mono h)⟩
theorem FnOk.imp{P:Program}{w:World}{K:PF}{mg:Str->Option Value}{base:Heap}{CX:CXT}{k:Nat}{f:Addr}{fd:FuncData}{ps:List Str}{sp sp':Sp}(F:FnOk P w K mg base CX k f fd ps sp)
  (h:∀vs H Q E,sp' vs H Q E->sp vs H Q E):FnOk P w K mg base CX k f fd ps sp':=
 ⟨λvs H Q E q=>F.len vs H Q E (h _ _ _ _ q),λA outer s H args us vs Q E hr he hb hv hs=>F.run A outer s H args us vs Q E hr he hb hv (h _ _ _ _ hs)⟩
section
variable {X:Cx} {pins:List (Addr×Obj)} {σ:St} {H:Hp} {s s':Shared}
theorem Inv.env0(I:Inv X pins σ H s):Env0 X.prog X.w X.K X.mg X.base X.A X.stack s H:=
 ⟨I.ok.frames,I.ok.mod,I.bs,cp I.ok.bsz I.sz,I.stack,I.stkFree,I.hok,I.bare⟩
theorem Inv.after{Q:VK}{u:Value}(I:Inv X pins σ H s)(h:CE X.stack X.prog X.w H s Q u s'):EP X pins σ Q u s':=by obtain ⟨v,H',os,bare,un,hok,r,q⟩:=h;obtain ⟨hh,g,d,t,os'⟩:=s';obtain rfl:os'=s.os:=os;exact ⟨v,H',I.call (h':=hh) (g':=g) (d':=d) (t':=t) (ch:=[]) un hok bare (λb z=>absurd z (by simp)),r,q⟩
end
def Zg(sp:Sp)(dvs:List V)(E:XK)(t:TA):TE:=λY H Q=>t Y H λvs H1=>sp (vs++dvs) H1 Q E
def Binds(K:PF)(fd:FuncData)(ps:List Str)(ds:List Value):Prop:=
 ∀(s:Shared)(us:List Value),K.In s.heap->(us++ds).length=ps.length->BindsTo s fd ⟨us,[]⟩ (ps.zip (us++ds))
theorem Binds.all{K:PF}{fd:FuncData}{ps:List Str}(h:∀us:List Value,us.length=ps.length->bindArgs fd ⟨us,[]⟩=pure (ps.zip us)):Binds K fd ps []:=λs us _ hl=>by
 rw[eg]at hl ⊢;exact .of_eq (h us hl)
def lF(CX:CXT)(X:Cx)(E:XK):Prop:=∀(pins:List (Addr×Obj))(Y:St)(H:Hp)(s:Shared)(e:Value)(s':Shared),Inv X pins Y H s->CX X.stack H s E e s'->X.xe e s'
section
variable {X:Cx} {CX:CXT} {k:Nat} {f C:Addr} {fd:FuncData} {ps:List Str} {sp:Sp} {dvs:List V} {ds:List Value} {E:XK} {x m:Str} {p pos apos:Pos} {e o:Expr} {es:List Expr} {ta:TE} {t:TA}
theorem Zh{pins:List (Addr×Obj)}{Y:St}{H:Hp}{s:Shared}{Q:VK}{us:List Value}{vs:List V}(F:FnOk X.prog X.w X.K X.mg X.base CX k f fd ps sp)(hr:Room k X.A)(hb:Binds X.K fd ps ds)(hd:Vals dvs ds)(hx:lF CX X E)
  (I:Inv X pins Y H s) (r:Vals vs us) (h:sp (vs++dvs) H Q E):↥X (call (.ref f) us) (EP X pins Y Q) X.xe s:=by
 have r2:Vals (vs++dvs) (us++ds):=r.append hd;have hl:(us++ds).length=ps.length:=by rw[<-r2.length];exact F.len _ _ _ _ h
 refine wpAny_call (codeAny_mono (F.run X.A X.stack s H ⟨us,[]⟩ (us++ds) (vs++dvs) Q E hr I.env0 (hb s us I.kIn hl) r2 h) λr s' hq=>?_);cases r with
 |error e=>exact hx pins Y H s e s' I hq
 |ok fl=>
  cases fl with
  |ret u=>exact I.after hq
  |next=>exact False.elim hq
  |brk=>exact False.elim hq
  |cont=>exact False.elim hq
theorem Zi(F:FnOk X.prog X.w X.K X.mg X.base CX k f fd ps sp)(hr:Room k X.A)(hg:Gl X x)(hm:X.mg x=some (.ref f))(hk:PySem.W.keepIn X.K (.ref f)=true)(hb:Binds X.K fd ps ds)(hd:Vals dvs ds)(hx:lF CX X E)
  (ha:PA X (e::es) t) (hdb:(x==("__debug__":Str))=false:=by decide) (he:starEach (e::es) X.env=(false,eval e X.env)::starEach es X.env:=by rfl) (hpl:(backTo pos (starEach es X.env)).any (·.1)=false:=by rfl):
  PE X (.Call (.Name x p) (e::es) [] pos) (Zg sp dvs E t):=by
 intro pins s Y H Q I h;refine wpAny_Call_Name_kw (xK I hg hm ?_ hdb);refine PySem.W.callWith_K (h₀:=X.base) I.ok.mod.kin hk (thn (ha pos pins s Y H _ I h) λus s1 ⟨vs,H1,I1,r,q⟩=>⟨I1.kIn,?_⟩) he hpl;exact Zh F hr hb hd hx I1 r q
structure Mk(K:PF)(C f:Addr):Prop where
 makes:PySem.W.makesIn K C=true
 init:PySem.W.findIn K (.ref C) "__init__"=some (some (.ref f))
 fn:PySem.W.isFn K (.ref f)=true
 kp:PySem.W.keepIn K (.ref C)=true
end
structure FnScope(N P:List Str)(sc:Scope):Prop where
 kind:sc.kind=.function
 co:sc.isCoroutine=false
 gen:sc.isGenerator=false
 nd:N.Nodup
 pre:N.take P.length=P
 par:∀x∈P,sc.names.lookup x=some .local\/sc.names.lookup x=some .cell
 nofree:∀y∈sc.names,y.2≠.free
theorem Eb{kindOf:Str->Option NameKind}{x:Str}:∀{binds:List (Str×Value)}{m:Str->Option Value},(∀v,(x,v)∉binds)->bindL kindOf binds m x=m x
 |[],_,_=>rfl
 | (n,v)::r,m,h=>by
  unfold bindL;rw[Eb λw hw=>h w (aI _ hw)];split
  ·have:x≠n:=by rintro rfl;exact h v aS
   simp[this]
  ·rfl
theorem Ec{kindOf:Str->Option NameKind}{x:Str}:∀{binds:List (Str×Value)}{m:Str->Option Value},(∀v,(x,v)∉binds)->bindC kindOf binds m x=m x
 |[],_,_=>rfl
 | (n,v)::r,m,h=>by
  unfold bindC;rw[Ec λw hw=>h w (aI _ hw)];split
  ·rfl
  ·have:x≠n:=by rintro rfl;exact h v aS
   simp[this]
theorem Ed{kindOf:Str->Option NameKind}{x:Str}{v:Value}:∀{P:List Str}{vs:List Value}{i:Nat}{m:Str->Option Value},P.Nodup->P[i]?=some x->vs[i]?=some v->kindOf x=some .local->
  bindL kindOf (P.zip vs) m x=some v
 |[],_,_,_,_,h,_,_=>by simp at h
 |_::_,[],_,_,_,_,h,_=>by simp at h
 |p::P,w::vs,0,m,nd,h1,h2,hk=>by
  simp at h1 h2;subst h1;subst h2;show bindL kindOf ((p,w)::P.zip vs) m p=_;unfold bindL;rw[Eb λv hv=>(gE.mp nd).1 (List.of_mem_zip hv).1,if_pos hk];simp
 |p::P,w::vs,i+1,m,nd,h1,h2,hk=>by
  show bindL kindOf ((p,w)::P.zip vs) m x=_;unfold bindL;exact Ed (i:=i) (gE.mp nd).2 (by simpa using h1) (by simpa using h2) hk
theorem Ef{kindOf:Str->Option NameKind}{x:Str}{v:Value}:∀{P:List Str}{vs:List Value}{i:Nat}{m:Str->Option Value},P.Nodup->P[i]?=some x->vs[i]?=some v->kindOf x≠some .local->
  bindC kindOf (P.zip vs) m x=some v
 |[],_,_,_,_,h,_,_=>by simp at h
 |_::_,[],_,_,_,_,h,_=>by simp at h
 |p::P,w::vs,0,m,nd,h1,h2,hk=>by
  simp at h1 h2;subst h1;subst h2;show bindC kindOf ((p,w)::P.zip vs) m p=_;unfold bindC;rw[Ec λv hv=>(gE.mp nd).1 (List.of_mem_zip hv).1,if_neg hk];simp
 |p::P,w::vs,i+1,m,nd,h1,h2,hk=>by
  show bindC kindOf ((p,w)::P.zip vs) m x=_;unfold bindC;exact Ef (i:=i) (gE.mp nd).2 (by simpa using h1) (by simpa using h2) hk
def start(N:List Str)(vs:List V):St:=vs.map some++List.replicate (N.length - vs.length) none
def dX(CX:CXT)(P:Program)(w:World)(K:PF)(mg:Str->Option Value)(base:Heap)(N:List Str)(qual:Str)(scope:Scope)(f:Addr)(cd:Value)(A:Around)(outer:List Env)(s:Shared)(H:Hp)(E:XK):Cx where
 prog:=P
 w:=w
 K:=K
 mg:=mg
 base:=base
 A:=A.deeper (envOfC qual scope (~~~s) f cd)
 N:=N
 s₀:=s
 H₀:=H
 env:=envOfC qual scope (~~~s) f cd
 outer:=outer
 stack:=envOfC qual scope (~~~s) f cd::outer
 ex:=[]
 calm:=true
 fn:=λ_=>true
 pn:=[]
 xe:=λe s'=>wpAny (model P w) (A.deeper (envOfC qual scope (~~~s) f cd)) (leaving (envOfC qual scope (~~~s) f cd) e) (λ_ s''=>CX outer H s E e s'') (λe' s''=>CX outer H s E e' s'') s'
theorem Eg{sc:Scope}{n:Nat}{x:Str}(h:sc.names.lookup x=some .cell):∃c,(cellsFrom n sc.names []).lookup x=some c:=by have q:=PySem.W.cellsFrom_some sc.names n [] (.inl h);exact dv.mp q
theorem Eh{CX:CXT}{P:Program}{w:World}{K:PF}{mg:Str->Option Value}{base:Heap}{N ps:List Str}{qual:Str}{scope:Scope}{f:Addr}{cd:Value}{A:Around}{outer:List Env}{s s1:Shared}{H:Hp}{E:XK}{us:List Value}{vs:List V}
  (S:FnScope N ps scope) (hd:A.handled=none) (e0:Env0 P w K mg base A outer s H) (hl:vs.length=ps.length) (r:Vals vs us)
  (x:InCallC s (~~~s) (bindL (envOfC qual scope (~~~s) f cd).kindOf (ps.zip us) λ_=>none) (cellsFrom ((~~~s)+1) scope.names []) (bindC (envOfC qual scope (~~~s) f cd).kindOf (ps.zip us) λ_=>none) s1):
  Inv (dX CX P w K mg base N qual scope f cd A outer s H E) [] (start N vs) H s1:=by
 have hpl:ps.length<=N.length:=by have:=fE List.length S.pre;rw[bX]at this;omega
 obtain ⟨h1,tk,rfl,hk⟩:=x.done;have noA:∀b:Addr,b∉(dX CX P w K mg base N qual scope f cd A outer s H E).ex:=λb z=>absurd (show b∈([]:List Addr) from z) (by simp);refine ⟨⟨e0.mod,S.kind,rfl,rfl,ay _,λy z c h1 h2=>?_,λy hy=>?_,λy c _ h=>?_,λ_=>hd,Around.frames_deeper e0.frames,.inr ⟨rfl,rfl⟩,λb z=>absurd z (noA b),e0.bs,e0.bsz,λb _ _=>noA b,λb z=>absurd z (noA b),e0.funs,e0.frf⟩,
  rfl,e0.bare,Un.kept hk,⟨_,x.toInCall.ns,λi y v h1 h2 h3=>?_⟩,λy c h=>⟨_,x.cell y c h⟩,e0.hok.fresh (ay _),λy c h=>?_,λp hp=>absurd (show p∈([]:List (Addr×Obj)) from hp) (by simp),e0.hok.kept hk,?_⟩
 ·exact name_of_addr x.apart (eT h1) (eT h2)
 ·have hy:scope.names.lookup y=some .cell\/scope.names.lookup y=some .free:=hy;rcases hy with hy |hy
  ·exact Eg hy
  ·exact absurd rfl (S.nofree _ (eT hy))
 ·exact Nat.le_of_lt (x.above y c (eT h))
 ·have hi:i < vs.length:=by
   unfold start at h2;by_cases hi:i < vs.length
   ·exact hi
   ·rw[List.getElem?_append_right (by simpa using hi)]at h2;rw[List.getElem?_replicate]at h2;split at h2 <;> cases h2
  have ha:vs[i]?=some v:=by
   unfold start at h2;rw[e6 (by simpa using hi),ax]at h2;cases e:vs[i]? with
   |none=>rw[e]at h2;cases h2
   |some a=>rw[e]at h2;cases h2;rfl
  obtain ⟨u,hu,rv⟩:=r.get ha;have hp:ps[i]?=some y:=by rw[<-S.pre,List.getElem?_take_of_lt (by omega)];exact h1
  have ndP:ps.Nodup:=by rw[<-S.pre];exact S.nd.sublist (List.take_sublist _ _)
  refine ⟨u,rv,?_⟩;rcases S.par y (ba hp) with k |k
  ·exact .inl ⟨k,Ed ndP hp hu k⟩
  ·obtain ⟨c,e⟩:=Eg (n:=(~~~s)+1) k;refine .inr ⟨.inl k,c,e,?_⟩;have q:=x.cell y c e;rw[Ef ndP hp hu (by show scope.names.lookup y≠_;rw[k];decide)]at q;exact q
 ·exact e0.hok.fresh (Nat.le_of_lt (x.above y c (eT h)))
 ·unfold start;show _=N.length;rw[aE,af,bS];omega
theorem Zj{CX:CXT}{P:Program}{w:World}{K:PF}{mg:Str->Option Value}{base:Heap}{k:Nat}{f:Addr}{name qual:Str}{params:Arguments}{body:List Stmt}{scope:Scope}{dV kV doc pm cdv ct oc:Value}{an od:Option Addr}
  {osl:Array (Option Value)} {N ps:List Str} {sp:Sp} (lk:K.lookup f=some ⟨oc,od,.func (PySem.W.fnOf name qual params body scope dV kV doc pm an cdv ct),osl⟩) (hcd:PySem.W.codeIn K cdv qual=true) (S:FnScope N ps scope)
  (len:∀vs H Q E,sp vs H Q E->vs.length=ps.length)
  (hbody:∀(A:Around)(outer:List Env)(s:Shared)(H:Hp)(vs:List V)(Q:VK)(E:XK),Room k (A.deeper (envOfC qual scope (~~~s) f cdv))->sp vs H Q E->
   ∃t,PSs (dX CX P w K mg base N qual scope f cdv A outer s H E) body t/\t { nx:=λ_ H'=>Q .non H',rt:=Q } (start N vs) H):
  FnOk P w K mg base CX (k+1) f (PySem.W.fnOf name qual params body scope dV kV doc pm an cdv ct) ps sp:=by
 refine ⟨len,λA outer s H args us vs Q E hr e0 hb r hsp=>?_⟩;have hl:=len _ _ _ _ hsp;have KX:K.In s.heap:=e0.mod.kin.keeps λb o e=>(e0.bs b o e).1;have lim:s.heap.NoLimit:=e0.mod.nolimit.keeps λb o e=>(e0.bs b o e).1;have hkind:∀y∈ps.zip us,scope.names.lookup y.1=some .local\/(scope.names.lookup y.1=some .cell/\((cellsFrom ((~~~s)+1) scope.names []).lookup y.1).isSome=true):=λ⟨n,v⟩ hy=>by
  rcases S.par n (List.of_mem_zip hy).1 with q |q
  ·exact .inl q
  ·exact .inr ⟨q,PySem.W.cellsFrom_some _ _ _ (.inl q)⟩
 refine codeAny_call_function hr.depth (KX _ _ lk) rfl S.co S.gen rfl (PySem.W.codeRec_of KX hcd) (hb _ _ _ _ ?_);refine wpAny_newFunctionEnv_cells S.kind hkind λenv he s1 x=>?_;subst he;refine ⟨lim.keeps x.toInCall.keep,codeAny_func ?_⟩;obtain ⟨t,ht,hq⟩:=hbody A outer s H vs Q E (hr.deeper _) hsp;have I:Inv (dX CX P w K mg base N qual scope f cdv A outer s H E) [] (start N vs) H s1:=Eh S hr.hd e0 hl r x;refine dS (ht [] s1 (start N vs) H _ I hq) (λfl s' hs=>?_) λe s' hs=>hs;have fin:∀{σ':St}{H':Hp}{v:V}{u:Value},Inv (dX CX P w K mg base N qual scope f cdv A outer s H E) [] σ' H' s'->RelV v u->Q v H'->CE outer P w H s Q u s':=
  λ{σ' H' v u} J rv q=>⟨v,H',J.os,J.bare,J.base,J.hok,rv,q⟩
 cases fl with
 |ret u=>
  obtain ⟨v,σ',H',J,rv,q⟩:=hs;exact fin J rv q
 |next=>
  obtain ⟨σ',H',J,q⟩:=hs;exact fin (v:=V.non) (u:=Value.none) J rfl q
 |brk=>
  obtain ⟨_,_,_,q⟩:=hs;exact False.elim q
 |cont=>
  obtain ⟨_,_,_,q⟩:=hs;exact False.elim q
section
variable {X:Cx} {x:Str} {p pos:Pos} {e:Expr} {es:List Expr} {t:TA} {id T:String} {r:List V->Hp->VK->Prop}
def tCB(r:List V->Hp->VK->Prop)(t:TA):TE:=λY H Q=>t Y H λvs H1=>r vs H1 Q
theorem lG (hc:bW X (.builtin id) r) (hg:Gl X x) (hm:X.mg x=none) (hv:bootBuiltins x=some (.builtin id)) (ha:PA X (e::es) t) (hn:x≠"__name__":=by decide) (hdb:(x==("__debug__":Str))=false:=by decide)
  (he:starEach (e::es) X.env=(false,eval e X.env)::starEach es X.env:=by rfl) (hpl:(backTo pos (starEach es X.env)).any (·.1)=false:=by rfl):PE X (.Call (.Name x p) (e::es) [] pos) (tCB r t):=by
 intro pins s Y H Q I h;refine wpAny_Call_Name_kw (gJ I hg hm hv ?_ hn hdb);exact PyProof.Rows.callWith_builtin1 (thn (ha pos pins s Y H _ I h) λus s1 ⟨vs,H1,I1,r1,q1⟩=>hc pins s1 Y H1 vs us Q I1 r1 q1) he hpl
theorem sI (hc:bW X (.type T) r) (hg:Gl X x) (hm:X.mg x=none) (hv:bootBuiltins x=some (.type T)) (ha:PA X (e::es) t) (hn:x≠"__name__":=by decide) (hdb:(x==("__debug__":Str))=false:=by decide)
  (he:starEach (e::es) X.env=(false,eval e X.env)::starEach es X.env:=by rfl) (hpl:(backTo pos (starEach es X.env)).any (·.1)=false:=by rfl):PE X (.Call (.Name x p) (e::es) [] pos) (tCB r t):=by
 intro pins s Y H Q I h;refine wpAny_Call_Name_kw (gJ I hg hm hv ?_ hn hdb);exact d5 (thn (ha pos pins s Y H _ I h) λus s1 ⟨vs,H1,I1,r1,q1⟩=>hc pins s1 Y H1 vs us Q I1 r1 q1) he hpl
end
end L2
namespace HT
open PySem PyProof.Rows
section
variable {prog:Program} {w:World} {A:Around} {E:Value->Shared->Prop} {s:Shared}
theorem Zk{t b:Addr}{vs ws:List Value}{Q:Value->Shared->Prop}(ht:IsTup s.heap t vs.toArray)(hb:IsTup s.heap b ws.toArray)(hv:vs≠[])
  (h1:ws=[]->Q (.ref t) s) (h2:ws≠[]->Q (.ref (~~~s)) { s with heap:=s.heap.push { cls:=.type "tuple",data:=.seq (vs++ws).toArray } })
  (hsz:vs.length+ws.length<=sizeLine):wpAny (model prog w) A (binaryOp .Add (.ref t) (.ref b)) Q E s:=by
 obtain ⟨⟨cls,dd,data,sl⟩,ho,hc,n,hd⟩:=id ht;obtain ⟨⟨cls2,dd2,data2,sl2⟩,ho2,hc2,n2,hd2⟩:=id hb;simp only at hc hd hc2 hd2;subst hc hd hc2 hd2;have e:vs.toArray++ws.toArray=(vs++ws).toArray:=by simp
 by_cases hw:ws=[]
 ·exact concat_meets ⟨_,ho,rfl⟩ ⟨_,ho2,rfl⟩ noFill_tuple_add seq_tuple_add PySem.F.slot_tuple_add PySem.F.entry_tuple_add (PySem.F.args_tuple_add_2 _ _)
   (tuple_addW1 t b vs.toArray ws.toArray n n2 dd dd2 sl sl2 (by simpa using hv) (by simp[hw])) ⟨ho,ho2,h1 hw⟩
 ·refine concat_meets ⟨_,ho,rfl⟩ ⟨_,ho2,rfl⟩ noFill_tuple_add seq_tuple_add PySem.F.slot_tuple_add PySem.F.entry_tuple_add (PySem.F.args_tuple_add_2 _ _)
   (tuple_addW2 t b vs.toArray ws.toArray n n2 dd dd2 sl sl2 (by simpa using hv) (by simpa using hw) (by rw[List.size_toArray,List.size_toArray];exact hsz)) ⟨ho,ho2,?_⟩
  rw[e];exact h2 hw
def sIx(n d:Nat):Option Int->Nat
 |none=>d
 |some v=>if v < 0 then (v+(n:Int)).toNat else min v.toNat n
theorem Ei(n d k:Nat):sIx n d (some (k:Int))=min k n:=by show (if (k:Int) < 0 then ((k:Int)+(n:Int)).toNat else min (k:Int).toNat n)=min k n;rw[if_neg (by omega),Int.toNat_natCast]
theorem Ej(n d:Nat)(hd:d<=n)(o:Option Int):sIx n d o<=n:=by
 cases o with
 |none=>exact hd
 |some v=>
  show (if v < 0 then (v+(n:Int)).toNat else min v.toNat n)<=n;by_cases hv:v < 0
  ·rw[if_pos hv];omega
  ·rw[if_neg hv];exact Nat.min_le_right _ _
theorem Ek(v:Int)(n d:Nat):(if v < 0 then max (v+(n:Int)) 0 else min v (n:Int))=((sIx n d (some v):Nat):Int):=by
 show (if v < 0 then max (v+(n:Int)) 0 else min v (n:Int))=(((if v < 0 then (v+(n:Int)).toNat else min v.toNat n):Nat):Int);by_cases hv:v < 0
 ·simp only[if_pos hv];omega
 ·simp only[if_neg hv];omega
theorem Zm(lo hi:Option Int)(n:Nat):Builtin.Slice.sliceAdjust lo hi 1 (n:Int)=(((sIx n 0 lo:Nat):Int),((sIx n n hi:Nat):Int)):=by
 have h1:¬((1:Int) < 0):=by omega
 unfold Builtin.Slice.sliceAdjust;simp only[h1,if_false];refine Prod.ext ?_ ?_
 ·cases lo with
  |none=>rfl
  |some v=>exact Ek v n 0
 ·cases hi with
  |none=>rfl
  |some v=>exact Ek v n n
theorem Zn(i j:Nat):Builtin.Slice.slicePlaces (i:Int) (j:Int) 1=j - i:=by
 unfold Builtin.Slice.slicePlaces;have h1:(1:Int) > 0:=by omega
 simp only[h1,if_true,Int.ediv_one];split <;> omega
theorem lH{v:Value}{o:Option Int}{Q:Option Int->Shared->Prop}(p:IsPart v o)(h:Q o s):wpAny (model prog w) A (Builtin.Slice.slicePartIndex v) Q E s:=by
 cases p with
 |none=>exact slicePart_none h
 |int i t=>exact slicePart_int h
theorem El{sl:Addr}{vl vu:Value}{lo hi:Option Int}{n:Nat}{Q:Int×Int×Nat->Shared->Prop}(hs:s.heap.IsSliceOf sl vl vu .none)(pl:IsPart vl lo)(pu:IsPart vu hi)
  (h:Q (((sIx n 0 lo:Nat):Int),1,sIx n n hi - sIx n 0 lo) s):wpAny (model prog w) A (Builtin.Slice.sliceApplied (.ref sl) (pure (n:Int))) Q E s:=by
 obtain ⟨os,hos,hcs,hds⟩:=id hs;unfold Builtin.Slice.sliceApplied Builtin.Slice.sliceFields;refine wpAny_bind (wpAny_bind (wpAny_field hos hds (x:=vl) rfl (wpAny_bind (wpAny_field hos hds (x:=vu) rfl (wpAny_bind (wpAny_field hos hds (x:=.none) rfl (wpAny_pure ?_)))))));refine wpAny_bind (slicePart_none ?_);show wpAny _ _ (if ((1:Int)==0)=true then _ else _) _ _ s;rw[if_neg (by decide)];refine wpAny_bind (lH pl (wpAny_bind (lH pu (wpAny_bind (wpAny_pure ?_)))));show wpAny _ _ (match Builtin.Slice.sliceAdjust lo hi 1 (n:Int) with | (lo,hi)=>pure (lo,(1:Int),Builtin.Slice.slicePlaces lo hi 1)) _ _ s;rw[Zm lo hi n];show wpAny _ _ (pure (((sIx n 0 lo:Nat):Int),(1:Int),Builtin.Slice.slicePlaces ((sIx n 0 lo:Nat):Int) ((sIx n n hi:Nat):Int) 1)) _ _ s;rw[Zn];exact wpAny_pure h
theorem Zo(xs:Array Value)(i k:Nat):((List.range k).filterMap λ(m:Nat)=>xs[((i:Int)+(m:Int) * 1).toNat]?).toArray=((xs.toList.drop i).take k).toArray:=by
 have e:(λ(m:Nat)=>xs[((i:Int)+(m:Int) * 1).toNat]?)=λm=>xs[i+m]?:=by
  funext m;have:((i:Int)+(m:Int) * 1).toNat=i+m:=by omega
  rw[this]
 rw[e];have:=pick_run xs i k;rw[List.filterMap_map]at this;have e2:((λx=>xs[x]?)∘λx=>i+x)=λm=>xs[i+m]?:=rfl;rw[e2]at this;rw[this]
theorem Zq{t sl:Addr}{items:Array Value}{vl vu:Value}{lo hi:Option Int}{Q:Value->Shared->Prop}(ht:IsTup s.heap t items)(hs:s.heap.IsSliceOf sl vl vu .none)(pl:IsPart vl lo)(pu:IsPart vu hi)
  (hw:¬(sIx items.size 0 lo=0/\sIx items.size items.size hi=items.size))
  (h:Q (.ref (~~~s)) { s with heap:=s.heap.push { cls:=.type "tuple",data:=.seq ((items.toList.drop (sIx items.size 0 lo)).take (sIx items.size items.size hi - sIx items.size 0 lo)).toArray } })
  (hsz:items.size<=sizeLine):wpAny (model prog w) A (getItem (.ref t) (.ref sl)) Q E s:=by
 have htake:sizeOk (.seq ((items.toList.drop (sIx items.size 0 lo)).take (sIx items.size items.size hi - sIx items.size 0 lo)).toArray):=by show ((items.toList.drop (sIx items.size 0 lo)).take (sIx items.size items.size hi - sIx items.size 0 lo)).toArray.size<=sizeLine;rw[List.size_toArray,List.length_take,List.length_drop,Array.length_toList];omega
 have hj:sIx items.size items.size hi<=items.size:=Ej _ _ (Nat.le_refl _) hi;obtain ⟨os,hos,hcs,hds⟩:=id hs;have hTs:s.TypeIs (.ref sl) "slice":=⟨os,hos,hcs⟩;unfold getItem;try with_reducible refine wpAny_holding ?_
 first |refine wpAny_bind (wpAny_pure ?_) |skip
 refine wpAny_bind (wpAny_sequenceKey ht.typeIs (by decide) ?_);refine wpAny_bind (wpAny_callSpecial?_slot (name:=Str.ofString "__getitem__") ht.typeIs PyProof.Rows.slot_tuple_getitem
  (wpAny_call_entry PyProof.Rows.slot_tuple_getitem ht.typeIs entry_tuple_getitem ?_ (args_tuple_getitem _ _)))
 show wpAny _ _ (Builtin.Tuple.tupleItemsOf (.ref t) >>= _) _ _ s;refine wpAny_bind (tupleItemsOf_ ht ?_);refine wpAny_bind (wpAny_typeOf hTs ?_);rw[if_pos (by decide)];refine wpAny_bind (El hs pl pu ?_);have hno:¬((((sIx items.size 0 lo:Nat):Int)==0&&(1:Int)==1&&(sIx items.size items.size hi - sIx items.size 0 lo)==items.size)=true):=by intro q;rw[Bool.and_eq_true,Bool.and_eq_true]at q;have q1:((sIx items.size 0 lo:Nat):Int)=0:=eq_of_beq q.1.1;have q2:sIx items.size items.size hi - sIx items.size 0 lo=items.size:=eq_of_beq q.2;exact hw ⟨by omega,by omega⟩
 show wpAny _ _ (if (((sIx items.size 0 lo:Nat):Int)==0&&(1:Int)==1&&(sIx items.size items.size hi - sIx items.size 0 lo)==items.size)=true then _ else _) _ _ s;rw[if_neg hno,Zo];first
  |exact wpAny_bind (m:=Builtin.Tuple.tupleExact _) (wpAny_newObj_type (wpAny_pure ⟨_,rfl,wpAny_pure h⟩) htake)
  |exact wpAny_bind (m:=Builtin.Tuple.tupleExact _) (wpAny_newObj_type (wpAny_bind (wpAny_pure (wpAny_pure ⟨_,rfl,wpAny_pure h⟩))) htake)
  |exact wpAny_bind (wpAny_bind (m:=Builtin.Tuple.tupleExact _) (wpAny_newObj_type (wpAny_pure (wpAny_pure ⟨_,rfl,wpAny_pure h⟩)) htake))
  |exact wpAny_bind (wpAny_bind (m:=Builtin.Tuple.tupleExact _) (wpAny_newObj_type (wpAny_pure ⟨_,rfl,wpAny_pure h⟩) htake))
end
end HT
namespace L2
open PySem PySem.Spec PyProof.Rows
abbrev TO:=St->Hp->(Option Int->Hp->Prop)->Prop
def PO(X:Cx)(e:Option Expr)(t:TO):Prop:=
 ∀(pins:List (Addr×Obj))(s:Shared)(Y:St)(H:Hp)(Q:Option Int->Hp->Prop),Inv X pins Y H s->t Y H Q->
  ↥X (evalPart e X.env) (λu s'=>∃o H',Inv X pins Y H' s'/\IsPart u o/\Q o H') X.xe s
def Zr:TO:=λ_ H Q=>Q none H
def Zt(t:TE):TO:=λY H Q=>t Y H λx H1=>∃i,x=.int i/\Q (some i) H1
theorem intsAre_of{ns:List Int}:∀{us:List Value},Vals (ns.map V.int) us->IntsAre us ns:=by
 induction ns with
 |nil=>intro us r;rw[d6]at r;cases r;exact .nil
 |cons n ns ih=>
  intro us r;rw[bp]at r;cases r with
  |cons r1 r2=>
   obtain ⟨t,e⟩:=r1;subst e;exact .cons n t (ih r2)
section
variable {X:Cx} {e:Expr} {te:TE} {lo hi:Option Expr} {tl th:TO} {pos p2:Pos}
theorem xQ:PO X none Zr:=by intro pins s Y H Q I h;rw[evalPart_none];exact bg ⟨none,H,I,.none,h⟩
theorem Zu(h:PE X e te):PO X (some e) (Zt te):=by intro pins s Y H Q I hw;rw[evalPart_some];refine thn (h pins s Y H _ I hw) λu s1 ⟨x,H1,I1,r1,q1⟩=>?_;obtain ⟨i,rfl,q⟩:=q1;obtain ⟨t,rfl⟩:=r1;exact ⟨some i,H1,I1,.int i t,q⟩
def SlR(X:Cx)(r:V->Option Int->Option Int->Hp->VK->Prop):Prop:=
 ∀(pins:List (Addr×Obj))(s:Shared)(Y:St)(H:Hp)(x:V)(v vl vu:Value)(lo hi:Option Int)(sl:Addr)(Q:VK),Inv X pins Y H s->RelV x v->s.heap.IsSliceOf sl vl vu .none->IsPart vl lo->IsPart vu hi->r x lo hi H Q->
  ∃T id,typeLookup (.type T) "__getitem__"=pure (some (.builtin id))/\s.TypeIs v T/\↥X (getItem v (.ref sl)) (EP X pins Y Q) X.xe s
def tSl(r:V->Option Int->Option Int->Hp->VK->Prop)(te:TE)(tl th:TO):TE:=λY H Q=>te Y H λx H1=>tl Y H1 λl H2=>th Y H2 λu H3=>r x l u H3 Q
theorem Zv{r:V->Option Int->Option Int->Hp->VK->Prop}(hr:SlR X r)(he:PE X e te)(hl:PO X lo tl)(hu:PO X hi th):PE X (.Subscript e (.Slice lo hi none p2) pos) (tSl r te tl th):=by intro pins s Y H Q I h;refine Subscript_ (thn (he pins s Y H _ I h) λv s1 ⟨x,H1,I1,r1,q1⟩=>?_);refine wpAny_Slice (thn (hl pins s1 Y H1 _ I1 q1) λvl s2 ⟨l,H2,I2,pl,q2⟩=>thn (hu pins s2 Y H2 _ I2 q2) λvu s3 ⟨u,H3,I3,pu,q3⟩=>?_);rw[evalPart_none];refine bg ?_;have I4:Inv X pins Y H3 { s3 with heap:=s3.heap.push { cls:=.type "slice",data:=.fields #[vl,vu,.none] } }:=I3.kept (t':=s3.toks) λb ob q=>av _ q;obtain ⟨T,id,hT,ht,hg⟩:=hr pins { s3 with heap:=s3.heap.push { cls:=.type "slice",data:=.fields #[vl,vu,.none] } } Y H3 x v vl vu l u s3.heap.objs.size Q I4 r1 (Heap.IsSliceOf.new ..) pl pu q3;show ↥X (subscriptTail e (.Slice lo hi none p2) v (.ref s3.heap.objs.size)) (EP X pins Y Q) X.xe { s3 with heap:=s3.heap.push { cls:=.type "slice",data:=.fields #[vl,vu,.none] } };exact tail_any (ops:=[.ref s3.heap.objs.size,v]) ht hT hg (by with_unfolding_all rfl)
def eX(xs:List V)(lo hi:Option Int):List V:=(xs.drop (HT.sIx xs.length 0 lo)).take (HT.sIx xs.length xs.length hi - HT.sIx xs.length 0 lo)
theorem Em(xs:List V)(lo hi:Option Int):(eX xs lo hi).length<=xs.length:=by unfold eX;rw[bX,cr];omega
def Zw(K:PF):V->Option Int->Option Int->Hp->VK->Prop:=λx lo hi H Q=>∃a xs,x=.ref a/\SqT K H a xs/\
 ¬(HT.sIx xs.length 0 lo=0/\HT.sIx xs.length xs.length hi=xs.length)/\∀p,H p=none->Q (.ref p) (upd H p (.tup (eX xs lo hi)))
theorem Zx:SlR X (Zw X.K):=by
 intro pins s Y H x v vl vu lo hi sl Q I rx hs pl pu h;obtain ⟨a,xs,rfl,hx,hw,q⟩:=h;cases rx;obtain ⟨its,r,ht,hz⟩:=I.tuple hx;have hlen:its.toArray.size=xs.length:=by rw[aw];exact r.length.symm
 refine ⟨"tuple",_,dy.lookup,ht.typeIs,?_⟩;refine HT.Zq ht hs pl pu (by rw[hlen];exact hw) ?_ (by rw[hlen];exact hz);rw[hlen];refine ⟨.ref (~~~s),_,I.laid (t':=s.toks) (o:=.tup (eX xs lo hi)) (λb ob q=>av _ q) (ay _) ?_,rfl,q _ (I.hok.fresh (ay _))⟩;exact ⟨cp (Em xs lo hi) hz,_,(r.drop (HT.sIx xs.length 0 lo)).take (HT.sIx xs.length xs.length hi - HT.sIx xs.length 0 lo),IsTup.new _ _⟩
def Zy(K:PF):R2:=λx y H Q=>∃a b xs ys,x=.ref a/\y=.ref b/\SqT K H a xs/\SqT K H b ys/\xs≠[]/\xs.length+ys.length<=sizeLine/\
 (ys=[]->Q (.ref a) H)/\(ys≠[]->∀p,H p=none->Q (.ref p) (upd H p (.tup (xs++ys))))
theorem Vals.nil_iff{xs:List V}{us:List Value}(r:Vals xs us):us=[]↔xs=[]:=by
 cases r with
 |nil=>simp
 |cons _ _=>simp
theorem Zz:OpR X (binaryOp .Add) (Zy X.K):=by intro pins s Y H x y v u Q I rx ry h;obtain ⟨a,b,xs,ys,rfl,rfl,ha,hb,hx,hz,q1,q2⟩:=h;cases rx;cases ry;obtain ⟨its,r1,p1,_⟩:=I.tuple ha;obtain ⟨its2,r2,p2,_⟩:=I.tuple hb;refine HT.Zk p1 p2 (λz=>hx (r1.nil_iff.mp z)) (λz=>⟨.ref a,H,I,rfl,q1 (r2.nil_iff.mp z)⟩) (λz=>?_) (by rw[<-r1.length,<-r2.length];exact hz);refine ⟨.ref (~~~s),_,I.laid (t':=s.toks) (o:=.tup (xs++ys)) (λb ob q=>av _ q) (ay _) ?_,rfl,q2 (λw=>z (r2.nil_iff.mpr w)) _ (I.hok.fresh (ay _))⟩;exact ⟨by rw[aE];exact hz,_,r1.append r2,IsTup.new _ _⟩
end
def ixN(n:Nat)(i:Int):Option Nat:=if 0<=i then (if i < n then some i.toNat else none) else if -(n:Int)<=i then some (i+n).toNat else none
def atI{α:Type}(xs:List α)(i:Int):Option α:=(ixN xs.length i).bind λj=>xs[j]?
theorem Eo{n:Nat}{i:Int}{j:Nat}(h:ixN n i=some j):seqIndex? i n=some j/\j < n/\-(n:Int)<=i/\i < n:=by
 unfold ixN at h;by_cases h0:0<=i
 ·rw[if_pos h0]at h;by_cases h1:i < n
  ·rw[if_pos h1]at h;have e:i.toNat=j:=dE h;exact ⟨by rw[seqIndex_of h0 h1,e],by omega,by omega,h1⟩
  ·rw[if_neg h1]at h;cases h
 ·rw[if_neg h0]at h;by_cases h1:-(n:Int)<=i
  ·rw[if_pos h1]at h;have e:(i+n).toNat=j:=dE h;exact ⟨by rw[seqIndex_neg (by omega) h1,e],by omega,h1,by omega⟩
  ·rw[if_neg h1]at h;cases h
theorem jP{α:Type}{xs:List α}{i:Int}{v:α}(h:atI xs i=some v):∃j,seqIndex? i xs.length=some j/\xs[j]?=some v/\j < xs.length/\-(xs.length:Int)<=i/\i < xs.length:=by
 unfold atI at h;cases e:ixN xs.length i with
 |none=>rw[e]at h;cases h
 |some j=>
  rw[e]at h;obtain ⟨h1,h2,h3,h4⟩:=Eo e;exact ⟨j,h1,h,h2,h3,h4⟩
theorem bR{α:Type}{xs:List α}{j:Nat}{v:α}(h:xs[j]?=some v):atI xs (j:Int)=some v:=by
 have hj:j < xs.length:=(am.mp h).1;have e:ixN xs.length (j:Int)=some j:=by unfold ixN;rw[if_pos (by omega),if_pos (by omega)];simp
 unfold atI;rw[e];exact h
theorem xR{α:Type}(xs:List α)(v:α):atI (xs++[v]) (-1)=some v:=by
 have hl:(xs++[v]).length=xs.length+1:=by simp
 have e:ixN (xs++[v]).length (-1)=some xs.length:=by unfold ixN;rw[hl,if_neg (by decide),if_pos (by omega)];congr 1;omega
 unfold atI;rw[e];show (xs++[v])[xs.length]?=some v;simp
def Ep(b:Expr):Prop:=∀o i,subscripted b false o i=operate [o,i] (getItem o i)
def IxR(X:Cx)(r:R2):Prop:=
 ∀(value slice:Expr)(pins:List (Addr×Obj))(s:Shared)(Y:St)(H:Hp)(x y:V)(v u:Value)(Q:VK),Inv X pins Y H s->RelV x v->RelV y u->r x y H Q->
  subscripted slice false v u=operate [v,u] (getItem v u)->↥X (subscriptTail value slice v u) (EP X pins Y Q) X.xe s
def MtR(X:Cx)(id:String)(r:V->List V->Hp->VK->Prop):Prop:=
 ∀(pins:List (Addr×Obj))(s:Shared)(Y:St)(H:Hp)(x:V)(xs:List V)(v:Value)(us:List Value)(Q:VK),Inv X pins Y H s->RelV x v->Vals xs us->r x xs H Q->
  ↥X (call (.builtin id) (v::us)) (EP X pins Y Q) X.xe s
section
variable {X:Cx} {a b:Expr} {ta tb:TE} {pos:Pos}
theorem ZC{r:R2}(hr:IxR X r)(ha:PE X a ta)(hb:PE X b tb)(hs:Ep b):PE X (.Subscript a b pos) (tOp r ta tb):=by intro pins s Y H Q I h;exact Subscript_ (xO ha hb I h λv u s2 x y H2 I2 rx ry q=>hr a b pins s2 Y H2 x y v u Q I2 rx ry q (hs _ _))
def ZD(K:PF):R2:=λx y H Q=>∃p xs i v,x=.ref p/\y=.int i/\SqL K H p xs/\atI xs i=some v/\Q v H
def ZF(K:PF):R2:=λx y H Q=>∃p xs i v,x=.ref p/\y=.int i/\SqT K H p xs/\atI xs i=some v/\Q v H
def ZG:R2:=λx y H Q=>∃z i c,x=.str z/\y=.int i/\z.length<=sizeLine/\atI z.cps.toList i=some c/\Q (.str ⟨#[c]⟩) H
theorem ZJ:IxR X (ZD X.K):=by
 intro value slice pins s Y H x y v u Q I rx ry h hs;obtain ⟨p,xs,i,z,rfl,rfl,hq,he,q⟩:=h;cases rx;obtain ⟨t,rfl⟩:=ry;obtain ⟨its,r,pl,hz⟩:=I.list hq;obtain ⟨j,h1,h2,h3,h4,h5⟩:=jP he;obtain ⟨w,ew,rw'⟩:=r.get h2;have hl:=r.length;have hn:=iy;have fin:EP X pins Y Q w s:=⟨z,H,I,rw',q⟩;by_cases h0:0<=i
 ·have hj:i.toNat=j:=by
   rw[seqIndex_of h0 h5]at h1;exact dE h1
  exact item_listR pl.isList h0 (by omega) (by rw[hj];simpa using ew) fin hs
 ·have hj:(i+(its.toArray.size:Int)).toNat=j:=by
   rw[seqIndex_neg (by omega) h4]at h1;rw[aw,<-hl];exact dE h1
  exact subscriptTail_builtinR (x:=w) pl.isList.typeIs slot_list_getitem.lookup
   (wpAny_getItem_list_neg (Q:=λr s'=>r=w/\EP X pins Y Q r s') pl.isList (by omega) (by rw[aw] <;> omega) (by omega) (by rw[hj];simpa using ew) ⟨rfl,fin⟩) hs
theorem ZK:IxR X (ZF X.K):=by
 intro value slice pins s Y H x y v u Q I rx ry h hs;obtain ⟨p,xs,i,z,rfl,rfl,hq,he,q⟩:=h;cases rx;obtain ⟨t,rfl⟩:=ry;obtain ⟨its,r,pl,hz⟩:=I.tuple hq;obtain ⟨j,h1,h2,h3,h4,h5⟩:=jP he;obtain ⟨w,ew,rw'⟩:=r.get h2;have hl:=r.length;have hn:=iy;have fin:EP X pins Y Q w s:=⟨z,H,I,rw',q⟩;exact subscriptTail_builtinR (x:=w) pl.typeIs slot_tuple_getitem.lookup
  (getItem_tuple (j:=j) (Q:=λr s'=>r=w/\EP X pins Y Q r s') pl (by omega) (by omega) (by rw[aw,<-hl];exact h1) (by simpa using ew) ⟨rfl,fin⟩) hs
theorem ZL:IxR X ZG:=by
 intro value slice pins s Y H x y v u Q I rx ry h hs;obtain ⟨z,i,c,rfl,rfl,hz,he,q⟩:=h;obtain ⟨t,rfl⟩:=rx;obtain ⟨t',rfl⟩:=ry;obtain ⟨j,h1,h2,h3,h4,h5⟩:=jP he;have hl:z.cps.toList.length=z.length:=by simp[Str.length]
 rw[hl]at h1 h4 h5;have hn:=iy;exact tail_any (typeIs_str s z t) slot_str_getitem.lookup (getItem_str (c:=c) (by
  have e1:decide (i < -(2 ^ 63:Int))=false:=cy (by omega);have e2:decide (i≥2 ^ 63)=false:=cy (by omega);rw[e1,e2,Bool.or_false]) (by rw[h1];simpa using h2) ⟨.str ⟨#[c]⟩,H,I.tok _,⟨_,rfl⟩,q⟩) hs
theorem ZM (its:List Value) (n j:Nat) (u:Value):Obj.mapSeq (·.setIfInBounds j u) { cls:=.type "list",data:=.seq its.toArray n }={ cls:=.type "list",data:=.seq (its.set j u).toArray n }:=by simp[Obj.mapSeq]
theorem Inv.lst{pins:List (Addr×Obj)}{Y:St}{H:Hp}{s:Shared}{p:Addr}{xs:List V}(I:Inv X pins Y H s)(h:H p=some (.lst xs)):
  ∃(its:List Value) (n:Nat),Vals xs its/\s.heap.get? p=some { cls:=.type "list",data:=.seq its.toArray n }/\xs.length<=sizeLine:=by
 obtain ⟨z,its,n,r,e⟩:=I.hok p _ h;exact ⟨its,n,r,e,z⟩
theorem Inv.lstUpd{pins:List (Addr×Obj)}{Y:St}{H:Hp}{s:Shared}{p:Addr}{xs ys:List V}{its its':List Value}{n n':Nat}{f:Obj->Obj}(I:Inv X pins Y H s)(h:H p=some (.lst xs))
  (ho:s.heap.get? p=some { cls:=.type "list",data:=.seq its.toArray n }) (hf:f { cls:=.type "list",data:=.seq its.toArray n }={ cls:=.type "list",data:=.seq its'.toArray n' }) (r:Vals ys its') (hz:ys.length<=sizeLine) (t:Nat):
  Inv X pins Y (upd H p (.lst ys)) { s with heap:=s.heap.update p f,toks:=t }:=by
 have e:(s.heap.update p f).get? p=some { cls:=.type "list",data:=.seq its'.toArray n' }:=by rw[Heap.get?_update_self f ho (by rw[hf] <;> rfl),hf]
 refine I.write (x:=p) (e:=p) (by rw[h];trivial) (.inl rfl) (λb u hb q=>(Heap.get?_update_other _ _ (Ne.symm hb)).trans q) ⟨_,e⟩ ?_;exact ⟨hz,its',n',r,e⟩
def ZP:V->V->V->Hp->(Hp->Prop)->Prop:=λo i v H Q=>∃p xs k j,o=.ref p/\i=.int k/\H p=some (.lst xs)/\ixN xs.length k=some j/\Q (upd H p (.lst (xs.set j v)))
theorem set_list:sr X ZP:=by
 intro pins s Y H o i v ov iv u Q I ro ri rv h;obtain ⟨p,xs,k,j,rfl,rfl,hp,hj,q⟩:=h;cases ro;obtain ⟨t,rfl⟩:=ri;obtain ⟨its,n,r,ho,hz⟩:=I.lst hp;obtain ⟨h1,h2,h3,h4⟩:=Eo hj;have hl:=r.length;have hn:=iy;have I':Inv X pins Y (upd H p (.lst (xs.set j v))) { s with heap:=s.heap.update p (Obj.mapSeq (·.setIfInBounds j u)) }:=
  I.lstUpd hp ho (ZM its n j u) (r.set rv j) (by rw[cw];exact hz) s.toks
 by_cases h0:0<=k
 ·have hk:k.toNat=j:=by
   rw[seqIndex_of h0 h4]at h1;exact dE h1
  exact PySem.W.ki_setAt ho h0 (by omega) (by rw[aw,<-hl];exact h4) (by rw[hk];exact ⟨_,I',q⟩)
 ·have hk:(k+(its.toArray.size:Int)).toNat=j:=by
   rw[seqIndex_neg (by omega) h3]at h1;rw[aw,<-hl];exact dE h1
  exact PySem.W.ki_setBack ho (by omega) (by rw[aw,<-hl];exact h3) (by omega) (by rw[hk];exact ⟨_,I',q⟩)
theorem Er(lo hi:Option Int)(n:Nat):(sliceBounds lo hi none n).1=((HT.sIx n 0 lo:Nat):Int)/\(sliceBounds lo hi none n).2.1=((HT.sIx n n hi:Nat):Int)/\(sliceBounds lo hi none n).2.2=1:=by
 refine ⟨?_,?_,rfl⟩
 ·cases lo with
  |none=>simp[sliceBounds,HT.sIx]
  |some i=>
   simp only[sliceBounds,HT.sIx,Option.getD_none,show (1:Int) > 0 by decide,if_true];by_cases h:i < 0
   ·simp only[h,if_true] <;> omega
   ·simp only[h,if_false] <;> omega
 ·cases hi with
  |none=>simp[sliceBounds,HT.sIx]
  |some i=>
   simp only[sliceBounds,HT.sIx,Option.getD_none,show (1:Int) > 0 by decide,if_true];by_cases h:i < 0
   ·simp only[h,if_true] <;> omega
   ·simp only[h,if_false] <;> omega
theorem ZQ(its:List Value)(lo hi:Option Int):slicePick its.toArray lo hi none=((its.drop (HT.sIx its.length 0 lo)).take (HT.sIx its.length its.length hi - HT.sIx its.length 0 lo)).toArray:=by obtain ⟨h1,h2,h3⟩:=Er lo hi its.toArray.size;unfold slicePick;rw[h1,h2,h3];simp only[sliceRange_one,pick_run,aw] <;> rfl
def ZR(K:PF):V->Option Int->Option Int->Hp->VK->Prop:=λx lo hi H Q=>∃a xs,x=.ref a/\SqL K H a xs/\∀p,H p=none->Q (.ref p) (upd H p (.lst (eX xs lo hi)))
theorem Es:SlR X (ZR X.K):=by intro pins s Y H x v vl vu lo hi sl Q I rx hs pl pu h;obtain ⟨a,xs,rfl,hx,q⟩:=h;cases rx;obtain ⟨its,r,ht,hz⟩:=I.list hx;have hlen:=r.length;refine ⟨"list",_,slot_list_getitem.lookup,ht.isList.typeIs,?_⟩;refine wpAny_getItem_list_slice ht.isList hs pl pu .none (by simp) ?_ (by rw[aw] <;> omega);rw[ZQ,<-hlen];refine ⟨.ref (~~~s),_,I.laid (t':=s.toks) (o:=.lst (eX xs lo hi)) (λb ob q=>av _ q) (ay _) ?_,rfl,q _ (I.hok.fresh (ay _))⟩;exact ⟨cp (Em xs lo hi) hz,_,0,(r.drop (HT.sIx xs.length 0 lo)).take (HT.sIx xs.length xs.length hi - HT.sIx xs.length 0 lo),bv _ rfl⟩
theorem Et:bW X (.builtin "len") (λxs H Q=>∃p ys,xs=[.ref p]/\(SqL X.K H p ys\/SqT X.K H p ys)/\Q (.int ys.length) H):=by
 intro pins s Y H xs us Q I r h;obtain ⟨p,ys,rfl,hq,q⟩:=h;obtain ⟨u,rfl,rx⟩:=vals1 r;cases rx;have hn:=iy;rcases hq with hq |hq
 ·obtain ⟨its,r',pl,hz⟩:=I.list hq;have hlen:=r'.length;exact Calls.call_len_list pl.isList (by simp only[aw] <;> omega) ⟨.int ys.length,H,I.tok _,⟨s.toks+1,by rw[aw,hlen]⟩,q⟩
 ·obtain ⟨its,r',pl,hz⟩:=I.tuple hq;have hlen:=r'.length;exact len_tuple pl (by simp only[aw] <;> omega) ⟨.int ys.length,H,I.tok _,⟨s.toks+1,by rw[aw,hlen]⟩,q⟩
theorem ZS:bW X (.builtin "len") (λxs H Q=>∃z,xs=[.str z]/\z.length<=sizeLine/\Q (.int z.length) H):=by intro pins s Y H xs us Q I r h;obtain ⟨z,rfl,hz,q⟩:=h;obtain ⟨u,rfl,t,rfl⟩:=vals1 r;have hn:=iy;exact len_str (by omega) ⟨.int z.length,H,I.tok _,⟨_,rfl⟩,q⟩
theorem Eu:bW X (.type "list") (λxs H Q=>∃p ys,xs=[.ref p]/\(SqL X.K H p ys\/SqT X.K H p ys)/\∀l,H l=none->Q (.ref l) (upd H l (.lst ys))):=by
 intro pins s Y H xs us Q I r h;obtain ⟨p,ys,rfl,hq,q⟩:=h;obtain ⟨u,rfl,rx⟩:=vals1 r;cases rx;have fin:∀(its:List Value),Vals ys its->ys.length<=sizeLine->∀(h':Heap)(c':Nat),(∀b o',s.heap.get? b=some o'->h'.get? b=some o')->
   h'.get? (~~~s)=some { cls:=.type "list",dict:=none,data:=.seq its.toArray c',slots:=#[] }->EP X pins Y Q (.ref (~~~s)) { s with heap:=h' }:=λits r' hz h' c' kp e=>
  ⟨.ref (~~~s),_,I.laid (t':=s.toks) kp (ay _) (show ObjOk X.prog X.w _ h' _ (.lst ys) from ⟨hz,its,c',r',e⟩),rfl,q _ (I.hok.fresh (ay _))⟩
 rcases hq with hq |hq
 ·obtain ⟨its,r',pl,hz⟩:=I.list hq;have hlen:=r'.length;obtain ⟨o,ho,hc,n,hd⟩:=pl.isList;exact call_list_seq p (.inl rfl) ho hc hd (λh' c' kp e=>fin its r' hz h' c' kp e) (by simp only[aw] <;> omega)
 ·obtain ⟨its,r',pl,hz⟩:=I.tuple hq;have hlen:=r'.length;obtain ⟨o,ho,hc,n,hd⟩:=pl;exact call_list_seq p (.inr rfl) ho hc hd (λh' c' kp e=>fin its r' hz h' c' kp e) (by simp only[aw] <;> omega)
theorem Ew:bW X (.type "tuple") (λxs H Q=>∃p ys,xs=[.ref p]/\((SqL X.K H p ys/\∀l,H l=none->Q (.ref l) (upd H l (.tup ys)))\/(SqT X.K H p ys/\Q (.ref p) H))):=by
 intro pins s Y H xs us Q I r h;obtain ⟨p,ys,rfl,h⟩:=h;obtain ⟨u,rfl,rx⟩:=vals1 r;cases rx;rcases h with ⟨hq,q⟩ |⟨hq,q⟩
 ·obtain ⟨its,r',pl,hz⟩:=I.list hq;have hlen:=r'.length;refine call_tuple_list pl.isList (λh' kp=>?_) (by simp only[aw] <;> omega);have I1:Inv X pins Y H { s with heap:=h' }:=I.kept (t':=s.toks) kp;have I2:Inv X pins Y (upd H h'.objs.size (.tup ys)) { s with heap:=h'.push { cls:=.type "tuple",data:=.seq its.toArray } }:=
   I1.laid (t':=s.toks) (λb o e=>av _ e) (ay _) (show ObjOk X.prog X.w _ _ _ (.tup ys) from ⟨hz,its,r',IsTup.new _ _⟩)
  exact ⟨.ref h'.objs.size,_,I2,rfl,q _ (I1.hok.fresh (ay _))⟩
 ·obtain ⟨its,r',pl,hz⟩:=I.tuple hq;exact call_tuple_same pl ⟨.ref p,H,I,rfl,q⟩
def tyV(K:PF)(T:String)(x:V)(H:Hp):Prop:=match x with
 |.str _=>T="str"
 |.int _=>T="int"
 |.ref p=>(T="list"/\∃xs,SqL K H p xs)\/(T="tuple"/\∃o,K.lookup p=some o/\o.cls=.type "tuple"/\o.dict=none)\/
   (T="dict"/\((∃kvs,H p=some (.dK kvs))\/∃kvs,H p=some (.dT kvs)))\/(T="set"/\∃S n,H p=some (.set S n))
 |_=>False
theorem ZV{pins:List (Addr×Obj)}{Y:St}{H:Hp}{s:Shared}{T:String}{x:V}{v:Value}(I:Inv X pins Y H s)(r:RelV x v)(ty:tyV X.K T x H):
  s.TypeIs v T/\∀a,v=.ref a->∃ob,s.heap.get? a=some ob/\ob.dict=none:=by
 cases x with
 |str z=>
  obtain ⟨t,rfl⟩:=r;cases (show T="str" from ty);exact ⟨typeIs_str s z t,λ_ e=>nomatch e⟩
 |int i=>
  obtain ⟨t,rfl⟩:=r;cases (show T="int" from ty);exact ⟨typeIs_int s i t,λ_ e=>nomatch e⟩
 |ref p=>
  cases r;rcases ty with ⟨rfl,xs,hq⟩ |⟨rfl,o,hk,hc,hd⟩ |⟨rfl,hk⟩ |⟨rfl,S,n,hk⟩
  ·obtain ⟨its,_,pl,_⟩:=I.list hq;refine ⟨pl.isList.typeIs,λa e=>?_⟩;cases e;obtain ⟨o,n,e,c,hd,_⟩:=pl;exact ⟨o,e,hd⟩
  ·refine ⟨⟨o,I.kIn p o hk,hc⟩,λa e=>?_⟩;cases e;exact ⟨o,I.kIn _ o hk,hd⟩
  ·have z:∃o,s.heap.get? p=some o/\o.ExactDict:=by
    rcases hk with ⟨kvs,hk⟩ |⟨kvs,hk⟩
    ·obtain ⟨_,_,_,_,o,_,_,e,ex,_⟩:=I.hok p _ hk;exact ⟨o,e,ex⟩
    ·obtain ⟨_,_,_,_,o,_,_,e,ex,_⟩:=I.hok p _ hk;exact ⟨o,e,ex⟩
   obtain ⟨o,e,ex⟩:=z;refine ⟨⟨o,e,ex.1⟩,λa e2=>?_⟩;cases e2;exact ⟨o,e,ex.2.1⟩
  ·obtain ⟨o,_,_,_,e,ex,_⟩:=I.hok p _ hk;refine ⟨⟨o,e,ex.1⟩,λa e2=>?_⟩;cases e2;exact ⟨o,e,ex.2.1⟩
 |_=>exact False.elim ty
def tBM(K:PF)(T:String)(r:V->List V->Hp->VK->Prop)(to:TE)(t:TA):TE:=λY H Q=>to Y H λx H1=>tyV K T x H1/\t Y H1 λxs H2=>r x xs H2 Q
variable {o e:Expr} {es:List Expr} {to:TE} {t:TA} {name:Str} {apos cpos:Pos} {T id:String} {r:V->List V->Hp->VK->Prop}
theorem jl (pa:PlainAttrs T) (slot:Slot T name id) (hty:typeOf (.builtin id)=pure (.type "method_descriptor")) (hm:MtR X id r) (ho:PE X o to) (ha:PA X (e::es) t)
  (hbase:attributeBase o name X.env (eval o X.env)=eval o X.env:=by rfl)
  (hfew:((backTo cpos (starEach (e::es) X.env)).all (λx=>!x.1)&&(backToKw cpos (keywordEach [] X.env)).all (λx=>x.1.isSome)
  &&decide ((e::es).length+([]:List Keyword).length+(if ([]:List Keyword).isEmpty then 0 else 1) < 30))=true:=by rfl)
  (hline:(apos.endLine==cpos.line)=true:=by rfl) (hs:starEach (e::es) X.env=(false,eval e X.env)::starEach es X.env:=by rfl) (hplain:(backTo cpos (starEach es X.env)).any (·.1)=false:=by rfl):
  PE X (.Call (.Attribute o name apos) (e::es) [] cpos) (tBM X.K T r to t):=by
 intro pins s Y H Q I h;refine wpAny_Call_method_late hbase hfew hline rfl (thn (ho pins s Y H _ I h) λv s1 ⟨x,H1,I1,r1,ty,q1⟩=>?_);obtain ⟨h1,h2⟩:=ZV I1 r1 ty;refine ⟨T,id,pa,slot,hty,h1,h2,?_⟩;have hA:=ha cpos pins s1 Y H1 _ I1 q1;rw[hs]at hA ⊢;refine Calls.callWith_builtin (by show (false||(backTo cpos (starEach es X.env)).any (·.1))=false;rw[hplain] <;> rfl) (Calls.evalArgs_plain ?_);exact thn hA λus s2 ⟨vs,H2,I2,r2,q2⟩=>hm pins s2 Y H2 x vs v us Q I2 r1 r2 q2
end
def MtM(X:Cx)(id:String)(r:V->List V->Hp->VK->Prop):Prop:=
 ∀(pins:List (Addr×Obj))(s:Shared)(Y:St)(H:Hp)(x:V)(xs:List V)(v:Value)(us:List Value)(Q:VK),Inv X pins Y H s->RelV x v->Vals xs us->r x xs H Q->
  ↥X (call (.builtin id) (v::us)) (EP X pins Y Q) X.xe s
theorem Vals.one:∀{x:V}{us:List Value},Vals [x] us->∃u,us=[u]/\RelV x u
 |_,_,.cons r .nil=>⟨_,rfl,r⟩
theorem Vals.eraseIdx:∀{xs:List V}{us:List Value}(i:Nat),Vals xs us->Vals (xs.eraseIdx i) (us.eraseIdx i)
 |_,_,_,.nil=>.nil
 |_,_,0,.cons _ t=>t
 |_,_,i+1,.cons r t=>.cons r (Vals.eraseIdx i t)
theorem Vals.reverse{xs:List V}{us:List Value}(h:Vals xs us):Vals xs.reverse us.reverse:=by
 induction h with
 |nil=>exact .nil
 |cons r t ih=>rw[List.reverse_cons,List.reverse_cons];exact Vals.append ih (.cons r .nil)
theorem Vals.rep{xs:List V}{us:List Value}(h:Vals xs us):∀k:Nat,Vals (List.replicate k xs).flatten (List.replicate k us).flatten
 |0=>.nil
 |k+1=>by
  rw[de,de,fw,fw];exact Vals.append h (Vals.rep h k)
theorem Ey{α:Type}:∀(l:List α)(i:Nat),(l.eraseIdx i).length<=l.length
 |[],_=>ay _
 |_::_,0=>gS _
 |_::r,i+1=>Nat.succ_le_succ (Ey r i)
theorem foldl_rep(its:List Value):∀(k:Nat)(acc:List Value),
  List.foldl (λx1 x2=>x1++x2) acc.toArray (List.replicate k its.toArray)=(acc++(List.replicate k its).flatten).toArray
 |0,acc=>by simp
 |k+1,acc=>by
  have e:acc.toArray++its.toArray=(acc++its).toArray:=by simp
  have e2:(acc++its)++(List.replicate k its).flatten=acc++(List.replicate (k+1) its).flatten:=by rw[de,fw,eR]
  rw[<-e2,<-foldl_rep its k (acc++its),<-e,de,List.foldl_cons]
section
variable {X:Cx} {pins:List (Addr×Obj)} {σ:St} {H:Hp} {s:Shared} {l b:Addr} {xs ys zs:List V}
theorem Inv.lset{its its':List Value}{n:Nat}{f:Array Value->Array Value}{t':Nat}(I:Inv X pins σ H s)(hH:H l=some (.lst xs))
  (e:s.heap.get? l=some { cls:=.type "list",data:=.seq its.toArray n }) (hf:f its.toArray=its'.toArray) (hv:Vals ys its') (hz:ys.length<=sizeLine):
  Inv X pins σ (upd H l (.lst ys)) { s with heap:=s.heap.update l (Obj.mapSeq f),toks:=t' }:=by
 have q:=PySem.IsL.update e f;rw[hf]at q;refine I.write (x:=l) (e:=l) (by rw[hH];exact trivial) (.inl rfl) (λb' u hb hu=>(Heap.get?_update_other s.heap (Obj.mapSeq f) (Ne.symm hb)).trans hu) ⟨_,q⟩ ?_;exact ⟨hz,its',_,hv,q⟩
theorem Inv.lnew{its:List Value}{t':Nat}(I:Inv X pins σ H s)(hv:Vals ys its)(hz:ys.length<=sizeLine):
  Inv X pins σ (upd H (~~~s) (.lst ys)) { s with heap:=s.heap.push { cls:=.type "list",data:=.seq its.toArray },toks:=t' }:=
 I.laid (λ_ _ q=>av _ q) (ay _) ⟨hz,its,0,hv,bv _ rfl⟩
theorem Inv.fresh(I:Inv X pins σ H s):H (~~~s)=none:=I.hok.fresh (ay _)
theorem Inv.lstM (I:Inv X pins σ H s) (hH:H l=some (.lst xs)):xs.length<=sizeLine/\∃(its:List Value) (n:Nat),Vals xs its/\xs.length=its.length/\s.heap.get? l=some { cls:=.type "list",data:=.seq its.toArray n }:=by obtain ⟨z,its,n,r,e⟩:=I.hok l _ hH;exact ⟨z,its,n,r,r.length,e⟩
theorem Ez{n:Nat}(h:n<=sizeLine):Builtin.List.listTooLong n=false:=by unfold Builtin.List.listTooLong;exact cy (by omega)
end
section
variable {X:Cx}
def ZW:V->List V->Hp->VK->Prop:=λx vs H Q=>∃l xs y,x=.ref l/\vs=[y]/\H l=some (.lst xs)/\xs.length < sizeLine/\Q .non (upd H l (.lst (xs++[y])))
theorem ZX:MtM X "list.append" ZW:=by intro pins s Y H x vs v us Q I rx rv h;obtain ⟨l,xs,y,rfl,rfl,hH,hz,q⟩:=h;cases rx;obtain ⟨u,rfl,ru⟩:=rv.one;obtain ⟨z,its,n,r,hl,e⟩:=I.lstM hH;refine gv F.slot_list_append ⟨_,e,rfl⟩ F.entry_list_append (F.args_list_append_2 _ _) (PySem.list_append l its.toArray n u (by rw[aw];omega)) ⟨e,?_⟩;refine ⟨.non,_,I.lset (its':=its++[u]) hH e (by simp) (r.append (.cons ru .nil)) ?_,rfl,q⟩;rw[aE,gX];omega
def ZZ:V->List V->Hp->VK->Prop:=λx vs H Q=>∃l b xs zs,x=.ref l/\vs=[.ref b]/\H l=some (.lst xs)/\H b=some (.lst zs)/\xs.length+zs.length<=sizeLine/\Q .non (upd H l (.lst (xs++zs)))
theorem Z0:MtM X "list.extend" ZZ:=by
 intro pins s Y H x vs v us Q I rx rv h;obtain ⟨l,b,xs,zs,rfl,rfl,hH,hB,hz,q⟩:=h;cases rx;obtain ⟨u,rfl,ru⟩:=rv.one;cases ru;obtain ⟨z,its,n,r,hl,e⟩:=I.lstM hH;obtain ⟨z2,its2,n2,r2,hl2,e2⟩:=I.lstM hB;have hsz:its.toArray.size+its2.toArray.size<=sizeLine:=by rw[aw,aw];omega
 have hlong:¬(!its.toArray.isEmpty&&Builtin.List.listTooLong (its.toArray.size+its2.toArray.size))=true:=by rw[Ez hsz,hJ];exact a7
 refine gv F.slot_list_extend ⟨_,e,rfl⟩ F.entry_list_extend (F.args_list_extend_2 _ _)
  (AutoSeq1.list_extend_list_list_0 l its.toArray n b its2.toArray n2 hlong (by rw[aw];omega) (by omega)) ⟨e,e2,?_⟩
 refine ⟨.non,_,I.lset (its':=its++its2) hH e (by simp) (r.append r2) ?_,rfl,q⟩;rw[aE];omega
def Z1:V->List V->Hp->VK->Prop:=λx vs H Q=>∃l xs i k y,x=.ref l/\vs=[.int i]/\H l=some (.lst xs)/\-(2 ^ 63)<=i/\i < 2 ^ 63/\seqIndex? i xs.length=some k/\xs[k]?=some y/\Q y (upd H l (.lst (xs.eraseIdx k)))
theorem Z2:MtM X "list.pop" Z1:=by
 intro pins s Y H x vs v us Q I rx rv h;obtain ⟨l,xs,i,k,y,rfl,rfl,hH,h1,h2,hk,hy,q⟩:=h;cases rx;obtain ⟨u,rfl,ru⟩:=rv.one;obtain ⟨t,rfl⟩:=ru;obtain ⟨z,its,n,r,hl,e⟩:=I.lstM hH;obtain ⟨w,hw,rw'⟩:=r.get hy;refine gv F.slot_list_pop ⟨_,e,rfl⟩ F.entry_list_pop (F.args_list_pop_2 _ _)
  (MeetsSeq.list_pop_at l its.toArray n i t k w (fitsIndex_both h1 h2) (by rw[aw,<-hl];exact hk) (by rw[<-hV];exact hw) (by rw[aw];omega)) ⟨e,?_⟩
 refine ⟨y,_,I.lset (its':=its.eraseIdx k) hH e ?_ (r.eraseIdx k) ?_,rw',q⟩
 ·show its.toArray.eraseIdxIfInBounds k=(its.eraseIdx k).toArray;rw[List.eraseIdxIfInBounds_toArray]
 ·have:=Ey xs k;omega
theorem len_rep{α:Type}(xs:List α)(k:Nat):(List.replicate k xs).flatten.length=k * xs.length:=by
 induction k with
 |zero=>simp
 |succ k ih=>rw[de,fw,aE,ih,Nat.succ_mul,Nat.add_comm]
end
end L2
namespace Att
open PySem PySem.W PySem.Calls PyProof.Rows
theorem Z3{P:Params}{h:Heap}:∀(ns:List Int)(vs:List Value),WellAll P h vs (ns.map WData.int)->IntsAre vs ns:=by
 intro ns;induction ns with
 |nil=>
  intro vs w;rw[List.map_nil]at w;cases w;exact .nil
 |cons n ns ih=>
  intro vs w;rw[List.map_cons]at w;cases w with
  |cons a b=>
   cases a;exact .cons _ _ (ih _ b)
theorem Z4{l:OpenLaw}{n:Nat}(hn:l.most=some n){P:Params}{h:Heap}{args:List WData}{vals:List Value}
  (hpre:l.row.toRowW.claim.pre args=true) (hwl:WellAll P h vals args):
  ∃a vs ns,vals=[Value.ref a]/\args=[WData.list (ns.map WData.int)]/\h.get? a=some { cls:=.type "list",data:=.seq vs.toArray }/\IntsAre vs ns/\ns.length<=n:=by
 have hsh:WShape.hasAll [] args [.list .int]=true:=(pre_splitW hpre).1;have hc:l.pre.holds [] { args:=args }=true:=(pre_splitW hpre).2;obtain ⟨d,r,rfl,h1,h2⟩:=hasAllW_cons hsh;obtain rfl:=hasAllW_nil h2;obtain ⟨xs,rfl,h3⟩:=hasW_list h1;obtain ⟨ns,rfl⟩:=items_int h3;have hlen:ns.length<=n:=by
  unfold OpenLaw.pre at hc;have h4:(WTm.not (.lt (.lit (.int (n:Int))) (.len (.arg 0)))).holds [] { args:=[.list (ns.map .int)] }=true:=by have h4:=(holds_andW hc).1;rw[hn]at h4;exact h4
  have h5:=condW_of h4 (w_not (w_lt w_lit (w_len_list (w_arg rfl))));rw[List.length_map]at h5;refine Nat.le_of_not_lt λq=>?_;have q':(n:Int) < ((ns.length:Nat):Int):=by omega
  first
   | (rw[decide_eq_true q']at h5;exact absurd h5 (by decide))
   | (simp at h5;omega)
 cases hwl with
 |cons w1 w2=>
  cases w2;cases w1 with
  |list ho hall=>exact ⟨_,_,ns,rfl,rfl,ho,Z3 ns _ hall,hlen⟩
theorem Z5(l:OpenLaw)(args:List WData):l.row.toRowW.claim.post args (.bool true) args=true:=
 postW_of (r:=l.row.toRowW) (X:=(true==true))
  (show WShape.has [] (.bool true) .bool=true by first |rfl |decide |simp[WShape.has,WShape.arms,WShape.armsAll])
  (show (WTm.eq .res (.lit (.bool true))).value [] { args:=args,res:=some (.bool true),after:=args }=some (.bool (true==true)) from w_eq_bool (w_res rfl) w_lit) rfl
theorem attach_call{l:OpenLaw}{n:Nat}{q:Program}{loose:List Str}{XP:(Str->Option Value)->Heap->Prop}{YP:World->Heap->Prop}{d:DefRec}
  (hn:l.most=some n) (hdf:d.params.defaults=[])
  (call:∀(w:World)(s₀ s₁:Shared)(mg mb:Str->Option Value)(fa:Addr)(o:Obj)(pm cd doc:Value)(a:Addr)(vs:List Value)(ns:List Int),
   Ground q loose [] XP w s₀ mg mb s₁.heap->YP w s₁.heap->
   s₁.heap.get? fa=some o->o.data=.func (docDef d.name d.params d.body d.scope pm cd doc)->s₁.heap.CodeRec cd d.name->mg d.name=some (.ref fa)->
   s₁.heap.get? a=some { cls:=.type "list",data:=.seq vs.toArray }->IntsAre vs ns->ns.length<=n->s₁.gens=#[]->
   codeAny (model l.prog w) callerA (.call (.ref fa) ⟨[.ref a],[]⟩) (λr s'=>r=.ok (.ret (.bool true))/\OldK s₁.heap s'.heap/\s'.os=s₁.os/\AllBare s'.gens) s₁):
  WalkO q loose XP YP l.row.toRowW d [] (λf vs=>PySem.call f vs):=by
 intro w s₀ s₁ mg mb G Y fa o pm cd doc dV kV ho hd hcd hD hmg hg args vals as hpre hlay hrd hwl hlo;obtain rfl:dV=.none:=Dflts.none hD hdf;obtain rfl:kV=.none:=Dflts.noKw hD;obtain ⟨a,vs,ns,rfl,rfl,hobj,hints,hlen⟩:=Z4 hn hpre hwl;refine enter_call (codeAny_mono (call w s₀ s₁ mg mb fa o pm cd doc a vs ns G Y ho (fd_plain hd) hcd hmg hobj hints hlen hg) λr s' hq=>?_);obtain ⟨rfl,h2,h3,h4⟩:=hq;exact ⟨.inl ⟨.bool true,.bool true,[],rfl,λ_=>rfl,.bool true,Z5 l _,λ_=>⟨List.Pairwise.nil,λ_ hm=>(nomatch hm)⟩⟩,h2,h3,h4⟩
end Att
namespace L2
open PySem PySem.Spec PyProof.Rows
theorem xT:∀{vs:List Value}{ns:List Int},IntsAre vs ns->Vals (ns.map V.int) vs
 |_,_,.nil=>.nil
 |_,_,.cons n t h=>.cons ⟨t,rfl⟩ (xT h)
def Only(H:Hp):Prop:=∀b,H b=none\/∃o xs,H b=some (.frz o (.lst xs))
theorem Z6{P:Program}{w:World}{K:PF}{mg mb:Str->Option Value}{CX:CXT}{k:Nat}{fa a:Addr}{fd:FuncData}{x:Str}{sp:Sp}{s₁:Shared}{vs:List Value}{ns:List Int}
  (KX:K.In s₁.heap) (hns:s₁.heap.Ns mainGlobals mg) (hb:s₁.heap.Ns builtinsNs mb) (hbb:∀x:Str,x≠"__name__"->mb x=bootBuiltins x) (hlim:s₁.heap.NoLimit) (hg:s₁.gens=#[])
  (ha:s₁.heap.get? a=some { cls:=.type "list",data:=.seq vs.toArray }) (hi:IntsAre vs ns) (hl:ns.length<=sizeLine) (hr:Room k callerA)
  (F:∀base:Heap,K.In base->base.Ns mainGlobals mg->FnOk P w K mg base CX k fa fd [x] sp) (hbind:∀(s:Shared)(u:Value),BindsTo s fd ⟨[u],[]⟩ [(x,u)])
  (hsp:∀H:Hp,Only H->SqL K H a (ns.map V.int)->sp [.ref a] H (λv _=>v=.bl true) λ_ _ _=>False)
  (hCX:∀H e s',CX [] H s₁ (λ_ _ _=>False) e s'->False):
  codeAny (model P w) callerA (.call (.ref fa) ⟨[.ref a],[]⟩) (λr s'=>r=.ok (.ret (.bool true))/\OldK s₁.heap s'.heap/\s'.os=s₁.os/\AllBare s'.gens) s₁:=by
 have rv:=xT hi;have lenV:=hi.length
 -- from an abstract heap in which nothing but the script may be tracked
 have core:∀H:Hp,Only H->SqL K H a (ns.map V.int)->HOk P w H s₁.heap->(∀b,H b≠none->b=a)->(H a≠none->K.lookup a=none)->
   codeAny (model P w) callerA (.call (.ref fa) ⟨[.ref a],[]⟩) (λr s'=>r=.ok (.ret (.bool true))/\OldK s₁.heap s'.heap/\s'.os=s₁.os/\AllBare s'.gens) s₁:=by
  intro H hO hS hok hA hK;have base_of:∀{b:Addr}{o:Obj},s₁.heap.get? b=some o->H b=none->(dF s₁.heap H).get? b=some o:=λe n=>W9 e n;have noA:∀{b:Addr}{o:Obj}{es:Array DictEntry}{ep:Nat},s₁.heap.get? b=some o->o.data=.dict es ep->H b=none:=λ{b o es ep} e d=>by
   cases q:H b with
   |none=>rfl
   |some u=>
    have e':b=a:=hA b (by rw[q];simp);subst e';rw[ha]at e;cases e;have d':Data.seq vs.toArray _=Data.dict es ep:=d;cases d'
  have nsK:∀{b:Addr}{m:Str->Option Value},s₁.heap.Ns b m->(dF s₁.heap H).Ns b m:=λ{b m} ⟨o,es,ep,e,d,r⟩=>⟨o,es,ep,base_of e (noA e d),d,r⟩;have hKb:K.In (dF s₁.heap H):=λb o e=>base_of (KX b o e) (by
   cases q:H b with
   |none=>rfl
   |some u=>
    have e':b=a:=hA b (by rw[q];simp);subst e';rw[hK (by rw[q];simp)]at e;cases e)
  have hM:Mod K mg (dF s₁.heap H):=⟨hKb,nsK hns,⟨mb,nsK hb,hbb⟩,let ⟨mc,h1,h2⟩:=hlim;⟨mc,nsK h1,h2⟩⟩;have e0:Env0 P w K mg (dF s₁.heap H) callerA [] s₁ H:=⟨rfl,hM,λb o e=>Xa e,Nat.le_of_eq (W8 _ _),trivial,λb hb=>absurd (show b∈([]:List Addr) from hb) (by simp),hok,.of_eq hg⟩;refine codeAny_mono ((F _ hKb (nsK hns)).run callerA [] s₁ H ⟨[.ref a],[]⟩ [.ref a] [.ref a] _ _ hr e0 (hbind s₁ (.ref a)) (.cons rfl .nil) (hsp H hO hS)) λr s' h=>?_;cases r with
  |error e=>exact (hCX H e s' h).elim
  |ok fl=>
   cases fl with
   |next=>exact False.elim h
   |brk=>exact False.elim h
   |cont=>exact False.elim h
   |ret u=>
    obtain ⟨v,H',os,bare,un,hok',r',q⟩:=h;have q':v=.bl true:=q;subst q';obtain rfl:u=Value.bool true:=r';refine ⟨rfl,OldK.of_keep λb o e=>?_,os,bare⟩;cases q:H b with
    |none=>exact un.keep b o e q (by intro z;exact absurd (show b∈([]:List Addr) from z) (by simp)) (by simp)
    |some u=>
     rcases hO b with z |⟨ob,xs,z⟩
     ·rw[q]at z;cases z
     ·have z2:=un.frzs b ob _ z;obtain ⟨e1,_⟩:=hok b _ z;obtain ⟨e2,_⟩:=hok' b _ z2;rw[e]at e1;cases e1;exact e2
 cases hk:K.lookup a with
 |some o=>
  -- the script is one of the module's own objects
  have e:=KX a o hk;rw[ha]at e;cases e;refine core (λ_=>none) (λ_=>.inl rfl) (.inr ⟨_,vs.toArray,_,hk,rfl,rfl,rfl,by rw[aw,lenV];exact hl,by simpa using rv⟩) (λb u z=>by have z':(none:Option HO)=some u:=z;cases z') (λb z=>absurd rfl z) λz=>absurd rfl z
 |none=>
  refine core (λb=>if b=a then some (.frz { cls:=.type "list",data:=.seq vs.toArray } (.lst (ns.map V.int))) else none) (λb=>?_) (.inl (.inr ⟨{ cls:=.type "list",data:=.seq vs.toArray },if_pos rfl⟩)) (λb u z=>?_) (λb z=>?_) λ_=>hk
  ·by_cases hb:b=a
   ·exact .inr ⟨_,_,if_pos hb⟩
   ·exact .inl (if_neg hb)
  ·by_cases hb:b=a
   ·have z':=(if_pos hb).symm.trans z;cases z';subst hb;exact ⟨ha,by rw[af];exact hl,vs,_,rv,ha⟩
   ·have z':=(if_neg hb).symm.trans z;cases z'
  ·by_cases hb:b=a
   ·exact hb
   ·exact absurd (if_neg hb) z
theorem Z7{l:PySem.W.OpenLaw}{n k:Nat}{q:Program}{loose:List Str}{XP:(Str->Option Value)->Heap->Prop}{YP:World->Heap->Prop}{d:DefRec}{K:Params->PF}{CX:World->CXT}{sp:World->Sp}{x:Str}
  (hn:l.most=some n) (hn2:n<=sizeLine) (hdf:d.params.defaults=[]) (hr:Room k callerA)
  (hY:∀(w:World)(h:Heap),YP w h->(K w.params).In h)
  (F:∀(w:World)(mg:Str->Option Value)(fa:Addr)(h:Heap),(K w.params).In h->h.Ns mainGlobals mg->mg d.name=some (.ref fa)->
   ∃fd:FuncData,(∀(s:Shared)(u:Value),BindsTo s fd ⟨[u],[]⟩ [(x,u)])/\
    ∀base:Heap,(K w.params).In base->base.Ns mainGlobals mg->FnOk l.prog w (K w.params) mg base (CX w) k fa fd [x] (sp w))
  (hsp:∀(w:World)(H:Hp)(a:Addr)(ns:List Int),ns.length<=n->Only H->SqL (K w.params) H a (ns.map V.int)->sp w [.ref a] H (λv _=>v=.bl true) λ_ _ _=>False)
  (hCX:∀(w:World)(H:Hp)(s:Shared)(e:Value)(s':Shared),CX w [] H s (λ_ _ _=>False) e s'->False):
  PySem.W.WalkO q loose XP YP l.row.toRowW d [] (λf vs=>PySem.call f vs):=by
 refine Att.attach_call hn hdf λw s₀ s₁ mg mb fa o pm cd doc a vs ns G Y ho hd hcd hmg hobj hints hlen hg=>?_;have KX:=hY w _ Y;obtain ⟨fd,hb,hF⟩:=F w mg fa _ KX G.T.g hmg;exact Z6 KX G.T.g G.T.b G.T.builtins G.T.nolimit hg hobj hints (cp hlen hn2) hr hF hb (λH hO hS=>hsp w H a ns hlen hO hS) λH e s'=>hCX w H s₁ e s'
def lJ(s:Stmt):Arguments:=match s with
 |.FunctionDef _ a _ _ _ _ _ _ _ _=>a
 |_=>{ posonlyargs:=[],args:=[],vararg:=none,kwonlyargs:=[],kw_defaults:=[],kwarg:=none,defaults:=[] }
def aF(s:Stmt):List Stmt:=match s with
 |.FunctionDef _ _ b _ _ _ _ _ _ _=>b
 |_=>[]
def aq(s:Stmt):Scope:=match s with
 |.FunctionDef _ _ _ _ _ _ sc _ _ _=>sc
 |_=>{ kind:=.function,names:=[],isGenerator:=false,isCoroutine:=false }
abbrev CX0:CXT:=λ_ _ _ _ _ _=>False
structure Fun(K:PF)(x qual:Str)(st:Stmt)(f:Addr)(fd:FuncData):Prop where
 ex:∃(oc:Value)(od:Option Addr)(kV doc pm:Value)(an:Option Addr)(cdv ct:Value)(osl:Array (Option Value)),
  fd=PySem.W.fnOf x qual (lJ st) (aF st) (aq st) .none kV doc pm an cdv ct/\K.lookup f=some ⟨oc,od,.func fd,osl⟩/\PySem.W.codeIn K cdv qual=true
 kp:PySem.W.keepIn K (.ref f)=true
section
variable {P:Program} {w:World} {K:PF} {mg:Str->Option Value} {base:Heap}
theorem Fun.binds{x qual:Str}{st:Stmt}{f:Addr}{fd:FuncData}{ps:List Str}(F:Fun K x qual st f fd)
  (h:∀(kV doc pm:Value)(an:Option Addr)(cdv ct:Value)(us:List Value),us.length=ps.length->bindArgs (PySem.W.fnOf x qual (lJ st) (aF st) (aq st) .none kV doc pm an cdv ct) ⟨us,[]⟩=pure (ps.zip us)):Binds K fd ps []:=by
 obtain ⟨oc,od,kV,doc,pm,an,cdv,ct,osl,rfl,lk,hcd⟩:=F.ex;exact .all (h kV doc pm an cdv ct)
theorem Z8{x qual:Str}{st:Stmt}{f:Addr}{oc:Value}{od an:Option Addr}{osl:Array (Option Value)}{kV doc pm cdv ct:Value}(l:K.lookup f=some ⟨oc,od,.func (PySem.W.fnOf x qual (lJ st) (aF st) (aq st) .none kV doc pm an cdv ct),osl⟩)
  (c:PySem.W.codeIn K cdv qual=true) (k:PySem.W.keepIn K (.ref f)=true):Fun K x qual st f (PySem.W.fnOf x qual (lJ st) (aF st) (aq st) .none kV doc pm an cdv ct):=⟨⟨oc,od,kV,doc,pm,an,cdv,ct,osl,rfl,l,c⟩,k⟩
end
section
variable {X:Cx}
theorem pv (i:Nat) {x:Str} {pos:Pos} (hN:X.N[i]?=some x:=by rfl) (hv:Vis X.env.scope x:=by first |exact Or.inl rfl |exact Or.inr (Or.inl rfl) |exact Or.inr (Or.inr rfl)) (hd:(x==("__debug__":Str))=false:=by decide)
  (hcd:(x==("__classdict__":Str))=false:=by decide):PE X (.Name x pos) (Du i):=Dv hN hv hd hcd
end
end L2
set_option maxHeartbeats 4000000
namespace L2
open PySem PySem.Spec PyProof.Rows
section
variable {X:Cx} {pins:List (Addr×Obj)} {σ:St} {H:Hp} {s:Shared} {h':Heap}
theorem Inv.turnedL{t':Nat}{ch:List Addr}(I:Inv X pins σ H s)(hf:∀b∈ch,eV X pins H b)(k:∀b o,b∉ch->s.heap.get? b=some o->h'.get? b=some o):
  Inv X pins σ H { s with heap:=h',toks:=t' }:=by
 have nit:∀b u,H b=some u->b∉ch:=λb u e z=>by
  have q:=(hf b z).1;rw[q]at e;cases e
 refine I.step (g':=s.gens) (d':=s.drawn) (ch:=ch) (λb hb=>?_) (λb o _ _ hc e _=>k b o hc e) (λb o _ _ hc e _=>⟨o.slots,k b o hc e⟩) (λ_ _ _ _ n=>n)
  (λb o hc e=>⟨o,k b o hc e⟩) (λ_ _ e=>e) (λ_ _ _ e=>e) (λb ps e=>⟨#[],by rw[e];simp⟩) (λm hm=>?_) (λb u e=>?_) I.bare
 ·obtain ⟨_,f1,_,f3,f4,f5⟩:=hf b hb;exact ⟨f3,f1,f4,f5⟩
 ·obtain ⟨o,es,ep,ho,r⟩:=hm;exact ⟨o,es,ep,k _ o (λz=>(hf _ z).2.1 rfl) ho,r⟩
 ·refine (I.hok b u e).stay (λc v hc q=>k c v ?_ q) (λ_ q=>q) λ_ _ q=>q;rcases hc with z |z
  ·rw[z];exact nit b u e
  ·exact nit c _ z
theorem Inv.track{T:Addr}{o:HO}(I:Inv X pins σ H s)(hT:eV X pins H T)(new:ObjOk X.prog X.w (upd H T o) s.heap T o):Inv X pins σ (upd H T o) s:=by
 have hn:=hT.1;have hok:HOk X.prog X.w (upd H T o) s.heap:=λb u e=>by
  by_cases hb:b=T
  ·subst hb;rw[gH]at e;cases e;exact new
  ·rw[aX hb]at e;exact (I.hok b u e).stay (λc v _ q=>q) (λc q=>by rw[aX (b7 q hn)];exact q) λc xs q=>by rw[aX (b7 q hn)];exact q
 obtain ⟨hp,g,d,tk,os⟩:=s;refine I.step (h':=hp) (g':=g) (d':=d) (t':=tk) (ch:=[T]) (λb hb=>?_) (λb o _ _ _ e _=>e) (λb o _ _ _ e _=>⟨o.slots,e⟩) (λb u hc _ n=>?_)
  (λb o _ e=>⟨o,e⟩) (λb xs e=>by rw[aX (b7 e hn)];exact e) (λb u v e=>by rw[aX (b7 e hn)];exact e) (λb ps e=>⟨#[],by rw[aX (b7 e hn),e];simp⟩) (λm hm=>hm) hok I.bare
 ·have e:b=T:=by simpa using hb
  subst e;obtain ⟨_,f1,_,f3,f4,f5⟩:=hT;exact ⟨f3,f1,f4,f5⟩
 ·rw[aX (by simpa using hc)];exact n
end
def Its(x:Str):It:=⟨λi _=>i < x.cps.size,λi H v H'=>H'=H/\∃c,x.cps[i]?=some c/\v=.str ⟨#[c]⟩,λi _=>i=x.cps.size⟩
theorem EY{prog:Program}{w:World}{A:Around}(hh:A.handled=none)(I:Addr)(x:Str)(t:Tok):
  Walks prog w A I [I] [I] x.cps.size (SignAt x) (λi h=>h.IsStrIter I (strIterType x) x t i):=by
 unfold strIterType;split
 ·exact Walks.strAscii hh I x t
 ·exact Walks.strWide hh I x t
theorem xU{P:Program}{w:World}{K:PF}{tg:Expr}(it:Addr)(x:Str)(t:Tok):Turn P w K tg (Its x) [it] it (λi h=>h.IsStrIter it (strIterType x) x t i) where
 mem:=by simp
 obj:=λi h st b hb=>by
  have e:b=it:=by simpa using hb
  subst e;obtain ⟨o,e,c,d⟩:=st;exact ⟨o,e,λv z=>by rw[d]at z;cases z⟩
 keep:=λi h h' st k=>let ⟨o,ho,r⟩:=st;⟨o,k it (by simp) o ho,r⟩
 item:=by intro X hP hw hK hc i pins s Y H E I hf st hg;subst hP hw hK;obtain ⟨f0,f1,f2,f3,f4,f5⟩:=hf it (by simp);have W:=EY (prog:=X.prog) (w:=X.w) (I.ok.hd hc) it x t;refine W.item i s _ _ hg st λv h' tk hv st' kk=>?_;obtain ⟨c,u,e,rfl⟩:=hv;have I1:Inv X pins Y H { s with heap:=h',toks:=tk }:=I.turned (λb o hb e=>kk b o (by simpa using hb) e) f0 f1 f3 f4 f5;obtain ⟨o,eo,cc,d⟩:=id st';exact ⟨_,rfl,lE (s:={ s with heap:=h',toks:=tk }) (n:=strIterType x) eo cc d (by unfold strIterType;split <;> decide) ⟨.str ⟨#[c]⟩,H,I1,⟨u,rfl⟩,⟨rfl,c,e,rfl⟩,st',λb hb=>(hf b hb).1⟩⟩
 done:=by intro X hP hw hK hc i pins s Y H E I hf st hg;subst hP hw hK;obtain ⟨f0,f1,f2,f3,f4,f5⟩:=hf it (by simp);have W:=EY (prog:=X.prog) (w:=X.w) (I.ok.hd hc) it x t;have hg':i=x.cps.size:=hg;subst hg';exact W.done s _ _ st λh' tk kk=>⟨rfl,I.turned (λb o hb e=>kk b o (by simpa using hb) e) f0 f1 f3 f4 f5⟩
 self:=λA i s Q E st h=>by
  unfold strIterType at st;split at st
  ·exact wpAny_pyIter_striter_ascii st h
  ·exact wpAny_pyIter_striter_wide st h
def cW(env:Env):List (Str×NameKind)->List (Str×Addr)->List (Str×Addr)
 |[],cs=>cs
 | (n,k)::r,cs=>cW env r (if (k==.free)=true then (match env.cells.lookup n with |some c=>(n,c)::cs |none=>cs) else cs)
theorem Fb{env:Env}:∀{l:List (Str×NameKind)}{cs:List (Str×Addr)},(∀x c,cs.lookup x=some c->env.cells.lookup x=some c)->∀x c,(cW env l cs).lookup x=some c->env.cells.lookup x=some c
 |[],_,h,x,c,e=>h x c e
 | (n,k)::r,cs,h,x,c,e=>by
  refine Fb (l:=r) (cs:=_) ?_ x c e;intro y d q;by_cases hk:(k==NameKind.free)=true
  ·rw[if_pos hk]at q;cases hn:env.cells.lookup n with
   |none=>rw[hn]at q;exact h y d q
   |some c'=>
    rw[hn]at q;simp only[List.lookup_cons]at q;cases hy:y==n with
    |true=>
     rw[hy]at q;have e1:y=n:=eq_of_beq hy;rw[e1,hn];exact q
    |false=>rw[hy]at q;exact h y d q
  ·rw[if_neg hk]at q;exact h y d q
theorem Fd{env:Env}{x:Str}:∀{l:List (Str×NameKind)}{cs:List (Str×Addr)},(cs.lookup x).isSome=true->((cW env l cs).lookup x).isSome=true
 |[],_,h=>h
 | (n,k)::r,cs,h=>by
  refine Fd (l:=r) (cs:=_) ?_;by_cases hk:(k==NameKind.free)=true
  ·rw[if_pos hk];cases hn:env.cells.lookup n with
   |none=>exact h
   |some c'=>
    simp only[List.lookup_cons];cases hy:x==n with
    |true=>rfl
    |false=>exact h
  ·rw[if_neg hk];exact h
theorem Fe{env:Env}{x:Str}(hx:(env.cells.lookup x).isSome=true):∀{l:List (Str×NameKind)}{cs:List (Str×Addr)},(x,NameKind.free)∈l->((cW env l cs).lookup x).isSome=true
 | (n,k)::r,cs,h=>by
  rcases ci.mp h with e |h
  ·cases e;refine Fd (l:=r) (cs:=_) ?_;rw[if_pos (show (NameKind.free==NameKind.free)=true by decide)];obtain ⟨c,hc⟩:=dv.mp hx;rw[hc];simp
  ·exact Fe hx (l:=r) h
theorem Ff{scope:Scope}{env:Env}(h:∀y∈scope.names,y.2=NameKind.free->(env.cells.lookup y.1).isSome=true):closureFor scope env=pure (cW env scope.names []):=by
 simp only[closureFor];generalize ([]:List (Str×Addr))=cs;generalize scope.names=l at h;induction l generalizing cs with
 |nil=>rfl
 |cons y r ih=>
  obtain ⟨n,k⟩:=y;have ih':=λcs=>ih cs λy hy=>h y (aI _ hy);rw[List.forIn_cons];by_cases hk:(k==NameKind.free)=true
  ·have hk':k=NameKind.free:=eq_of_beq hk;obtain ⟨c,hc⟩:=dv.mp (h (n,k) aS hk');have e1:cW env ((n,k)::r) cs=cW env r ((n,c)::cs):=by
    rw[cW,if_pos hk];show cW env r (match env.cells.lookup n with |some c=>(n,c)::cs |none=>cs)=_;have hc':env.cells.lookup n=some c:=hc;rw[hc']
   have e2:cellOf env n=pure c:=by unfold cellOf;have hc':env.cells.lookup n=some c:=hc;rw[hc']
   rw[e1,<-ih' ((n,c)::cs)];simp only[hk,if_true,e2];rfl
  ·have e1:cW env ((n,k)::r) cs=cW env r cs:=by rw[cW,if_neg hk]
   rw[e1,<-ih' cs];simp only[hk,if_false];rfl
theorem xV{env:Env}{x:Str}:∀{names:List (Str×NameKind)},
  (names.map λ(n,k)=>if (k==NameKind.free&&env.scope.kind==.function&&env.kindOf n==some .cell) then (n,NameKind.cell) else (n,k)).lookup x=
   (names.lookup x).map λk=>if (k==NameKind.free&&env.scope.kind==.function&&env.kindOf x==some .cell)=true then NameKind.cell else k
 |[]=>rfl
 | (n,k)::r=>by
  have ih:=@xV env x r;rw[bp];have hh:∀(c:Prop)[Decidable c],(if c then (n,NameKind.cell) else (n,k))=(n,if c then NameKind.cell else k):=λc _=>by split <;> rfl
  show List.lookup x ((if (k==NameKind.free&&env.scope.kind==.function&&env.kindOf n==some .cell)=true then (n,NameKind.cell) else (n,k))::_)=_;rw[hh];simp only[List.lookup_cons];cases hx:x==n with
  |true=>
   have e1:x=n:=eq_of_beq hx;subst e1;rfl
  |false=>exact ih
abbrev Cx.comp(X:Cx)(N':List Str)(scope:Scope)(cl:List (Str×Addr))(C:Addr)(s₁:Shared)(H₁:Hp)(fp:List Addr)(pn:List (Addr×Obj)):Cx where
 prog:=X.prog
 w:=X.w
 K:=X.K
 mg:=X.mg
 base:=X.base
 A:=X.A
 N:=N'
 s₀:=s₁
 H₀:=H₁
 env:=compEnvC scope cl C X.env
 outer:=X.stack
 stack:=X.stack
 ex:=fp
 fn:=λ_=>false
 calm:=X.calm
 pn:=pn
 xe:=λ_ _=>False
def PIf(X:Cx)(ifs:List Expr)(t:TT):Prop:=
 ∀(pins:List (Addr×Obj))(s:Shared)(Y:St)(H:Hp)(Q:Bool->Hp->Prop),Inv X pins Y H s->t Y H Q->
  ↥X (forIn ifs true λc r=>if r=true then do let ok <-isTrue c X.env (eval c X.env);pure (ForInStep.yield ok) else pure (ForInStep.yield r)) (TP X pins Y Q) X.xe s
def Z9:TT:=λ_ H Q=>Q true H
theorem aaa{X:Cx}:PIf X [] Z9:=λ_ _ _ H _ I h=>wpAny_tests_nil ⟨H,I,h⟩
theorem aab{X:Cx}{c:Expr}{t:TT}(h:PT X c t):PIf X [c] t:=λpins s Y H Q I q=>wpAny_tests_one (h pins s Y H Q I q)
def dY(cap:List (Option Nat))(Y:St):St:=cap.map λo=>match o with |none=>none |some j=>(Y[j]?).join
def Caps(X:Cx)(scope:Scope):List Str->List (Option Nat)->Prop
 |[],[]=>True
 |_::N',none::cap=>Caps X scope N' cap
 |x::N',some j::cap=>(X.N[j]?=some x/\scope.names.lookup x=some NameKind.free)/\Caps X scope N' cap
 |_,_=>False
theorem Caps.len{X:Cx}{scope:Scope}:∀{N':List Str}{cap:List (Option Nat)},Caps X scope N' cap->cap.length=N'.length
 |[],[],_=>rfl
 |_::N',none::cap,h=>by
  have:=Caps.len (N':=N') (cap:=cap) h;simp[this]
 |_::N',some _::cap,h=>by
  have:=Caps.len (N':=N') (cap:=cap) h.2;simp[this]
 |[],_::_,h=>False.elim h
 |_::_,[],h=>False.elim h
theorem Caps.at{X:Cx}{scope:Scope}:∀{N':List Str}{cap:List (Option Nat)}{i:Nat}{x:Str}{v:V}{Y:St},Caps X scope N' cap->N'[i]?=some x->(dY cap Y)[i]?=some (some v)->
  ∃j:Nat,X.N[j]?=some x/\scope.names.lookup x=some NameKind.free/\Y[j]?=some (some v)
 |[],[],i,x,v,Y,_,e,_=>by simp at e
 |y::N',none::cap,0,x,v,Y,h,e,q=>by simp[dY]at q
 |y::N',some j::cap,0,x,v,Y,h,e,q=>by
  have e1:y=x:=by simpa using e
  subst e1;have q1:(Y[j]?).join=some v:=by simpa [dY] using q
  refine ⟨j,h.1.1,h.1.2,?_⟩;cases z:Y[j]? with
  |none=>rw[z]at q1;cases q1
  |some o=>rw[z]at q1;exact fE some q1
 |y::N',none::cap,i+1,x,v,Y,h,e,q=>Caps.at (N':=N') (cap:=cap) (i:=i) h (by simpa using e) (by simpa [dY] using q)
 |y::N',some _::cap,i+1,x,v,Y,h,e,q=>Caps.at (N':=N') (cap:=cap) (i:=i) h.2 (by simpa using e) (by simpa [dY] using q)
 |[],_::_,_,_,_,_,h,_,_=>False.elim h
 |_::_,[],_,_,_,_,h,_,_=>False.elim h
abbrev tx(l:List Nat):Str:=⟨l.toArray⟩
theorem cA(l:List Nat):(tx l).length=l.length:=by simp[Str.length]
theorem sJ(a b:List Nat):tx a++tx b=tx (a++b):=by show (⟨a.toArray++b.toArray⟩:Str)=⟨(a++b).toArray⟩;simp
theorem Fg{a b:List Nat}(h:tx a=tx b):a=b:=by have:=fE (λx:Str=>x.cps.toList) h;simpa using this
theorem xW(x:Str):x=tx x.cps.toList:=by cases x;simp
section
variable {X:Cx}
theorem Fi:∀{ys:List Str}{us:List Value},Vals (ys.map V.str) us->StrsAre us ys
 |[],us,r=>by
  rw[d6]at r;cases r;exact .nil
 |y::ys,us,r=>by
  rw[bp]at r;cases r with
  |cons r1 r2=>
   obtain ⟨t,e⟩:=r1;subst e;exact .cons y t (Fi r2)
def rJoin(K:PF):V->List V->Hp->VK->Prop:=λx vs H Q=>∃z p ys,x=.str z/\vs=[.ref p]/\SqL K H p (ys.map V.str)/\(ys.map (·.length)).sum+ys.length * z.length<=16777216/\Q (.str (Str.join z ys)) H
theorem aac:MtR X "str.join" (rJoin X.K):=by intro pins s Y H x xs v us Q I rx rs h;obtain ⟨z,p,ys,rfl,rfl,hq,hb,q⟩:=h;obtain ⟨t,rfl⟩:=rx;obtain ⟨u,rfl,ru⟩:=vals1 rs;cases ru;obtain ⟨its,rv,pl,hz⟩:=I.list hq;refine join_list pl.isList (by simpa using Fi rv) hb λt' k=>⟨.str _,H,I.tok _,⟨_,rfl⟩,?_⟩;have e:Txt.join z ys=Str.join z ys:=StrLaws.glued_eq_join z ys;rw[e];exact q
def aad(K:PF):List V->Hp->VK->Prop:=λxs H Q=>∃x n t b,xs=[x,.ty n]/\TyOf K H x t/\PySem.W.kitOne K t (.type n)=some b/\Q (.bl b) H
theorem aae:bW X (.builtin "isinstance") (aad X.K):=by intro pins s Y H xs us Q I r h;obtain ⟨x,n,t,b,rfl,ty,e,q⟩:=h;obtain ⟨u,w',rfl,rx,ry⟩:=vals2 r;cases ry;exact Y9 I rx ty e λtk=>⟨.bl b,H,I.tok _,rfl,q⟩
theorem aaf:bootBuiltins "bool"=some (.type "bool"):=by ac_rfl
theorem Fj:bootBuiltins "int"=some (.type "int"):=by ac_rfl
theorem Fl:bootBuiltins "str"=some (.type "str"):=by ac_rfl
theorem Fp:bootBuiltins "list"=some (.type "list"):=by ac_rfl
theorem aag:bootBuiltins "isinstance"=some (.builtin "isinstance"):=by ac_rfl
theorem aah {x:Str} {T:String} {pos:Pos} (hg:Gl X x) (hm:X.mg x=none) (hv:bootBuiltins x=some (.type T)) (hn:x≠"__name__":=by decide) (hd:(x==("__debug__":Str))=false:=by decide):PE X (.Name x pos) (tC (.ty T)):=
 Xh hg hm hv (v:=.ty T) rfl hn hd
theorem aai:OpR X (binaryOp .Mult) (λx y H Q=>∃i n,x=.str i/\y=.int n/\MulOk i n/\Q (.str (Txt.mul i n)) H):=by intro pins s Y H x y v u Q I rx ry h;obtain ⟨i,n,rfl,rfl,hok,q⟩:=h;obtain ⟨t,rfl⟩:=rx;obtain ⟨t',rfl⟩:=ry;exact SB.mul hok λt' k=>⟨.str _,H,I.tok _,⟨_,rfl⟩,q⟩
end
def xX(X:Cx)(st:List Stmt)(t:TS):Prop:=
 ∀(pins:List (Addr×Obj))(s:Shared)(Y:St)(H:Hp)(D:Ends),1<=s.toks->Inv X pins Y H s->t D Y H->↥X (execs st X.env) (SP X pins D) X.xe s
def PE1(X:Cx)(e:Expr)(t:TE):Prop:=
 ∀(pins:List (Addr×Obj))(s:Shared)(Y:St)(H:Hp)(Q:VK),1<=s.toks->Inv X pins Y H s->t Y H Q->↥X (eval e X.env) (EP X pins Y Q) X.xe s
theorem aaj{X:Cx}{e:Expr}{te:TE}{pos:Pos}(he:PE1 X e te):xX X [.Return (some e) pos] (Dz te):=by intro pins s Y H D h1 I h;refine wpAny_execs_cons (wpAny_Return_some (thn (he pins s Y H _ h1 I h) λv s1 ⟨x,H1,I1,r1,q1⟩=>?_));exact ⟨x,Y,H1,I1,r1,q1⟩
theorem xY{c d:Nat}:∀l:List Nat,c∉l->l.map (λa=>if a=c then d else a)=l
 |[],_=>rfl
 |a::r,h=>by
  have h1:a≠c:=λe=>h (by rw[e];exact aS);rw[bp,if_neg h1,xY r λz=>h (aI _ z)]
theorem Fq(c d:Nat):∀parts:List Str,(∀p∈parts,c∉p.cps.toList)->(Str.join ⟨#[c]⟩ parts).cps.toList.map (λa=>if a=c then d else a)=(Str.join ⟨#[d]⟩ parts).cps.toList
 |[],_=>rfl
 |[x],h=>by
  simp only[Str.join];exact xY _ (h x aS)
 |x::y::r,h=>by
  have ih:=Fq c d (y::r) λp hp=>h p (aI _ hp);have e:∀z:Str,Str.join z (x::y::r)=x++z++Str.join z (y::r):=λz=>by simp only[Str.join]
  have ap:∀u v:Str,(u++v).cps.toList=u.cps.toList++v.cps.toList:=λu v=>by
   show (u.cps++v.cps).toList=_;simp
  rw[e,e,ap,ap,ap,ap,br,br,ih,xY _ (h x aS)];simp
theorem aak(l:List Nat)(c d:Nat):Txt.replace (tx l) (tx [c]) (tx [d])=tx (l.map λa=>if a=c then d else a):=by
 have e:(Txt.replace (tx l) ⟨#[c]⟩ ⟨#[d]⟩).cps.toList=l.map λa=>if a=c then d else a:=by rw[StrLaws.replace_one,<-Fq c d _ (StrLaws.split_free (tx l) c),StrLaws.join_split]
 rw[xW (Txt.replace (tx l) (tx [c]) (tx [d]))];exact fE tx e
section
variable {X:Cx}
theorem aal{o:Expr}{to:TE}{y z:Str}{ky kz:Nat}{py pz apos cpos:Pos}(ho:PE X o to)(hyz:(y==z)=false)
  (hbase:attributeBase o "replace" X.env (eval o X.env)=eval o X.env:=by rfl)
  (hfew:((backTo cpos (starEach [.Constant (.str y) ky py,.Constant (.str z) kz pz] X.env)).all (λx=>!x.1)&&(backToKw cpos (keywordEach [] X.env)).all (λx=>x.1.isSome)
  &&decide (([.Constant (.str y) ky py,.Constant (.str z) kz pz]:List Expr).length+([]:List Keyword).length+(if ([]:List Keyword).isEmpty then 0 else 1) < 30))=true:=by rfl)
  (hline:(apos.endLine==cpos.line)=true:=by rfl):
  PE1 X (.Call (.Attribute o "replace" apos) [.Constant (.str y) ky py,.Constant (.str z) kz pz] [] cpos)
   (λY H Q=>to Y H λv H1=>∃x,v=.str x/\x.length+(x.length+1) * z.length<=16777216/\Q (.str (Txt.replace x y z)) H1):=by
 intro pins s Y H Q h1 I h;refine wpAny_Call_method_late hbase hfew hline rfl (dS (wpAny_toks_of (n:=1) h1 (ho pins s Y H _ I h)) (λv s1 h2=>?_) (λ_ _ e=>e.2));obtain ⟨t1,v',H1,I1,r1,x,e,hb,q⟩:=h2;subst e;obtain ⟨t,rfl⟩:=r1;refine ⟨"str","str.replace",F.plainAttrs_str,F.slot_str_replace,F.type_str_replace,typeIs_str _ _ _,(λ_ e=>nomatch e),?_⟩;refine Calls.callWith_builtin (by rfl) (Calls.evalArgs_plain ?_);show wpAny _ _ (spliced [(false,eval (.Constant (.str y) ky py) X.env),(false,eval (.Constant (.str z) kz pz) X.env)]) _ _ s1;refine Calls.spliced_cons (Calls.Constant_str (Calls.spliced_cons (Calls.Constant_str (Calls.spliced_nil ?_))));exact SC.replace (by show @Ne Nat s1.toks 0;omega) (by show @Ne Nat (s1.toks+1) 0;omega) (by show @Ne Nat s1.toks (s1.toks+1);omega) hyz hb λt' k=>⟨.str _,H1,I1.tok _,⟨_,rfl⟩,q⟩
end
theorem aam{CX:CXT}{P:Program}{w:World}{K:PF}{mg:Str->Option Value}{base:Heap}{k:Nat}{f:Addr}{name qual:Str}{params:Arguments}{body:List Stmt}{scope:Scope}{dV kV doc pm cdv ct oc:Value}{an od:Option Addr}
  {osl:Array (Option Value)} {N:List Str} {x:Str} {sp:Sp} (lk:K.lookup f=some ⟨oc,od,.func (PySem.W.fnOf name qual params body scope dV kV doc pm an cdv ct),osl⟩) (hcd:PySem.W.codeIn K cdv qual=true) (S:FnScope N [x] scope)
  (hx:scope.names.lookup x=some .local) (hnc:∀y∈scope.names,y.2≠NameKind.cell) (hcf:∀n,cellsFrom n scope.names []=[])
  (len:∀vs H Q E,sp vs H Q E->vs.length=[x].length)
  (hbody:∀(A:Around)(outer:List Env)(s:Shared)(H:Hp)(vs:List V)(Q:VK)(E:XK),Room k (A.deeper (envOfC qual scope (~~~s) f cdv))->sp vs H Q E->
   ∃t,xX (dX CX P w K mg base N qual scope f cdv A outer s H E) body t/\t { nx:=λ_ H'=>Q .non H',rt:=Q } (start N vs) H):
  FnOk P w K mg base CX (k+1) f (PySem.W.fnOf name qual params body scope dV kV doc pm an cdv ct) [x] sp:=by
 refine ⟨len,λA outer s H args us vs Q E hr e0 hb r hsp=>?_⟩;have hl:=len _ _ _ _ hsp;have KX:K.In s.heap:=e0.mod.kin.keeps λb o e=>(e0.bs b o e).1;have lim:s.heap.NoLimit:=e0.mod.nolimit.keeps λb o e=>(e0.bs b o e).1;obtain ⟨u,rfl⟩:∃u,us=[u]:=by
  have h2:=r.length;rw[hl]at h2;match us,h2 with
  |[u],_=>exact ⟨u,rfl⟩
 refine codeAny_call_function hr.depth (KX _ _ lk) rfl S.co S.gen rfl (PySem.W.codeRec_of KX hcd) (hb _ _ _ _ ?_);refine wpAny_newFunctionEnv (binds:=[x].zip [u]) hnc (λy hy=>?_) (λh' hns hsb=>?_) S.kind
 ·have e:y=(x,u):=by simpa using hy
  rw[e];exact hx
 have envEq:newEnv scope (~~~s) mainGlobals [] (qual++Str.ofString ".<locals>.") (some f) cdv none builtinsNs=envOfC qual scope (~~~s) f cdv:=by unfold envOfC newEnv;rw[hcf]
 have kp:∀b o,s.heap.get? b=some o->h'.get? b=some o:=λb o e=>hsb.extBut b o (dA (bi e)) (av _ e);have mEq:bindL (envOfC qual scope (~~~s) f cdv).kindOf ([x].zip [u]) (λ_=>none)=λy=>(([x].zip [u]).reverse).lookup y:=by
  funext y;have hk:(envOfC qual scope (~~~s) f cdv).kindOf x=some .local:=hx;show bindL (envOfC qual scope (~~~s) f cdv).kindOf [(x,u)] (λ_=>none) y=List.lookup y [(x,u)];unfold bindL;rw[if_pos hk];unfold bindL;by_cases hy:y=x
  ·subst hy;simp
  ·have:(y==x)=false:=by simpa using hy
   simp[hy,List.lookup_cons,this]
 have xx:InCallC s (~~~s) (bindL (envOfC qual scope (~~~s) f cdv).kindOf ([x].zip [u]) λ_=>none) (cellsFrom ((~~~s)+1) scope.names []) (bindC (envOfC qual scope (~~~s) f cdv).kindOf ([x].zip [u]) λ_=>none)
   { s with heap:=h',toks:=s.toks+([x].zip [u]).length }:=by
  rw[mEq,hcf];exact ⟨⟨⟨h',_,rfl⟩,hns,kp,ay _⟩,(λn c e=>by simp at e),List.Pairwise.nil,(λn c e=>nomatch e)⟩
 show _/\codeAny (model P w) A (.func body (newEnv scope (~~~s) mainGlobals [] (qual++Str.ofString ".<locals>.") (some f) cdv none builtinsNs)) _ _;rw[envEq];refine ⟨lim.keeps kp,codeAny_func ?_⟩;obtain ⟨t,ht,hq⟩:=hbody A outer s H vs Q E (hr.deeper _) hsp;have I:Inv (dX CX P w K mg base N qual scope f cdv A outer s H E) [] (start N vs) H { s with heap:=h',toks:=s.toks+([x].zip [u]).length }:=Eh S hr.hd e0 hl r xx;refine dS (ht [] _ (start N vs) H _ (Nat.le_add_left 1 s.toks) I hq) (λfl s' hs=>?_) λe s' hs=>hs;have fin:∀{σ':St}{H':Hp}{v:V}{u:Value},Inv (dX CX P w K mg base N qual scope f cdv A outer s H E) [] σ' H' s'->RelV v u->Q v H'->CE outer P w H s Q u s':=
  λ{σ' H' v u} J rv q=>⟨v,H',J.os,J.bare,J.base,J.hok,rv,q⟩
 cases fl with
 |ret u=>
  obtain ⟨v,σ',H',J,rv,q⟩:=hs;exact fin J rv q
 |next=>
  obtain ⟨σ',H',J,q⟩:=hs;exact fin (v:=V.non) (u:=Value.none) J rfl q
 |brk=>
  obtain ⟨_,_,_,q⟩:=hs;exact False.elim q
 |cont=>
  obtain ⟨_,_,_,q⟩:=hs;exact False.elim q
theorem Fun.ok1{P:Program}{w:World}{K:PF}{mg:Str->Option Value}{base:Heap}{x qual:Str}{st:Stmt}{f:Addr}{fd:FuncData}{N:List Str}{y:Str}{k:Nat}{sp:Sp}(F:Fun K x qual st f fd)(S:FnScope N [y] (aq st))
  (hx:(aq st).names.lookup y=some .local) (hnc:∀z∈(aq st).names,z.2≠NameKind.cell) (hcf:∀n,cellsFrom n (aq st).names []=[]) (len:∀vs H Q E,sp vs H Q E->vs.length=[y].length)
  (hbody:∀(cdv:Value)(A:Around)(outer:List Env)(s:Shared)(H:Hp)(vs:List V)(Q:VK)(E:XK),Room k (A.deeper (envOfC qual (aq st) (~~~s) f cdv))->sp vs H Q E->
   ∃t,xX (dX CX0 P w K mg base N qual (aq st) f cdv A outer s H E) (aF st) t/\t { nx:=λ_ H'=>Q .non H',rt:=Q } (start N vs) H):FnOk P w K mg base CX0 (k+1) f fd [y] sp:=by
 obtain ⟨oc,od,kV,doc,pm,an,cdv,ct,osl,rfl,lk,hcd⟩:=F.ex;exact aam lk hcd S hx hnc hcf len λA outer s H vs Q E hr hsp=>hbody cdv A outer s H vs Q E hr hsp
open Builtin Builtin.Str
theorem aan{prog:Program}{w:World}{A:Around}(hh:A.handled=none)(it:Addr)(x:Str)(t:Tok):
  Draws prog w A it [it] x.cps.size (λi v=>∃c u,x.cps[i]?=some c/\v=.str ⟨#[c]⟩ u) (λi h=>h.IsStrIter it (strIterType x) x t i):=by
 unfold strIterType;split
 ·exact Draws.strAscii hh it x t
 ·exact Draws.strWide hh it x t
structure ZApart(z TI TO i1 i2:Addr):Prop where
 TIz:TI≠z
 TOz:TO≠z
 i1z:i1≠z
 i2z:i2≠z
 TITO:TI≠TO
 TIi1:TI≠i1
 TIi2:TI≠i2
 TOi1:TO≠i1
 TOi2:TO≠i2
 i12:i1≠i2
section
variable {X:Cx}
theorem Ft:∀{bs:List Bool}{us:List Value}{i:Nat}{v:Value},Vals (bs.map V.bl) us->us[i]?=some v->∃b,bs[i]?=some b/\v=.bool b
 |[],us,i,v,r,e=>by
  rw[d6]at r;cases r;simp at e
 |b::bs,us,i,v,r,e=>by
  rw[bp]at r;cases r with
  |cons r1 r2=>
   cases i with
   |zero=>
    cases (show _=Value.bool b from r1);exact ⟨b,rfl,by simpa using e.symm⟩
   |succ i=>exact Ft (i:=i) r2 (by simpa using e)
theorem aao:bootBuiltins "all"=some (.builtin "all"):=by ac_rfl
theorem aap:bootBuiltins "zip"=some (.type "zip"):=by ac_rfl
theorem all_range(bs:List Bool)(n:Nat)(hn:n=bs.length):((List.range n).all λi=>(bs[i]?).getD true)=bs.all id:=by
 subst hn;rw[ff,cq,cq];constructor
 ·intro h b hb;obtain ⟨i,hi,e⟩:=List.mem_iff_getElem.mp hb;have:=h i (eA.mpr hi);rw[a8 hi,e]at this;simpa using this
 ·intro h i hi;have hi':=eA.mp hi;rw[a8 hi'];simpa using h _ (d4 hi')
theorem aaq (hc:X.calm=true):bW X (.builtin "all") (λxs H Q=>∃(p:Addr) (bs:List Bool),xs=[.ref p]/\SqL X.K H p (bs.map V.bl)/\Q (.bl (bs.all id)) H):=by
 intro pins s Y H xs us Q I r h;obtain ⟨p,bs,rfl,hq,q⟩:=h;obtain ⟨u,rfl,ru⟩:=vals1 r;cases ru;obtain ⟨its,rv,pl,hz⟩:=I.list hq;have hl:=pl.isList;have hlt:p < (~~~s):=by obtain ⟨_,e,_⟩:=hl;exact bi e
 refine call_all_walk (wpAny_pyIter_list hl ?_);refine ⟨(~~~s),[(~~~s),p],[(~~~s)],its.toArray.size,_,_,λi=>(bs[i]?).getD true,rfl,Walks.list (A:=X.A.in1) (I.ok.hd hc) _ p (dA hlt) its.toArray,
  ⟨⟨_,bv _ rfl,rfl,rfl⟩,hl.push _⟩,λi v s' Q' E' hP hQ=>?_,λh' tk hk=>?_⟩
 ·obtain ⟨b,e,rfl⟩:=Ft rv (i:=i) (v:=v) (by simpa using hP);simp only[e,Option.getD_some]at hQ;exact fh hQ
 ·have e:=all_range bs its.toArray.size (by rw[aw,<-rv.length,af]);rw[e];exact ⟨.bl _,H,I.kept (λb o q=>hk b o (λhm=>by rw[bq.mp hm]at q;exact e9 _ (bi q)) (av _ q)),rfl,q⟩
theorem aar:OpR X (compareOp .Is) (λx y H Q=>∃i j,x=.bl i/\y=.bl j/\Q (.bl (i==j)) H):=by intro pins s Y H x y v u Q I rx ry h;obtain ⟨i,j,rfl,rfl,q⟩:=h;cases rx;cases ry;exact is_bool ⟨.bl _,H,I,rfl,q⟩
theorem aas:bW X (.type "int") (λxs H Q=>∃z n,xs=[.str z]/\PySem.intText? z=some n/\z.length<=640/\Q (.int n) H):=by intro pins s Y H xs us Q I r h;obtain ⟨z,n,rfl,hn,hl,q⟩:=h;obtain ⟨u,rfl,t,rfl⟩:=vals1 r;exact PySem.W.KIN.call_text hn hl ⟨.int n,H,I.tok _,⟨_,rfl⟩,q⟩
def aat:V->Option Int->Option Int->Hp->VK->Prop:=λx lo hi H Q=>∃z,x=.str z/\z.length<=sizeLine/\Q (.str (Txt.slice z lo hi)) H
theorem aau:SlR X aat:=by
 intro pins s Y H x v vl vu lo hi sl Q I rx hs pl pu h;obtain ⟨z,rfl,hz,q⟩:=h;obtain ⟨t,rfl⟩:=rx;refine ⟨"str",_,slot_str_getitem.lookup,typeIs_str _ _ _,?_⟩;obtain ⟨l,el,e1⟩:∃l:Option (Int×Tok),vl=partValue l/\l.map (·.1)=lo:=by
  cases pl with
  |none=>exact ⟨none,rfl,rfl⟩
  |int i t=>exact ⟨some (i,t),rfl,rfl⟩
 obtain ⟨u,eu,e2⟩:∃u:Option (Int×Tok),vu=partValue u/\u.map (·.1)=hi:=by
  cases pu with
  |none=>exact ⟨none,rfl,rfl⟩
  |int i t=>exact ⟨some (i,t),rfl,rfl⟩
 subst el eu e1 e2;refine wpAny_getItem_str_slice (l:=l) (u:=u) (st:=none) hs rfl ?_;unfold sliceMade;unfold Txt.slice at q;show (if ((1:Int)==1&&(slicePicked z l u none).length==z.length)=true then Made.val (.str z t) else Made.str ⟨((slicePicked z l u none).filterMap (z.cps[·]?)).toArray⟩).post _ _;have ep:slicePicked z l u none=Builtin.Str.strSliceIndices (l.map (·.1)) (u.map (·.1)) 1 z.length:=rfl;rw[ep];by_cases hc:((1:Int)==1&&(Builtin.Str.strSliceIndices (l.map (·.1)) (u.map (·.1)) 1 z.length).length==z.length)=true
 ·rw[if_pos hc]at q ⊢;exact ⟨.str z,H,I,⟨t,rfl⟩,q⟩
 ·rw[if_neg hc]at q ⊢;refine ⟨?_,⟨.str _,H,I.tok _,⟨_,rfl⟩,q⟩⟩;show (List.filterMap _ _).toArray.size<=sizeLine;rw[aw];have h1:=sliceIndices_le (l.map (·.1)) (u.map (·.1)) z.length;have h2:=List.length_filterMap_le (λx=>z.cps[x]?) (Builtin.Str.strSliceIndices (l.map (·.1)) (u.map (·.1)) 1 z.length);omega
end
section
variable {X:Cx}
theorem aav:OpR X (compareOp .IsNot) (λx y H Q=>∃i j,x=.bl i/\y=.bl j/\Q (.bl (i != j)) H):=by intro pins s Y H x y v u Q I rx ry h;obtain ⟨i,j,rfl,rfl,q⟩:=h;cases rx;cases ry;exact isnot_bool ⟨.bl _,H,I,rfl,q⟩
end
def noStar:Expr->Bool
 |.Starred ..=>false
 |_=>true
theorem cN(e:Expr)(es:List Expr)(env:Env)(h:noStar e=true):starEach (e::es) env=(false,eval e env)::starEach es env:=by cases e <;> first |rfl |cases h
section
variable {prog:Program} {w:World} {A:Around} {E:Value->Shared->Prop} {s:Shared}
def rIt (a n c:Int):Obj:={ cls:=.type "range_iterator",data:=.fields #[rawInt a,rawInt n,rawInt c] }
theorem aaw{r:Addr}{n:Int}{t u v:Tok}{Q:Value->Shared->Prop}(hr:IsRange s.heap r 0 n 1 t u v)(h1:-(2 ^ 62)<=n)(h2:n < 2 ^ 62)
  (h:Q (.ref (~~~s)) { s with heap:=s.heap.push (rIt (0+(Builtin.Range.rangeSize 0 n 1 - 1) * 1) (Builtin.Range.rangeSize 0 n 1) (-1)) }):wpAny (model prog w) A (call (.builtin "range.__reversed__") [.ref r]) Q E s:=by
 have hT:s.TypeIs (.ref r) "range":=⟨_,hr,rfl⟩;refine fA F.slot_range_reversed hT F.entry_range_reversed ?_ (F.args_range_reversed_1 _);have hsm:(Builtin.Range.rangeFitsLong 0&&Builtin.Range.rangeFitsLong n&&Builtin.Range.rangeFitsLong 1&&Builtin.Range.rangeFitsLong (-1)&&Builtin.Range.rangeFitsLong (0 - 1)&&Builtin.Range.rangeFitsLong (Builtin.Range.rangeSize 0 n 1))=true:=by rw[rangeSize_one];simp only[Builtin.Range.rangeFitsLong,ae,dP,decide_eq_true_eq,a9];split <;> omega
 obtain ⟨hp,g,d,tk,os⟩:=s;wp_walk using wpAny_loadPart' hr
 rw[if_neg (by rw[hsm];decide)];simp only[hsm,if_true];wp_walk
 exact ⟨_,rfl,h⟩
theorem aax{r:Addr}{n:Int}{t u v:Tok}{Q₁:Value->Shared->Prop}(hr:IsRange s.heap r 0 n 1 t u v)(h1:-(2 ^ 62)<=n)(h2:n < 2 ^ 62)
  (h:Q₁ (.ref (~~~s)) { s with heap:=s.heap.push (rIt (0+(Builtin.Range.rangeSize 0 n 1 - 1) * 1) (Builtin.Range.rangeSize 0 n 1) (-1)) }):
  codeAny (model prog w) A (.call (.builtin "reversed.__new__") ⟨[.type "reversed",.ref r],[]⟩) (wants Q₁ E) s:=by
 have hT:s.TypeIs (.ref r) "range":=⟨_,hr,rfl⟩;refine codeAny_of_tree ?_;show wpAny _ A.in1 (do checkBuiltinCall "reversed.__new__" ⟨[.type "reversed",.ref r],[]⟩;again (.builtin "reversed.__new__" ⟨[.type "reversed",.ref r],[]⟩)) _ _ s;refine al (wpAny_of_eq (F.newCall_reversed_1 _) (bg ⟨plainId_quiet F.plain_reversed_new _,codeAny_builtin F.entry_reversed_new ?_⟩));rw[Around.under_plainId F.plain_reversed_new _];unfold Builtin.«reversed.__new__»;refine al (wpAny_of_eq (newClass_reversed _) ?_);try dsimp only
 refine al (wpAny_of_eq (a:=()) (by first |rfl |rfl') ?_);refine al (wpAny_of_eq (a:=()) (by first |rfl |rfl') ?_);try dsimp only
 refine al (wpAny_specialOf hT F.slot_range_reversed.lookup ?_);try dsimp only
 refine al (wpAny_of_eq (F.slot_range_reversed.bind _) ?_);try dsimp only
 first
 |rw[if_neg (show ¬((Value.builtin "range.__reversed__"==Value.none)=true) from a7)]
 | (show wpAny _ _ (if (Value.builtin "range.__reversed__"==Value.none)=true then _ else _) _ _ _;rw[if_neg (show ¬((Value.builtin "range.__reversed__"==Value.none)=true) from a7)])
 refine al (wpAny_rule ?_);refine al (m:=runValue (.call (.builtin "range.__reversed__") ⟨[.ref r],[]⟩)) (show wpAny _ _ (call (.builtin "range.__reversed__") [.ref r]) _ _ _ from aaw hr h1 h2 ?_);first
 |exact bg h
 |exact al (bg (bg h))
theorem aay{r:Addr}{n:Int}{t u v:Tok}{Q:Value->Shared->Prop}(hr:IsRange s.heap r 0 n 1 t u v)(h1:-(2 ^ 62)<=n)(h2:n < 2 ^ 62)
  (h:Q (.ref (~~~s)) { s with heap:=s.heap.push (rIt (0+(Builtin.Range.rangeSize 0 n 1 - 1) * 1) (Builtin.Range.rangeSize 0 n 1) (-1)) }):wpAny (model prog w) A (call (.type "reversed") [.ref r]) Q E s:=by
 refine callType_other (U:="range_iterator") (Q₁:=λobj s₁=>obj=.ref (~~~s)/\s₁={ s with heap:=s.heap.push (rIt (0+(Builtin.Range.rangeSize 0 n 1 - 1) * 1) (Builtin.Range.rangeSize 0 n 1) (-1)) }) (by ac_rfl) F.create_reversed ⟨_,_,F.mro_reversed⟩ F.made_reversed (by rw[isSubtype_type];rfl') (F.typeCall_reversed_1 _) (aax hr h1 h2 ⟨rfl,rfl⟩) ?_;rintro obj s₁ ⟨rfl,rfl⟩;exact ⟨⟨_,bv _ rfl,rfl⟩,h⟩
end
def Itd(lo:Int)(n:Nat):It:=⟨λi _=>i < n,λi H x H'=>H'=H/\x=.int (lo - i),λi _=>n<=i⟩
theorem aaz{P:Program}{w:World}{K:PF}{tg:Expr}(it:Addr)(lo:Int)(n:Nat):Turn P w K tg (Itd lo n) [it] it (λi h=>IsRangeIter h it (lo+(i:Nat) * (-1)) ((n:Int) - (i:Nat)) (-1)) where
 mem:=by simp
 obj:=λi h st b hb=>by
  have e:b=it:=by simpa using hb
  subst e;exact ⟨_,st,λv z=>by
   have z':Data.fields _=Data.cell v:=z;cases z'⟩
 keep:=λi h h' st k=>k it (by simp) _ st
 item:=by intro X hP hw hK hc i pins s Y H E I hf st hg;subst hP hw hK;obtain ⟨f0,f1,f2,f3,f4,f5⟩:=hf it (by simp);have W:=Walks.range (prog:=X.prog) (w:=X.w) (I.ok.hd hc) it lo (-1) n;refine W.item i s _ _ hg st λv h' tk hv st' kk=>?_;obtain ⟨t,rfl⟩:=hv;have I1:Inv X pins Y H { s with heap:=h',toks:=tk }:=I.turned (λb o hb e=>kk b o (by simpa using hb) e) f0 f1 f3 f4 f5;refine ⟨_,rfl,lE (s:={ s with heap:=h',toks:=tk }) (n:="range_iterator") st' rfl rfl (by decide) ⟨.int (lo - i),H,I1,⟨t,?_⟩,⟨rfl,rfl⟩,st',λb hb=>(hf b hb).1⟩⟩;rw[show lo+(i:Int) * (-1)=lo - i by omega]
 done:=by intro X hP hw hK hc i pins s Y H E I hf st hg;subst hP hw hK;obtain ⟨f0,f1,f2,f3,f4,f5⟩:=hf it (by simp);exact wpAny_pyNext_range_end (I.ok.hd hc) st (by have:n<=i:=hg;omega) λh' eb=>⟨rfl,I.turned (t':=s.toks) (λb o hb e=>eb b o hb e) f0 f1 f3 f4 f5⟩
 self:=λ_ _ _ _ _ st h=>wpAny_pyIter_rangeiter st h
section
variable {X:Cx} {tg:Expr}
theorem aaA(j:Int):Builtin.Range.rangeSize 0 j 1=(j.toNat:Int):=by rw[rangeSize_one];split <;> omega
theorem aaB:bootBuiltins "reversed"=some (.type "reversed"):=by ac_rfl
def aaC(ta:TA):TI:=λY H R=>ta Y H λvs H1=>∃j:Int,vs=[.int j]/\-(2 ^ 62)<=j/\j < 2 ^ 62/\R (Itd ((j.toNat:Int) - 1) j.toNat) H1
theorem aaD {a:Expr} {ta:TA} {p q pos pos':Pos} (hgR:Gl X "reversed") (hmR:X.mg "reversed"=none) (hg:Gl X "range") (hm:X.mg "range"=none) (ha:PA X [a] ta) (hs:starEach [a] X.env=[(false,eval a X.env)]:=by rfl):
  PI X tg (.Call (.Name "reversed" q) [.Call (.Name "range" p) [a] [] pos] [] pos') (aaC ta):=by
 intro pins s Y H R I h;refine Call_ (gJ I hgR hmR aaB (d5 (?_) rfl rfl));show wpAny _ _ (spliced ((false,eval (.Call (.Name "range" p) [a] [] pos) X.env)::[])) _ _ s;refine Calls.spliced_cons (Call_ (gJ I hg hm boot_range (d5 (thn (ha pos pins s Y H _ I h) λus s1 ⟨vs,H1,I1,r1,q1⟩=>?_) hs rfl)));obtain ⟨j,e,q1,q2,qq⟩:=q1;subst e;cases r1 with
 |cons r rr=>
  cases rr;obtain ⟨t,rfl⟩:=r;refine call_range_1 (Calls.spliced_nil (aay (IsRange.new ..) q1 q2 ?_));rw[aaA];have I2:Inv X pins Y H1 { s1 with heap:=s1.heap.push { cls:=Value.type "range",data:=Data.fields #[Value.int 0 s1.toks,Value.int j t,Value.int 1 (s1.toks+1)] },toks:=s1.toks+1+1 }:=I1.kept λb o e=>av _ e;generalize s1.heap.push { cls:=Value.type "range",data:=Data.fields #[Value.int 0 s1.toks,Value.int j t,Value.int 1 (s1.toks+1)] }=hp1 at I2 ⊢;have st:IsRangeIter (hp1.push (rIt (0+((j.toNat:Int) - 1) * 1) j.toNat (-1))) hp1.objs.size (0+((j.toNat:Int) - 1) * 1) j.toNat (-1):=bv _ rfl;refine wpAny_pyIter_rangeiter (s:={ s1 with heap:=hp1.push (rIt (0+((j.toNat:Int) - 1) * 1) j.toNat (-1)),toks:=s1.toks+1+1 }) st ?_;refine ⟨hp1.objs.size,[hp1.objs.size],_,_,H1,rfl,I2.kept (t':=s1.toks+1+1) λb o e=>av _ e,aaz _ ((j.toNat:Int) - 1) j.toNat,?_,λb hb=>?_,qq⟩
  ·show IsRangeIter _ _ (((j.toNat:Int) - 1)+((0:Nat):Int) * (-1)) ((j.toNat:Int) - ((0:Nat):Int)) (-1);rw[show ((j.toNat:Int) - 1)+((0:Nat):Int) * (-1)=0+((j.toNat:Int) - 1) * 1 by omega,show (j.toNat:Int) - ((0:Nat):Int)=j.toNat by omega];exact st
  ·have e:b=hp1.objs.size:=by simpa using hb
   subst e;exact I2.fpOk (ay _) (I2.hok.fresh (ay _))
end
theorem Fv(its:List Value):slicePick its.toArray none none (some (-1))=its.reverse.toArray:=by
 have e:(List.range its.length).map (λk:Nat=>((its.length:Int) - 1 + -1 * (k:Int)).toNat)=(List.range its.length).map λk=>its.length - 1 - k:=by apply List.map_congr_left;intro k _;omega
 have e2:(sliceRange ((its.length:Int) - 1) (-1) (-1))=(List.range its.length).map λk=>its.length - 1 - k:=by
  rw[<-e];unfold sliceRange;dsimp only;rw[if_neg (by decide)];congr 2;by_cases h:(its.length:Int) - 1 > -1
  ·rw[if_pos h,show (-(-1):Int)=1 by decide,Int.ediv_one];omega
  ·rw[if_neg h];omega
 have e3:((List.range its.length).map λk=>its.length - 1 - k).filterMap (λx=>its.toArray[x]?)=its.reverse:=by
  have h1:∀x∈(List.range its.length).map (λk=>its.length - 1 - k),its.toArray[x]?=some (its.getD x .none):=by intro x hx;obtain ⟨k,hk,rfl⟩:=bb.mp hx;have:=eA.mp hk;rw[List.getElem?_toArray,dc,a8 (by omega)];rfl
  have h2:∀l:List Nat,(∀x∈l,its.toArray[x]?=some (its.getD x .none))->(l.filterMap λx=>its.toArray[x]?)=l.map λx=>its.getD x .none:=λl=>by
   induction l with
   |nil=>intro _;rfl
   |cons a l ih=>intro hl;rw[bp,<-ih λx hx=>hl x (aI _ hx),List.filterMap_cons,hl a aS]
  rw[h2 _ h1,ek];apply List.ext_getElem
  ·simp
  ·intro i hi hj;rw[List.getElem_map,List.getElem_range,List.getElem_reverse];have:its.length - 1 - i < its.length:=by simp at hi;omega
   show its.getD (its.length - 1 - i) .none=_;rw[dc,a8 this];rfl
 show ((sliceRange ((its.toArray.size:Int) - 1) (-1) (-1)).filterMap λx=>its.toArray[x]?).toArray=_;rw[aw,e2,e3]
theorem Vals.back{xs:List V}{us:List Value}(r:Vals xs us):Vals xs.reverse us.reverse:=Vals.reverse r
variable {X:Cx} {e st:Expr} {te ts:TE} {p2 pos:Pos}
def Tr(h0:Heap)(H:Hp)(h:Heap)(a:Addr)(c:Value):Prop:=
 ∃oe vs T oT ts,h.get? a=some oe/\oe.cls=c/\oe.data=.fields vs/\vs[1]?=some (.ref T)/\T≠a/\h.get? T=some oT/\oT.data=.fields ts/\ts[3]?=some .none/\
  h0.get? a=none/\h0.get? T=none/\H a=none/\H T=none
def CX1(P:Program)(w:World):CXT:=λouter H s E e s'=>
 ∃(a:Addr)(c:Value)(H':Hp),e=.ref a/\s'.os=s.os/\AllBare s'.gens/\Un (frs outer) [] H H' s.heap s'.heap/\HOk P w H' s'.heap/\Tr s.heap H' s'.heap a c/\E c none H'
section
variable {X:Cx} {pins:List (Addr×Obj)} {σ:St} {H:Hp} {s:Shared}
theorem Fw{P:Program}{w:World}(Y:Cx):lF (CX1 P w) Y λ_ _ _=>False:=λ_ _ _ _ _ _ _ h=>by
 obtain ⟨_,_,_,_,_,_,_,_,_,q⟩:=h;exact q.elim
end
abbrev veM:List Value:=[.type "ValueError",.type "Exception",.type "BaseException",.type "object"]
def xZ:List Value->Bool
 |[.type a,.type b,.type c,.type d]=>a=="ValueError"&&b=="Exception"&&c=="BaseException"&&d=="object"
 |_=>false
theorem aaE{l:List Value}(h:xZ l=true):l=veM:=by
 unfold xZ at h;split at h
 ·simp only[ae,a9]at h;obtain ⟨⟨⟨rfl,rfl⟩,rfl⟩,rfl⟩:=h;rfl
 ·cases h
def Fx:Value->Bool
 |.str _ _=>true
 |_=>false
def nsB(K:PF)(N:Addr):Bool:=match K.lookup N with
 |some ⟨_,_,.dict es _,_⟩=>es.toList.all (λe=>Fx e.key)&&quietNames.all λn=>(nsFind es n).isNone
 |_=>false
theorem Fy{K:PF}{N:Addr}{h:Heap}(KX:K.In h)(b:nsB K N=true):∃m,h.Ns N m/\∀n∈quietNames,m n=none:=by
 unfold nsB at b;split at b
 ·rename_i c d es ep sl e;rw[ae,cq,cq]at b;refine ⟨nsFind es,⟨_,es,ep,KX _ _ e,rfl,λx hx=>?_,λ_=>rfl⟩,λn hn=>by simpa using b.2 n hn⟩;have:=b.1 x (Array.mem_toList_iff.mpr hx);unfold Fx at this;split at this
  ·rename_i y t e;exact ⟨_,_,e⟩
  ·cases this
 ·cases b
def FJ(K:PF)(A:Addr):Bool:=match K.lookup A with
 |some ⟨_,_,.cls cd,_⟩=>nsB K cd.ns
 |_=>false
def sO(K:PF):List Value->Bool
 |[]=>false
 |v::tl=>(match v with |.ref A=>FJ K A&&sO K tl |_=>xZ (v::tl))
theorem FN{K:PF}{h:Heap}(KX:K.In h):∀{l:List Value},sO K l=true->OwnTailQ h veM l
 |[],b=>by cases b
 |v::tl,b=>by
  unfold sO at b;split at b
  ·rename_i A;rw[ae]at b;have b1:=b.1;unfold FJ at b1;split at b1
   ·rename_i c d cd sl e;obtain ⟨m,hm,hq⟩:=Fy KX b1;exact .own (KX _ _ e) hm hq (FN KX b.2)
   ·cases b1
  ·rw[aaE b];exact .base
def isRef(C:Addr):Value->Bool
 |.ref a=>a==C
 |_=>false
def isNew:Option Value->Bool
 |some (.builtin s)=>s=="ValueError.__new__"
 |_=>false
def FP:Value->Bool
 |.type s=>s=="type"
 |_=>false
def jm(K:PF)(C:Addr):Bool:=match K.lookup C with
 |some ⟨ty,_,.cls cd,⟨[_,_,_,_,k,_]⟩⟩=>FP ty&&isNew k&&nsB K cd.ns&&!cd.hasDel&&(match cd.mro with |v::tl=>isRef C v&&sO K tl |[]=>false)
 |_=>false
theorem aaF {K:PF} {C:Addr} {h:Heap} {mg:Str->Option Value} {x:Str} (KX:K.In h) (b:jm K C=true) (hm:mg x=some (.ref C)):OwnClsQ x C veM "ValueError.__new__" mg h:=by
 unfold jm at b;split at b
 ·rename_i ty dd cd k0 k1 k2 k3 k k5 e;simp only[ae]at b;obtain ⟨⟨⟨⟨b1,b2⟩,b3⟩,b5⟩,b4⟩:=b;obtain ⟨m,hns,hq⟩:=Fy KX b3;have e1:ty=.type "type":=by
   unfold FP at b1;split at b1
   ·rw[a9]at b1;rw[b1]
   ·cases b1
  have e2:k=some (.builtin "ValueError.__new__"):=by
   unfold isNew at b2;split at b2
   ·rw[a9]at b2;rw[b2]
   ·cases b2
  obtain ⟨nm,bs,mro,ns,q,hd,sn,sub,ab,col,del⟩:=cd;dsimp only at b4 hns b5;have e4:del=false:=by simpa using b5
  subst e4;split at b4
  ·rename_i v tl;rw[ae]at b4;have e3:v=.ref C:=by
    have:=b4.1;unfold isRef at this;split at this
    ·rw[a9]at this;rw[this]
    ·cases this
   subst e1 e2 e3;exact ⟨hm,tl,ns,nm,q,bs,hd,sn,sub,ab,col,dd,k0,k1,k2,k3,k5,m,KX _ _ e,hns,hq,FN KX b4.2⟩
  ·cases b4
 ·cases b
theorem aaG{h:Heap}{bmB bm:List Value}(t:OwnTail h bmB bm){v:Value}(hv:bmB.contains v=true):bm.contains v=true:=by
 induction t with
 |base=>exact hv
 |own _ _ _ _ ih=>rw[List.contains_cons,ih,Bool.or_true]
theorem FQ{h h':Heap}(k:∀b o,h.get? b=some o->h'.get? b=some o){N:Addr}{m:Str->Option Value}(n:h.Ns N m):h'.Ns N m:=by obtain ⟨o,es,ep,e,r⟩:=n;exact ⟨o,es,ep,k _ _ e,r⟩
theorem aaH{h h':Heap}(k:∀b o,h.get? b=some o->h'.get? b=some o){bmB bm:List Value}(t:OwnTail h bmB bm):OwnTail h' bmB bm:=by
 induction t with
 |base=>exact .base
 |own e n i _ ih=>exact .own (k _ _ e) (FQ k n) i ih
section
variable {X:Cx}
abbrev TJ:=St->Hp->(Hp->Prop)->Prop
def PJ(X:Cx)(es:List Expr)(t:TJ)(n:Nat):Prop:=∀(pins:List (Addr×Obj))(s:Shared)(Y:St)(H:Hp)(Q:Hp->Prop)(out:Str),Inv X pins Y H s->out.length+n<=100000->t Y H Q->
 ↥X (joinParts out (evalEach es X.env)) (EP X pins Y λv H'=>(∃x,v=.str x)/\Q H') X.xe s
theorem aaI:PJ X [] (λ_ H Q=>Q H) 0:=λpins s Y H Q out I hl q=>by
 refine joinParts_nil ⟨.str out,H,I.tok _,⟨_,rfl⟩,⟨_,rfl⟩,q⟩ ?_;have:sizeLine≥100000:=by decide
 omega
theorem sS(x y:Str):(x++y).length=x.length+y.length:=by show (x.cps++y.cps).size=_;rw[Array.size_append];rfl
theorem aaJ{y:Str}{k:Nat}{p:Pos}{es:List Expr}{t:TJ}{n:Nat}(h:PJ X es t n):PJ X (.Constant (.str y) k p::es) t (y.length+n):=λpins s Y H Q out I hl q=>by
 have hz:sizeLine≥100000:=by decide
 refine joinParts_consE (joinParts_cons (Calls.Constant_str ?_));dsimp only;refine ⟨by rw[sS];omega,h pins _ Y H Q _ (I.tok _) (by rw[sS];omega) q⟩
theorem digits_le:∀n:Fin 100,(Str.ofString (toString (n.val:Int))).length<=3:=by ac_rfl
theorem aaK{e:Expr}{te:TE}{p:Pos}{es:List Expr}{t:TJ}{n:Nat}(he:PE X e te)(h:PJ X es t n):PJ X (.FormattedValue e (-1) none p::es) (λY H Q=>te Y H λv H1=>(∃m:Nat,v=.int m/\m < 100)/\t Y H1 Q) (3+n):=λpins s Y H Q out I hl q=>by
 have hz:sizeLine≥100000:=by decide
 refine joinParts_consE (joinParts_cons (FormattedValue_plain (thn (he pins s Y H _ I q) λv s1 hy=>?_)));obtain ⟨x,H1,I1,r1,⟨m,rfl,hm⟩,q1⟩:=hy;obtain ⟨tk,rfl⟩:=r1;have hd:(Str.ofString (toString (m:Int))).length<=3:=digits_le ⟨m,hm⟩;refine formatField_int_small ?_ ?_
 ·have:(m:Int).natAbs=m:=Int.natAbs_natCast m;rw[this];exact Nat.lt_of_le_of_lt (Nat.log2_le_self m) (by omega)
 ·dsimp only;exact ⟨by rw[sS];omega,h pins _ Y H1 Q _ ((I1.tok _)) (by rw[sS];omega) q1⟩
theorem aaL{v1 v2:Expr}{es:List Expr}{t:TJ}{n:Nat}{pos:Pos}(h:PJ X (v1::v2::es) t n)(hn:n<=100000):PE X (.JoinedStr (v1::v2::es) pos) (λY H Q=>t Y H λH1=>∀x,Q (.str x) H1):=λpins s Y H Q I q=>by
 refine JoinedStr_many ?_;refine dS (h pins s Y H _ Str.empty I (by show 0+n<=_;omega) q) (λv s1 hy=>?_) λ_ _ z=>z;obtain ⟨x,H1,I1,r1,⟨y,rfl⟩,q1⟩:=hy;exact ⟨_,H1,I1,r1,q1 y⟩
def Throws(X:Cx)(E:XK):Prop:=∀(pins:List (Addr×Obj))(Y:St)(H:Hp)(s:Shared)(h':Heap)(a:Addr)(c:Value)(args:List Value),Inv X pins Y H s->s.heap.MadeExcOf h' a c args->E c none H->X.xe (.ref a) { s with heap:=h' }
theorem FT{x:Str}{C:Addr}{np cpos pos:Pos}{e:Expr}{es:List Expr}{ta:TA}{E:XK}(hc:X.calm=true)(hg:Gl X x)(hm:X.mg x=some (.ref C))(hb:jm X.K C=true)(hE:Throws X E)(ha:PA X (e::es) ta)
  (hdb:(x==("__debug__":Str))=false:=by decide) (he:starEach (e::es) X.env=(false,eval e X.env)::starEach es X.env:=by rfl) (hpl:(backTo cpos (starEach es X.env)).any (·.1)=false:=by rfl):
  PS X (.Raise (some (.Call (.Name x np) (e::es) [] cpos)) none pos) (λ_ Y H=>ta Y H λvs H1=>vs.length<=sizeLine/\E (.ref C) none H1):=by
 intro pins s Y H D I h;have kb:=I.ok.mod.kin;obtain ⟨bm,N,nm,q,bs,hd,sn,sub,ab,col,dd,k0,k1,k2,k3,k5,mN,b1,b2,b3,b4⟩:=(aaF kb hb hm:OwnClsQ x C veM "ValueError.__new__" X.mg X.base).own.obj;refine wpAny_Raise_call_subT (nm:=nm) (q:=q) (N:=N) (bs:=bs) (hdct:=hd) (sn:=sn) (sub:=sub) (ab:=ab) (col:=col) (dd:=dd) (k0:=k0) (k1:=k1) (k2:=k2) (k3:=k3) (k5:=k5) (F.excBase_ValueError) (aaG b4 (by decide)) (I.ok.hd hc) ?_ b3 (xK I hg hm ⟨rfl,?_⟩ hdb)
 ·rw[he];exact hpl
 ·have hsp:=ha cpos pins s Y H _ I h;rw[he]at hsp ⊢;refine Calls.evalArgs_plain (dS hsp (λvs s2 hy=>?_) λ_ _ z=>z);obtain ⟨ws,H2,I2,r2,hl,q2⟩:=hy;refine ⟨rfl,by rw[<-r2.length];exact hl,I2.bk _ _ b1,FQ I2.bk b2,aaH I2.bk b4,λh' a m=>hE pins Y H2 s2 h' a _ _ I2 m q2⟩
end
section
variable {X:Cx}
variable {pins:List (Addr×Obj)} {σ:St} {H:Hp} {s:Shared}
structure Caught(X:Cx)(H:Hp)(s:Shared)(H':Hp)(a:Addr)(c:Value)(s':Shared):Prop where
 os:s'.os=s.os
 bare:AllBare s'.gens
 un:Un (frs X.stack) [] H H' s.heap s'.heap
 hok:HOk X.prog X.w H' s'.heap
 tr:Tr s.heap H' s'.heap a c
variable {H':Hp} {a:Addr} {c:Value} {s':Shared}
end
open Builtin.ObjectAttr Builtin.Getset_descriptor
open PySem.W (findIn mroIn clsIn typeIn Looks InstAt looks_findIn looks_mroIn looks_typeIn)
def FW(K:PF)(D:Addr):Bool:=
 findIn K (.ref D) "__class__"==some (some (.builtin "object.__class__"))&&findIn K (.ref D) "__getattribute__"==some (some (.builtin "BaseException.__getattribute__"))&&findIn K (.ref D) "__getattr__"==some none &&
  mroIn K D (.type "object")==some true&&mroIn K D (.type "BaseException")==some true&&(clsIn K D).isSome
open PySem.W (findIn mroIn clsIn typeIn Looks looks_findIn looks_mroIn looks_typeIn)
section
variable {X:Cx}
def XO(H:Hp)(a c:Addr):Prop:=∃o y,H a=some (.frz o (.own y))/\o.cls=.ref c
def valOf:V->Value
 |.ref a=>.ref a
 |.ty n=>.type n
 |_=>.none
end
section
variable {X:Cx}
def XP(X:Cx)(pins:List (Addr×Obj))(ex:Value->St->Hp->Prop)(Y:St)(e:Value)(s1:Shared):Prop:=∃a c H1 s0 H',e=.ref a/\Inv X pins Y H1 s0/\Caught X H1 s0 H' a c s1/\ex c Y H'
def Ga (K:PF) (C:Addr):Bool:=typeIn K (.ref C)==some (.type "type")&&(clsIn K C).isSome&&mroIn K C (.type "BaseException")==some true
end
open PySem.SeqAt
section
variable {X:Cx}
theorem yc:∀{bs:List Bool}{us:List Value},Vals (bs.map V.bl) us->us=bs.map Value.bool
 |[],us,r=>by cases r;rfl
 |b::bs,us,r=>by
  cases r with
  |cons r1 r2=>
   have e:_=Value.bool b:=r1;rw[e,yc r2];rfl
theorem Gb(k:Bool){bs:List Bool}:∀y,y∈(bs.map Value.bool)->∀(A:Around)(s:Shared),EqAt A s y (.bool k) (isBoolOf k y):=by intro y hy A s;obtain ⟨b,_,rfl⟩:=bb.mp hy;exact EqAt.bool_bool b k
theorem aaM(k:Bool)(bs:List Bool):(bs.map Value.bool).countP (isBoolOf k)=bs.count k:=by
 induction bs with
 |nil=>rfl
 |cons b bs ih=>
  rw[bp,List.countP_cons,ih,List.count_cons];rfl
def aaN(K:PF):V->List V->Hp->VK->Prop:=λx vs H Q=>∃(p:Addr)(bs:List Bool),x=.ref p/\vs=[.bl true]/\SqL K H p (bs.map V.bl)/\Q (.int (bs.count true:Nat)) H
theorem aaO:MtR X "list.count" (aaN X.K):=by intro pins s Y H x xs v us Q I rx rs h;obtain ⟨p,bs,rfl,rfl,hq,q⟩:=h;cases rx;obtain ⟨u,rfl,ru⟩:=vals1 rs;cases ru;obtain ⟨its,rv,⟨o,n,ho,hc,hd,hdd⟩,hz⟩:=I.list hq;obtain ⟨cls,dd,data,sl⟩:=o;simp only at hc hd hdd;subst hc hd hdd;have e:=yc rv;subst e;refine gv PySem.F.slot_list_count ⟨_,ho,rfl⟩ PySem.F.entry_list_count (PySem.F.args_list_count_2 _ _) (list_countAt p _ n _ sl (.bool true) (isBoolOf true)) ⟨ho,λy hy=>Gb true y (by simpa using hy) _ _,?_⟩;refine ⟨.int _,H,I.tok _,⟨_,rfl⟩,?_⟩;rw[show ((bs.map Value.bool).toArray).toList=bs.map Value.bool from rfl,aaM];exact q
def aaP(K:PF):V->List V->Hp->VK->Prop:=λx vs H Q=>∃(p:Addr)(bs:List Bool),x=.ref p/\vs=[.bl true]/\SqL K H p (bs.map V.bl)/\true∈bs/\Q (.int (bs.idxOf true:Nat)) H
theorem Gd(bs:List Bool)(j:Nat)(h:j < (bs.map Value.bool).length)(h':j < bs.length):isBoolOf true (bs.map Value.bool)[j]=(bs[j]==true):=by rw[List.getElem_map];rfl
theorem aaQ:MtR X "list.index" (aaP X.K):=by
 intro pins s Y H x xs v us Q I rx rs h;obtain ⟨p,bs,rfl,rfl,hq,hin,q⟩:=h;cases rx;obtain ⟨u,rfl,ru⟩:=vals1 rs;cases ru;obtain ⟨its,rv,⟨o,n,ho,hc,hd,hdd⟩,hz⟩:=I.list hq;obtain ⟨cls,dd,data,sl⟩:=o;simp only at hc hd hdd;subst hc hd hdd;have e:=yc rv;subst e;have hj:bs.idxOf true < bs.length:=List.idxOf_lt_length_iff.mpr hin;have hz':bs.length<=sizeLine:=by rw[af]at hz;exact hz
 have hs:sizeLine < 2 ^ 63 - 1:=by decide
 refine gv PySem.F.slot_list_index ⟨_,ho,rfl⟩ PySem.F.entry_list_index (PySem.F.args_list_index_2 _ _) (list_indexAt p _ n _ sl (.bool true) (isBoolOf true) (bs.idxOf true) (by simpa using hj) (by omega) ?_ ?_) ⟨ho,λy hy=>Gb true y (by simpa using hy) _ _,?_⟩
 ·have h3:bs.idxOf true < (bs.map Value.bool).length:=by rw[af];exact hj
  show isBoolOf true ((bs.map Value.bool)[bs.idxOf true]'h3)=true;rw[Gd bs _ h3 hj];simpa using List.getElem_idxOf hj
 ·intro j hjs hlt;have h2:j < bs.length:=by omega
  have h3:j < (bs.map Value.bool).length:=by rw[af];exact h2
  show isBoolOf true ((bs.map Value.bool)[j]'h3)=false;rw[Gd bs j h3 h2];have h4:j < bs.findIdx (·==true):=hlt;simpa using List.not_of_lt_findIdx h4
 ·exact ⟨.int _,H,I.tok _,⟨_,rfl⟩,q⟩
end
section
variable {X:Cx}
theorem aaR:OpR X (binaryOp .FloorDiv) (rI (λ_ j=>0 < j/\j < 1152921504606846976) λi j=>.int (i / j)):=opI λi j _ _ _ _ _ hc q=>by
 have h1:(0:Int) < j:=hc.1;have h2:j < 1152921504606846976:=hc.2;refine floordiv_int (by omega) (by rw[Int.fdiv_eq_ediv_of_nonneg i (by omega)];exact q) (.inl (PyProof.noPylong_of_log2 ?_));have:j.natAbs.log2 < 60:=(Nat.log2_lt (by omega)).mpr (by show j.natAbs < 1152921504606846976;omega);omega
def yd(m:Nat):Str:=Str.ofString (toString (m:Int))
theorem aaS{m:Nat}(h:m < 100):(m:Int).natAbs.log2 < 1920:=by have:(m:Int).natAbs=m:=Int.natAbs_natCast m;rw[this];exact Nat.lt_of_le_of_lt (Nat.log2_le_self m) (by omega)
theorem aaT:bW X (.type "str") (λxs H Q=>∃m:Nat,xs=[.int m]/\m < 100/\Q (.str (yd m)) H):=by intro pins s Y H xs us Q I r h;obtain ⟨m,rfl,hm,q⟩:=h;obtain ⟨u,rfl,ru⟩:=vals1 r;obtain ⟨t,rfl⟩:=ru;exact PySem.P.str_of_int (aaS hm) ⟨.str _,H,I.tok _,⟨_,rfl⟩,q⟩
end
end L2
namespace HT
open PySem PySem.Spec PyProof.Rows Builtin
theorem aaU:fillsNumberSlot (.type "tuple") "mul"=pure false:=
 PySem.fillsNumberSlot_seq (id:="tuple.__mul__") (r:=some (.builtin "tuple.__rmul__")) PySem.F.slot_tuple_mul.lookup (by ac_rfl) PySem.F.slot_tuple_rmul.lookup (by ac_rfl)
theorem aaV:seqRepeat? (.type "tuple")=pure (some (.builtin "tuple.__mul__")):=by unfold seqRepeat?;rw[PySem.seqSlot_of (T:="tuple") (name:="__mul__") (id:="tuple.__mul__") PySem.F.slot_tuple_mul.lookup (by ac_rfl),PySem.seqSlot_of (T:="tuple") (name:="__rmul__") (id:="tuple.__rmul__") PySem.F.slot_tuple_rmul.lookup (by ac_rfl)];rfl
theorem aaW(a:Int)(t:Tok)(l:Addr)(items:Array Value)(n:Nat)(dd:Option Addr)(sl:Array (Option Value)):
  Meets (Builtin.«int.__rmul__» ⟨[.int a t,.ref l],[]⟩) (λ_ R s=>s.heap.get? l=some { cls:=.type "tuple",dict:=dd,data:=.seq items n,slots:=sl }/\R (.ok (.ret Value.notImplemented)) s):=
 .of_wp λprog w A R s h=>by obtain ⟨hp,g,d,tk,os⟩:=s;obtain ⟨hl,h⟩:=h;wp_walk;exact ⟨_,rfl,h⟩
theorem aaX(l:Addr)(items:Array Value)(n:Nat)(dd:Option Addr)(sl:Array (Option Value))(k:Int)(t:Tok)(h2:2<=k)(hk:k<=1000)(hne:items.isEmpty=false)(hz:items.size * k.toNat<=sizeLine)(hz2:(List.foldl (λx1 x2=>x1++x2) #[] (List.replicate k.toNat items)).size<=sizeLine):
  Meets (Builtin.«tuple.__mul__» ⟨[.ref l,.int k t],[]⟩) (λ_ R s=>s.heap.get? l=some { cls:=.type "tuple",dict:=dd,data:=.seq items n,slots:=sl }/\
   R (.ok (.ret (.ref (~~~s)))) { s with heap:=s.heap.push { cls:=.type "tuple",data:=.seq ((List.replicate k.toNat items).foldl (· ++ ·) #[]) } }):=
 .of_wp λprog w A R s h=>by
  obtain ⟨hp,g,d,tk,os⟩:=s;obtain ⟨hl,h⟩:=h;have a1:(decide (k < -(2 ^ 63))||decide (k≥2 ^ 63))=false:=by rw[decide_eq_false (by omega),decide_eq_false (by omega)];rfl
  have a2:(items.isEmpty||k==1)=false:=by rw[hne,Bool.false_or,beq_eq_false_iff_ne];omega
  have a3:(decide (k<=0)||items.isEmpty)=false:=by rw[decide_eq_false (by omega),hne];rfl
  have hs:(items.size:Int) * k=((items.size * k.toNat:Nat):Int):=by rw[Int.natCast_mul,Int.toNat_of_nonneg (by omega)]
  have hsl:sizeLine<=1152921504606846975:=by decide
  have a4:¬((items.size:Int) * k > (2 ^ 63 - 1) / 8):=by rw[hs];omega
  have a5:¬(Tuple.tupleTooMany ((items.size:Int) * k)=true):=by unfold Tuple.tupleTooMany;rw[decide_eq_true_iff,hs];omega
  wp_walk
  rw[if_neg (by rw[a1];exact Bool.false_ne_true)];wp_walk
  rw[if_neg (by rw[a2];exact Bool.false_ne_true)];dsimp only;rw[if_neg (by rw[a3];exact Bool.false_ne_true),if_neg a4,if_neg a5];unfold Tuple.tupleExact;wp_walk
  exact ⟨_,rfl,h⟩
end HT
namespace L2
open PySem PySem.Spec PyProof.Rows
section
variable {X:Cx}
def aaY(K:PF):R2:=λx y H Q=>∃(l:Addr)(k:Int)(xs:List V),x=.ref l/\y=.int k/\SqT K H l xs/\xs≠[]/\2<=k/\k<=1000/\xs.length * k.toNat<=sizeLine/\∀p,H p=none->Q (.ref p) (upd H p (.tup (List.replicate k.toNat xs).flatten))
theorem aaZ:OpR X (binaryOp .Mult) (aaY X.K):=by
 intro pins s Y H x y v u Q I rx ry h;obtain ⟨l,k,xs,rfl,rfl,hT,hne,h2,hk,hz,q⟩:=h;cases rx;obtain ⟨t,rfl⟩:=ry;obtain ⟨its,r,pt,_⟩:=I.tuple hT;obtain ⟨⟨cls,dd,data,sl⟩,ho,hc,n,hd⟩:=id pt;simp only at hc hd;subst hc hd;have hl:=r.length;have hz':its.toArray.size * k.toNat<=sizeLine:=by rw[aw,<-hl];exact hz
 have he:its.toArray.isEmpty=false:=by
  cases its with
  |nil=>exact absurd (ee.mp hl) hne
  |cons _ _=>rfl
 have hnew:List.foldl (λx1 x2=>x1++x2) #[] (List.replicate k.toNat its.toArray)=(List.replicate k.toNat its).flatten.toArray:=by have:=foldl_rep its k.toNat [];rw[fS]at this;exact this
 refine wpAny_binaryOp_repeat_ref (T:="tuple") (U:="int") (by decide) ⟨_,ho,rfl⟩ (λs'=>typeIs_int s' k t) HT.aaU F.fills_int_mul F.slot_int_rmul HT.aaV F.slot_int_index.lookup
  (gv F.slot_int_rmul (typeIs_int s k t) F.entry_int_rmul (F.args_int_rmul_2 _ _) (HT.aaW k t l its.toArray n dd sl)
   ⟨ho,rfl,⟨_,ho,rfl⟩,gv PySem.F.slot_tuple_mul ⟨_,ho,rfl⟩ PySem.F.entry_tuple_mul (PySem.F.args_tuple_mul_2 _ _) (HT.aaX l its.toArray n dd sl k t h2 hk he hz' (by rw[hnew,aw,len_rep,Nat.mul_comm,<-hl];exact hz)) ⟨ho,?_⟩⟩)
 rw[hnew];refine ⟨.ref (~~~s),_,I.laid (t':=s.toks) (o:=.tup (List.replicate k.toNat xs).flatten) (λb ob q=>av _ q) (ay _) ?_,rfl,q _ (I.hok.fresh (ay _))⟩;exact ⟨by rw[len_rep,Nat.mul_comm];exact hz,_,r.rep k.toNat,IsTup.new _ _⟩
end
end L2
namespace HT
open PySem PySem.Spec PyProof.Rows Builtin
theorem aa0(a:Int)(t:Tok)(l:Addr)(items:Array Value)(n:Nat)(dd:Option Addr)(sl:Array (Option Value)):
  Meets (Builtin.«int.__rmul__» ⟨[.int a t,.ref l],[]⟩) (λ_ R s=>s.heap.get? l=some { cls:=.type "list",dict:=dd,data:=.seq items n,slots:=sl }/\R (.ok (.ret Value.notImplemented)) s):=
 .of_wp λprog w A R s h=>by obtain ⟨hp,g,d,tk,os⟩:=s;obtain ⟨hl,h⟩:=h;wp_walk;exact ⟨_,rfl,h⟩
theorem aa1(l:Addr)(items:Array Value)(n:Nat)(dd:Option Addr)(sl:Array (Option Value))(x:Int)(u:Tok)(hc0:¬(!Builtin.List.listFitsIndex x)=true)(hc1:¬items.size * x.toNat > (2 ^ 63 - 1) / 8)(hc2:¬Builtin.List.listTooLong (items.size * x.toNat)=true):
  Meets (Builtin.«list.__mul__» ⟨[.ref l,.int x u],[]⟩) (λ_ R s=>s.heap.get? l=some { cls:=.type "list",dict:=dd,data:=.seq items n,slots:=sl }/\R (.ok (.ret (Value.ref (~~~s)))) { s with heap:=s.heap.push { cls:=Value.type "list",data:=Data.seq (List.foldl (λx1 x2=>x1++x2) #[] (List.replicate (if items.isEmpty=true then 0 else x.toNat) items)) },toks:=s.toks }):=
 .of_wp λprog w A R s h=>by
  obtain ⟨hp,g,d,tk,os⟩:=s;obtain ⟨hl,h⟩:=h;have hsz:=AutoListH.joined_fits hc2;wp_walk;refine wpAny_ite_false (decide_eq_false (Nat.not_lt.mpr hsz)) ?_;wp_walk;exact ⟨_,rfl,h⟩
end HT
namespace L2
open PySem PySem.Spec PyProof.Rows
section
variable {X:Cx}
def aa2(K:PF):R2:=λx y H Q=>∃(l:Addr)(k:Int)(xs:List V),x=.ref l/\y=.int k/\SqL K H l xs/\0<=k/\k<=1000/\xs.length * k.toNat<=sizeLine/\∀p,H p=none->Q (.ref p) (upd H p (.lst (List.replicate k.toNat xs).flatten))
theorem aa3:OpR X (binaryOp .Mult) (aa2 X.K):=by
 intro pins s Y H x y v u Q I rx ry h;obtain ⟨l,k,xs,rfl,rfl,hH,h1,h2,hz,q⟩:=h;cases rx;obtain ⟨t,rfl⟩:=ry;obtain ⟨its,r,⟨⟨cls,dd,data,sl⟩,n,e,c1,c2,c3⟩,_⟩:=I.list hH;simp only at c1 c2 c3;have hl:=r.length;have hlen:its.toArray.size * k.toNat<=sizeLine:=by rw[aw,<-hl];exact hz
 have hcap:¬its.toArray.size * k.toNat > (2 ^ 63 - 1) / 8:=by
  have:(sizeLine:Nat)<=(2 ^ 63 - 1) / 8:=by decide
  omega
 have hfit:¬(!Builtin.List.listFitsIndex k)=true:=by rw[fitsIndex_both (by omega) (by omega)];exact a7
 have hlong:¬Builtin.List.listTooLong (its.toArray.size * k.toNat)=true:=by rw[Ez hlen];exact a7
 have hnew:List.foldl (λx1 x2=>x1++x2) #[] (List.replicate (if its.toArray.isEmpty=true then 0 else k.toNat) its.toArray)=(List.replicate k.toNat its).flatten.toArray:=by
  have f0:∀m:Nat,List.foldl (λx1 x2=>x1++x2) #[] (List.replicate m its.toArray)=(List.replicate m its).flatten.toArray:=λm=>by
   have:=foldl_rep its m [];rw[fS]at this;exact this
  rw[f0];cases its with
  |nil=>simp
  |cons a r'=>rw[if_neg (by simp)]
 subst c1 c3;refine wpAny_binaryOp_repeat_ref (T:="list") (U:="int") (by decide) ⟨_,e,rfl⟩ (λs'=>typeIs_int s' k t) noFill_list_mul F.fills_int_mul F.slot_int_rmul repeat_list F.slot_int_index.lookup
  (gv F.slot_int_rmul (typeIs_int s k t) F.entry_int_rmul (F.args_int_rmul_2 _ _) (HT.aa0 k t l its.toArray n dd sl)
   ⟨e,rfl,⟨_,e,rfl⟩,gv F.slot_list_mul ⟨_,e,rfl⟩ F.entry_list_mul (F.args_list_mul_2 _ _) (HT.aa1 l its.toArray n dd sl k t hfit hcap hlong) ⟨e,?_⟩⟩)
 rw[hnew];exact ⟨.ref _,_,I.lnew (t':=s.toks) (r.rep k.toNat) (by rw[len_rep,Nat.mul_comm];exact hz),rfl,q _ I.fresh⟩
end
end L2
namespace PySem
end PySem
namespace L2
open PySem PySem.Spec PyProof.Rows
end L2
namespace PyProof.Rows
open PySem
theorem aa4 {prog:Program} {w:World} {A:Around} {E:Value->Shared->Prop} {s:Shared} {it:Addr} {T:String} {o:Obj} {items:List Value} {n:Nat} {ns:List Int} {Q:Value->Shared->Prop} (hT:T="list"\/T="tuple")
  (ho:s.heap.get? it=some o) (hc:o.cls=.type T) (hd:o.data=.seq items.toArray n) (hI:IntsAre items ns) (h64:items.length < 64)
  (h:∀(h1 h':Heap) (e:Nat) (out:Array Value) (ns':List Int),IntsAre out.toList ns'->ns'.Perm ns->ns'.Pairwise (·<=·)->(∀b o',s.heap.get? b=some o'->h1.get? b=some o')->(∀b o',h1.get? b=some o'->h'.get? b=some o')->h'.get? h1.objs.size=some (seqObj "list" out e)->Q (.ref h1.objs.size) { s with heap:=h' }):
  wpAny (model prog w) A (call (.builtin "sorted") [.ref it]) Q E s:=by
 refine Calls.call_function_entry kind_sorted plain_sorted entry_sorted (args_sorted1 _) ?_;unfold Builtin.«sorted»;refine wpAny_bind (m:=checkCount "sorted" 1 1 _) (wpAny_pure ?_);refine wpAny_bind (wpAny_collect_seq it hT ho hc hd (λh1 k1=>?_) (by rw[List.size_toArray,sizeLine_eq];omega));refine wpAny_bind (wpAny_newList ?_);have e1:items.toArray.toList=items:=by simp
 rw[e1];have hoL:(h1.push (seqObj "list" items.toArray 0)).get? h1.objs.size=some (seqObj "list" items.toArray 0):=Heap.get?_push_size _ rfl;show wpAny _ _ _ _ _ { s with heap:=h1.push (seqObj "list" items.toArray 0) };refine wpAny_bind (wpAny_holding (wpAny_call_entry slot_list_sort ⟨_,hoL,rfl⟩ entry_list_sort (list_sort_tree hoL hI h64 λout ns' a1 a2 a3=>⟨_,rfl,?_⟩) (args_list_sort _)));obtain ⟨e,he⟩:=sortedHeap_at (vs:=items) (out:=out) hoL;refine wpAny_pure ⟨_,rfl,h h1 _ e out ns' a1 a2 a3 k1 (λb o' hb1=>?_) he⟩;rw[sortedHeap_old (Nat.ne_of_lt (Heap.lt_size hb1)) (by rw[size_push'];exact Nat.lt_succ_of_lt (Heap.lt_size hb1))];exact Heap.get?_push_of_some _ hb1
end PyProof.Rows
namespace L2
open PySem PySem.Spec PyProof.Rows
theorem ak1 {X:Cx}:bW X (.builtin "sorted") (λxs H Q=>∃(p:Addr) (ns:List Int),xs=[.ref p]/\SqT X.K H p (ns.map V.int)/\ns.length < 64/\∀ns':List Int,ns'.Perm ns->ns'.Pairwise (·<=·)->∀l,H l=none->Q (.ref l) (upd H l (.lst (ns'.map V.int)))):=by
 intro pins s Y H xs us Q I r h;obtain ⟨p,ns,rfl,hq,h64,q⟩:=h;obtain ⟨u,rfl,ru⟩:=vals1 r;cases ru;obtain ⟨its,rv,⟨o,ho,hc,n,hd⟩,hz⟩:=I.tuple hq;have hlen:its.length=ns.length:=by rw[<-rv.length];simp
 refine aa4 (.inr rfl) ho hc hd (intsAre_of rv) (by omega) λh1 h' e out ns' a1 a2 a3 k1 k2 he=>?_;have I1:Inv X pins Y H { s with heap:=h1 }:=I.kept (t':=s.toks) k1;have hsz:(ns'.map V.int).length<=sizeLine:=by rw[af,a2.length_eq,sizeLine_eq];omega
 exact ⟨.ref h1.objs.size,_,I1.laid (t':=s.toks) k2 (ay _) (show ObjOk X.prog X.w _ _ _ (.lst (ns'.map V.int)) from ⟨hsz,out.toList,e,xT a1,by rw[Array.toArray_toList];exact he⟩),rfl,q ns' a2 a3 _ (I1.hok.fresh (ay _))⟩
section
variable {prog:Program} {w:World} {A:Around} {R:Result->Shared->Prop} {s:Shared}
def gM(e:Expr)(d:Nat)(target iter:Expr)(em:Value->Env->Sem Fin->Sem Fin):Prop:=
 ∀it acc env,compTurn e d it acc env=(standAt iter.pos >>= λ_=>pyNext it >>= λr=>match r with
   |none=>pure (.done .next)
   |some v=>letOwnedTupleGo target it v >>= λ_=>assign target env v >>= λ_=>em acc env (again (.compLoop e d it acc env)))
def emE (elt:Expr) (acc:Value) (env:Env) (k:Sem Fin):Sem Fin:=(eval elt env >>= λx=>call (.builtin "list.append") [acc,x] >>= λ_=>pure ()) >>= λ_=>k
def emG(e:Expr)(d:Nat)(iter:Expr)(acc:Value)(env:Env)(k:Sem Fin):Sem Fin:=
 eval iter env >>= λx=>standAt iter.pos >>= λ_=>foldedSetIterable iter env x >>= λx=>holding [x] (pyIter x) >>= λit=>runOwn (.compStart e d it acc env) env >>= λ_=>k
theorem aa5(elt t1 i1 t2 i2 t3 i3:Expr)(scope:Scope)(pos:Pos):gM (.ListComp elt [⟨t1,i1,[],0⟩,⟨t2,i2,[],0⟩,⟨t3,i3,[],0⟩] scope pos) 2 t3 i3 (emE elt):=λ_ _ _=>rfl
theorem aa6(elt t1 i1 t2 i2 t3 i3:Expr)(scope:Scope)(pos:Pos):gM (.ListComp elt [⟨t1,i1,[],0⟩,⟨t2,i2,[],0⟩,⟨t3,i3,[],0⟩] scope pos) 1 t2 i2 (emG (.ListComp elt [⟨t1,i1,[],0⟩,⟨t2,i2,[],0⟩,⟨t3,i3,[],0⟩] scope pos) 2 i3):=λ_ _ _=>rfl
theorem Ge(elt t1 i1 t2 i2 t3 i3:Expr)(scope:Scope)(pos:Pos):gM (.ListComp elt [⟨t1,i1,[],0⟩,⟨t2,i2,[],0⟩,⟨t3,i3,[],0⟩] scope pos) 0 t1 i1 (emG (.ListComp elt [⟨t1,i1,[],0⟩,⟨t2,i2,[],0⟩,⟨t3,i3,[],0⟩] scope pos) 1 i2):=λ_ _ _=>rfl
theorem Gf{elt:Expr}{gens:List Comprehension}{scope:Scope}{pos:Pos}{d:Nat}{target iter:Expr}{em:Value->Env->Sem Fin->Sem Fin}{it acc:Value}{env:Env}(hT:gM (.ListComp elt gens scope pos) d target iter em)(I:Nat->Shared->Prop)
  (turn:∀n s,I n s->wpAny (model prog w) A (pyNext it) (λr s₁=>match r with
   |none=>R (.ok .next) s₁
   |some v=>wpAny (model prog w) A (letOwnedTupleGo target it v) (λ_ s₁'=>wpAny (model prog w) A (assign target env v) (λ_ s₂=>
     ∀(k:Sem Fin)(Q:Fin->Shared->Prop)(E:Value->Shared->Prop),(∀s₅,(∃m,m < n/\I m s₅)->wpAny (model prog w) A k Q E s₅)->wpAny (model prog w) A (em acc env k) Q E s₂) (λ_ _=>False) s₁') (λ_ _=>False) s₁) (λ_ _=>False) s)
  (n:Nat) (h:I n s):codeAny (model prog w) A (.compLoop (.ListComp elt gens scope pos) d it acc env) R s:=by
 refine codeAny_loop rfl I (λn s hI=>?_) n h;show wpAny _ A ((compTurn (.ListComp elt gens scope pos) d it acc env).onRaise (λx=>do noteFrame x env;theTreesLotGoes x)) _ _ s;refine wpAny_noted ?_;rw[hT];refine al (ib (al (dS (turn n s hI) (λr s₁ h₁=>?_) λ_ _ h'=>False.elim h')));cases r with
 |none=>exact bg h₁
 |some v=>
  refine al (dS h₁ (λ_ s₁' h₁'=>?_) λ_ _ h'=>False.elim h');exact al (dS h₁' (λ_ s₂ h₂=>h₂ _ _ _ λs₃ h₃=>bg ⟨rfl,h₃⟩) λ_ _ h'=>False.elim h')
theorem aa7{elt:Expr}{gens:List Comprehension}{scope:Scope}{pos:Pos}{d:Nat}{t i:Expr}{it acc:Value}{env:Env}(hg:gens[d]?=some ⟨t,i,[],0⟩)
  (h0:codeAny (model prog w) A (.compLoop (.ListComp elt gens scope pos) d it acc env) R s)
  (h:wpAny (model prog w) A (pyIter it) (λit' s'=>codeAny (model prog w) A (.compLoop (.ListComp elt gens scope pos) d it' acc env) R s') (λ_ _=>False) s):
  codeAny (model prog w) A (.compStart (.ListComp elt gens scope pos) d it acc env) R s:=by
 refine codeAny_of_tree ?_;show wpAny _ _ ((compStart (.ListComp elt gens scope pos) d it acc env).onRaise (λx=>do noteFrame x env;standAt theWindowsPlace)) _ _ s;refine wpAny_notedAt ?_;unfold compStart;have e:(clausesOf (.ListComp elt gens scope pos))[d]?=some ⟨t,i,[],0⟩:=hg;rw[e];show wpAny _ _ (ask >>= _) _ _ s;refine al (wpAny_askSetting (wpAny_ite ?_));split
 ·exact bg (ag rfl h0)
 ·refine al (wpAny_rule ?_);show wpAny _ _ (standAt i.pos >>= _) _ _ s;exact al (ib (al (dS h (λit' s' h'=>bg (ag rfl h')) λ_ _ x=>False.elim x)))
end
abbrev TM:=List V->St->Hp->(List V->St->Hp->Prop)->Prop
def lob (its:List Value) (n:Nat):Obj:={ cls:=.type "list",data:=.seq its.toArray n }
structure AccOk(X:Cx)(a:Addr):Prop where
 new:a∈X.ex\/X.s₀.heap.objs.size<=a
 cel:∀x c,X.env.cells.lookup x=some c->c≠a
 pin:∀p∈X.pn,p.1≠a
def PM(X:Cx)(lim:Bool)(a:Addr)(em:Sem Fin->Sem Fin)(t:TM):Prop:=
 ∀(pins:List (Addr×Obj))(its:List Value)(n:Nat)(ys:List V)(Y:St)(H:Hp)(s:Shared)(K:List V->St->Hp->Prop),Inv X ((a,lob its n)::pins) Y H s->(∀p∈pins,p.1≠a)->Vals ys its->(lim=true->ys.length < sizeLine)->t ys Y H K->
  ∀(k:Sem Fin)(Q:Fin->Shared->Prop)(E:Value->Shared->Prop),(∀s' its' n' ys' σ' H',Inv X ((a,lob its' n')::pins) σ' H' s'->Vals ys' its'->K ys' σ' H'->↥X k Q E s')->↥X (em k) Q E s
def tmE(te:TE):TM:=λys Y H K=>ys.length < sizeLine/\te Y H λy H'=>K (ys++[y]) Y H'
theorem Gg{X:Cx}{a:Addr}{elt:Expr}{te:TE}(hx:X.xe=λ_ _=>False)(ha:AccOk X a)(he:PE X elt te):PM X false a (emE elt (.ref a) X.env) (tmE te):=by
 intro pins its n ys Y H s K I hp rv _ h kk Q E hk;obtain ⟨hz,h⟩:=h;have h0:=he _ s Y H _ I h;rw[hx]at h0;refine al (al (dS h0 (λv s8 h8=>?_) λ_ _ z=>False.elim z));obtain ⟨y,H8,I8,r8,k8⟩:=h8;obtain ⟨pD,nD,lD,fD,cD⟩:=I8.pin (a,lob its n) (aT _ aS);have hl:=rv.length;refine al (append_at (hsz:=by rw[aw];omega) pD λh9 hs9 hD9=>bg ?_);have I8a:Inv X pins Y H8 s8:=I8.pins_of λp hp=>I8.pin p (aT _ (aI _ hp));have I9:Inv X pins Y H8 { s8 with heap:=h9 }:=I8a.turned (t':=s8.toks) (it:=a) (λb o hb e=>hs9.extBut b o hb e) nD lD ha.new ha.cel (λp hp'=>by
  rcases bP.mp hp' with z |z
  ·exact ha.pin p z
  ·exact hp p z)
 have hD9':h9.get? a=some (lob (its++[v]) (n+1)):=by rw[hD9,List.push_toArray];rfl
 refine hk _ (its++[v]) (n+1) (ys++[y]) Y H8 (I9.pins_of λp hp'=>?_) (rv.append (.cons r8 .nil)) k8;rcases ci.mp hp' with e |z
 ·subst e;exact ⟨hD9',nD,lD,fD,λv z=>by have z':Data.seq _ _=Data.cell v:=z;cases z'⟩
 ·exact I9.pin p (aT _ z)
def emT(ifs:List Expr)(elt:Expr)(acc:Value)(env:Env)(k:Sem Fin):Sem Fin:=
 (forIn ifs true λc r=>if r=true then do let ok <-isTrue c env (eval c env);pure (ForInStep.yield ok) else pure (ForInStep.yield r)) >>= λok=>if ok=true then emE elt acc env k else k
theorem Gi(elt tg iter:Expr)(ifs:List Expr)(scope:Scope)(pos:Pos):gM (.ListComp elt [⟨tg,iter,ifs,0⟩] scope pos) 0 tg iter (emT ifs elt):=λ_ _ _=>rfl
def tmT(tt:TT)(te:TE):TM:=λys Y H K=>tt Y H λb H4=>if b=true then te Y H4 λy H5=>K (ys++[y]) Y H5 else K ys Y H4
theorem aa8{X:Cx}{a:Addr}{elt:Expr}{ifs:List Expr}{tt:TT}{te:TE}(hx:X.xe=λ_ _=>False)(ha:AccOk X a)(ht:PIf X ifs tt)(he:PE X elt te):PM X true a (emT ifs elt (.ref a) X.env) (tmT tt te):=by
 intro pins its n ys Y H s K I hp rv hl h kk Q E hk;have h0:=ht _ s Y H _ I h;rw[hx]at h0;refine al (dS h0 (λb s4 h4=>?_) λ_ _ z=>False.elim z);obtain ⟨H4,I4,q4⟩:=h4;cases b with
 |false=>exact hk s4 its n ys Y H4 I4 rv q4
 |true=>exact Gg hx ha he pins its n ys Y H4 s4 K I4 hp rv (λz=>nomatch z) ⟨hl rfl,q4⟩ kk Q E hk
def Gj(J:It)(g:TG)(tm:TM)(ys:List V)(σ0:St)(H1:Hp)(K:List V->St->Hp->Prop):Prop:=
 ∃W:Nat->Nat->List V->St->Hp->Prop,(∃m,W 0 m ys σ0 H1)/\∀i m ys σ' H',W i m ys σ' H'->
  (J.stop i H'/\K ys σ' H')\/(J.go i H'/\∀x H2,J.yld i H' x H2->g x σ' H2 λσ3 H3=>tm ys σ3 H3 λys' σ4 H4=>∃m',m' < m/\W (i+1) m' ys' σ4 H4)
def tmG(wi:TI)(g:TG)(tm:TM):TM:=λys Y H K=>wi Y H λJ H1=>Gj J g tm ys Y H1 K
theorem Gk{X:Cx}{a:Addr}{elt:Expr}{gens:List Comprehension}{scope:Scope}{pos:Pos}{d:Nat}{t i:Expr}{em:Value->Env->Sem Fin->Sem Fin}{wi:TI}{g:TG}{tm:TM}(hx:X.xe=λ_ _=>False)(hc:X.calm=true)
  (hg:gens[d]?=some ⟨t,i,[],0⟩) (hT:gM (.ListComp elt gens scope pos) d t i em) (hi:PI X t i wi) (hG:PG X t g) (hs:∀x,foldedSetIterable i X.env x=pure x) (hm:PM X false a (em (.ref a) X.env) tm):
  PM X false a (emG (.ListComp elt gens scope pos) d i (.ref a) X.env) (tmG wi g tm):=by
 intro pins its n ys Y H s K I hp rv _ h kk Q E hk;have h0:=hi _ s Y H _ I h;rw[hx]at h0;refine al (dS h0 (λxv s1 h1=>?_) λ_ _ z=>False.elim z);refine al (ib (al (wpAny_of_eq (hs xv) ?_)));refine al (fe (dS h1 (λitv s2 h2=>?_) λ_ _ z=>False.elim z));obtain ⟨it,fp,tn,J,H2,e,I2,T,st2,f2,W,⟨m0,w0⟩,turn⟩:=h2;subst e;have fpok:∀{H':Hp}{o:Obj},(∀b∈fp,H' b=none)->∀b∈fp,eV X ((a,o)::pins) H' b:=λhn b hb=>by
  obtain ⟨_,q1,q2,q3,q4,q5⟩:=f2 b hb;refine ⟨hn b hb,q1,q2,q3,q4,λp hp=>?_⟩;rcases bP.mp hp with z |z
  ·exact q5 p (gd _ z)
  ·rcases ci.mp z with z |z
   ·subst z;exact q5 (a,lob its n) (aT _ aS)
   ·exact q5 p (aT _ (aI _ z))
 have hap:∀b∈fp,a≠b:=λb hb=>(f2 b hb).2.2.2.2.2 (a,lob its n) (aT _ aS);have loop:codeAny (model X.prog X.w) X.A (.compLoop (.ListComp elt gens scope pos) d (.ref it) (.ref a) X.env) (λr s'=>match r with |.ok f=>↥X kk Q E s' |.error e=>cameBackBy (model X.prog X.w) X.A X.env E e s') s2:=by
  refine Gf hT (λm s'=>∃(i:Nat)(ys:List V)(its:List Value)(n:Nat)(σ':St)(H':Hp),Inv X ((a,lob its n)::pins) σ' H' s'/\Vals ys its/\tn i s'.heap/\(∀b∈fp,H' b=none)/\W i m ys σ' H') ?_ m0 ⟨0,ys,its,n,Y,H2,I2,rv,st2,λb hb=>(f2 b hb).1,w0⟩;rintro m s3 ⟨i,ys,its,n,σ3,H3,I3,rv3,st3,fr3,w3⟩;rcases turn i m ys σ3 H3 w3 with ⟨stop,qn⟩ |⟨go,step⟩
  ·refine thn (T.done X rfl rfl rfl hc i _ s3 σ3 H3 _ I3 (fpok fr3) st3 stop) λr s4 ⟨hr,I4⟩=>?_;subst hr;exact hk s4 its n ys σ3 H3 I4 rv3 qn
  ·refine thn (T.item X rfl rfl rfl hc i _ s3 σ3 H3 _ I3 (fpok fr3) st3 go) λr s4 ⟨u,hr,h4⟩=>?_;subst hr;refine thn h4 λ_ s5 ⟨x,H5,I5,r5,y5,st5,fr5⟩=>?_;have I5':=I5.pinned (fpok fr5) (T.obj _ _ st5);have h6:=hG _ s5 σ3 H5 x u _ I5' r5 (step x H5 y5);rw[hx]at h6;refine thn h6 λ_ s6 ⟨σ6,H6,I6,q6⟩=>?_;intro k Q' E' hk';refine hm (pins++jN fp s5.heap) its n ys σ6 H6 s6 _ I6 (λp hp'=>?_) rv3 (λz=>nomatch z) q6 k Q' E' λs7 its' n' ys' σ7 H7 I7 rv7 ⟨m',hm',w7⟩=>hk' s7 ⟨m',hm',i+1,ys',its',n',σ7,H7,I7.pins_of λp hp'=>?_,rv7,?_,λb hb=>?_,w7⟩
   ·rcases bP.mp hp' with z |z
    ·exact hp p z
    ·exact λe=>hap p.1 (xN z).1 e.symm
   ·refine I7.pin p (aT _ ?_);rcases ci.mp hp' with z |z
    ·rw[z];exact aS
    ·exact aI _ (gd _ z)
   ·exact T.keep _ _ _ st5 λb hb o e=>(I7.pin (b,o) (aT _ (aI _ (aT _ (jO hb e))))).1
   ·obtain ⟨o,e,_⟩:=T.obj _ _ st5 b hb;exact (I7.pin (b,o) (aT _ (aI _ (aT _ (jO hb e))))).2.1
 exact al (wpAny_runOwn (aa7 hg loop (T.self X.A 0 _ _ _ st2 loop)))
def ye(lim:Bool)(X:Cx)(N':List Str)(scope:Scope)(tg:Expr)(em:Value->Env->Sem Fin->Sem Fin)(J:It)(σ0:St)(H1:Hp)(Q:VK):Prop:=
 ∃W:Nat->Nat->List V->St->Hp->Prop,(∃m,W 0 m [] σ0 H1)/\∀i m ys σ' H',W i m ys σ' H'->
  (J.stop i H'/\ys.length<=sizeLine/\∀D,H' D=none->Q (.ref D) (upd H' D (.lst ys)))\/
  (J.go i H'/\(lim=true->ys.length < sizeLine)/\∀cl C s₁ H₁ fp pn,∃g tm,PG (X.comp N' scope cl C s₁ H₁ fp pn) tg g/\(∀a,AccOk (X.comp N' scope cl C s₁ H₁ fp pn) a->PM (X.comp N' scope cl C s₁ H₁ fp pn) lim a (em (.ref a) (X.comp N' scope cl C s₁ H₁ fp pn).env) tm)/\
   ∀x H2,J.yld i H' x H2->g x σ' H2 λσ3 H3=>tm ys σ3 H3 λys' σ4 H4=>∃m',m' < m/\W (i+1) m' ys' σ4 H4)
def yf(lim:Bool)(X:Cx)(N':List Str)(scope:Scope)(tg:Expr)(em:Value->Env->Sem Fin->Sem Fin)(wi:TI)(cap:List (Option Nat)):TE:=λY H Q=>wi Y H λJ H1=>ye lim X N' scope tg em J (dY cap Y) H1 Q
theorem Gm{X:Cx}{elt tg iter:Expr}{ifs:List Expr}{lim:Bool}{rest:List Comprehension}{em:Value->Env->Sem Fin->Sem Fin}{scope:Scope}{pos:Pos}{wi:TI}{pins:List (Addr×Obj)}{s:Shared}{Y:St}{H:Hp}{Q:VK}{RR:Value->Addr->Result->Shared->Prop}(N':List Str)(cap:List (Option Nat))(hc:X.calm=true)(hi:PI X tg iter wi)(hcap:Caps X scope N' cap)
  (hcell:scope.names.all (λy=>y.2 != NameKind.cell)=true)
  (hfr:scope.names.all (λy=>y.2 != NameKind.free||(X.env.kindOf y.1==some NameKind.cell||X.env.kindOf y.1==some NameKind.free))=true)
  (hkind:scope.kind=.function) (hT:gM (.ListComp elt (⟨tg,iter,ifs,0⟩::rest) scope pos) 0 tg iter em) (I:Inv X pins Y H s) (h:yf lim X N' scope tg em wi cap Y H Q)
  (fin:∀(D C:Addr)(H':Hp)(s4:Shared)(m:Str->Option Value),Inv X pins Y H' s4->Q (.ref D) H'->s4.heap.Ns C m->eV X pins H' C->RR (.ref D) C (.ok .next) s4):
  ↥X (eval iter X.env) (λx s₁=>↥X (pyIter x) (λit s₂=>↥X (newList []) (λacc s₃=>
   ↥X (newFunctionEnv scope X.env.globals (cW X.env scope.names []) [] X.env.qual none .none (some X.env)) (λcenv s₄=>
    codeAny (model X.prog X.w) X.A (.compStart (.ListComp elt (⟨tg,iter,ifs,0⟩::rest) scope pos) 0 it acc { cenv with scope:=relabel scope X.env }) (RR acc cenv.locals) s₄) X.xe s₃) X.xe s₂) X.xe s₁) X.xe s:=by
 have hcell':∀y∈scope.names,y.2≠NameKind.cell:=λy hy=>by
  have:=cq.mp hcell y hy;simpa using this
 have hfr':∀y∈scope.names,y.2=NameKind.free->(X.env.kindOf y.1=some NameKind.cell\/X.env.kindOf y.1=some NameKind.free):=λy hy hl=>by
  have:=cq.mp hfr y hy;simpa [hl] using this
 have hcs:∀y∈scope.names,y.2=NameKind.free->(X.env.cells.lookup y.1).isSome=true:=λy hy hl=>by
  obtain ⟨c,e⟩:=I.ok.has y.1 (hfr' y hy hl);rw[e];rfl
 have clsub:∀x c,(cW X.env scope.names []).lookup x=some c->X.env.cells.lookup x=some c:=Fb (λx c e=>by simp at e);have clhas:∀x,scope.names.lookup x=some NameKind.free->∃c,(cW X.env scope.names []).lookup x=some c:=λx e=>by
  have hm:=eT e;exact dv.mp (Fe (hcs _ hm rfl) hm)
 have rel:∀x,(relabel scope X.env).names.lookup x=(scope.names.lookup x).map λk=>if (k==NameKind.free&&X.env.scope.kind==.function&&X.env.kindOf x==some .cell)=true then NameKind.cell else k:=λx=>xV
 have relfree:∀x,((relabel scope X.env).names.lookup x=some NameKind.cell\/(relabel scope X.env).names.lookup x=some NameKind.free)->scope.names.lookup x=some NameKind.free:=λx e=>by
  rw[rel x]at e;cases z:scope.names.lookup x with
  |none=>rw[z]at e;rcases e with e |e <;> cases e
  |some k=>
   have nk:=hcell' _ (eT z);rw[z]at e;cases k with
   |free=>rfl
   |cell=>exact absurd rfl nk
   | «local»=>rcases e with e |e <;> simp[show (NameKind.«local»==NameKind.free)=false by decide]at e
   |globalExplicit=>rcases e with e |e <;> simp[show (NameKind.globalExplicit==NameKind.free)=false by decide]at e
   |globalImplicit=>rcases e with e |e <;> simp[show (NameKind.globalImplicit==NameKind.free)=false by decide]at e
 generalize hcl:cW X.env scope.names []=cl at clsub clhas;refine thn (hi pins s Y H _ I h) λxv s0 h0=>thn h0 λitv s2 h2=>?_;obtain ⟨it,fp,tn,J,H2,e,I2,T,st2,f2,W,⟨m0,w0⟩,turn⟩:=h2;subst e;refine fx (wpAny_newFunctionEnv hcell' (by intro y hy;simp at hy) (λh₁ hns₁ hsb₁=>?_) hkind);dsimp only at hns₁ hsb₁ ⊢;generalize hH2:s2.heap.push { cls:=.type "list",dict:=none,data:=.seq ([]:List Value).toArray }=HP at hns₁ hsb₁ ⊢;have hC:HP.objs.size=s2.heap.objs.size+1:=by rw[<-hH2,fg]
 have hDC:s2.heap.objs.size≠HP.objs.size:=by rw[hC];exact dA (gl _)
 have below:∀b,b < s2.heap.objs.size->b≠HP.objs.size/\b≠s2.heap.objs.size:=λb hb=>⟨by rw[hC];exact dA (Nat.lt_succ_of_lt hb),dA hb⟩;have old:∀b o,s2.heap.get? b=some o->h₁.get? b=some o:=λb o e=>hsb₁.extBut b o (below b (bi e)).1 (av _ (hH2 ▸ av _ e));have hacc:h₁.get? s2.heap.objs.size=some { cls:=.type "list",data:=.seq ([]:List Value).toArray 0 }:=hsb₁.extBut _ _ hDC (av _ (hH2 ▸ bv _ rfl));have hst₁:tn 0 h₁:=T.keep _ _ _ st2 λb _ o e=>old b o e;have fplt:∀b∈fp,b < s2.heap.objs.size:=λb hb=>by
  obtain ⟨o,e,_⟩:=T.obj _ _ st2 b hb;exact bi e
 have fslt:∀b∈frs X.stack,b < s2.heap.objs.size:=λb hb=>by
  obtain ⟨_,o,e,_⟩:=I2.stack.mem hb;exact bi e
 have celllt:∀x c,cl.lookup x=some c->c < s2.heap.objs.size:=λx c e=>by
  obtain ⟨v,q⟩:=I2.cell x c (clsub x c e);exact q.lt
 have hDf:H2 s2.heap.objs.size=none:=I2.hok.fresh (ay _);have hCf:H2 HP.objs.size=none:=I2.hok.fresh (by rw[hC];exact gS _);have nofs:∀b∈fp,b∉frs X.stack:=λb hb z=>by
  obtain ⟨_,f1,f2',_⟩:=f2 b hb;rcases ci.mp (I2.stkSub b z) with e |e
  ·exact f1 e
  ·exact f2' e
 have ok':(X.comp N' scope cl HP.objs.size s2 H2 fp (X.pn++pins)).Ok:=
  ⟨I2.ok.mod,hkind,I2.ok.glob,I2.ok.blt,(by show s2.heap.objs.size<=HP.objs.size;rw[hC];exact gS _),
   λx y c e1 e2=>I2.ok.inj x y c (clsub x c e1) (clsub y c e2),λx hx=>clhas x (relfree x hx),λx c hf _=>(by cases hf),I2.ok.hd,I2.ok.frames,.inl rfl,
   λb hb=>⟨(below b (fplt b hb)).1,λx c e=>(f2 b hb).2.2.2.2.1 x c (clsub x c e)⟩,I2.bs,cp I2.ok.bsz I2.sz,
   λb o e hb=>(by
    rcases (f2 b hb).2.2.2.1 with z |z
    ·exact I2.ok.noex b o e z
    ·exact absurd (b9 (bi e) (cp I2.ok.bsz z)) (e9 _)),
   nofs,I2.stack,I2.stkFree⟩
 have pnOk:∀p∈X.pn++pins,p.1 < s2.heap.objs.size/\p.1∉frs X.stack:=λp hp=>by
  obtain ⟨e,_,n1,n2,_⟩:=I2.pin p hp;refine ⟨bi e,λz=>?_⟩;rcases ci.mp (I2.stkSub _ z) with e |e
  ·exact n1 e
  ·exact n2 e
 have I0:∀t,Inv (X.comp N' scope cl HP.objs.size s2 H2 fp (X.pn++pins)) [(s2.heap.objs.size,{ cls:=.type "list",data:=.seq ([]:List Value).toArray 0 })] (dY cap Y) H2 { s2 with heap:=h₁,toks:=t }:=λt=>
  ⟨ok',rfl,I2.bare,Un.kept old,⟨_,hns₁,λi x v e1 e2 _=>by
    obtain ⟨j,nj,fr,sj⟩:=hcap.at e1 e2;obtain ⟨m,_,hl⟩:=I2.loc;have hk:=hfr' (x,NameKind.free) (eT fr) rfl;obtain ⟨u,r,l⟩:=hl j x v nj sj (by rcases hk with hk |hk;exact .inr (.inl hk);exact .inr (.inr hk));refine ⟨u,r,.inr ⟨?_,?_⟩⟩
    ·show (relabel scope X.env).names.lookup x=some .cell\/(relabel scope X.env).names.lookup x=some .free;rw[rel x,fr,ia];by_cases hh:(NameKind.free==NameKind.free&&X.env.scope.kind==ScopeKind.function&&X.env.kindOf x==some NameKind.cell)=true
     ·exact .inl (by rw[if_pos hh])
     ·exact .inr (by rw[if_neg hh])
    ·obtain ⟨c,ec⟩:=clhas x fr;have ec':=clsub x c ec;rcases l with ⟨k1,_⟩ |⟨_,c',e',q⟩
     ·rcases hk with hk |hk <;> (rw[hk]at k1;cases k1)
     ·have ecc:X.env.cells.lookup x=some c:=ec';rw[e']at ecc;cases ecc;obtain ⟨o,ho,hd⟩:=q;exact ⟨_,ec,o,old _ _ ho,hd⟩⟩,
   λx c e=>(by obtain ⟨v,o,ho,hd⟩:=I2.cell x c (clsub x c e);exact ⟨v,o,old _ _ ho,hd⟩),hCf,λx c e=>I2.freeC x c (clsub x c e),
   λp hp=>by
    rcases bP.mp hp with z |z
    ·obtain ⟨e,n0,_,_,d⟩:=I2.pin p z;exact ⟨old _ _ e,n0,(below _ (pnOk p z).1).1,(pnOk p z).2,d⟩
    ·have e:p=_:=bq.mp z;subst e;exact ⟨hacc,hDf,hDC,λz=>absurd (fslt _ z) (e9 _),λv z=>by have z':Data.seq _ _=Data.cell v:=z;cases z'⟩,
   I2.hok.kept old,by show (dY cap Y).length=N'.length;unfold dY;rw[af];exact hcap.len⟩
 have fpok:∀{H':Hp}{o:Obj},(∀b∈fp,H' b=none)->∀b∈fp,eV (X.comp N' scope cl HP.objs.size s2 H2 fp (X.pn++pins)) [(s2.heap.objs.size,o)] H' b:=λhn b hb=>
  ⟨hn b hb,(below b (fplt b hb)).1,nofs b hb,.inl hb,λx c e=>(f2 b hb).2.2.2.2.1 x c (clsub x c e),λp hp=>by
   rcases bP.mp hp with z |z
   ·exact (f2 b hb).2.2.2.2.2 p z
   ·have e:p=_:=bq.mp z;subst e;exact Ne.symm (below b (fplt b hb)).2⟩
 have loop:∀s₃:Shared,s₃={ s2 with heap:=h₁,toks:=s2.toks+([]:List (Str×Value)).length }->
   codeAny (model X.prog X.w) X.A (.compLoop (.ListComp elt (⟨tg,iter,ifs,0⟩::rest) scope pos) 0 (.ref it) (.ref s2.heap.objs.size) (compEnvC scope cl HP.objs.size X.env))
    (RR (.ref s2.heap.objs.size) HP.objs.size) s₃:=by
  rintro s₃ rfl;refine Gf hT
   (λk s'=>∃(i:Nat) (ys:List V) (its:List Value) (n:Nat) (σ':St) (H':Hp),Inv (X.comp N' scope cl HP.objs.size s2 H2 fp (X.pn++pins)) [(s2.heap.objs.size,{ cls:=.type "list",data:=.seq its.toArray n })] σ' H' s'/\Vals ys its/\
    tn i s'.heap/\(∀b∈fp,H' b=none)/\W i k ys σ' H') ?_ m0 ⟨0,[],[],0,_,H2,I0 _,.nil,hst₁,λb hb=>(f2 b hb).1,w0⟩
  rintro k s3 ⟨i,ys,its,n,σ3,H3,I3,rv3,st3,fr3,w3⟩;rcases turn i k ys σ3 H3 w3 with ⟨stop,hz,qn⟩ |⟨go,hlim,step⟩
  ·refine thn (T.done (X.comp N' scope cl HP.objs.size s2 H2 fp (X.pn++pins)) rfl rfl rfl hc i _ s3 σ3 H3 _ I3 (fpok fr3) st3 stop) λr s4 ⟨hr,I4⟩=>?_;subst hr;obtain ⟨m,hn,_⟩:=I4.loc;obtain ⟨pD,nD,_,_,_⟩:=I4.pin (s2.heap.objs.size,{ cls:=.type "list",data:=.seq its.toArray n }) (aT _ (bq.mpr rfl));have nC:H3 HP.objs.size=none:=I4.free;have u:Un (frs X.stack) fp H2 H3 s2.heap s4.heap:=I4.base;refine fin s2.heap.objs.size HP.objs.size (upd H3 s2.heap.objs.size (.lst ys)) s4 m ?_ (qn _ nD) hn ?_
   ·refine I2.call' (s':=s4) (ch:=fp) I4.os ?_ ?_ I4.bare λb hb=>⟨(f2 b hb).2.2.2.1,(f2 b hb).2.1,(f2 b hb).2.2.2.2.1,(f2 b hb).2.2.2.2.2⟩
    ·refine ⟨λb o e n0 hb hx=>u.keep b o e n0 hb hx,λb o e n0 hb hx=>u.slot b o e n0 hb hx,λb o e n0 hx=>?_,λb o e hx=>u.there b o e hx,λb xs e=>?_,λb o v e=>?_,λb ps e=>?_⟩
     ·rw[aX (below b (bi e)).2];exact u.free b o e n0 hx
     ·rw[aX (b7 e hDf)];exact u.tups b xs e
     ·rw[aX (b7 e hDf)];exact u.frzs b o v e
     ·rw[aX (b7 e hDf)];exact u.tbls b ps e
    ·intro b o e;by_cases hb:b=s2.heap.objs.size
     ·subst hb;rw[gH]at e;cases e;exact ⟨hz,its,n,rv3,pD⟩
     ·rw[aX hb]at e;exact (I4.hok b o e).stay (λc v _ q=>q) (λc q=>by rw[aX (b7 q nD)];exact q) λc xs q=>by rw[aX (b7 q nD)];exact q
   ·have hle:s2.heap.objs.size<=HP.objs.size:=by rw[hC];exact gS _
    exact I2.fpOk hle (by rw[aX (Ne.symm hDC)];exact nC)
  ·refine thn (T.item (X.comp N' scope cl HP.objs.size s2 H2 fp (X.pn++pins)) rfl rfl rfl hc i _ s3 σ3 H3 _ I3 (fpok fr3) st3 go) λr s4 ⟨u,hr,h4⟩=>?_;subst hr;refine thn h4 λ_ s5 ⟨x,H5,I5,r5,y5,st5,fr5⟩=>?_;obtain ⟨g,tm,hg,hm,body⟩:=step cl HP.objs.size s2 H2 fp (X.pn++pins);have acc:AccOk (X.comp N' scope cl HP.objs.size s2 H2 fp (X.pn++pins)) s2.heap.objs.size:=
    ⟨.inr (ay _),λx c e z=>absurd (celllt x c e) (by rw[z];exact e9 _),λp hp z=>absurd (pnOk p hp).1 (by rw[z];exact e9 _)⟩
   have I5':=I5.pinned (fpok fr5) (T.obj _ _ st5);refine thn (hg _ s5 σ3 H5 x u _ I5' r5 (body x H5 y5)) λ_ s6 ⟨σ6,H6,I6,q6⟩=>?_;intro kk Q' E' hk';refine hm _ acc (jN fp s5.heap) its n ys σ6 H6 s6 _ I6 (λp hp' e=>?_) rv3 hlim q6 kk Q' E' λs7 its' n' ys' σ7 H7 I7 rv7 ⟨m',hm',w7⟩=>hk' s7 ⟨m',hm',i+1,ys',its',n',σ7,H7,I7.pins_of λp hp'=>?_,rv7,?_,λb hb=>?_,w7⟩
   ·exact (below p.1 (fplt p.1 (xN hp').1)).2 e
   ·refine I7.pin p (aT _ ?_);rw[bq.mp hp'];exact aS
   ·exact T.keep _ _ _ st5 λb hb o e=>(I7.pin (b,o) (aT _ (aI _ (jO hb e)))).1
   ·obtain ⟨o,e,_⟩:=T.obj _ _ st5 b hb;exact (I7.pin (b,o) (aT _ (aI _ (jO hb e)))).2.1
 exact codeAny_compStart_list (loop _ rfl) (T.self X.A 0 _ _ _ hst₁ (loop _ rfl))
theorem Gn{X:Cx}{elt tg iter:Expr}{ifs:List Expr}{lim:Bool}{rest:List Comprehension}{em:Value->Env->Sem Fin->Sem Fin}{scope:Scope}{pos:Pos}{wi:TI}(N':List Str)(cap:List (Option Nat))(hc:X.calm=true)(hi:PI X tg iter wi)(hcap:Caps X scope N' cap)
  (hcell:scope.names.all (λy=>y.2 != NameKind.cell)=true) (hnames:scope.names.all (λy=>y.2 != NameKind.local||scope.names.lookup y.1==some NameKind.local)=true)
  (hfr:scope.names.all (λy=>y.2 != NameKind.free||(X.env.kindOf y.1==some NameKind.cell||X.env.kindOf y.1==some NameKind.free))=true)
  (hkind:scope.kind=.function) (hs:∀x,foldedSetIterable iter X.env x=pure x) (hT:gM (.ListComp elt (⟨tg,iter,ifs,0⟩::rest) scope pos) 0 tg iter em):
  PE X (.ListComp elt (⟨tg,iter,ifs,0⟩::rest) scope pos) (yf lim X N' scope tg em wi cap):=by
 intro pins s Y H Q I h;have hnames':∀y∈scope.names,y.2=NameKind.local->scope.names.lookup y.1=some NameKind.local:=λy hy hl=>by
  have:=cq.mp hnames y hy;simpa [hl] using this
 have hcs:∀y∈scope.names,y.2=NameKind.free->(X.env.cells.lookup y.1).isSome=true:=λy hy hl=>by
  have:=cq.mp hfr y hy;obtain ⟨c,e⟩:=I.ok.has y.1 (by simpa [hl] using this);rw[e];rfl
 rw[eval_ListComp];refine wpAny_comprehension_free (use:=none) (Q:=EP X pins Y Q) rfl hs (Ff hcs) hkind hnames'
  (Gm (RR:=λacc C=>compPost (model X.prog X.w) X.A X.xe none (EP X pins Y Q) acc C) N' cap hc hi hcap hcell hfr hkind hT I h λL C H' s4 m I4 q hn fC=>?_)
 obtain ⟨f0,f1,f2,f3,f4,f5⟩:=fC;exact ⟨m,hn,λh' hs'=>⟨.ref L,H',I4.turned (t':=s4.toks) (it:=C) (λb o hb e=>hs'.extBut b o hb e) f0 f1 f3 f4 f5,rfl,q⟩⟩
theorem Gp{X:Cx}{elt tg iter:Expr}{ifs:List Expr}{lim:Bool}{rest:List Comprehension}{em:Value->Env->Sem Fin->Sem Fin}{scope:Scope}{pos py spos:Pos}{wi:TI}{i:Nat}{y:Str}(hT:gM (.ListComp elt (⟨tg,iter,ifs,0⟩::rest) scope pos) 0 tg iter em)(hN:X.N.Nodup)(hiy:X.N[i]?=some y)(hy:Loc X.env.scope y)(N':List Str)(cap:List (Option Nat))(hc:X.calm=true)(hi:PI X tg iter wi)(hcap:Caps X scope N' cap)
  (hcell:scope.names.all (λy=>y.2 != NameKind.cell)=true:=by rfl) (hnames:scope.names.all (λy=>y.2 != NameKind.local||scope.names.lookup y.1==some NameKind.local)=true:=by rfl)
  (hfr:scope.names.all (λy=>y.2 != NameKind.free||(X.env.kindOf y.1==some NameKind.cell||X.env.kindOf y.1==some NameKind.free))=true:=by rfl)
  (hkind:scope.kind=.function:=by rfl) (hs:∀x,foldedSetIterable iter X.env x=pure x:=by intro _;rfl)
  (hsw:swapsWith (.ListComp elt (⟨tg,iter,ifs,0⟩::rest) scope pos) (some (.Name y py)) spos.line X.env=pure true:=by rfl)
  (hf:X.fn y=true\/X.env.scope.names.lookup y=some .local:=by first |exact .inl rfl |exact .inr rfl |assumption):
  PS X (.Assign [.Name y py] (.ListComp elt (⟨tg,iter,ifs,0⟩::rest) scope pos) spos) (sy (yf lim X N' scope tg em wi cap) (su i)):=by
 intro pins s Y H D I h;have hnames':∀y∈scope.names,y.2=NameKind.local->scope.names.lookup y.1=some NameKind.local:=λy hy hl=>by
  have:=cq.mp hnames y hy;simpa [hl] using this
 have hcs:∀y∈scope.names,y.2=NameKind.free->(X.env.cells.lookup y.1).isSome=true:=λy hy hl=>by
  have:=cq.mp hfr y hy;obtain ⟨c,e⟩:=I.ok.has y.1 (by simpa [hl] using this);rw[e];rfl
 rw[exec_Assign_Name_used _ _ _ _ hsw];refine al (ib (al ?_));show wpAny _ X.A (do let _ <-comprehension (.ListComp elt (⟨tg,iter,ifs,0⟩::rest) scope pos) scope X.env _ (newList []) false (eval iter X.env) (some (assign (.Name y py) X.env))) _ _ s;refine al (dS (wpAny_comprehension_free (use:=some (assign (.Name y py) X.env)) (Q:=λ_ s'=>SP X pins D .next s') rfl hs (Ff hcs) hkind hnames'
  (Gm (RR:=λacc C=>compPost (model X.prog X.w) X.A X.xe (some (assign (.Name y py) X.env)) (λ_ s'=>SP X pins D .next s') acc C) N' cap hc hi hcap hcell hfr hkind hT I h λL C H' s4 m I4 q hn fC=>?_)) (λ_ s' hq=>bg (bg hq)) λ_ _ e=>e)
 obtain ⟨oC,es,ep,eC,rC⟩:=id hn;obtain ⟨f0,f1,f2,f3,f4,f5⟩:=fC;have ncell:∀v,oC.data≠.cell v:=λv z=>by rw[rC.1]at z;cases z
 have I5:Inv X (pins++[(C,oC)]) Y H' s4:=I4.pins_of λp hp=>by
  rcases bP.mp hp with z |z
  ·exact I4.pin p (aT _ z)
  ·have e:p=_:=bq.mp z;subst e;exact ⟨eC,f0,f1,f2,ncell⟩
 refine wpAny_assign_Name (rZ I5 hN hiy hy (v:=.ref L) (u:=.ref L) rfl (λs5 I6=>?_) hf);have eC5:s5.heap.get? C=some oC:=(I6.pin (C,oC) (aT _ (aT _ (bq.mpr rfl)))).1;have I7:Inv X pins (Y.set i (some (.ref L))) H' s5:=I6.pins_of λp hp=>I6.pin p (aT _ (gd _ hp));refine ⟨m,⟨oC,es,ep,eC5,rC⟩,λh'' hs''=>?_⟩;exact ⟨_,H',I7.turned (t':=s5.toks) (it:=C) (λb o hb e=>hs''.extBut b o hb e) f0 f1 f3 f4 f5,q⟩
open HT
section
variable {prog:Program} {w:World} {A:Around} {E:Value->Shared->Prop} {s:Shared}
theorem aa9(n:Nat):Builtin.Slice.sliceAdjust none none (-1) (n:Int)=((n:Int) - 1,-1):=rfl
theorem aba(n:Nat):Builtin.Slice.slicePlaces ((n:Int) - 1) (-1) (-1)=n:=by
 unfold Builtin.Slice.slicePlaces;have h1:¬((-1:Int) > 0):=by omega
 simp only[h1,if_false];split
 ·rw[show (-(-1):Int)=1 by decide,Int.ediv_one];omega
 ·omega
theorem abb{sl:Addr}{t:Tok}{n:Nat}{Q:Int×Int×Nat->Shared->Prop}(hs:s.heap.IsSliceOf sl .none .none (.int (-1) t))
  (h:Q ((n:Int) - 1,-1,n) s):wpAny (model prog w) A (Builtin.Slice.sliceApplied (.ref sl) (pure (n:Int))) Q E s:=by
 obtain ⟨os,hos,hcs,hds⟩:=id hs;unfold Builtin.Slice.sliceApplied Builtin.Slice.sliceFields;refine al (al (d3 hos hds (x:=.none) rfl (al (d3 hos hds (x:=.none) rfl (al (d3 hos hds (x:=.int (-1) t) rfl (bg ?_)))))));refine al (HT.lH (.int (-1) t) ?_);show wpAny _ _ (if ((-1:Int)==0)=true then _ else _) _ _ s;rw[if_neg (by decide)];refine al (HT.lH .none (al (HT.lH .none (al (bg ?_)))));show wpAny _ _ (match Builtin.Slice.sliceAdjust none none (-1) (n:Int) with | (lo,hi)=>pure (lo,(-1:Int),Builtin.Slice.slicePlaces lo hi (-1))) _ _ s;rw[aa9 n];show wpAny _ _ (pure ((n:Int) - 1,(-1:Int),Builtin.Slice.slicePlaces ((n:Int) - 1) (-1) (-1))) _ _ s;rw[aba];exact bg h
theorem abd(its:List Value):((List.range its.toArray.size).filterMap λ(m:Nat)=>its.toArray[((its.toArray.size:Int) - 1+(m:Int) * -1).toNat]?).toArray=its.reverse.toArray:=by
 have h2:=Fv its;have e:slicePick its.toArray none none (some (-1))=((List.range its.toArray.size).filterMap λ(m:Nat)=>its.toArray[((its.toArray.size:Int) - 1+(m:Int) * -1).toNat]?).toArray:=by
  show ((sliceRange ((its.toArray.size:Int) - 1) (-1) (-1)).filterMap λx=>its.toArray[x]?).toArray=_;unfold sliceRange;dsimp only;rw[if_neg (by decide),List.filterMap_map];congr 1;have e1:(if (its.toArray.size:Int) - 1 > -1 then ((its.toArray.size:Int) - 1 - -1 - -1 - 1) / -(-1) else 0).toNat=its.toArray.size:=by
   split
   ·rw[show (-(-1):Int)=1 by decide,Int.ediv_one];omega
   ·omega
  rw[e1];congr 1;funext k;show its.toArray[((its.toArray.size:Int) - 1 + -1 * (k:Int)).toNat]?=_;rw[Int.mul_comm]
 rw[<-e,h2]
theorem abe{t sl:Addr}{its:List Value}{tk:Tok}{Q:Value->Shared->Prop}(ht:IsTup s.heap t its.toArray)(hs:s.heap.IsSliceOf sl .none .none (.int (-1) tk))
  (h:Q (.ref (~~~s)) { s with heap:=s.heap.push { cls:=.type "tuple",data:=.seq its.reverse.toArray } })
  (hsz:its.toArray.size<=sizeLine):wpAny (model prog w) A (getItem (.ref t) (.ref sl)) Q E s:=by
 have htake:sizeOk (.seq its.reverse.toArray):=by show its.reverse.toArray.size<=sizeLine;rw[aw,List.length_reverse];rwa [aw]at hsz
 obtain ⟨os,hos,hcs,hds⟩:=id hs;have hTs:s.TypeIs (.ref sl) "slice":=⟨os,hos,hcs⟩;unfold getItem;try with_reducible refine fe ?_
 first |refine al (bg ?_) |skip
 refine al (wpAny_sequenceKey ht.typeIs (by decide) ?_);refine al (fk (name:=Str.ofString "__getitem__") ht.typeIs dy
  (fA dy ht.typeIs entry_tuple_getitem ?_ (args_tuple_getitem _ _)))
 show wpAny _ _ (Builtin.Tuple.tupleItemsOf (.ref t) >>= _) _ _ s;refine al (tupleItemsOf_ ht ?_);refine al (wpAny_typeOf hTs ?_);rw[if_pos (by decide)];refine al (abb hs ?_);show wpAny _ _ (if ((((its.toArray.size:Int) - 1)==0&&(-1:Int)==1&&its.toArray.size==its.toArray.size)=true) then _ else _) _ _ s;rw[if_neg (by rw[show ((-1:Int)==1)=false from rfl,hJ,g9];exact a7),abd];first
  |exact al (m:=Builtin.Tuple.tupleExact _) (fx (bg ⟨_,rfl,bg h⟩) htake)
  |exact al (m:=Builtin.Tuple.tupleExact _) (fx (al (bg (bg ⟨_,rfl,bg h⟩))) htake)
  |exact al (al (m:=Builtin.Tuple.tupleExact _) (fx (bg (bg ⟨_,rfl,bg h⟩)) htake))
  |exact al (al (m:=Builtin.Tuple.tupleExact _) (fx (bg ⟨_,rfl,bg h⟩) htake))
end
def abf(K:PF):V->V->Hp->VK->Prop:=λx y H Q=>y=.int (-1)/\∃a xs,x=.ref a/\((SqL K H a xs/\∀p,H p=none->Q (.ref p) (upd H p (.lst xs.reverse)))\/(SqT K H a xs/\∀p,H p=none->Q (.ref p) (upd H p (.tup xs.reverse))))
section
variable {X:Cx} {e st:Expr} {te ts:TE} {p2 pos:Pos}
theorem abg(he:PE X e te)(hs:PE X st ts):PE X (.Subscript e (.Slice none none (some st) p2) pos) (λY H Q=>te Y H λx H1=>ts Y H1 λy H2=>abf X.K x y H2 Q):=by
 intro pins s Y H Q I h;refine Subscript_ (thn (he pins s Y H _ I h) λv s1 ⟨x,H1,I1,r1,q1⟩=>?_);refine wpAny_Slice (thn (xQ pins s1 Y H1 (λl H2=>l=none/\H2=H1) I1 ⟨rfl,rfl⟩) λvl s2 hy=>?_);obtain ⟨l,H2,I2,pl,rfl,rfl⟩:=hy;refine thn (xQ pins s2 Y H2 (λl H3=>l=none/\H3=H2) I2 ⟨rfl,rfl⟩) λvu s3 hy=>?_;obtain ⟨u,H3,I3,pu,rfl,rfl⟩:=hy;rw[evalPart_some];refine thn (hs pins s3 Y H3 _ I3 q1) λvs s4 hy=>?_;obtain ⟨y,H4,I4,r4,rfl,a,xs,rfl,hq⟩:=hy;obtain ⟨t,rfl⟩:=r4;cases r1;have I5:Inv X pins Y H4 { s4 with heap:=s4.heap.push { cls:=.type "slice",data:=.fields #[vl,vu,.int (-1) t] } }:=I4.kept (t':=s4.toks) λb ob q=>av _ q;rcases hq with ⟨hx,q⟩ |⟨hx,q⟩
 ·obtain ⟨its,r,ht,hz⟩:=I5.list hx;have hlen:=r.length;refine tail_any (ops:=[.ref a,.ref s4.heap.objs.size]) (T:="list") ht.isList.typeIs slot_list_getitem.lookup ?_ (by with_unfolding_all rfl);refine wpAny_getItem_list_slice ht.isList (Heap.IsSliceOf.new ..) pl pu (.int (-1) t) (by simp) ?_ (by rw[aw] <;> omega);rw[Fv];refine ⟨.ref _,_,I5.laid (t':=s4.toks) (o:=.lst xs.reverse) (λb ob q=>av _ q) (ay _) ?_,rfl,q _ (I5.hok.fresh (ay _))⟩;exact ⟨by rw[List.length_reverse];exact hz,_,0,r.back,bv _ rfl⟩
 ·obtain ⟨its,r,ht,hz⟩:=I5.tuple hx;have hlen:=r.length;cases pl;cases pu;refine tail_any (ops:=[.ref a,.ref s4.heap.objs.size]) (T:="tuple") ht.typeIs dy.lookup ?_ (by with_unfolding_all rfl);refine abe ht (Heap.IsSliceOf.new ..) ?_ (by rw[aw] <;> omega);refine ⟨.ref _,_,I5.laid (t':=s4.toks) (o:=.tup xs.reverse) (λb ob q=>av _ q) (ay _) ?_,rfl,q _ (I5.hok.fresh (ay _))⟩;exact ⟨by rw[List.length_reverse];exact hz,_,r.back,IsTup.new _ _⟩
end
end L2
namespace RF
open PySem PySem.Spec PyProof.Rows L2
inductive D where
 |non |bl (b:Bool) |int (i:Int) |str (l:List Nat) |tup (xs:List D) |lst (xs:List D) |ref (a:Addr) |scr (ns:List Int) |exn (C:String) |obj (C f:String) (q:Addr)
 deriving Inhabited
inductive DO where
 |lst (xs:List D)
 deriving Inhabited
abbrev DH:=Addr->Option DO
def bx(G:DH)(a:Addr)(o:DO):DH:=λb=>if b=a then some o else G b
def jn(G:DH)(a:Addr):DH:=λb=>if b=a then none else G b
theorem bI{G:DH}{a:Addr}{o:DO}:bx G a o a=some o:=if_pos rfl
theorem cO{G:DH}{a b:Addr}{o:DO}(h:b≠a):bx G a o b=G b:=if_neg h
theorem yg{G:DH}{a:Addr}:jn G a a=none:=if_pos rfl
theorem yh{G:DH}{a b:Addr}(h:b≠a):jn G a b=G b:=if_neg h
theorem abh{G:DH}{a:Addr}{o u:DO}:bx (bx G a o) a u=bx G a u:=by funext b;unfold bx;split <;> rfl
theorem Gq{G:DH}{a:Addr}{o:DO}(h:G a=none):jn (bx G a o) a=G:=by
 funext b;unfold bx jn;split
 ·rename_i e;rw[e,h]
 ·rename_i e;exact if_neg e
theorem yj{G:DH}{a b:Addr}{o:DO}(h:G a=some o)(h':G b=none):a≠b:=by intro e;subst e;rw[h]at h';cases h'
abbrev sz:Nat:=1000000
abbrev FZ:=Addr->Prop
def FzL(H:Hp)(F:FZ)(a:Addr)(vs:List V):Prop:=F a/\H a=some (.lst vs)
theorem FzL.sq{K:PF}{H:Hp}{F:FZ}{a:Addr}{vs:List V}(h:FzL H F a vs):SqL K H a vs:=.inl (.inl h.2)
structure TpT(K:PF)(H:Hp)(a:Addr)(vs:List V):Prop where
 it:H a=some (.tup vs)
theorem TpT.sq{K:PF}{H:Hp}{a:Addr}{vs:List V}(h:TpT K H a vs):SqT K H a vs:=.inl (.inl h.it)
def ScL(K:PF)(H:Hp)(a:Addr)(vs:List V):Prop:=
 (∃o,H a=some (.frz o (.lst vs)))\/
  ∃(o:Obj) (its:Array Value) (n:Nat),K.lookup a=some o/\o.cls=.type "list"/\o.dict=none/\o.data=.seq its n/\its.size<=sizeLine/\Vals vs its.toList
theorem ScL.sq{K:PF}{H:Hp}{a:Addr}{vs:List V}(h:ScL K H a vs):SqL K H a vs:=by
 rcases h with ⟨o,h⟩ |h
 ·exact .inl (.inr ⟨o,h⟩)
 ·exact .inr h
def FzO(H:Hp)(F:FZ)(a c dx:Addr)(f:Str)(q:Addr):Prop:=F a/\H a=some (.ins c dx [(f,.ref q)])
mutual
def Rep(K:PF)(H:Hp)(F:FZ):D->V->Prop
 |.non,v=>v=.non
 |.bl b,v=>v=.bl b
 |.int i,v=>v=.int i
 |.str l,v=>v=.str (tx l)/\l.length<=sz
 |.tup ds,v=>∃a vs,v=.ref a/\TpT K H a vs/\Reps K H F ds vs
 |.lst ds,v=>∃a vs,v=.ref a/\FzL H F a vs/\Reps K H F ds vs
 |.ref a,v=>v=.ref a
 |.scr ns,v=>∃a,v=.ref a/\ScL K H a (ns.map V.int)
 |.obj C f q,v=>∃a c dx,v=.ref a/\FzO H F a c dx (Str.ofString f) q/\PySem.W.nsIn K mainGlobals (Str.ofString C)=some (some (.ref c))
 |.exn C,v=>∃a c,v=.ref a/\XO H a c/\PySem.W.nsIn K mainGlobals (Str.ofString C)=some (some (.ref c))
def Reps(K:PF)(H:Hp)(F:FZ):List D->List V->Prop
 |[],vs=>vs=[]
 |d::ds,vs=>∃v r,vs=v::r/\Rep K H F d v/\Reps K H F ds r
end
structure Ext(H:Hp)(F:FZ)(H':Hp)(F':FZ):Prop where
 sub:∀a,F a->F' a
 keep:∀a,F a->H' a=H a
 tups:∀a xs,H a=some (.tup xs)->H' a=some (.tup xs)
 frzs:∀a o u,H a=some (.frz o u)->H' a=some (.frz o u)
theorem Ext.refl(H:Hp)(F:FZ):Ext H F H F:=⟨λ_ h=>h,λ_ _=>rfl,λ_ _ h=>h,λ_ _ _ h=>h⟩
theorem Ext.trans{H H1 H2:Hp}{F F1 F2:FZ}(a:Ext H F H1 F1)(b:Ext H1 F1 H2 F2):Ext H F H2 F2:=
 ⟨λc h=>b.sub c (a.sub c h),λc h=>(b.keep c (a.sub c h)).trans (a.keep c h),λc xs h=>b.tups c xs (a.tups c xs h),λc o u h=>b.frzs c o u (a.frzs c o u h)⟩
section
variable {K:PF} {H H':Hp} {F F':FZ}
theorem TpT.ext{a:Addr}{vs:List V}(x:Ext H F H' F')(h:TpT K H a vs):TpT K H' a vs:=⟨x.tups _ _ h.it⟩
theorem FzL.ext{a:Addr}{vs:List V}(x:Ext H F H' F')(h:FzL H F a vs):FzL H' F' a vs:=⟨x.sub _ h.1,(x.keep _ h.1).trans h.2⟩
theorem ScL.ext{a:Addr}{vs:List V}(x:Ext H F H' F')(h:ScL K H a vs):ScL K H' a vs:=by
 rcases h with ⟨o,h⟩ |h
 ·exact .inl ⟨o,x.frzs _ _ _ h⟩
 ·exact .inr h
mutual
theorem Rep.ext(x:Ext H F H' F'):∀{d:D}{v:V},Rep K H F d v->Rep K H' F' d v
 |.non,_,h=>h
 |.bl _,_,h=>h
 |.int _,_,h=>h
 |.str _,_,h=>h
 |.tup _,_,⟨a,vs,e,q,r⟩=>⟨a,vs,e,TpT.ext x q,Reps.ext x r⟩
 |.lst _,_,⟨a,vs,e,q,r⟩=>⟨a,vs,e,FzL.ext x q,Reps.ext x r⟩
 |.ref _,_,h=>h
 |.scr _,_,⟨a,e,q⟩=>⟨a,e,ScL.ext x q⟩
 |.obj _ _ _,_,⟨a,c,dx,e,⟨hf,hh⟩,n⟩=>⟨a,c,dx,e,⟨x.sub _ hf,(x.keep _ hf).trans hh⟩,n⟩
 |.exn _,_,⟨a,c,e,⟨o,y,q,hc⟩,n⟩=>⟨a,c,e,⟨o,y,x.frzs _ _ _ q,hc⟩,n⟩
theorem Reps.ext(x:Ext H F H' F'):∀{ds:List D}{vs:List V},Reps K H F ds vs->Reps K H' F' ds vs
 |[],_,h=>h
 |_::_,_,⟨v,r,e,h,t⟩=>⟨v,r,e,Rep.ext x h,Reps.ext x t⟩
end
theorem Reps.nil:Reps K H F [] []:=rfl
theorem Reps.cons{d:D}{v:V}{ds:List D}{vs:List V}(h:Rep K H F d v)(t:Reps K H F ds vs):Reps K H F (d::ds) (v::vs):=⟨v,vs,rfl,h,t⟩
theorem Reps.length:∀{ds:List D}{vs:List V},Reps K H F ds vs->ds.length=vs.length
 |[],_,h=>by cases h;rfl
 |_::_,_,⟨v,r,e,_,t⟩=>by subst e;simp[Reps.length t]
theorem Reps.append:∀{ds es:List D}{vs us:List V},Reps K H F ds vs->Reps K H F es us->Reps K H F (ds++es) (vs++us)
 |[],_,_,_,h,t=>by cases h;exact t
 |_::_,_,_,_,⟨v,r,e,h,t⟩,t'=>by subst e;exact ⟨v,_,rfl,h,Reps.append t t'⟩
theorem Reps.get:∀{ds:List D}{vs:List V}{i:Nat}{d:D},Reps K H F ds vs->ds[i]?=some d->∃v,vs[i]?=some v/\Rep K H F d v
 |[],_,_,_,_,e=>by simp at e
 |_::_,_,0,_,⟨v,r,e,h,t⟩,q=>by subst e;simp at q;subst q;exact ⟨v,rfl,h⟩
 |_::_,_,i+1,d,⟨v,r,e,h,t⟩,q=>by
  subst e;obtain ⟨u,h1,h2⟩:=Reps.get (i:=i) (d:=d) t (by simpa using q);exact ⟨u,by simpa using h1,h2⟩
theorem Reps.set{d:D}{v:V}(r:Rep K H F d v):∀{ds:List D}{vs:List V}(i:Nat),Reps K H F ds vs->Reps K H F (ds.set i d) (vs.set i v)
 |[],_,_,h=>by cases h;exact rfl
 |_::_,_,0,⟨v',r',e,h,t⟩=>by subst e;exact ⟨_,_,rfl,r,t⟩
 |_::_,_,i+1,⟨v',r',e,h,t⟩=>by subst e;exact ⟨_,_,rfl,h,Reps.set r i t⟩
theorem Reps.take:∀{ds:List D}{vs:List V}(n:Nat),Reps K H F ds vs->Reps K H F (ds.take n) (vs.take n)
 |_,_,0,_=>rfl
 |[],_,_+1,h=>by cases h;exact rfl
 |_::_,_,n+1,⟨v',r',e,h,t⟩=>by subst e;exact ⟨_,_,rfl,h,Reps.take n t⟩
theorem Reps.drop:∀{ds:List D}{vs:List V}(n:Nat),Reps K H F ds vs->Reps K H F (ds.drop n) (vs.drop n)
 |_,_,0,h=>h
 |[],_,_+1,h=>by cases h;exact rfl
 |_::_,_,n+1,⟨v',r',e,h,t⟩=>by subst e;exact Reps.drop n t
theorem Reps.cut{ds:List D}{vs:List V}(h:Reps K H F ds vs)(lo hi:Option Int):
  Reps K H F ((ds.drop (HT.sIx ds.length 0 lo)).take (HT.sIx ds.length ds.length hi - HT.sIx ds.length 0 lo)) (eX vs lo hi):=by
 unfold eX;rw[<-h.length];exact (h.drop _).take _
theorem Reps.reverse:∀{ds:List D}{vs:List V},Reps K H F ds vs->Reps K H F ds.reverse vs.reverse
 |[],_,h=>by cases h;exact rfl
 |_::_,_,⟨v',r',e,h,t⟩=>by
  subst e;rw[List.reverse_cons,List.reverse_cons];exact Reps.append (Reps.reverse t) (Reps.cons h rfl)
theorem Reps.rep{ds:List D}{vs:List V}(h:Reps K H F ds vs):∀k:Nat,Reps K H F (List.replicate k ds).flatten (List.replicate k vs).flatten
 |0=>rfl
 |k+1=>by
  rw[de,de,fw,fw];exact Reps.append h (Reps.rep h k)
end
def abi(K:PF)(H:Hp)(F:FZ)(a:Addr):DO->Prop
 |.lst ds=>∃vs,H a=some (.lst vs)/\Reps K H F ds vs
structure R(K:PF)(H:Hp)(F:FZ)(G:DH):Prop where
 fz:∀a,F a->G a=none/\∃o,H a=some o
 ob:∀a o,G a=some o->abi K H F a o
section
variable {K:PF} {H:Hp} {F:FZ} {G:DH} {p:Addr} {vs:List V} {ds:List D}
theorem R.lst(r:R K H F G)(h:G p=some (.lst ds)):∃vs,H p=some (.lst vs)/\Reps K H F ds vs:=r.ob p _ h
theorem R.free(r:R K H F G)(h:H p=none):G p=none:=by
 cases e:G p with
 |none=>rfl
 |some o=>
  cases o with
  |lst ds=>obtain ⟨vs,q,_⟩:=r.lst e;rw[h]at q;cases q
theorem R.notF(r:R K H F G)(h:H p=none):¬F p:=λf=>by
 obtain ⟨_,vs,q⟩:=r.fz p f;rw[h]at q;cases q
theorem fX{o:HO}(r:R K H F G)(h:H p=none):Ext H F (upd H p o) F:=
 ⟨λ_ f=>f,λa f=>aX λe=>r.notF h (by rw[<-e];exact f),λa xs q=>by rw[aX (b7 q h)];exact q,λa ob u q=>by rw[aX (b7 q h)];exact q⟩
theorem R.new{o:HO}(r:R K H F G)(h:H p=none):R K (upd H p o) F G:=by
 have x:Ext H F (upd H p o) F:=fX r h;refine ⟨λa f=>⟨(r.fz a f).1,?_⟩,λa u e=>?_⟩
 ·obtain ⟨_,vs,q⟩:=r.fz a f;exact ⟨vs,by rw[x.keep a f];exact q⟩
 ·cases u with
  |lst ds=>
   obtain ⟨vs,q,t⟩:=r.lst e;exact ⟨vs,by rw[aX (b7 q h)];exact q,Reps.ext x t⟩
theorem R.newL(r:R K H F G)(h:H p=none)(t:Reps K H F ds vs):R K (upd H p (.lst vs)) F (bx G p (.lst ds)):=by
 have x:Ext H F (upd H p (.lst vs)) F:=fX r h;have r':R K (upd H p (.lst vs)) F G:=r.new h;refine ⟨λa f=>⟨?_,(r'.fz a f).2⟩,λa u e=>?_⟩
 ·rw[cO λe=>r.notF h (by rw[<-e];exact f)];exact (r.fz a f).1
 ·by_cases ha:a=p
  ·subst ha;rw[bI]at e;cases e;exact ⟨vs,gH,Reps.ext x t⟩
  ·rw[cO ha]at e;exact r'.ob a u e
theorem yl(r:R K H F G)(h:H p=none):Ext H F (upd H p (.lst vs)) (λa=>F a\/a=p):=
 ⟨λ_ f=>.inl f,(fX r h).keep,(fX r h).tups,(fX r h).frzs⟩
theorem R.newF(r:R K H F G)(h:H p=none):R K (upd H p (.lst vs)) (λa=>F a\/a=p) G:=by
 have x:Ext H F (upd H p (.lst vs)) (λa=>F a\/a=p):=yl r h;refine ⟨λa f=>?_,λa u e=>?_⟩
 ·rcases f with f |f
  ·obtain ⟨g,vs',q⟩:=r.fz a f;exact ⟨g,vs',by rw[x.keep a f];exact q⟩
  ·subst f;exact ⟨r.free h,_,gH⟩
 ·cases u with
  |lst ds=>
   obtain ⟨vs',q,t⟩:=r.lst e;exact ⟨vs',by rw[aX (b7 q h)];exact q,Reps.ext x t⟩
theorem abj(r:R K H F G)(h:H p=none)(t:Reps K H F ds vs):Rep K (upd H p (.lst vs)) (λa=>F a\/a=p) (.lst ds) (.ref p):=
 ⟨p,vs,rfl,⟨.inr rfl,gH⟩,Reps.ext (yl r h) t⟩
theorem ym(r:R K H F G)(h:H p=none)(t:Reps K H F ds vs):Rep K (upd H p (.tup vs)) F (.tup ds) (.ref p):=
 ⟨p,vs,rfl,⟨gH⟩,Reps.ext (fX r h) t⟩
theorem jo{ds0:List D}{o:HO}(r:R K H F G)(h:G p=some (.lst ds0)):Ext H F (upd H p o) F:=by
 obtain ⟨vs0,q,_⟩:=r.lst h;refine ⟨λ_ f=>f,λa f=>aX λe=>?_,λa xs z=>?_,λa ob u z=>?_⟩
 ·subst e;rw[(r.fz a f).1]at h;cases h
 ·rw[aX (Ds z q (by intro w;cases w))];exact z
 ·rw[aX (Ds z q (by intro w;cases w))];exact z
theorem R.write{ds0:List D}(r:R K H F G)(h:G p=some (.lst ds0))(t:Reps K H F ds vs):R K (upd H p (.lst vs)) F (bx G p (.lst ds)):=by
 have x:Ext H F (upd H p (.lst vs)) F:=jo r h;refine ⟨λa f=>⟨?_,?_⟩,λa u e=>?_⟩
 ·rw[cO λe=>by subst e;rw[(r.fz a f).1]at h;cases h];exact (r.fz a f).1
 ·obtain ⟨_,vs',q⟩:=r.fz a f;exact ⟨vs',by rw[x.keep a f];exact q⟩
 ·by_cases ha:a=p
  ·subst ha;rw[bI]at e;cases e;exact ⟨vs,gH,Reps.ext x t⟩
  ·rw[cO ha]at e;cases u with
   |lst ds'=>
    obtain ⟨vs',q,t'⟩:=r.lst e;exact ⟨vs',by rw[aX ha];exact q,Reps.ext x t'⟩
theorem yo:Ext H F H (λa=>F a\/a=p):=⟨λ_ f=>.inl f,λ_ _=>rfl,λ_ _ h=>h,λ_ _ _ h=>h⟩
theorem R.frz(r:R K H F G)(h:G p=some (.lst ds)):R K H (λa=>F a\/a=p) (jn G p):=by
 have x:Ext H F H (λa=>F a\/a=p):=yo;refine ⟨λa f=>?_,λa u e=>?_⟩
 ·rcases f with f |f
  ·obtain ⟨g,vs',q⟩:=r.fz a f;refine ⟨?_,vs',q⟩;by_cases ha:a=p
   ·rw[ha];exact yg
   ·rw[yh ha];exact g
  ·subst f;obtain ⟨vs,q,_⟩:=r.lst h;exact ⟨yg,_,q⟩
 ·by_cases ha:a=p
  ·rw[ha,yg]at e;cases e
  ·rw[yh ha]at e;cases u with
   |lst ds'=>
    obtain ⟨vs',q,t'⟩:=r.lst e;exact ⟨vs',q,Reps.ext x t'⟩
theorem abk(r:R K H F G)(h:G p=some (.lst ds)):Rep K H (λa=>F a\/a=p) (.lst ds) (.ref p):=by obtain ⟨vs,q,t⟩:=r.lst h;exact ⟨p,vs,rfl,⟨.inr rfl,q⟩,Reps.ext yo t⟩
end
def view(G:DH):D->D
 |.ref p=>match G p with |some (.lst ds)=>.lst ds |none=>.ref p
 |d=>d
theorem Rep.list{K:PF}{H:Hp}{F:FZ}{G:DH}{d:D}{v:V}{ds:List D}(r:R K H F G)(h:Rep K H F d v)(e:view G d=.lst ds):∃a vs,v=.ref a/\SqL K H a vs/\Reps K H F ds vs:=by
 cases d with
 |lst xs=>
  have e':D.lst xs=.lst ds:=e;cases e';obtain ⟨a,vs,e1,q,t⟩:=h;exact ⟨a,vs,e1,q.sq,t⟩
 |ref p=>
  have hv:v=.ref p:=h;unfold view at e;cases g:G p with
  |none=>simp only[g]at e;cases e
  |some o=>
   cases o with
   |lst xs=>
    simp only[g]at e;cases e;obtain ⟨vs,q,t⟩:=r.lst g;exact ⟨p,vs,hv,.inl (.inl q),t⟩
 |_=>cases (show _=D.lst ds from e)
theorem fY{G:DH}{d:D}{ds:List D}(e:view G d=.tup ds):d=.tup ds:=by
 cases d with
 |ref p=>
  unfold view at e;cases g:G p with
  |none=>simp only[g]at e;cases e
  |some o=>cases o;simp only[g]at e;cases e
 |_=>exact e
theorem gO{G:DH}{d:D}{l:List Nat}(e:view G d=.str l):d=.str l:=by
 cases d with
 |ref p=>
  unfold view at e;cases g:G p with
  |none=>simp only[g]at e;cases e
  |some o=>cases o;simp only[g]at e;cases e
 |_=>exact e
theorem eY{G:DH}{d:D}{l:Int}(e:view G d=.int l):d=.int l:=by
 cases d with
 |ref p=>
  unfold view at e;cases g:G p with
  |none=>simp only[g]at e;cases e
  |some o=>cases o;simp only[g]at e;cases e
 |_=>exact e
theorem abl{G:DH}{d:D}{l:Bool}(e:view G d=.bl l):d=.bl l:=by
 cases d with
 |ref p=>
  unfold view at e;cases g:G p with
  |none=>simp only[g]at e;cases e
  |some o=>cases o;simp only[g]at e;cases e
 |_=>exact e
abbrev ak:=List (Option D)
def EnvR(K:PF)(H:Hp)(F:FZ):ak->L2.St->Prop
 |[],X=>X=[]
 |o::Y,X=>∃u τ,X=u::τ/\(∀d,o=some d->∃v,u=some v/\Rep K H F d v)/\EnvR K H F Y τ
section
variable {K:PF} {H H':Hp} {F F':FZ}
theorem EnvR.ext(x:Ext H F H' F'):∀{Y:ak}{X:L2.St},EnvR K H F Y X->EnvR K H' F' Y X
 |[],_,h=>h
 |_::_,_,⟨u,τ,e,h,t⟩=>⟨u,τ,e,λd q=>by obtain ⟨v,e1,r⟩:=h d q;exact ⟨v,e1,Rep.ext x r⟩,EnvR.ext x t⟩
theorem EnvR.get:∀{Y:ak}{X:L2.St}{i:Nat}{d:D},EnvR K H F Y X->Y[i]?=some (some d)->∃v,X[i]?=some (some v)/\Rep K H F d v
 |[],_,_,_,_,e=>by simp at e
 |_::_,_,0,d,⟨u,τ,e,h,t⟩,q=>by
  subst e;obtain ⟨v,e1,r⟩:=h d (by simpa using q);exact ⟨v,by simp[e1],r⟩
 |_::_,_,i+1,d,⟨u,τ,e,h,t⟩,q=>by
  subst e;obtain ⟨v,e1,r⟩:=EnvR.get (i:=i) (d:=d) t (by simpa using q);exact ⟨v,by simpa using e1,r⟩
theorem EnvR.set{d:D}{v:V}(r:Rep K H F d v):∀{Y:ak}{X:L2.St}(i:Nat),EnvR K H F Y X->EnvR K H F (Y.set i (some d)) (X.set i (some v))
 |[],_,_,h=>by cases h;exact rfl
 |_::_,_,0,⟨u,τ,e,h,t⟩=>by subst e;exact ⟨_,_,rfl,λd' q=>⟨v,rfl,by cases q;exact r⟩,t⟩
 |_::_,_,i+1,⟨u,τ,e,h,t⟩=>by subst e;exact ⟨_,_,rfl,h,EnvR.set r i t⟩
theorem EnvR.none:∀(n:Nat),EnvR K H F (List.replicate n Option.none) (List.replicate n Option.none)
 |0=>rfl
 |n+1=>⟨_,_,rfl,λd q=>(nomatch q),EnvR.none n⟩
theorem EnvR.start:∀{ds:List D}{vs:List V}(n:Nat),Reps K H F ds vs->EnvR K H F (ds.map some++List.replicate n Option.none) (vs.map some++List.replicate n Option.none)
 |[],_,n,h=>by cases h;exact EnvR.none n
 |d::ds,_,n,⟨v,r,e,h,t⟩=>by
  subst e;exact ⟨_,_,rfl,λd' q=>⟨v,rfl,by cases q;exact h⟩,EnvR.start n t⟩
theorem EnvR.cap{Y:ak}{X:L2.St}(h:EnvR K H F Y X):∀(cap:List (Option Nat)),EnvR K H F (cap.map λo=>match o with |Option.none=>Option.none |some j=>(Y[j]?).join) (dY cap X)
 |[]=>rfl
 |Option.none::cap=>⟨_,_,rfl,λd q=>(nomatch q),EnvR.cap h cap⟩
 |some j::cap=>by
  refine ⟨_,_,rfl,λd q=>?_,EnvR.cap h cap⟩;have q':(Y[j]?).join=some d:=q;have z:Y[j]?=some (some d):=by
   cases e:Y[j]? with
   |none=>rw[e]at q';cases q'
   |some o=>rw[e]at q';exact fE some q'
  obtain ⟨v,e1,r⟩:=h.get z;exact ⟨v,by show (X[j]?).join=some v;rw[e1];rfl,r⟩
end
mutual
def deq:D->D->Bool
 |.non,.non=>true
 |.bl a,.bl b=>a==b
 |.bl a,.int b=>(if a then 1 else 0)==b
 |.int a,.bl b=>a==(if b then 1 else 0)
 |.int a,.int b=>a==b
 |.str a,.str b=>a==b
 |.tup a,.tup b=>b8 a b
 |.lst a,.lst b=>b8 a b
 |_,_=>false
def b8:List D->List D->Bool
 |[],[]=>true
 |a::as,b::bs=>deq a b&&b8 as bs
 |_,_=>false
end
mutual
/-- no tracked object within -/
def nr:D->Bool
 |.tup a=>nrs a
 |.lst a=>nrs a
 |.ref _=>false
 |.scr _=>false
 |.exn _=>false
 |.obj _ _ _=>false
 |_=>true
def nrs:List D->Bool
 |[]=>true
 |a::as=>nr a&&nrs as
end
mutual
def dpt:D->Nat
 |.tup a=>bj a+1
 |.lst a=>bj a+1
 |_=>0
def bj:List D->Nat
 |[]=>0
 |a::as=>max (dpt a) (bj as)
end
def truth:D->Option Bool
 |.non=>some false
 |.bl b=>some b
 |.int i=>some (i != 0)
 |.str l=>some (!l.isEmpty)
 |.tup l=>some (!l.isEmpty)
 |.lst l=>some (!l.isEmpty)
 |_=>none
def cut{α:Type}(xs:List α)(lo hi:Option Int):List α:=(xs.drop (HT.sIx xs.length 0 lo)).take (HT.sIx xs.length xs.length hi - HT.sIx xs.length 0 lo)
def reps{α:Type}(xs:List α)(n:Nat):List α:=(List.replicate n xs).flatten
def mk(fz:Bool)(xs:List D)(G:DH)(k:D->DH->Prop):Prop:=
 match fz with
 |true=>k (.lst xs) G
 |false=>∀p,G p=none->k (.ref p) (bx G p (.lst xs))
def jQ(fz:Bool)(a b:D)(G:DH)(k:D->DH->Prop):Prop:=
 match a with
 |.int i=>(match b with |.int j=>k (.int (i+j)) G |_=>False)
 |.str x=>(match b with |.str y=>x.length+y.length<=sz/\k (.str (x++y)) G |_=>False)
 |.lst x=>(match b with |.lst y=>x.length+y.length<=sz/\mk fz (x++y) G k |_=>False)
 |.tup x=>(match b with |.tup y=>x.length+y.length<=sz/\k (.tup (x++y)) G |_=>False)
 |_=>False
def iz(a b:D)(p:Int->Int->Prop):Prop:=
 match a with
 |.int i=>(match b with |.int j=>p i j |_=>False)
 |_=>False
def jR(fz:Bool)(a b:D)(G:DH)(k:D->DH->Prop):Prop:=
 match b with
 |.int n=>(match a with |.int i=>CMul i n/\k (.int (i * n)) G |.str x=>0<=n/\n<=1000/\x.length * n.toNat<=sz/\k (.str (reps x n.toNat)) G |.tup x=>2<=n/\n<=1000/\x≠[]/\x.length * n.toNat<=sz/\k (.tup (reps x n.toNat)) G |.lst x=>0<=n/\n<=1000/\x.length * n.toNat<=sz/\mk fz (reps x n.toNat) G k |_=>False)
 |_=>False
def cP(op:Operator)(fz:Bool)(a b:D)(G:DH)(k:D->DH->Prop):Prop:=
 match op with
 |.Add=>jQ fz a b G k
 |.Sub=>iz a b λi j=>k (.int (i - j)) G
 |.Mult=>jR fz a b G k
 |.FloorDiv=>iz a b λi j=>(0 < j/\j < 1152921504606846976)/\k (.int (i / j)) G
 |.Mod=>iz a b λi j=>0 < j/\k (.int (i % j)) G
 |.Pow=>iz a b λi j=>sG i j/\k (.int (i ^ j.toNat)) G
 |_=>False
def isIn(x:D)(ys:List D):Bool:=ys.any λy=>deq y x
def Gs(a b:D):Prop:=nr a=true/\nr b=true/\min (dpt a) (dpt b)<=60
def inG(a:D)(l:List D):Prop:=nr a=true/\nrs l=true/\bj l<=60
def jT(a b:D)(k:Bool->Prop):Prop:=
 match a,b with
 |.int i,.int j=>k (decide (i < j))
 |.str i,.str j=>k (decide (i < j))
 |_,_=>False
def jU(a b:D)(k:Bool->Prop):Prop:=
 match a,b with
 |.int i,.int j=>k (decide (i<=j))
 |.str i,.str j=>k (!decide (j < i))
 |_,_=>False
def jV(a b:D)(k:Bool->Prop):Prop:=
 match a,b with
 |.int i,.int j=>k (decide (j < i))
 |_,_=>False
def jW(a b:D)(k:Bool->Prop):Prop:=
 match a,b with
 |.int i,.int j=>k (decide (j<=i))
 |_,_=>False
def fZ(a:D):Bool:=match a with |.non=>true |_=>false
def jX(a b:D)(k:Bool->Prop):Prop:=
 match b with
 |.non=>k (fZ a)
 |.bl b=>(match a with |.bl a=>k (a==b) |_=>False)
 |_=>False
def jY(a b:D)(k:Bool->Prop):Prop:=
 match b with
 |.non=>k (!fZ a)
 |.bl b=>(match a with |.bl a=>k (a != b) |_=>False)
 |_=>False
def gP(a b:D)(k:Bool->Prop):Prop:=
 match b with
 |.str l=>(match a with |.str [c]=>k (l.contains c) |_=>False)
 |.lst l=>inG a l/\k (isIn a l)
 |.tup l=>inG a l/\k (isIn a l)
 |_=>False
def bC(op:CmpOp)(a b:D)(k:Bool->Prop):Prop:=
 match op with
 |.Eq=>Gs a b/\k (deq a b)
 |.NotEq=>Gs a b/\k (!deq a b)
 |.Lt=>jT a b k
 |.LtE=>jU a b k
 |.Gt=>jV a b k
 |.GtE=>jW a b k
 |.Is=>jX a b k
 |.IsNot=>jY a b k
 |.In=>gP a b k
 |.NotIn=>gP a b λc=>k (!c)
def cG(a i:D)(k:D->Prop):Prop:=
 match a,i with
 |.lst ds,.int i=>match atI ds i with |some d=>k d |none=>False
 |.tup ds,.int i=>match atI ds i with |some d=>k d |none=>False
 |.str l,.int i=>match atI l i with |some c=>k (.str [c]) |none=>False
 |_,_=>False
def eZ(fz:Bool)(a:D)(lo hi:Option Int)(G:DH)(k:D->DH->Prop):Prop:=
 match a with
 |.lst ds=>mk fz (cut ds lo hi) G k
 |.scr ns=>mk fz ((cut ns lo hi).map .int) G k
 |.tup ds=>k (.tup (cut ds lo hi)) G
 |.str l=>k (.str (cut l lo hi)) G
 |_=>False
def iB(fz:Bool)(a y:D)(G:DH)(k:D->DH->Prop):Prop:=
 match a with
 |.lst ds=>y=.int (-1)/\mk fz ds.reverse G k
 |.tup ds=>y=.int (-1)/\k (.tup ds.reverse) G
 |_=>False
def bools:List D->Option (List Bool)
 |[]=>some []
 |.bl b::r=>match bools r with |some s=>some (b::s) |none=>none
 |_=>none
def cB:List D->Option (List Int)
 |[]=>some []
 |.int b::r=>match cB r with |some s=>some (b::s) |none=>none
 |_=>none
def bJ:List D->Option (List (List Nat))
 |[]=>some []
 |.str b::r=>match bJ r with |some s=>some (b::s) |none=>none
 |_=>none
def fu(s:List Nat):List (List Nat)->List Nat
 |[]=>[]
 |[x]=>x
 |x::y::r=>x++s++fu s (y::r)
inductive Bf where
 |len |all |int |tuple |sum |min |max |str |abs |min2
inductive Lf where
 |list |sorted
inductive Mf where
 |join |append |extend |insert |count |index |pop
def yp(as:List D)(k:D->Prop):Prop:=
 match as with
 |[.lst ds]=>k (.int ds.length)
 |[.tup ds]=>k (.int ds.length)
 |[.str l]=>k (.int l.length)
 |_=>False
def sU(as:List D)(k:D->Prop):Prop:=
 match as with
 |[.lst ds]=>match bools ds with |some bs=>k (.bl (bs.all id)) |none=>False
 |_=>False
def sV(as:List D)(k:D->Prop):Prop:=
 match as with
 |[.bl b]=>k (.int (if b then 1 else 0))
 |[.int i]=>k (.int i)
 |[.str l]=>match PySem.intText? (tx l) with |some n=>l.length<=640/\k (.int n) |none=>False
 |_=>False
def yq(as:List D)(k:D->Prop):Prop:=
 match as with
 |[.lst ds]=>k (.tup ds)
 |[.tup ds]=>k (.tup ds)
 |_=>False
def sW(as:List D)(k:D->Prop):Prop:=
 match as with
 |[.lst ds]=>match cB ds with |some ns=>k (.int ns.sum) |none=>False
 |_=>False
def lK(as:List D)(k:D->Prop):Prop:=
 match as with
 |[.lst ds]=>match cB ds with
  |some ns=>ns≠[]/\∀m,m∈ns->(∀a,a∈ns->m<=a)->k (.int m)
  |none=>match bJ ds with
   |some ls=>∀m,m∈ls->(∀a,a∈ls->¬a < m)->k (.str m)
   |none=>False
 |_=>False
def Gu(as:List D)(k:D->Prop):Prop:=match as with
 |[.int a]=>k (.int (if a < 0 then -a else a))
 |_=>False
def Gv(as:List D)(k:D->Prop):Prop:=match as with
 |[.int a,.int b]=>k (.int (if b < a then b else a))
 |_=>False
def Gw(as:List D)(k:D->Prop):Prop:=
 match as with
 |[.int a,.int b]=>k (.int (if b > a then b else a))
 |_=>False
def iC(m:Nat):List Nat:=(yd m).cps.toList
def yr(as:List D)(k:D->Prop):Prop:=
 match as with
 |[.int i]=>(0<=i/\i < 100)/\k (.str (iC i.toNat))
 |_=>False
def opB:Bf->List D->(D->Prop)->Prop
 |.len=>yp
 |.all=>sU
 |.int=>sV
 |.tuple=>yq
 |.sum=>sW
 |.min=>lK
 |.max=>Gw
 |.abs=>Gu
 |.min2=>Gv
 |.str=>yr
def yt(as:List D)(k:List D->Prop):Prop:=
 match as with
 |[.lst ds]=>k ds
 |[.tup ds]=>k ds
 |[.str l]=>k (l.map λc=>.str [c])
 |_=>False
def sX(as:List D)(k:List D->Prop):Prop:=
 match as with
 |[.lst ds]=>match bJ ds with |some ls=>ls.length < 64/\∀ls':List (List Nat),ls'.Perm ls->PyProof.Rows.sortedS (ls'.map tx)=true->k (ls'.map D.str) |none=>False
 |[.tup ds]=>match cB ds with |some ns=>ns.length < 64/\∀ns':List Int,ns'.Perm ns->ns'.Pairwise (·<=·)->k (ns'.map D.int) |none=>False
 |_=>False
def dg:Lf->List D->(List D->Prop)->Prop
 |.list=>yt
 |.sorted=>sX
def isT(t:String)(d:D):Option Bool:=
 match d with
 |.non=>some false
 |.bl _=>some (t=="bool"||t=="int")
 |.int _=>some (t=="int")
 |.str _=>some (t=="str")
 |.tup _=>some (t=="tuple")
 |.lst _=>some (t=="list")
 |_=>none
def gQ (t:String):Bool:=t=="bool"||t=="int"||t=="str"||t=="tuple"||t=="list"
def sY(o:D)(as:List D)(G:DH)(k:D->DH->Prop):Prop:=
 match o,as with
 |.str s,[.lst ds]=>match bJ ds with |some ls=>((ls.map (·.length)).sum+ls.length * s.length<=sz)/\k (.str (fu s ls)) G |none=>False
 |_,_=>False
def sZ(o:D)(as:List D)(G:DH)(k:D->DH->Prop):Prop:=
 match o,as with
 |.ref p,[x]=>match G p with |some (.lst ds)=>ds.length < sz/\k .non (bx G p (.lst (ds++[x]))) |none=>False
 |_,_=>False
def jZ(o:D)(as:List D)(G:DH)(k:D->DH->Prop):Prop:=
 match o,as with
 |.ref p,[.lst xs]=>match G p with |some (.lst ds)=>ds.length+xs.length < sz/\k .non (bx G p (.lst (ds++xs))) |none=>False
 |_,_=>False
def tu(o:D)(as:List D)(G:DH)(k:D->DH->Prop):Prop:=
 match o,as with
 |.ref p,[.int i,x]=>match G p with |some (.lst ds)=>ds.length < sz/\0<=i/\i<=1000000/\k .non (bx G p (.lst (ds.take i.toNat++x::ds.drop i.toNat))) |none=>False
 |_,_=>False
def yu(o:D)(as:List D)(G:DH)(k:D->DH->Prop):Prop:=
 match o,as with
 |.ref p,[.int i]=>match G p with |some (.lst ds)=>0<=i/\i<=1000000/\(match ds[i.toNat]? with |some y=>k y (bx G p (.lst (ds.eraseIdx i.toNat))) |none=>False) |none=>False
 |_,_=>False
def tB(o:D)(as:List D)(G:DH)(k:D->DH->Prop):Prop:=
 match o,as with
 |.lst ds,[.bl true]=>match bools ds with |some bs=>k (.int (bs.count true:Nat)) G |none=>False
 |_,_=>False
def tD(o:D)(as:List D)(G:DH)(k:D->DH->Prop):Prop:=
 match o,as with
 |.lst ds,[.bl true]=>match bools ds with |some bs=>true∈bs/\k (.int (bs.idxOf true:Nat)) G |none=>False
 |_,_=>False
def yw:D->Prop
 |.lst _=>True
 |_=>False
def recv(m:Mf)(o:D)(G:DH):Prop:=
 match m,o with
 |.join,.str _=>True
 |.append,.ref p=>match G p with |some (.lst _)=>True |none=>False
 |.extend,.ref p=>match G p with |some (.lst _)=>True |none=>False
 |.insert,.ref p=>match G p with |some (.lst _)=>True |none=>False
 |.pop,.ref p=>match G p with |some (.lst _)=>True |none=>False
 |.count,o=>yw (view G o)
 |.index,o=>yw (view G o)
 |_,_=>False
def opM:Mf->D->List D->DH->(D->DH->Prop)->Prop
 |.join,o,as,G,k=>sY o (as.map (view G)) G k
 |.append,o,as,G,k=>sZ o as G k
 |.extend,o,as,G,k=>jZ o (as.map (view G)) G k
 |.insert,o,as,G,k=>tu o as G k
 |.pop,o,as,G,k=>yu o as G k
 |.count,o,as,G,k=>tB (view G o) as G k
 |.index,o,as,G,k=>tD (view G o) as G k
def iD (C C':String):Bool:=C==C'||C'=="SieveError"||C'=="ValueError"
mutual
inductive Tg where
 |nm (i:Nat)
 |tp (ts:Tgs)
inductive Tgs where
 |nil
 |cons (t:Tg) (r:Tgs)
end
mutual
inductive Ex where
 |var (i:Nat)
 |cst (d:D)
 |glb (x:String) (d:D)
 |bin (op:Operator) (fz:Bool) (a b:Ex)
 |neg (a:Ex)
 |cmp (op:CmpOp) (a b:Ex)
 |chn (op op':CmpOp) (a b c:Ex)
 |not (a:Ex)
 |boo (isAnd:Bool) (e:Ex) (es:Exs)
 |ife (c:Tx) (a b:Ex)
 |tup (es:Exs)
 |lst (fz:Bool) (es:Exs)
 |idx (a i:Ex)
 |slc (fz:Bool) (a:Ex) (lo hi:Ox)
 |rvs (fz:Bool) (a s:Ex)
 |call (f:String) (es:Exs)
 |bcl (f:Bf) (es:Exs)
 |lcl (fz:Bool) (f:Lf) (es:Exs)
 |isi (a:Ex) (t:String)
 |isx (a:Ex) (C:String) (xs:List String)
 |fst (es:Exs)
 |rgl (fz:Bool) (a:Ex)
 |rgt (a:Ex)
 |rpl (f:String) (a b ix:Ex)
 |fld (C f:String) (o:Ex)
 |mcl (f C m:String) (o:Ex) (es:Exs)
 |mko (C:String) (es:Exs)
 |pp0 (o:Ex)
 |mth (m:Mf) (o:Ex) (es:Exs)
 |comp (fz:Bool) (elt:Ex) (tg:Tg) (it:It') (cond:Tx) (N:List String) (cap:List (Option Nat))
 |cm3 (elt:Ex) (t1:Tg) (i1:It') (t2:Tg) (i2:It') (t3:Tg) (i3:It') (N:List String) (cap:List (Option Nat))
 |frz (a:Ex)
inductive Exs where
 |nil
 |cons (e:Ex) (es:Exs)
/-- a test -/
inductive Tx where
 |val (e:Ex)
 |not (t:Tx)
 |boo (isAnd:Bool) (t:Tx) (ts:Txs)
 |yes
inductive Txs where
 |nil
 |cons (t:Tx) (ts:Txs)
/-- a bound of a slice -/
inductive Ox where
 |no
 |ob (e:Ex)
/-- what a loop walks -/
inductive It' where
 |seq (e:Ex)
 |rng (a:Ex)
 |rng2 (a b:Ex)
 |rev (a:Ex)
 |dwn (a b c:Ex)
 |enm (e:Ex)
 |zip (a b:Ex)
end
inductive Tb where
 |call (f:String) (es:Exs)
 |asg (i:Nat) (f:String) (es:Exs)
 |pick (f g:String) (i:Nat) (es:Exs)
 |ite (c:Tx) (a b:Tb)
 |mcl (f C m:String) (o:Ex) (es:Exs)
 |mko (C:String) (es:Exs)
inductive Hd where
 |flag (i:Nat) (b:Bool)
 |bind (n i:Nat)
mutual
inductive Sx where
 |exp (e:Ex)
 |asg (t:Tg) (e:Ex)
 |set (o i e:Ex)
 |aug (i:Nat) (op:Operator) (e:Ex)
 |augs (o i:Ex) (op:Operator) (e:Ex)
 |ret (e:Ex)
 |rtn
 |ite (c:Tx) (a b:Sxs)
 |for_ (t:Tg) (it:It') (body:Sxs)
 |whl (c:Tx) (body:Sxs)
 |pas
 |brk
 |cnt
 |nev
 |rse (C:String) (es:Exs)
 |tryc (f:String) (es:Exs) (C:String) (i:Nat) (b:Bool)
 |tryx (b:Tb) (C:String) (h:Hd) (xs:List String)
inductive Sxs where
 |nil
 |cons (s:Sx) (r:Sxs)
end
structure Xn where
 cls:String
 fld:D
structure Spec where
 A:Type
 pre:List D->DH->A->Prop
 post:A->D->DH->Prop
 exc:A->Xn->DH->Prop
abbrev EK:=Xn->DH->Prop
def Spec.t(S:Spec)(ds:List D)(G:DH)(Q:D->DH->Prop)(E:EK):Prop:=
 ∃a,S.pre ds G a/\(∀d G',S.post a d G'->Q d G')/\∀x G',S.exc a x G'->E x G'
theorem Spec.mono{S:Spec}{ds:List D}{G:DH}{Q Q':D->DH->Prop}{E E':EK}(h:S.t ds G Q E)(hq:∀d G',Q d G'->Q' d G')(he:∀x G',E x G'->E' x G'):S.t ds G Q' E':=by obtain ⟨a,h1,h2,h3⟩:=h;exact ⟨a,h1,λd G' q=>hq _ _ (h2 d G' q),λx G' q=>he _ _ (h3 x G' q)⟩
abbrev aj:=String->Spec
def yx(C f:String)(d:D)(k:Addr->Prop):Prop:=match d with |.obj C' f' q=>C'=C/\f'=f/\k q |_=>False
def tH(C m:String)(d:D):Prop:=match d with |.obj C' f' _=>C'=C/\(Str.ofString m==Str.ofString f')=false |_=>False
def yz(d:D)(G:DH)(k:D->DH->Prop):Prop:=match d with |.ref p=>(match G p with |some (.lst ds)=>(match ds[ds.length - 1]? with |some y=>k y (bx G p (.lst ds.dropLast)) |none=>False) |none=>False) |_=>False
def yC(d:D)(k:List Nat->Prop):Prop:=match d with |.str l=>l.length<=1000/\k l |_=>False
def yD(i:D)(l:List Nat)(k:List Nat->Prop):Prop:=match i with |.int n=>(match atI [48,49] n with |some c=>k (l.map λa=>if a=42 then c else a) |none=>False) |_=>False
mutual
def aY:Tg->D->ak->DH->(ak->Prop)->Prop
 |.nm i,d,Y,_,k=>k (Y.set i (some d))
 |.tp ts,d,Y,G,k=>match d with |.tup ds=>cg ts ds Y G k |.lst ds=>cg ts ds Y G k |_=>False
def cg:Tgs->List D->ak->DH->(ak->Prop)->Prop
 |.nil,ds,Y,_,k=>match ds with |[]=>k Y |_=>False
 |.cons t r,ds,Y,G,k=>match ds with |d::ds=>aY t d Y G (λρ'=>cg r ds ρ' G k) |[]=>False
end
abbrev Hld:=List (Addr×List D)
def held:Hld->DH->Prop
 |[],_=>True
 | (a,ds)::r,G=>G a=some (.lst ds)/\held r G
def compLoop(step:D->ak->DH->(Option D->ak->DH->Prop)->Prop)(g:Hld):List D->List D->ak->DH->(List D->DH->Prop)->Prop
 |[],acc,_,G,k=>held g G/\acc.length<=sz/\k acc G
 |d::ds,acc,Y,G,k=>held g G/\acc.length < sz/\step d Y G (λo ρ' G'=>match o with |some y=>compLoop step g ds (acc++[y]) ρ' G' k |none=>compLoop step g ds acc ρ' G' k)
def dG(step:D->List D->ak->DH->(List D->ak->DH->Prop)->Prop)(g:Hld):List D->List D->ak->DH->(List D->ak->DH->Prop)->Prop
 |[],acc,Y,G,k=>held g G/\k acc Y G
 |d::ds,acc,Y,G,k=>held g G/\step d acc Y G (λacc' ρ' G'=>dG step g ds acc' ρ' G' k)
def dZ:Nat->List D->List D
 |_,[]=>[]
 |i,d::ds=>.tup [.int i,d]::dZ (i+1) ds
def cH:List D->List D->List D
 |a::as,b::bs=>.tup [a,b]::cH as bs
 |_,_=>[]
def itemsOf(G:DH):D->Option (List D×Hld)
 |.lst ds=>some (ds,[])
 |.tup ds=>some (ds,[])
 |.str l=>some (l.map λc=>.str [c],[])
 |.ref p=>match G p with |some (.lst ds)=>some (ds,[(p,ds)]) |none=>none
 |_=>none
def aW(lo:Int)(n:Nat):List D:=(List.range n).map λi=>.int (lo+(i:Nat))
def dH(lo:Int)(n:Nat):List D:=(List.range n).map λi=>.int (lo - (i:Nat))
def noE:EK:=λ_ _=>False
mutual
def wpE(Z:aj):Ex->EK->ak->DH->(D->DH->Prop)->Prop
 |.var i,_,Y,G,k=>match Y[i]? with |some (some d)=>k d G |_=>False
 |.cst d,_,_,G,k=>k d G
 |.glb _ d,_,_,G,k=>k d G
 |.bin op fz a b,E,Y,G,k=>wpE Z a E Y G λx G1=>wpE Z b E Y G1 λy G2=>cP op fz (view G2 x) (view G2 y) G2 k
 |.neg a,E,Y,G,k=>wpE Z a E Y G λx G1=>match x with |.int i=>k (.int (-i)) G1 |_=>False
 |.cmp op a b,E,Y,G,k=>wpE Z a E Y G λx G1=>wpE Z b E Y G1 λy G2=>bC op (view G2 x) (view G2 y) λc=>k (.bl c) G2
 |.chn op op' a b c,E,Y,G,k=>wpE Z a E Y G λx G1=>wpE Z b E Y G1 λy G2=>bC op (view G2 x) (view G2 y) λt=>
   match t with
   |true=>wpE Z c E Y G2 λz G3=>bC op' (view G3 y) (view G3 z) λt'=>k (.bl t') G3
   |false=>k (.bl false) G2
 |.not a,E,Y,G,k=>wpE Z a E Y G λx G1=>match truth (view G1 x) with |some b=>k (.bl (!b)) G1 |none=>False
 |.boo isAnd e es,E,Y,G,k=>wpE Z e E Y G λd G1=>match d with |.bl b=>wpB Z es isAnd b E Y G1 (λc G2=>k (.bl c) G2) |_=>False
 |.ife c a b,E,Y,G,k=>wpT Z c E Y G λt G1=>match t with |true=>wpE Z a E Y G1 k |false=>wpE Z b E Y G1 k
 |.tup es,E,Y,G,k=>aR Z es E Y G λds G1=>ds.length<=sz/\k (.tup ds) G1
 |.lst fz es,E,Y,G,k=>aR Z es E Y G λds G1=>ds.length<=sz/\mk fz ds G1 k
 |.idx a i,E,Y,G,k=>wpE Z a E Y G λx G1=>wpE Z i E Y G1 λy G2=>cG (view G2 x) y λd=>k d G2
 |.slc fz a lo hi,E,Y,G,k=>wpE Z a E Y G λx G1=>wpO Z lo E Y G1 λl G2=>wpO Z hi E Y G2 λh G3=>eZ fz (view G3 x) l h G3 k
 |.rvs fz a s,E,Y,G,k=>wpE Z a E Y G λx G1=>wpE Z s E Y G1 λy G2=>iB fz (view G2 x) y G2 k
 |.call f es,E,Y,G,k=>aR Z es E Y G λds G1=>(Z f).t ds G1 k E
 |.bcl f es,E,Y,G,k=>aR Z es E Y G λds G1=>opB f (ds.map (view G1)) λd=>k d G1
 |.lcl fz f es,E,Y,G,k=>aR Z es E Y G λds G1=>dg f (ds.map (view G1)) λxs=>mk fz xs G1 k
 |.isi a t,E,Y,G,k=>wpE Z a E Y G λx G1=>match isT t (view G1 x) with |some b=>k (.bl b) G1 |none=>False
 |.isx a C xs,E,Y,G,k=>wpE Z a E Y G λx G1=>match x with |.exn c=>xs.contains c=true/\k (.bl (iD c C)) G1 |_=>False
 |.fst es,E,Y,G,k=>wpF Z es E Y G λl G1=>l.length<=sz/\k (.str l) G1
 |.rgl fz a,E,Y,G,k=>wpE Z a E Y G λd G1=>match d with |.int n=>(0<=n/\n<=1000)/\mk fz (aW 0 n.toNat) G1 k |_=>False
 |.rpl f a b ix,E,Y,G,k=>wpE Z a E Y G λda G1=>wpE Z b E Y G1 λdb G2=>cG (view G2 db) (.int 0) λd0=>(Z f).t [da,d0] G2 (λd G3=>yC d λl=>wpE Z ix E Y G3 λi G4=>yD i l λm=>k (.str m) G4) E
 |.fld C f o,E,Y,G,k=>wpE Z o E Y G λd G1=>yx C f d λq=>k (.ref q) G1
 |.mcl f C m o es,E,Y,G,k=>wpE Z o E Y G λd G1=>tH C m d/\aR Z es E Y G1 λds G2=>(Z f).t (d::ds) G2 k E
 |.mko C es,E,Y,G,k=>aR Z es E Y G λds G1=>(Z C).t ds G1 k E
 |.pp0 o,E,Y,G,k=>wpE Z o E Y G λd G1=>yz d G1 k
 |.rgt a,E,Y,G,k=>wpE Z a E Y G λd G1=>match d with |.int n=>(0<=n/\n<=1000)/\k (.tup (aW 0 n.toNat)) G1 |_=>False
 |.mth m o es,E,Y,G,k=>wpE Z o E Y G λx G1=>recv m x G1/\aR Z es E Y G1 λds G2=>opM m x ds G2 k
 |.comp fz elt tg it cond _ cap,E,Y,G,k=>wpI Z it E Y G λitems g G1=>
   compLoop (λd ρ' G' k'=>aY tg d ρ' G' λρ1=>wpT Z cond noE ρ1 G' λb G2=>match b with |true=>wpE Z elt noE ρ1 G2 λy G3=>k' (some y) ρ1 G3 |false=>k' none ρ1 G2)
    g items [] (cap.map λo=>match o with |none=>none |some j=>(Y[j]?).join) G1 λds G2=>mk fz ds G2 k
 |.cm3 elt t1 i1 t2 i2 t3 i3 _ cap,E,Y,G,k=>wpI Z i1 E Y G λitems g G1=>dG (λd acc ρ' G' k1=>aY t1 d ρ' G' λρ1=>wpI Z i2 noE ρ1 G' λitems2 g2 G2=>dG (λd acc ρ' G' k2=>aY t2 d ρ' G' λρ1=>wpI Z i3 noE ρ1 G' λitems3 g3 G3=>dG (λd acc ρ' G' k3=>aY t3 d ρ' G' λρ1=>acc.length < sz/\wpE Z elt noE ρ1 G' λy G4=>k3 (acc++[y]) ρ1 G4) g3 items3 acc ρ1 G3 k2) g2 items2 acc ρ1 G2 k1) g items [] (cap.map λo=>match o with |none=>none |some j=>(Y[j]?).join) G1 λds _ G2=>ds.length<=sz/\mk true ds G2 k
 |.frz a,E,Y,G,k=>wpE Z a E Y G λx G1=>match x with |.ref p=>(match G1 p with |some (.lst ds)=>k (.lst ds) (jn G1 p) |none=>False) |d=>k d G1
/-- a test -/
def wpT(Z:aj):Tx->EK->ak->DH->(Bool->DH->Prop)->Prop
 |.not a,E,Y,G,k=>wpT Z a E Y G λb G1=>k (!b) G1
 |.boo isAnd e es,E,Y,G,k=>wpT Z e E Y G λb G1=>gR Z es isAnd b E Y G1 k
 |.yes,_,_,G,k=>k true G
 |.val x,E,Y,G,k=>wpE Z x E Y G λd G1=>match truth (view G1 d) with |some b=>k b G1 |none=>False
def wpF(Z:aj):Exs->EK->ak->DH->(List Nat->DH->Prop)->Prop
 |.nil,_,_,G,k=>k [] G
 |.cons e es,E,Y,G,k=>wpE Z e E Y G λd G1=>match d with
  |.str l=>l.length<=1000/\wpF Z es E Y G1 λx G2=>k (l++x) G2
  |.int i=>(0<=i/\i < 100)/\wpF Z es E Y G1 λx G2=>k (iC i.toNat++x) G2
  |_=>False
def aR(Z:aj):Exs->EK->ak->DH->(List D->DH->Prop)->Prop
 |.nil,_,_,G,k=>k [] G
 |.cons e es,E,Y,G,k=>wpE Z e E Y G λd G1=>aR Z es E Y G1 λds G2=>k (d::ds) G2
/-- and,or as values:truths alone;b:the one ahead -/
def wpB(Z:aj):Exs->Bool->Bool->EK->ak->DH->(Bool->DH->Prop)->Prop
 |.nil,_,b,_,_,G,k=>k b G
 |.cons e es,isAnd,b,E,Y,G,k=>match isAnd,b with
  |true,false=>k false G
  |false,true=>k true G
  |_,_=>wpE Z e E Y G λd G1=>match d with |.bl b'=>wpB Z es isAnd b' E Y G1 k |_=>False
def gR(Z:aj):Txs->Bool->Bool->EK->ak->DH->(Bool->DH->Prop)->Prop
 |.nil,_,b,_,_,G,k=>k b G
 |.cons e es,isAnd,b,E,Y,G,k=>match isAnd,b with
  |true,false=>k false G
  |false,true=>k true G
  |_,_=>wpT Z e E Y G λb' G1=>gR Z es isAnd b' E Y G1 k
/-- a bound of a slice -/
def wpO(Z:aj):Ox->EK->ak->DH->(Option Int->DH->Prop)->Prop
 |.no,_,_,G,k=>k none G
 |.ob x,E,Y,G,k=>wpE Z x E Y G λd G1=>match d with |.int i=>k (some i) G1 |_=>False
def wpI(Z:aj):It'->EK->ak->DH->(List D->Hld->DH->Prop)->Prop
 |.seq e,E,Y,G,k=>wpE Z e E Y G λd G1=>match itemsOf G1 d with |some ds=>k ds.1 ds.2 G1 |none=>False
 |.rng a,E,Y,G,k=>wpE Z a E Y G λd G1=>match d with |.int n=>(-(2 ^ 62)<=n/\n < 2 ^ 62)/\k (aW 0 n.toNat) [] G1 |_=>False
 |.rng2 a b,E,Y,G,k=>wpE Z a E Y G λx G1=>wpE Z b E Y G1 λy G2=>match x,y with
  |.int m,.int n=>(-(2 ^ 62)<=m/\m < 2 ^ 62/\-(2 ^ 62)<=n/\n < 2 ^ 62)/\k (aW m (n - m).toNat) [] G2
  |_,_=>False
 |.rev a,E,Y,G,k=>wpE Z a E Y G λd G1=>match d with |.int n=>(-(2 ^ 62)<=n/\n < 2 ^ 62)/\k (dH ((n.toNat:Int) - 1) n.toNat) [] G1 |_=>False
 |.dwn a b c,E,Y,G,k=>wpE Z a E Y G λx G1=>wpE Z b E Y G1 λy G2=>wpE Z c E Y G2 λz G3=>match x,y,z with
  |.int m,.int n,.int s=>(s=-1/\-(2 ^ 62)<=m/\m < 2 ^ 62/\-(2 ^ 62)<=n/\n < 2 ^ 62)/\k (dH m (m - n).toNat) [] G3
  |_,_,_=>False
 |.enm e,E,Y,G,k=>wpE Z e E Y G λd G1=>match itemsOf G1 d with |some ds=>k (dZ 0 ds.1) ds.2 G1 |none=>False
 |.zip a b,E,Y,G,k=>wpE Z a E Y G λx G1=>wpE Z b E Y G1 λy G2=>match itemsOf G2 x,itemsOf G2 y with |some ds,some es=>k (cH ds.1 es.1) (ds.2++es.2) G2 |_,_=>False
end
structure En where
 nx:ak->DH->Prop
 rt:D->DH->Prop
 bk:ak->DH->Prop
 ct:ak->DH->Prop
def forLoop(step:D->ak->DH->(ak->DH->Prop)->Prop)(g:Hld):List D->ak->DH->(ak->DH->Prop)->Prop
 |[],Y,G,k=>held g G/\k Y G
 |d::ds,Y,G,k=>held g G/\step d Y G λρ' G'=>forLoop step g ds ρ' G' k
def whileLoop(test:ak->DH->(Bool->DH->Prop)->Prop)(body:ak->DH->(ak->DH->Prop)->Prop):Nat->ak->DH->(ak->DH->Prop)->Prop
 |0,_,_,_=>False
 |n+1,Y,G,k=>test Y G λb G1=>match b with |true=>body Y G1 λρ' G'=>whileLoop test body n ρ' G' k |false=>k Y G1
def fB(o i x:D)(G:DH)(k:DH->Prop):Prop:=
 match o,i with
 |.ref p,.int i=>match G p with |some (.lst ds)=>(match ixN ds.length i with |some j=>k (bx G p (.lst (ds.set j x))) |none=>False) |none=>False
 |_,_=>False
def d7(op:Operator)(a b:D)(k:D->Prop):Prop:=
 match op,a,b with
 |.Add,.int i,.int j=>k (.int (i+j))
 |.Add,.str x,.str y=>x.length+y.length<=sz/\k (.str (x++y))
 |.Sub,.int i,.int j=>k (.int (i - j))
 |_,_,_=>False
def yE:D->Bool
 |.int i=>decide (0<=i)&&decide (i < 100)
 |_=>false
def wpM(Z:aj):Exs->EK->ak->DH->(DH->Prop)->Prop
 |.nil,_,_,G,k=>k G
 |.cons e es,E,Y,G,k=>wpE Z e E Y G λd G1=>yE d=true/\wpM Z es E Y G1 k
def wpX(Z:aj):Tb->ak->DH->(ak->DH->Prop)->(Xn->ak->DH->Prop)->Prop
 |.call f es,Y,G,nx,ex=>aR Z es noE Y G λds G1=>(Z f).t ds G1 (λ_ G2=>nx Y G2) λx G2=>ex x Y G2
 |.asg i f es,Y,G,nx,ex=>aR Z es noE Y G λds G1=>(Z f).t ds G1 (λd G2=>nx (Y.set i (some d)) G2) λx G2=>ex x Y G2
 |.pick f g i es,Y,G,nx,ex=>wpE Z (.var i) noE Y G λd G1=>∃b:Bool,d=.int (if b then 1 else 0)/\aR Z es noE Y G1 λds G2=>(Z (if b then g else f)).t ds G2 (λ_ G3=>nx Y G3) λx G3=>ex x Y G3
 |.ite c a b,Y,G,nx,ex=>wpT Z c noE Y G λt G1=>match t with |true=>wpX Z a Y G1 nx ex |false=>wpX Z b Y G1 nx ex
 |.mcl f C m o es,Y,G,nx,ex=>wpE Z o noE Y G λd G1=>tH C m d/\aR Z es noE Y G1 λds G2=>(Z f).t (d::ds) G2 (λ_ G3=>nx Y G3) λx G3=>ex x Y G3
 |.mko C es,Y,G,nx,ex=>aR Z es noE Y G λds G1=>(Z C).t ds G1 (λ_ G2=>nx Y G2) λx G2=>ex x Y G2
def caught(h:Hd)(C:String)(Y:ak):ak:=match h with
 |.flag i b=>Y.set i (some (.bl b))
 |.bind n i=>((Y.set n (some (.exn C))).set i (some (.exn C))).set n none
mutual
def wpS(Z:aj):Sx->EK->ak->DH->En->Prop
 |.exp e,E,Y,G,D=>wpE Z e E Y G λ_ G1=>D.nx Y G1
 |.asg t e,E,Y,G,D=>wpE Z e E Y G λd G1=>aY t d Y G1 λρ'=>D.nx ρ' G1
 |.set o i e,E,Y,G,D=>wpE Z e E Y G λx G1=>wpE Z o E Y G1 λa G2=>wpE Z i E Y G2 λy G3=>fB a y x G3 λG4=>D.nx Y G4
 |.aug i op e,E,Y,G,D=>match Y[i]? with
  |some (some a)=>wpE Z e E Y G λb G1=>d7 op a b λc=>D.nx (Y.set i (some c)) G1
  |_=>False
 |.augs o i op e,E,Y,G,D=>wpE Z o E Y G λa G1=>wpE Z i E Y G1 λy G2=>cG (view G2 a) y λold=>wpE Z e E Y G2 λb G3=>d7 op old b λc=>fB a y c G3 λG4=>D.nx Y G4
 |.ret e,E,Y,G,D=>wpE Z e E Y G D.rt
 |.rtn,_,_,G,D=>D.rt .non G
 |.ite c a b,E,Y,G,D=>wpT Z c E Y G λt G1=>match t with |true=>au Z a E Y G1 D |false=>au Z b E Y G1 D
 |.for_ t it body,E,Y,G,D=>wpI Z it E Y G λitems g G1=>
   forLoop (λd ρ' G' k=>aY t d ρ' G' λρ1=>au Z body E ρ1 G' { D with nx:=k,ct:=k,bk:=D.nx }) g items Y G1 D.nx
 |.whl c body,E,Y,G,D=>∃n,whileLoop (λρ' G' k=>wpT Z c E ρ' G' k) (λρ' G' k=>au Z body E ρ' G' { D with nx:=k,ct:=k,bk:=D.nx }) n Y G D.nx
 |.pas,_,Y,G,D=>D.nx Y G
 |.brk,_,Y,G,D=>D.bk Y G
 |.cnt,_,Y,G,D=>D.ct Y G
 |.nev,_,_,_,_=>False
 |.rse C es,E,Y,G,_=>wpM Z es E Y G λG1=>E ⟨C,.non⟩ G1
 |.tryc f es C i b,_,Y,G,D=>aR Z es noE Y G λds G1=>(Z f).t ds G1 (λ_ G2=>D.nx Y G2) λx G2=>x.cls=C/\x.fld=.non/\D.nx (Y.set i (some (.bl b))) G2
 |.tryx b C h xs,_,Y,G,D=>wpX Z b Y G D.nx λx ρ' G'=>x.fld=.non/\xs.contains x.cls=true/\iD x.cls C=true/\D.nx (caught h x.cls ρ') G'
def au(Z:aj):Sxs->EK->ak->DH->En->Prop
 |.nil,_,Y,G,D=>D.nx Y G
 |.cons s r,E,Y,G,D=>wpS Z s E Y G { D with nx:=λρ' G'=>au Z r E ρ' G' D }
end
theorem tM{Z:aj}{a}{E}{Y}{G}{k}:wpT Z (.not a) E Y G k=(wpT Z a E Y G λb G1=>k (!b) G1):=rfl
theorem tQ{Z:aj}{isAnd}{e}{es}{E}{Y}{G}{k}:wpT Z (.boo isAnd e es) E Y G k=(wpT Z e E Y G λb G1=>gR Z es isAnd b E Y G1 k):=rfl
theorem tR{Z:aj}{E}{Y}{G}{k}:wpT Z .yes E Y G k=(k true G):=rfl
theorem j0{Z:aj}{x}{E}{Y}{G}{k}:wpT Z (.val x) E Y G k=(wpE Z x E Y G λd G1=>match truth (view G1 d) with |some b=>k b G1 |none=>False):=rfl
theorem jq{Z:aj}{E}{Y}{G}{k}:aR Z .nil E Y G k=(k [] G):=rfl
theorem iG{Z:aj}{e}{es}{E}{Y}{G}{k}:aR Z (.cons e es) E Y G k=(wpE Z e E Y G λd G1=>aR Z es E Y G1 λds G2=>k (d::ds) G2):=rfl
theorem tU{Z:aj}{isAnd:Bool}{b:Bool}{E}{Y}{G}{k}:wpB Z .nil isAnd b E Y G k=(k b G):=rfl
theorem lL{Z:aj}{e}{es}{isAnd:Bool}{b:Bool}{E}{Y}{G}{k}:wpB Z (.cons e es) isAnd b E Y G k=(match isAnd,b with
  |true,false=>k false G
  |false,true=>k true G
  |_,_=>wpE Z e E Y G λd G1=>match d with |.bl b'=>wpB Z es isAnd b' E Y G1 k |_=>False):=rfl
theorem tV{Z:aj}{isAnd:Bool}{b:Bool}{E}{Y}{G}{k}:gR Z .nil isAnd b E Y G k=(k b G):=rfl
theorem lM{Z:aj}{e}{es}{isAnd:Bool}{b:Bool}{E}{Y}{G}{k}:gR Z (.cons e es) isAnd b E Y G k=(match isAnd,b with
  |true,false=>k false G
  |false,true=>k true G
  |_,_=>wpT Z e E Y G λb' G1=>gR Z es isAnd b' E Y G1 k):=rfl
theorem tW{Z:aj}{E}{Y}{G}{k}:wpO Z .no E Y G k=(k none G):=rfl
theorem tX{Z:aj}{x}{E}{Y}{G}{k}:wpO Z (.ob x) E Y G k=(wpE Z x E Y G λd G1=>match d with |.int i=>k (some i) G1 |_=>False):=rfl
theorem tY{Z:aj}{e}{E}{Y}{G}{k}:wpI Z (.seq e) E Y G k=(wpE Z e E Y G λd G1=>match itemsOf G1 d with |some ds=>k ds.1 ds.2 G1 |none=>False):=rfl
theorem tZ{Z:aj}{a}{E}{Y}{G}{k}:wpI Z (.rng a) E Y G k=(wpE Z a E Y G λd G1=>match d with |.int n=>(-(2 ^ 62)<=n/\n < 2 ^ 62)/\k (aW 0 n.toNat) [] G1 |_=>False):=rfl
theorem t6{Z:aj}{a}{b}{E}{Y}{G}{k}:wpI Z (.rng2 a b) E Y G k=(wpE Z a E Y G λx G1=>wpE Z b E Y G1 λy G2=>match x,y with
  |.int m,.int n=>(-(2 ^ 62)<=m/\m < 2 ^ 62/\-(2 ^ 62)<=n/\n < 2 ^ 62)/\k (aW m (n - m).toNat) [] G2
  |_,_=>False):=rfl
theorem t7{Z:aj}{a}{E}{Y}{G}{k}:wpI Z (.rev a) E Y G k=(wpE Z a E Y G λd G1=>match d with |.int n=>(-(2 ^ 62)<=n/\n < 2 ^ 62)/\k (dH ((n.toNat:Int) - 1) n.toNat) [] G1 |_=>False):=rfl
theorem yF{Z:aj}{a}{b}{c}{E}{Y}{G}{k}:wpI Z (.dwn a b c) E Y G k=(wpE Z a E Y G λx G1=>wpE Z b E Y G1 λy G2=>wpE Z c E Y G2 λz G3=>match x,y,z with
  |.int m,.int n,.int s=>(s=-1/\-(2 ^ 62)<=m/\m < 2 ^ 62/\-(2 ^ 62)<=n/\n < 2 ^ 62)/\k (dH m (m - n).toNat) [] G3
  |_,_,_=>False):=rfl
theorem t8{Z:aj}{e}{E}{Y}{G}{k}:wpI Z (.enm e) E Y G k=(wpE Z e E Y G λd G1=>match itemsOf G1 d with |some ds=>k (dZ 0 ds.1) ds.2 G1 |none=>False):=rfl
theorem uc{Z:aj}{a}{b}{E}{Y}{G}{k}:wpI Z (.zip a b) E Y G k=(wpE Z a E Y G λx G1=>wpE Z b E Y G1 λy G2=>match itemsOf G2 x,itemsOf G2 y with |some ds,some es=>k (cH ds.1 es.1) (ds.2++es.2) G2 |_,_=>False):=rfl
theorem j4{Z:aj}{E}{Y}{G}{D}:au Z .nil E Y G D=(D.nx Y G):=rfl
theorem j5{Z:aj}{s}{r}{E}{Y}{G}{D}:au Z (.cons s r) E Y G D=(wpS Z s E Y G { D with nx:=λρ' G'=>au Z r E ρ' G' D }):=rfl
theorem ud{Z:aj}{i E Y G k}:wpE Z (.var i) E Y G k=(match Y[i]? with |some (some d)=>k d G |_=>False):=rfl
theorem jr{Z:aj}{d E Y G k}:wpE Z (.cst d) E Y G k=(k d G):=rfl
theorem ue{Z:aj}{u0 d E Y G k}:wpE Z (.glb u0 d) E Y G k=(k d G):=rfl
theorem uf{Z:aj}{op fz a b E Y G k}:wpE Z (.bin op fz a b) E Y G k=(wpE Z a E Y G λx G1=>wpE Z b E Y G1 λy G2=>cP op fz (view G2 x) (view G2 y) G2 k):=rfl
theorem ug{Z:aj}{a E Y G k}:wpE Z (.neg a) E Y G k=(wpE Z a E Y G λx G1=>match x with |.int i=>k (.int (-i)) G1 |_=>False):=rfl
theorem lN{Z:aj}{op a b E Y G k}:wpE Z (.cmp op a b) E Y G k=(wpE Z a E Y G λx G1=>wpE Z b E Y G1 λy G2=>bC op (view G2 x) (view G2 y) λc=>k (.bl c) G2):=rfl
theorem lO{Z:aj}{op op' a b c E Y G k}:wpE Z (.chn op op' a b c) E Y G k=(wpE Z a E Y G λx G1=>wpE Z b E Y G1 λy G2=>bC op (view G2 x) (view G2 y) λt=>
   match t with
   |true=>wpE Z c E Y G2 λz G3=>bC op' (view G3 y) (view G3 z) λt'=>k (.bl t') G3
   |false=>k (.bl false) G2):=rfl
theorem uh{Z:aj}{a E Y G k}:wpE Z (.not a) E Y G k=(wpE Z a E Y G λx G1=>match truth (view G1 x) with |some b=>k (.bl (!b)) G1 |none=>False):=rfl
theorem um{Z:aj}{isAnd e es E Y G k}:wpE Z (.boo isAnd e es) E Y G k=(wpE Z e E Y G λd G1=>match d with |.bl b=>wpB Z es isAnd b E Y G1 (λc G2=>k (.bl c) G2) |_=>False):=rfl
theorem uo{Z:aj}{c a b E Y G k}:wpE Z (.ife c a b) E Y G k=(wpT Z c E Y G λt G1=>match t with |true=>wpE Z a E Y G1 k |false=>wpE Z b E Y G1 k):=rfl
theorem uq{Z:aj}{es E Y G k}:wpE Z (.tup es) E Y G k=(aR Z es E Y G λds G1=>ds.length<=sz/\k (.tup ds) G1):=rfl
theorem ur{Z:aj}{fz es E Y G k}:wpE Z (.lst fz es) E Y G k=(aR Z es E Y G λds G1=>ds.length<=sz/\mk fz ds G1 k):=rfl
theorem ut{Z:aj}{a i E Y G k}:wpE Z (.idx a i) E Y G k=(wpE Z a E Y G λx G1=>wpE Z i E Y G1 λy G2=>cG (view G2 x) y λd=>k d G2):=rfl
theorem uv{Z:aj}{fz a s E Y G k}:wpE Z (.rvs fz a s) E Y G k=(wpE Z a E Y G λx G1=>wpE Z s E Y G1 λy G2=>iB fz (view G2 x) y G2 k):=rfl
theorem uw{Z:aj}{fz a lo hi E Y G k}:wpE Z (.slc fz a lo hi) E Y G k=(wpE Z a E Y G λx G1=>wpO Z lo E Y G1 λl G2=>wpO Z hi E Y G2 λh G3=>eZ fz (view G3 x) l h G3 k):=rfl
theorem ux{Z:aj}{f es E Y G k}:wpE Z (.call f es) E Y G k=(aR Z es E Y G λds G1=>(Z f).t ds G1 k E):=rfl
theorem uy{Z:aj}{f es E Y G k}:wpE Z (.bcl f es) E Y G k=(aR Z es E Y G λds G1=>opB f (ds.map (view G1)) λd=>k d G1):=rfl
theorem uz{Z:aj}{fz f es E Y G k}:wpE Z (.lcl fz f es) E Y G k=(aR Z es E Y G λds G1=>dg f (ds.map (view G1)) λxs=>mk fz xs G1 k):=rfl
theorem uA{Z:aj}{a t E Y G k}:wpE Z (.isi a t) E Y G k=(wpE Z a E Y G λx G1=>match isT t (view G1 x) with |some b=>k (.bl b) G1 |none=>False):=rfl
theorem yG{Z:aj}{a C xs E Y G k}:wpE Z (.isx a C xs) E Y G k=(wpE Z a E Y G λx G1=>match x with |.exn c=>xs.contains c=true/\k (.bl (iD c C)) G1 |_=>False):=rfl
theorem yH{Z:aj}{fz a E Y G k}:wpE Z (.rgl fz a) E Y G k=(wpE Z a E Y G λd G1=>match d with |.int n=>(0<=n/\n<=1000)/\mk fz (aW 0 n.toNat) G1 k |_=>False):=rfl
theorem abm{Z:aj}{f a b ix E Y G k}:wpE Z (.rpl f a b ix) E Y G k=(wpE Z a E Y G λda G1=>wpE Z b E Y G1 λdb G2=>cG (view G2 db) (.int 0) λd0=>(Z f).t [da,d0] G2 (λd G3=>yC d λl=>wpE Z ix E Y G3 λi G4=>yD i l λm=>k (.str m) G4) E):=rfl
theorem yI{Z:aj}{C f o E Y G k}:wpE Z (.fld C f o) E Y G k=(wpE Z o E Y G λd G1=>yx C f d λq=>k (.ref q) G1):=rfl
theorem yJ{Z:aj}{f C m o es E Y G k}:wpE Z (.mcl f C m o es) E Y G k=(wpE Z o E Y G λd G1=>tH C m d/\aR Z es E Y G1 λds G2=>(Z f).t (d::ds) G2 k E):=rfl
theorem yK{Z:aj}{C es E Y G k}:wpE Z (.mko C es) E Y G k=(aR Z es E Y G λds G1=>(Z C).t ds G1 k E):=rfl
theorem yL{Z:aj}{o E Y G k}:wpE Z (.pp0 o) E Y G k=(wpE Z o E Y G λd G1=>yz d G1 k):=rfl
theorem yM{Z:aj}{a E Y G k}:wpE Z (.rgt a) E Y G k=(wpE Z a E Y G λd G1=>match d with |.int n=>(0<=n/\n<=1000)/\k (.tup (aW 0 n.toNat)) G1 |_=>False):=rfl
theorem yN{Z:aj}{es E Y G k}:wpE Z (.fst es) E Y G k=(wpF Z es E Y G λl G1=>l.length<=sz/\k (.str l) G1):=rfl
theorem yO{Z:aj}{E Y G k}:wpF Z .nil E Y G k=k [] G:=rfl
theorem yP{Z:aj}{e es E Y G k}:wpF Z (.cons e es) E Y G k=(wpE Z e E Y G λd G1=>match d with
  |.str l=>l.length<=1000/\wpF Z es E Y G1 λx G2=>k (l++x) G2
  |.int i=>(0<=i/\i < 100)/\wpF Z es E Y G1 λx G2=>k (iC i.toNat++x) G2
  |_=>False):=rfl
theorem gb{Z:aj}{m o es E Y G k}:wpE Z (.mth m o es) E Y G k=(wpE Z o E Y G λx G1=>recv m x G1/\aR Z es E Y G1 λds G2=>opM m x ds G2 k):=rfl
theorem uB{Z:aj}{a E Y G k}:wpE Z (.frz a) E Y G k=(wpE Z a E Y G λx G1=>match x with |.ref p=>(match G1 p with |some (.lst ds)=>k (.lst ds) (jn G1 p) |none=>False) |d=>k d G1):=rfl
theorem uC{Z:aj}{e E Y G D}:wpS Z (.exp e) E Y G D=(wpE Z e E Y G λ_ G1=>D.nx Y G1):=rfl
theorem iH{Z:aj}{t e E Y G D}:wpS Z (.asg t e) E Y G D=(wpE Z e E Y G λd G1=>aY t d Y G1 λρ'=>D.nx ρ' G1):=rfl
theorem uD{Z:aj}{o i e E Y G D}:wpS Z (.set o i e) E Y G D=(wpE Z e E Y G λx G1=>wpE Z o E Y G1 λa G2=>wpE Z i E Y G2 λy G3=>fB a y x G3 λG4=>D.nx Y G4):=rfl
theorem uE{Z:aj}{i op e E Y G D}:wpS Z (.aug i op e) E Y G D=(match Y[i]? with
  |some (some a)=>wpE Z e E Y G λb G1=>d7 op a b λc=>D.nx (Y.set i (some c)) G1
  |_=>False):=rfl
theorem uF{Z:aj}{o i op e E Y G D}:wpS Z (.augs o i op e) E Y G D=(wpE Z o E Y G λa G1=>wpE Z i E Y G1 λy G2=>cG (view G2 a) y λold=>wpE Z e E Y G2 λb G3=>d7 op old b λc=>fB a y c G3 λG4=>D.nx Y G4):=rfl
theorem uG{Z:aj}{e E Y G D}:wpS Z (.ret e) E Y G D=(wpE Z e E Y G D.rt):=rfl
theorem uH{Z:aj}{E Y G D}:wpS Z .rtn E Y G D=(D.rt .non G):=rfl
theorem uI{Z:aj}{c a b E Y G D}:wpS Z (.ite c a b) E Y G D=(wpT Z c E Y G λt G1=>match t with |true=>au Z a E Y G1 D |false=>au Z b E Y G1 D):=rfl
theorem uJ{Z:aj}{E Y G D}:wpS Z .pas E Y G D=(D.nx Y G):=rfl
theorem uK{Z:aj}{E Y G D}:wpS Z .brk E Y G D=(D.bk Y G):=rfl
theorem uL{Z:aj}{E Y G D}:wpS Z .cnt E Y G D=(D.ct Y G):=rfl
theorem lQ{Z:aj}{C es E Y G D}:wpS Z (.rse C es) E Y G D=(wpM Z es E Y G λG1=>E ⟨C,.non⟩ G1):=rfl
theorem yQ{Z:aj}{E Y G k}:wpM Z .nil E Y G k=k G:=rfl
theorem uM{Z:aj}{e es E Y G k}:wpM Z (.cons e es) E Y G k=(wpE Z e E Y G λd G1=>yE d=true/\wpM Z es E Y G1 k):=rfl
theorem yR{Z:aj}{f es C i b E Y G D}:wpS Z (.tryc f es C i b) E Y G D=(aR Z es noE Y G λds G1=>(Z f).t ds G1 (λ_ G2=>D.nx Y G2) λx G2=>x.cls=C/\x.fld=.non/\D.nx (Y.set i (some (.bl b))) G2):=rfl
theorem yS{Z:aj}{b C h xs E Y G D}:wpS Z (.tryx b C h xs) E Y G D=(wpX Z b Y G D.nx λx ρ' G'=>x.fld=.non/\xs.contains x.cls=true/\iD x.cls C=true/\D.nx (caught h x.cls ρ') G'):=rfl
theorem yU{Z:aj}{f g i es Y G nx ex}:wpX Z (.pick f g i es) Y G nx ex=(wpE Z (.var i) noE Y G λd G1=>∃b:Bool,d=.int (if b then 1 else 0)/\aR Z es noE Y G1 λds G2=>(Z (if b then g else f)).t ds G2 (λ_ G3=>nx Y G3) λx G3=>ex x Y G3):=rfl
theorem yV{Z:aj}{f C m o es Y G nx ex}:wpX Z (.mcl f C m o es) Y G nx ex=(wpE Z o noE Y G λd G1=>tH C m d/\aR Z es noE Y G1 λds G2=>(Z f).t (d::ds) G2 (λ_ G3=>nx Y G3) λx G3=>ex x Y G3):=rfl
theorem yW{Z:aj}{C es Y G nx ex}:wpX Z (.mko C es) Y G nx ex=(aR Z es noE Y G λds G1=>(Z C).t ds G1 (λ_ G2=>nx Y G2) λx G2=>ex x Y G2):=rfl
theorem yX{Z:aj}{f es Y G nx ex}:wpX Z (.call f es) Y G nx ex=(aR Z es noE Y G λds G1=>(Z f).t ds G1 (λ_ G2=>nx Y G2) λx G2=>ex x Y G2):=rfl
theorem yZ{Z:aj}{i f es Y G nx ex}:wpX Z (.asg i f es) Y G nx ex=(aR Z es noE Y G λds G1=>(Z f).t ds G1 (λd G2=>nx (Y.set i (some d)) G2) λx G2=>ex x Y G2):=rfl
theorem za{Z:aj}{c a b Y G nx ex}:wpX Z (.ite c a b) Y G nx ex=(wpT Z c noE Y G λt G1=>match t with |true=>wpX Z a Y G1 nx ex |false=>wpX Z b Y G1 nx ex):=rfl
theorem uN{Z:aj}{E Y G D}:wpS Z .nev E Y G D=(False):=rfl
theorem zb{Z:aj}{fz elt tg it cond N cap E Y G k}:wpE Z (.comp fz elt tg it cond N cap) E Y G k=(wpI Z it E Y G λitems g G1=>
   compLoop (λd ρ' G' k'=>aY tg d ρ' G' λρ1=>wpT Z cond noE ρ1 G' λb G2=>match b with |true=>wpE Z elt noE ρ1 G2 λy G3=>k' (some y) ρ1 G3 |false=>k' none ρ1 G2)
    g items [] (cap.map λo=>match o with |none=>none |some j=>(Y[j]?).join) G1 λds G2=>mk fz ds G2 k):=rfl
theorem zc{Z:aj}{elt t1 i1 t2 i2 t3 i3 N cap E Y G k}:wpE Z (.cm3 elt t1 i1 t2 i2 t3 i3 N cap) E Y G k=(wpI Z i1 E Y G λitems g G1=>dG (λd acc ρ' G' k1=>aY t1 d ρ' G' λρ1=>wpI Z i2 noE ρ1 G' λitems2 g2 G2=>dG (λd acc ρ' G' k2=>aY t2 d ρ' G' λρ1=>wpI Z i3 noE ρ1 G' λitems3 g3 G3=>dG (λd acc ρ' G' k3=>aY t3 d ρ' G' λρ1=>acc.length < sz/\wpE Z elt noE ρ1 G' λy G4=>k3 (acc++[y]) ρ1 G4) g3 items3 acc ρ1 G3 k2) g2 items2 acc ρ1 G2 k1) g items [] (cap.map λo=>match o with |none=>none |some j=>(Y[j]?).join) G1 λds _ G2=>ds.length<=sz/\mk true ds G2 k):=rfl
theorem Gx{Z:aj}{t it body E Y G D}:wpS Z (.for_ t it body) E Y G D=(wpI Z it E Y G λitems g G1=>
   forLoop (λd ρ' G' k=>aY t d ρ' G' λρ1=>au Z body E ρ1 G' { D with nx:=k,ct:=k,bk:=D.nx }) g items Y G1 D.nx):=rfl
theorem Gy{Z:aj}{c body E Y G D}:wpS Z (.whl c body) E Y G D=(∃n,whileLoop (λρ' G' k=>wpT Z c E ρ' G' k) (λρ' G' k=>au Z body E ρ' G' { D with nx:=k,ct:=k,bk:=D.nx }) n Y G D.nx):=rfl
section
variable {k k':D->DH->Prop} {G:DH}
theorem du{fz:Bool}{xs:List D}(h:∀d G',k d G'->k' d G')(q:mk fz xs G k):mk fz xs G k':=by
 cases fz with
 |true=>exact h _ _ q
 |false=>exact λp hp=>h _ _ (q p hp)
theorem Gz{a b:D}{p:Int->Int->Prop}(h:iz a b p):∃i j,a=.int i/\b=.int j/\p i j:=by
 cases a with
 |int i=>cases b with
  |int j=>exact ⟨i,j,rfl,rfl,h⟩
  |_=>exact h.elim
 |_=>exact h.elim
theorem uO{a b:D}{p q:Int->Int->Prop}(h:∀i j,p i j->q i j)(z:iz a b p):iz a b q:=by obtain ⟨i,j,rfl,rfl,z⟩:=Gz z;exact h i j z
theorem GC{op:Operator}{fz:Bool}{a b:D}(h:∀d G',k d G'->k' d G')(q:cP op fz a b G k):cP op fz a b G k':=by
 cases op with
 |Add=>
  have q:jQ fz a b G k:=q;show jQ fz a b G k';unfold jQ at q ⊢;cases a with
  |int i=>cases b <;> first |exact h _ _ q |exact q
  |str i=>cases b <;> first |exact ⟨q.1,h _ _ q.2⟩ |exact q
  |lst i=>cases b <;> first |exact ⟨q.1,du h q.2⟩ |exact q
  |tup i=>cases b <;> first |exact ⟨q.1,h _ _ q.2⟩ |exact q
  |_=>exact q
 |Sub=>exact uO (λ_ _ z=>h _ _ z) q
 |Mult=>
  have q:jR fz a b G k:=q;show jR fz a b G k';unfold jR at q ⊢;cases b with
  |int n=>cases a <;> first |exact ⟨q.1,h _ _ q.2⟩ |exact ⟨q.1,q.2.1,q.2.2.1,h _ _ q.2.2.2⟩ |exact ⟨q.1,q.2.1,q.2.2.1,du h q.2.2.2⟩ |exact ⟨q.1,q.2.1,q.2.2.1,q.2.2.2.1,h _ _ q.2.2.2.2⟩ |exact q
  |_=>exact q
 |FloorDiv=>exact uO (λ_ _ z=>⟨z.1,h _ _ z.2⟩) q
 |Mod=>exact uO (λ_ _ z=>⟨z.1,h _ _ z.2⟩) q
 |Pow=>exact uO (λ_ _ z=>⟨z.1,h _ _ z.2⟩) q
 |_=>exact q
theorem GD{a b:D}{k k':Bool->Prop}(h:∀c,k c->k' c)(q:gP a b k):gP a b k':=by
 unfold gP at q ⊢;split at q
 ·split at q
  ·exact h _ q
  ·exact q
 ·exact ⟨q.1,h _ q.2⟩
 ·exact ⟨q.1,h _ q.2⟩
 ·exact q
theorem jt{op:CmpOp}{a b:D}{k k':Bool->Prop}(h:∀c,k c->k' c)(q:bC op a b k):bC op a b k':=by
 cases op with
 |Eq=>exact ⟨q.1,h _ q.2⟩
 |NotEq=>exact ⟨q.1,h _ q.2⟩
 |Lt=>have q:jT a b k:=q;show jT a b k';unfold jT at q ⊢;split at q <;> first |exact h _ q |exact q
 |LtE=>have q:jU a b k:=q;show jU a b k';unfold jU at q ⊢;split at q <;> first |exact h _ q |exact q
 |Gt=>have q:jV a b k:=q;show jV a b k';unfold jV at q ⊢;split at q <;> first |exact h _ q |exact q
 |GtE=>have q:jW a b k:=q;show jW a b k';unfold jW at q ⊢;split at q <;> first |exact h _ q |exact q
 |Is=>
  have q:jX a b k:=q;show jX a b k';unfold jX at q ⊢;split at q
  ·exact h _ q
  ·split at q
   ·exact h _ q
   ·exact q
  ·exact q
 |IsNot=>
  have q:jY a b k:=q;show jY a b k';unfold jY at q ⊢;split at q
  ·exact h _ q
  ·split at q
   ·exact h _ q
   ·exact q
  ·exact q
 |In=>exact GD h q
 |NotIn=>exact GD (λc=>h _) q
theorem lR{a i:D}{k k':D->Prop}(h:∀c,k c->k' c)(q:cG a i k):cG a i k':=by
 unfold cG at q ⊢;split at q
 ·split at q
  ·exact h _ q
  ·exact q
 ·split at q
  ·exact h _ q
  ·exact q
 ·split at q
  ·exact h _ q
  ·exact q
 ·exact q
theorem GF{fz:Bool}{a:D}{lo hi:Option Int}(h:∀d G',k d G'->k' d G')(q:eZ fz a lo hi G k):eZ fz a lo hi G k':=by
 unfold eZ at q ⊢;split at q <;> first
  |exact du h q
  |exact h _ _ q
  |exact q.elim
theorem GJ{fz:Bool}{a y:D}(h:∀d G',k d G'->k' d G')(q:iB fz a y G k):iB fz a y G k':=by
 unfold iB at q ⊢;split at q
 ·exact ⟨q.1,du h q.2⟩
 ·exact ⟨q.1,h _ _ q.2⟩
 ·exact q.elim
theorem GK{f:Bf}{as:List D}{k k':D->Prop}(h:∀c,k c->k' c)(q:opB f as k):opB f as k':=by
 cases f with
 |len=>simp only[opB,yp]at q ⊢;split at q <;> first |exact h _ q |exact q.elim
 |all=>
  simp only[opB,sU]at q ⊢;split at q
  ·split at q
   ·exact h _ q
   ·exact q
  ·exact q
 |int=>
  simp only[opB,sV]at q ⊢;split at q
  ·exact h _ q
  ·exact h _ q
  ·split at q
   ·exact ⟨q.1,h _ q.2⟩
   ·exact q
  ·exact q
 |tuple=>simp only[opB,yq]at q ⊢;split at q <;> first |exact h _ q |exact q.elim
 |sum=>
  simp only[opB,sW]at q ⊢;split at q
  ·split at q
   ·exact h _ q
   ·exact q
  ·exact q
 |min=>
  simp only[opB,lK]at q ⊢;split at q
  ·split at q
   ·exact ⟨q.1,λm h1 h2=>h _ (q.2 m h1 h2)⟩
   ·split at q
    ·exact λm h1 h2=>h _ (q m h1 h2)
    ·exact q
  ·exact q
 |max=>simp only[opB,Gw]at q ⊢;split at q <;> first |exact h _ q |exact q.elim
 |abs=>simp only[opB,Gu]at q ⊢;split at q <;> first |exact h _ q |exact q.elim
 |min2=>simp only[opB,Gv]at q ⊢;split at q <;> first |exact h _ q |exact q.elim
 |str=>
  simp only[opB,yr]at q ⊢;split at q
  ·exact ⟨q.1,h _ q.2⟩
  ·exact q
theorem GP{f:Lf}{as:List D}{k k':List D->Prop}(h:∀c,k c->k' c)(q:dg f as k):dg f as k':=by
 cases f with
 |list=>simp only[dg,yt]at q ⊢;split at q <;> first |exact h _ q |exact q.elim
 |sorted=>
  simp only[dg,sX]at q ⊢;split at q
  ·split at q
   ·exact ⟨q.1,λls p z=>h _ (q.2 ls p z)⟩
   ·exact q
  ·split at q
   ·exact ⟨q.1,λls p z=>h _ (q.2 ls p z)⟩
   ·exact q
  ·exact q
theorem iI{m:Mf}{o:D}{as:List D}(h:∀d G',k d G'->k' d G')(q:opM m o as G k):opM m o as G k':=by
 cases m with
 |join=>
  simp only[opM,sY]at q ⊢;split at q
  ·split at q
   ·exact ⟨q.1,h _ _ q.2⟩
   ·exact q
  ·exact q
 |append=>
  simp only[opM,sZ]at q ⊢;split at q
  ·split at q
   ·exact ⟨q.1,h _ _ q.2⟩
   ·exact q
  ·exact q
 |extend=>
  simp only[opM,jZ]at q ⊢;split at q
  ·split at q
   ·exact ⟨q.1,h _ _ q.2⟩
   ·exact q
  ·exact q
 |insert=>
  simp only[opM,tu]at q ⊢;split at q
  ·split at q
   ·exact ⟨q.1,q.2.1,q.2.2.1,h _ _ q.2.2.2⟩
   ·exact q
  ·exact q
 |pop=>
  simp only[opM,yu]at q ⊢;split at q
  ·split at q
   ·refine ⟨q.1,q.2.1,?_⟩;have q2:=q.2.2;split at q2
    ·exact h _ _ q2
    ·exact q2
   ·exact q
  ·exact q
 |count=>
  simp only[opM,tB]at q ⊢;split at q
  ·split at q
   ·exact h _ _ q
   ·exact q
  ·exact q
 |index=>
  simp only[opM,tD]at q ⊢;split at q
  ·split at q
   ·exact ⟨q.1,h _ _ q.2⟩
   ·exact q
  ·exact q
theorem uP{o i x:D}{k k':DH->Prop}(h:∀G',k G'->k' G')(q:fB o i x G k):fB o i x G k':=by
 unfold fB at q ⊢;split at q
 ·split at q
  ·split at q
   ·exact h _ q
   ·exact q
  ·exact q
 ·exact q
theorem uQ{op:Operator}{a b:D}{k k':D->Prop}(h:∀c,k c->k' c)(q:d7 op a b k):d7 op a b k':=by
 unfold d7 at q ⊢;split at q <;> first
  |exact h _ q
  |exact ⟨q.1,h _ q.2⟩
  |exact q.elim
mutual
theorem dI{k k':ak->Prop}(h:∀Y,k Y->k' Y):∀(t:Tg){d:D}{Y:ak},aY t d Y G k->aY t d Y G k'
 |.nm i,d,Y,q=>h _ q
 |.tp ts,d,Y,q=>by
  unfold aY at q ⊢;split at q
  ·exact zf h ts q
  ·exact zf h ts q
  ·exact q
theorem zf{k k':ak->Prop}(h:∀Y,k Y->k' Y):∀(ts:Tgs){ds:List D}{Y:ak},cg ts ds Y G k->cg ts ds Y G k'
 |.nil,ds,Y,q=>by
  unfold cg at q ⊢;split at q
  ·exact h _ q
  ·exact q
 |.cons t r,ds,Y,q=>by
  unfold cg at q ⊢;split at q
  ·exact dI (λρ' q'=>zf h r q') t q
  ·exact q
end
theorem uR{step step':D->ak->DH->(Option D->ak->DH->Prop)->Prop}(hs:∀d Y G (k k':Option D->ak->DH->Prop),(∀o ρ' G',k o ρ' G'->k' o ρ' G')->step d Y G k->step' d Y G k')
  {g:Hld} {k k':List D->DH->Prop} (h:∀ds G',k ds G'->k' ds G'):∀(ds acc:List D)(Y:ak)(G:DH),compLoop step g ds acc Y G k->compLoop step' g ds acc Y G k'
 |[],acc,Y,G,q=>⟨q.1,q.2.1,h _ _ q.2.2⟩
 |d::ds,acc,Y,G,q=>by
  refine ⟨q.1,q.2.1,hs d Y G _ _ (λo ρ' G' z=>?_) q.2.2⟩;cases o with
  |some y=>exact uR hs h ds (acc++[y]) ρ' G' z
  |none=>exact uR hs h ds acc ρ' G' z
theorem uT{step step':D->List D->ak->DH->(List D->ak->DH->Prop)->Prop}(hs:∀d acc Y G (k k':List D->ak->DH->Prop),(∀a ρ' G',k a ρ' G'->k' a ρ' G')->step d acc Y G k->step' d acc Y G k')
  {g:Hld} {k k':List D->ak->DH->Prop} (h:∀a Y G',k a Y G'->k' a Y G'):∀(ds acc:List D)(Y:ak)(G:DH),dG step g ds acc Y G k->dG step' g ds acc Y G k'
 |[],acc,Y,G,q=>⟨q.1,h _ _ _ q.2⟩
 |d::ds,acc,Y,G,q=>⟨q.1,hs d acc Y G _ _ (λa ρ' G' z=>uT hs h ds a ρ' G' z) q.2⟩
theorem GQ{step step':D->ak->DH->(ak->DH->Prop)->Prop}(hs:∀d Y G (k k':ak->DH->Prop),(∀ρ' G',k ρ' G'->k' ρ' G')->step d Y G k->step' d Y G k')
  {g:Hld} {k k':ak->DH->Prop} (h:∀Y G',k Y G'->k' Y G'):∀(ds:List D)(Y:ak)(G:DH),forLoop step g ds Y G k->forLoop step' g ds Y G k'
 |[],Y,G,q=>⟨q.1,h _ _ q.2⟩
 |d::ds,Y,G,q=>⟨q.1,hs d Y G _ _ (λρ' G' z=>GQ hs h ds ρ' G' z) q.2⟩
theorem GR{test test':ak->DH->(Bool->DH->Prop)->Prop}{body body':ak->DH->(ak->DH->Prop)->Prop}
  (ht:∀Y G (k k':Bool->DH->Prop),(∀b G',k b G'->k' b G')->test Y G k->test' Y G k') (hb:∀Y G (k k':ak->DH->Prop),(∀ρ' G',k ρ' G'->k' ρ' G')->body Y G k->body' Y G k')
  {k k':ak->DH->Prop} (h:∀Y G',k Y G'->k' Y G'):∀(n:Nat)(Y:ak)(G:DH),whileLoop test body n Y G k->whileLoop test' body' n Y G k'
 |0,Y,G,q=>q
 |n+1,Y,G,q=>ht Y G _ _ (λb G' z=>by
   cases b with
   |true=>exact hb Y G' _ _ (λρ' G'' z'=>GR ht hb h n ρ' G'' z') z
   |false=>exact h _ _ z) q
end
section
variable {Z:aj} {G:DH}
mutual
theorem aD{E:EK}{Y:ak}:∀(x:Ex){G:DH}{k k':D->DH->Prop},(∀d G',k d G'->k' d G')->wpE Z x E Y G k->wpE Z x E Y G k'
 |.var i,G,k,k',h,q=>by
  rw[ud]at q ⊢;split at q
  ·exact h _ _ q
  ·exact q
 |.cst d,G,k,k',h,q=>by rw[jr]at q ⊢;exact h _ _ q
 |.glb x d,G,k,k',h,q=>by rw[ue]at q ⊢;exact h _ _ q
 |.bin op fz a b,G,k,k',h,q=>by
  rw[uf]at q ⊢;exact aD a (λ_ _ q=>aD b (λ_ _ q=>GC h q) q) q
 |.neg a,G,k,k',h,q=>by
  rw[ug]at q ⊢;refine aD a (λx _ q=>?_) q;split at q
  ·exact h _ _ q
  ·exact q
 |.cmp op a b,G,k,k',h,q=>by
  rw[lN]at q ⊢;exact aD a (λ_ _ q=>aD b (λ_ _ q=>jt (λ_ q=>h _ _ q) q) q) q
 |.chn op op' a b c,G,k,k',h,q=>by
  rw[lO]at q ⊢;refine aD a (λ_ _ q=>aD b (λ_ _ q=>jt (λt q=>?_) q) q) q;cases t with
  |true=>exact aD c (λ_ _ q=>jt (λ_ q=>h _ _ q) q) q
  |false=>exact h _ _ q
 |.not a,G,k,k',h,q=>by
  rw[uh]at q ⊢;refine aD a (λx _ q=>?_) q;split at q
  ·exact h _ _ q
  ·exact q
 |.boo isAnd e es,G,k,k',h,q=>by
  rw[um]at q ⊢;refine aD e (λx _ q=>?_) q;split at q
  ·exact uU es (λ_ _ q=>h _ _ q) q
  ·exact q
 |.ife c a b,G,k,k',h,q=>by
  rw[uo]at q ⊢;refine dh c (λt _ q=>?_) q;cases t with
  |true=>exact aD a h q
  |false=>exact aD b h q
 |.tup es,G,k,k',h,q=>by
  rw[uq]at q ⊢;exact cQ es (λ_ _ q=>⟨q.1,h _ _ q.2⟩) q
 |.lst fz es,G,k,k',h,q=>by
  rw[ur]at q ⊢;exact cQ es (λ_ _ q=>⟨q.1,du h q.2⟩) q
 |.idx a i,G,k,k',h,q=>by
  rw[ut]at q ⊢;exact aD a (λ_ _ q=>aD i (λ_ _ q=>lR (λ_ q=>h _ _ q) q) q) q
 |.slc fz a lo hi,G,k,k',h,q=>by
  rw[uw]at q ⊢;exact aD a (λ_ _ q=>zj lo (λ_ _ q=>zj hi (λ_ _ q=>GF h q) q) q) q
 |.rvs fz a s,G,k,k',h,q=>by
  rw[uv]at q ⊢;exact aD a (λ_ _ q=>aD s (λ_ _ q=>GJ h q) q) q
 |.call f es,G,k,k',h,q=>by
  rw[ux]at q ⊢;exact cQ es (λ_ _ q=>Spec.mono q h λ_ _ z=>z) q
 |.bcl f es,G,k,k',h,q=>by
  rw[uy]at q ⊢;exact cQ es (λ_ _ q=>GK (λ_ q=>h _ _ q) q) q
 |.lcl fz f es,G,k,k',h,q=>by
  rw[uz]at q ⊢;exact cQ es (λ_ _ q=>GP (λ_ q=>du h q) q) q
 |.isi a t,G,k,k',h,q=>by
  rw[uA]at q ⊢;refine aD a (λx _ q=>?_) q;split at q
  ·exact h _ _ q
  ·exact q
 |.isx a C xs,G,k,k',h,q=>by
  rw[yG]at q ⊢;refine aD a (λx _ q=>?_) q;split at q
  ·exact ⟨q.1,h _ _ q.2⟩
  ·exact q
 |.rgl fz a,G,k,k',h,q=>by
  rw[yH]at q ⊢;refine aD a (λd _ q=>?_) q;split at q
  ·exact ⟨q.1,du h q.2⟩
  ·exact q
 |.rpl f a b ix,G,k,k',h,q=>by
  rw[abm]at q ⊢;refine aD a (λ_ _ q=>aD b (λ_ _ q=>lR (λ_ q=>Spec.mono q (λd G3 q=>?_) λ_ _ z=>z) q) q) q;unfold yC at q ⊢;split at q
  ·refine ⟨q.1,aD ix (λi G4 q=>?_) q.2⟩;unfold yD at q ⊢;split at q
   ·split at q
    ·exact h _ _ q
    ·exact q
   ·exact q
  ·exact q
 |.fld C f o,G,k,k',h,q=>by
  rw[yI]at q ⊢;refine aD o (λd _ q=>?_) q;unfold yx at q ⊢;split at q
  ·exact ⟨q.1,q.2.1,h _ _ q.2.2⟩
  ·exact q
 |.mcl f C m o es,G,k,k',h,q=>by
  rw[yJ]at q ⊢;exact aD o (λd _ q=>⟨q.1,cQ es (λ_ _ q=>Spec.mono q h λ_ _ z=>z) q.2⟩) q
 |.mko C es,G,k,k',h,q=>by
  rw[yK]at q ⊢;exact cQ es (λ_ _ q=>Spec.mono q h λ_ _ z=>z) q
 |.pp0 o,G,k,k',h,q=>by
  rw[yL]at q ⊢;refine aD o (λd _ q=>?_) q;unfold yz at q ⊢;split at q
  ·split at q
   ·split at q
    ·exact h _ _ q
    ·exact q
   ·exact q
  ·exact q
 |.rgt a,G,k,k',h,q=>by
  rw[yM]at q ⊢;refine aD a (λd _ q=>?_) q;split at q
  ·exact ⟨q.1,h _ _ q.2⟩
  ·exact q
 |.fst es,G,k,k',h,q=>by
  rw[yN]at q ⊢;exact zg es (λ_ _ q=>⟨q.1,h _ _ q.2⟩) q
 |.mth m o es,G,k,k',h,q=>by
  rw[gb]at q ⊢;exact aD o (λ_ _ q=>⟨q.1,cQ es (λ_ _ q=>iI h q) q.2⟩) q
 |.comp fz elt tg it cond N cap,G,k,k',h,q=>by
  rw[zb]at q ⊢;refine gf it (λitems g G1 q=>?_) q;refine uR ?_ (λds G2 z=>du h z) items [] _ G1 q;intro d ρ' G' k k' hk z;refine dI (λρ1 z=>?_) tg z;refine dh cond (λb G2 z=>?_) z;cases b with
  |true=>exact aD elt (λy G3 z=>hk _ _ _ z) z
  |false=>exact hk _ _ _ z
 |.cm3 elt t1 i1 t2 i2 t3 i3 N cap,G,k,k',h,q=>by
  rw[zc]at q ⊢;refine gf i1 (λitems g G1 q=>?_) q;refine uT ?_ (λds _ G2 z=>⟨z.1,du h z.2⟩) items [] _ G1 q;intro d acc ρ' G' k k' hk z;refine dI (λρ1 z=>gf i2 (λitems g G1 q=>?_) z) t1 z;refine uT ?_ hk items _ _ G1 q;intro d acc ρ' G' k k' hk z;refine dI (λρ1 z=>gf i3 (λitems g G1 q=>?_) z) t2 z;refine uT ?_ hk items _ _ G1 q;intro d acc ρ' G' k k' hk z;exact dI (λρ1 z=>⟨z.1,aD elt (λy G3 z=>hk _ _ _ z) z.2⟩) t3 z
 |.frz a,G,k,k',h,q=>by
  rw[uB]at q ⊢;refine aD a (λx G1 q=>?_) q;split at q
  ·split at q
   ·exact h _ _ q
   ·exact q
  ·exact h _ _ q
theorem dh{E:EK}{Y:ak}:∀(x:Tx){G:DH}{k k':Bool->DH->Prop},(∀d G',k d G'->k' d G')->wpT Z x E Y G k->wpT Z x E Y G k'
 |.not a,G,k,k',h,q=>by rw[tM]at q ⊢;exact dh a (λ_ _ q=>h _ _ q) q
 |.boo isAnd e es,G,k,k',h,q=>by rw[tQ]at q ⊢;exact dh e (λ_ _ q=>uV es h q) q
 |.yes,G,k,k',h,q=>by rw[tR]at q ⊢;exact h _ _ q
 |.val a,G,k,k',h,q=>by
  rw[j0]at q ⊢;refine aD a (λx _ q=>?_) q;split at q
  ·exact h _ _ q
  ·exact q
theorem zg{E:EK}{Y:ak}:∀(x:Exs){G:DH}{k k':List Nat->DH->Prop},(∀d G',k d G'->k' d G')->wpF Z x E Y G k->wpF Z x E Y G k'
 |.nil,G,k,k',h,q=>by rw[yO]at q ⊢;exact h _ _ q
 |.cons e es,G,k,k',h,q=>by
  rw[yP]at q ⊢;refine aD e (λd _ q=>?_) q;split at q
  ·exact ⟨q.1,zg es (λ_ _ q=>h _ _ q) q.2⟩
  ·exact ⟨q.1,zg es (λ_ _ q=>h _ _ q) q.2⟩
  ·exact q
theorem cQ{E:EK}{Y:ak}:∀(x:Exs){G:DH}{k k':List D->DH->Prop},(∀d G',k d G'->k' d G')->aR Z x E Y G k->aR Z x E Y G k'
 |.nil,G,k,k',h,q=>by rw[jq]at q ⊢;exact h _ _ q
 |.cons e es,G,k,k',h,q=>by rw[iG]at q ⊢;exact aD e (λ_ _ q=>cQ es (λ_ _ q=>h _ _ q) q) q
theorem uU{E:EK}{Y:ak}:∀(x:Exs){isAnd b:Bool}{G:DH}{k k':Bool->DH->Prop},(∀d G',k d G'->k' d G')->wpB Z x isAnd b E Y G k->wpB Z x isAnd b E Y G k'
 |.nil,_,_,G,k,k',h,q=>by rw[tU]at q ⊢;exact h _ _ q
 |.cons e es,isAnd,b,G,k,k',h,q=>by
  rw[lL]at q ⊢;cases isAnd <;> cases b <;> first
   |exact h _ _ q
   | (refine aD e (λd _ q=>?_) q
      split at q
      ·exact uU es h q
      ·exact q)
theorem uV{E:EK}{Y:ak}:∀(x:Txs){isAnd b:Bool}{G:DH}{k k':Bool->DH->Prop},(∀d G',k d G'->k' d G')->gR Z x isAnd b E Y G k->gR Z x isAnd b E Y G k'
 |.nil,_,_,G,k,k',h,q=>by rw[tV]at q ⊢;exact h _ _ q
 |.cons e es,isAnd,b,G,k,k',h,q=>by
  rw[lM]at q ⊢;cases isAnd <;> cases b <;> first
   |exact h _ _ q
   |exact dh e (λd _ q=>uV es h q) q
theorem zj{E:EK}{Y:ak}:∀(x:Ox){G:DH}{k k':Option Int->DH->Prop},(∀d G',k d G'->k' d G')->wpO Z x E Y G k->wpO Z x E Y G k'
 |.no,G,k,k',h,q=>by rw[tW]at q ⊢;exact h _ _ q
 |.ob a,G,k,k',h,q=>by
  rw[tX]at q ⊢;refine aD a (λx _ q=>?_) q;split at q
  ·exact h _ _ q
  ·exact q
theorem gf{E:EK}{Y:ak}:∀(x:It'){G:DH}{k k':List D->Hld->DH->Prop},(∀d g G',k d g G'->k' d g G')->wpI Z x E Y G k->wpI Z x E Y G k'
 |.seq a,G,k,k',h,q=>by
  rw[tY]at q ⊢;refine aD a (λx _ q=>?_) q;split at q
  ·exact h _ _ _ q
  ·exact q
 |.rng a,G,k,k',h,q=>by
  rw[tZ]at q ⊢;refine aD a (λx _ q=>?_) q;split at q
  ·exact ⟨q.1,h _ _ _ q.2⟩
  ·exact q
 |.rev a,G,k,k',h,q=>by
  rw[t7]at q ⊢;refine aD a (λx _ q=>?_) q;split at q
  ·exact ⟨q.1,h _ _ _ q.2⟩
  ·exact q
 |.dwn a b d,G,k,k',h,q=>by
  rw[yF]at q ⊢;refine aD a (λx _ q=>aD b (λy _ q=>aD d (λz _ q=>?_) q) q) q;split at q
  ·exact ⟨q.1,h _ _ _ q.2⟩
  ·exact q
 |.rng2 a b,G,k,k',h,q=>by
  rw[t6]at q ⊢;refine aD a (λx _ q=>aD b (λy _ q=>?_) q) q;split at q
  ·exact ⟨q.1,h _ _ _ q.2⟩
  ·exact q
 |.enm a,G,k,k',h,q=>by
  rw[t8]at q ⊢;refine aD a (λx _ q=>?_) q;split at q
  ·exact h _ _ _ q
  ·exact q
 |.zip a b,G,k,k',h,q=>by
  rw[uc]at q ⊢;refine aD a (λx _ q=>aD b (λy _ q=>?_) q) q;split at q
  ·exact h _ _ _ q
  ·exact q
end
structure En.Le(D D':En):Prop where
 nx:∀Y G,D.nx Y G->D'.nx Y G
 rt:∀d G,D.rt d G->D'.rt d G
 bk:∀Y G,D.bk Y G->D'.bk Y G
 ct:∀Y G,D.ct Y G->D'.ct Y G
theorem zm:∀(b:Tb){Y:ak}{G:DH}{nx nx':ak->DH->Prop}{ex ex':Xn->ak->DH->Prop},(∀Y G,nx Y G->nx' Y G)->(∀x Y G,ex x Y G->ex' x Y G)->wpX Z b Y G nx ex->wpX Z b Y G nx' ex'
 |.call f es,Y,G,nx,nx',ex,ex',h,h',q=>by rw[yX]at q ⊢;exact cQ es (λ_ _ q=>Spec.mono q (λ_ _ z=>h _ _ z) λ_ _ z=>h' _ _ _ z) q
 |.pick f g i es,Y,G,nx,nx',ex,ex',h,h',q=>by
  rw[yU]at q ⊢;exact aD (.var i) (λ_ _ q=>let ⟨b,e,q⟩:=q;⟨b,e,cQ es (λ_ _ q=>Spec.mono q (λ_ _ z=>h _ _ z) λ_ _ z=>h' _ _ _ z) q⟩) q
 |.mcl f C m o es,Y,G,nx,nx',ex,ex',h,h',q=>by
  rw[yV]at q ⊢;exact aD o (λ_ _ q=>⟨q.1,cQ es (λ_ _ q=>Spec.mono q (λ_ _ z=>h _ _ z) λ_ _ z=>h' _ _ _ z) q.2⟩) q
 |.mko C es,Y,G,nx,nx',ex,ex',h,h',q=>by rw[yW]at q ⊢;exact cQ es (λ_ _ q=>Spec.mono q (λ_ _ z=>h _ _ z) λ_ _ z=>h' _ _ _ z) q
 |.asg i f es,Y,G,nx,nx',ex,ex',h,h',q=>by rw[yZ]at q ⊢;exact cQ es (λ_ _ q=>Spec.mono q (λ_ _ z=>h _ _ z) λ_ _ z=>h' _ _ _ z) q
 |.ite c a b,Y,G,nx,nx',ex,ex',h,h',q=>by
  rw[za]at q ⊢;refine dh c (λt _ q=>?_) q;cases t with
  |true=>exact zm a h h' q
  |false=>exact zm b h h' q
mutual
theorem wpS_mono{E:EK}:∀(x:Sx){Y:ak}{G:DH}{D D':En},D.Le D'->wpS Z x E Y G D->wpS Z x E Y G D'
 |.exp e,Y,G,D,D',h,q=>by rw[uC]at q ⊢;exact aD e (λ_ _ q=>h.nx _ _ q) q
 |.asg t e,Y,G,D,D',h,q=>by rw[iH]at q ⊢;exact aD e (λ_ _ q=>dI (λ_ q=>h.nx _ _ q) t q) q
 |.set o i e,Y,G,D,D',h,q=>by rw[uD]at q ⊢;exact aD e (λ_ _ q=>aD o (λ_ _ q=>aD i (λ_ _ q=>uP (λ_ q=>h.nx _ _ q) q) q) q) q
 |.aug i op e,Y,G,D,D',h,q=>by
  rw[uE]at q ⊢;split at q
  ·exact aD e (λ_ _ q=>uQ (λ_ q=>h.nx _ _ q) q) q
  ·exact q
 |.augs o i op e,Y,G,D,D',h,q=>by
  rw[uF]at q ⊢;exact aD o (λ_ _ q=>aD i (λ_ _ q=>lR (λ_ q=>aD e (λ_ _ q=>uQ (λ_ q=>uP (λ_ q=>h.nx _ _ q) q) q) q) q) q) q
 |.ret e,Y,G,D,D',h,q=>by rw[uG]at q ⊢;exact aD e (λ_ _ q=>h.rt _ _ q) q
 |.rtn,Y,G,D,D',h,q=>by rw[uH]at q ⊢;exact h.rt _ _ q
 |.ite c a b,Y,G,D,D',h,q=>by
  rw[uI]at q ⊢;refine dh c (λt _ q=>?_) q;cases t with
  |true=>exact dJ a h q
  |false=>exact dJ b h q
 |.for_ t it body,Y,G,D,D',h,q=>by
  rw[Gx]at q ⊢;exact gf it (λitems g G1 q=>GQ (λd ρ' G' k k' hk z=>dI (λρ1 z=>dJ body (D:={ D with nx:=k,ct:=k,bk:=D.nx }) (D':={ D' with nx:=k',ct:=k',bk:=D'.nx }) ⟨hk,h.rt,h.nx,hk⟩ z) t z) h.nx items Y G1 q) q
 |.whl c body,Y,G,D,D',h,q=>by
  rw[Gy]at q ⊢;obtain ⟨n,q⟩:=q;refine ⟨n,?_⟩;refine GR ?_ ?_ h.nx n Y G q
  ·exact λρ' G' k k' hk z=>dh c hk z
  ·exact λρ' G' k k' hk z=>dJ body (D:={ D with nx:=k,ct:=k,bk:=D.nx }) (D':={ D' with nx:=k',ct:=k',bk:=D'.nx }) ⟨hk,h.rt,h.nx,hk⟩ z
 |.pas,Y,G,D,D',h,q=>by rw[uJ]at q ⊢;exact h.nx _ _ q
 |.brk,Y,G,D,D',h,q=>by rw[uK]at q ⊢;exact h.bk _ _ q
 |.cnt,Y,G,D,D',h,q=>by rw[uL]at q ⊢;exact h.ct _ _ q
 |.nev,Y,G,D,D',h,q=>by rw[uN]at q;exact q.elim
 |.rse C es,Y,G,D,D',h,q=>by rw[lQ]at q ⊢;exact q
 |.tryc f es C i b,Y,G,D,D',h,q=>by rw[yR]at q ⊢;exact cQ es (λ_ _ q=>Spec.mono q (λ_ _ z=>h.nx _ _ z) λ_ _ z=>⟨z.1,z.2.1,h.nx _ _ z.2.2⟩) q
 |.tryx b C hd xs,Y,G,D,D',h,q=>by rw[yS]at q ⊢;exact zm b (λ_ _ z=>h.nx _ _ z) (λ_ _ _ z=>⟨z.1,z.2.1,z.2.2.1,h.nx _ _ z.2.2.2⟩) q
theorem dJ{E:EK}:∀(x:Sxs){Y:ak}{G:DH}{D D':En},D.Le D'->au Z x E Y G D->au Z x E Y G D'
 |.nil,Y,G,D,D',h,q=>by rw[j4]at q ⊢;exact h.nx _ _ q
 |.cons s r,Y,G,D,D',h,q=>by rw[j5]at q ⊢;exact wpS_mono s (D:={ D with nx:=λρ' G'=>au Z r E ρ' G' D }) (D':={ D' with nx:=λρ' G'=>au Z r E ρ' G' D' }) ⟨λ_ _ z=>dJ r h z,h.rt,h.bk,h.ct⟩ q
end
end
def PV(K:PF)(H:Hp)(F:FZ)(Q:VK):D->DH->Prop:=λd G'=>∀H' F' v,Ext H F H' F'->R K H' F' G'->Rep K H' F' d v->Q v H'
def PB(K:PF)(H:Hp)(F:FZ)(Q:Bool->Hp->Prop):Bool->DH->Prop:=λb G'=>∀H' F',Ext H F H' F'->R K H' F' G'->Q b H'
def PLs(K:PF)(H:Hp)(F:FZ)(Q:List V->Hp->Prop):List D->DH->Prop:=λds G'=>∀H' F' vs,Ext H F H' F'->R K H' F' G'->Reps K H' F' ds vs->Q vs H'
section
variable {K:PF} {H:Hp} {F:FZ} {G:DH} {Q:VK}
theorem PV.now{d:D}{v:V}(h:PV K H F Q d G)(r:R K H F G)(q:Rep K H F d v):Q v H:=h H F v (Ext.refl H F) r q
theorem fG{fz:Bool}{ds:List D}{vs:List V}(h:mk fz ds G (PV K H F Q))(r:R K H F G)(t:Reps K H F ds vs)(p:Addr)(hp:H p=none):Q (.ref p) (upd H p (.lst vs)):=by
 cases fz with
 |true=>exact h _ _ _ (yl r hp) (r.newF hp) (abj r hp t)
 |false=>exact h p (r.free hp) _ _ _ (fX r hp) (r.newL hp t) rfl
theorem j6{ds:List D}{vs:List V}(h:PV K H F Q (.tup ds) G)(r:R K H F G)(t:Reps K H F ds vs)(p:Addr)(hp:H p=none):Q (.ref p) (upd H p (.tup vs)):=
 h _ _ _ (fX r hp) (r.new hp) (ym r hp t)
end
theorem szl:sz<=sizeLine:=by rw[sizeLine_eq];decide
theorem cX{n:Nat}(h:n<=sz):n<=sizeLine:=cp h szl
def rB2(K:PF)(f:D->D->DH->(D->DH->Prop)->Prop):R2:=λx y H Q=>∃F G a b,R K H F G/\Rep K H F a x/\Rep K H F b y/\f (view G a) (view G b) G (PV K H F Q)
section
variable {X:Cx}
theorem abn:OpR X (binaryOp .Add) (λx y H Q=>∃a b xs ys,x=.ref a/\y=.ref b/\SqL X.K H a xs/\SqL X.K H b ys/\xs.length+ys.length<=sizeLine/\∀p,H p=none->Q (.ref p) (upd H p (.lst (xs++ys)))):=by
 intro pins s Y H x y v u Q I rx ry h;obtain ⟨a,b,xs,ys,rfl,rfl,ha,hb,hz,q⟩:=h;cases rx;cases ry;obtain ⟨its,r1,p1,_⟩:=I.list ha;obtain ⟨its2,r2,p2,_⟩:=I.list hb;obtain ⟨⟨cls,dd,data,sl⟩,ho,hc,n,hd⟩:=p1.isList;obtain ⟨⟨cls2,dd2,data2,sl2⟩,ho2,hc2,n2,hd2⟩:=p2.isList;simp only at hc hd hc2 hd2;subst hc hd hc2 hd2;have e:its.toArray++its2.toArray=(its++its2).toArray:=by simp
 refine concat_meets ⟨_,ho,rfl⟩ ⟨_,ho2,rfl⟩ noFill_list_add seq_list_add PySem.F.slot_list_add PySem.F.entry_list_add (PySem.F.args_list_add_2 _ _)
  (list_addW a b its.toArray its2.toArray n n2 dd dd2 sl sl2 (by rw[aw,aw,<-r1.length,<-r2.length];exact hz)) ⟨ho,ho2,?_⟩
 rw[e];exact ⟨.ref _,_,I.lnew (t':=s.toks) (r1.append r2) (by rw[aE];exact hz),rfl,q _ I.fresh⟩
theorem abo:OpR X (binaryOp .Add) (λx y H Q=>∃a b ys,x=.ref a/\y=.ref b/\SqT X.K H a []/\SqT X.K H b ys/\Q (.ref b) H):=by
 intro pins s Y H x y v u Q I rx ry h;obtain ⟨a,b,ys,rfl,rfl,ha,hb,q⟩:=h;cases rx;cases ry;obtain ⟨its,r1,p1,_⟩:=I.tuple ha;obtain ⟨its2,r2,p2,_⟩:=I.tuple hb;obtain ⟨⟨cls,dd,data,sl⟩,ho,hc,n,hd⟩:=id p1;obtain ⟨⟨cls2,dd2,data2,sl2⟩,ho2,hc2,n2,hd2⟩:=id p2;simp only at hc hd hc2 hd2;subst hc hd hc2 hd2;cases r1;exact concat_meets ⟨_,ho,rfl⟩ ⟨_,ho2,rfl⟩ noFill_tuple_add seq_tuple_add PySem.F.slot_tuple_add PySem.F.entry_tuple_add (PySem.F.args_tuple_add_2 _ _)
   (tuple_addW0 a b _ its2.toArray n n2 dd dd2 sl sl2 (by simp)) ⟨ho,ho2,⟨.ref b,H,I,rfl,q⟩⟩
theorem zp{K:PF}{H:Hp}{F:FZ}{ds:List D}{vs:List V}(t:Reps K H F ds vs):ds=[]↔vs=[]:=by
 have:=t.length;constructor
 ·intro e;subst e;exact ee.mp this.symm
 ·intro e;subst e;exact ee.mp this
theorem abp{x:Str}{n:Nat}(h1:n<=1000)(h:x.length * n<=sz):MulOk x (n:Int):=by
 have h2:((x.length * n:Nat):Int)<=((1000000:Nat):Int):=Int.ofNat_le.mpr h;rw[Int.natCast_mul]at h2;refine ⟨?_,?_,?_⟩
 ·rw[cy (by omega),cy (by omega)];rfl
 ·intro hn _ hh;have hp:(0:Int) < n:=by omega
  have h3:(x.length:Int)<=(2 ^ 63 - 1) / n:=(Int.le_ediv_iff_mul_le hp).mpr (Int.le_trans h2 (by decide));exact absurd hh (Int.not_lt.mpr h3)
 ·intro _ _;unfold Builtin.Str.tooLong;rw[sizeLine_eq,dr];exact cy (by have:sz=1000000:=rfl;omega)
theorem GX(l:List Nat):∀(n:Nat)(acc:List Nat),(List.replicate n l.toArray).foldl (· ++ ·) acc.toArray=(acc++reps l n).toArray
 |0,acc=>by simp[reps]
 |n+1,acc=>by
  rw[de,List.foldl_cons];have e:acc.toArray++l.toArray=(acc++l).toArray:=by simp
  rw[e,GX l n (acc++l)];unfold reps;rw[de,fw,eR]
theorem abq(n:Nat):reps ([]:List Nat) n=[]:=by
 unfold reps;induction n with
 |zero=>rfl
 |succ n ih=>rw[de,fw,ih];rfl
theorem abr{α:Type}(l:List α)(n:Nat):(reps l n).length=n * l.length:=len_rep l n
theorem abt(l:List Nat)(n:Nat):Txt.mul (tx l) (n:Int)=tx (reps l n):=by
 unfold Txt.mul;by_cases h:(n:Int) < 1
 ·rw[if_pos h];have:n=0:=by omega
  subst this;rfl
 ·rw[if_neg h];by_cases h2:((n:Int)==1||(tx l).length==0)=true
  ·rw[if_pos h2];rw[dP]at h2;rcases h2 with h2 |h2
   ·have:n=1:=by have:=eq_of_beq h2;omega
    subst this;simp[reps]
   ·have h3:=eq_of_beq h2;rw[cA]at h3;have:l=[]:=ee.mp h3;subst this;rw[abq]
  ·rw[if_neg h2];have e:=GX l n [];rw[fS]at e;exact fE Str.mk (by simpa using e)
theorem abu(op:Operator)(fz:Bool):OpR X (binaryOp op) (rB2 X.K (cP op fz)):=by
 intro pins s Y H x y v u Q I rx ry h;obtain ⟨F,G,a,b,r,ra,rb,h⟩:=h;generalize ea:view G a=va at h;generalize eb:view G b=vb at h;have twoI:∀{p:Int->Int->Prop},iz va vb p->∃i j,x=.int i/\y=.int j/\p i j:=λ{p} h=>by
  obtain ⟨i,j,rfl,rfl,h⟩:=Gz h;cases eY ea;cases eY eb;exact ⟨i,j,ra,rb,h⟩
 cases op with
 |Add=>
  have h:jQ fz va vb G _:=h;unfold jQ at h;cases va with
  |int _=>cases vb with
   |int _=>
    cases eY ea;cases eY eb;have ha:x=.int _:=ra;have hb:y=.int _:=rb;subst ha;subst hb;exact YC pins s Y H _ _ v u Q I rx ry ⟨_,_,rfl,rfl,h.now r rfl⟩
   |_=>exact h.elim
  |str _=>cases vb with
   |str _=>
    cases gO ea;cases gO eb;obtain ⟨ha,la⟩:=ra;obtain ⟨hb,lb⟩:=rb;subst ha;subst hb;refine Y4 pins s Y H _ _ v u Q I rx ry ⟨_,_,rfl,rfl,?_,?_⟩
    ·rw[cA,cA];exact cX h.1
    ·rw[sJ];exact h.2.now r ⟨rfl,by rw[aE];exact h.1⟩
   |_=>exact h.elim
  |lst _=>cases vb with
   |lst _=>
    obtain ⟨p,vs,rfl,q1,t1⟩:=Rep.list r ra ea;obtain ⟨p',vs',rfl,q2,t2⟩:=Rep.list r rb eb;exact abn pins s Y H _ _ v u Q I rx ry ⟨p,p',vs,vs',rfl,rfl,q1,q2,by rw[<-t1.length,<-t2.length];exact cX h.1,fG h.2 r (t1.append t2)⟩
   |_=>exact h.elim
  |tup xs=>cases vb with
   |tup ys=>
    cases fY ea;cases fY eb;obtain ⟨p,vs,rfl,q1,t1⟩:=id ra;obtain ⟨p',vs',rfl,q2,t2⟩:=id rb;by_cases hx:vs=[]
    ·subst hx;have:xs=[]:=(zp t1).mpr rfl;subst this;exact abo pins s Y H _ _ v u Q I rx ry ⟨p,p',vs',rfl,rfl,q1.sq,q2.sq,h.2.now r rb⟩
    ·refine Zz pins s Y H _ _ v u Q I rx ry ⟨p,p',vs,vs',rfl,rfl,q1.sq,q2.sq,hx,by rw[<-t1.length,<-t2.length];exact cX h.1,λe=>?_,λ_=>j6 h.2 r (t1.append t2)⟩;subst e;have:ys=[]:=(zp t2).mpr rfl;subst this;have h2:=h.2;rw[eg]at h2;exact h2.now r ra
   |_=>exact h.elim
  |_=>exact h.elim
 |Sub=>
  obtain ⟨i,j,rfl,rfl,h⟩:=twoI h;exact YD pins s Y H _ _ v u Q I rx ry ⟨_,_,rfl,rfl,h.now r rfl⟩
 |Mult=>
  have h:jR fz va vb G _:=h;unfold jR at h;cases vb with
  |int _=>cases va with
   |int _=>
    cases eY ea;cases eY eb;have ha:x=.int _:=ra;have hb:y=.int _:=rb;subst ha;subst hb;exact YF pins s Y H _ _ v u Q I rx ry ⟨_,_,rfl,rfl,h.1,h.2.now r rfl⟩
   |str _=>
    cases gO ea;cases eY eb;obtain ⟨ha,la⟩:=ra;have hb:y=.int _:=rb;subst ha;subst hb;obtain ⟨h0,h1,h2,h3⟩:=h;obtain ⟨n,rfl⟩:=dQ h0;rw[dr]at h2 h3;refine aai pins s Y H _ _ v u Q I rx ry ⟨_,_,rfl,rfl,abp (by omega) (by rw[cA];exact h2),?_⟩;rw[abt];exact h3.now r ⟨rfl,by rw[abr,Nat.mul_comm];exact h2⟩
   |tup _=>
    cases fY ea;cases eY eb;obtain ⟨p,vs,rfl,q1,t1⟩:=ra;have hb:y=.int _:=rb;subst hb;obtain ⟨h0,h1,h2,h3,h4⟩:=h;refine aaZ pins s Y H _ _ v u Q I rx ry ⟨p,_,vs,rfl,rfl,q1.sq,λe=>h2 ((zp t1).mpr e),h0,h1,by rw[<-t1.length];exact cX h3,?_⟩;exact j6 h4 r (t1.rep _)
   |lst _=>
    cases eY eb;have hb:y=.int _:=rb;subst hb;obtain ⟨p,vs,rfl,q1,t1⟩:=ra.list r ea;obtain ⟨h0,h1,h2,h3⟩:=h;exact aa3 pins s Y H _ _ v u Q I rx ry ⟨p,_,vs,rfl,rfl,q1,h0,h1,by rw[<-t1.length];exact cX h2,fG h3 r (t1.rep _)⟩
   |_=>exact h.elim
  |_=>exact h.elim
 |FloorDiv=>
  obtain ⟨i,j,rfl,rfl,h⟩:=twoI h;exact aaR pins s Y H _ _ v u Q I rx ry ⟨_,_,rfl,rfl,h.1,h.2.now r rfl⟩
 |Mod=>
  obtain ⟨i,j,rfl,rfl,h⟩:=twoI h;exact YG pins s Y H _ _ v u Q I rx ry ⟨_,_,rfl,rfl,h.1,h.2.now r rfl⟩
 |Pow=>
  obtain ⟨i,j,rfl,rfl,h⟩:=twoI h;exact YH pins s Y H _ _ v u Q I rx ry ⟨_,_,rfl,rfl,h.1,h.2.now r rfl⟩
 |_=>exact h.elim
end
mutual
theorem j7:∀{d:D},nr d=true->deq d d=true
 |.non,_=>rfl
 |.bl b,_=>by simp[deq]
 |.int i,_=>by simp[deq]
 |.str l,_=>by simp[deq]
 |.tup xs,h=>by rw[deq];exact uW (by rw[nr]at h;exact h)
 |.lst xs,h=>by rw[deq];exact uW (by rw[nr]at h;exact h)
 |.ref a,h=>by rw[nr]at h;cases h
 |.scr a,h=>by rw[nr]at h;cases h
 |.exn a,h=>by rw[nr]at h;cases h
 |.obj _ _ _,h=>by rw[nr]at h;cases h
theorem uW:∀{ds:List D},nrs ds=true->b8 ds ds=true
 |[],_=>rfl
 |d::ds,h=>by
  rw[nrs,ae]at h;rw[b8,j7 h.1,uW h.2];rfl
end
theorem uX:∀(xs ys:List D),b8 xs ys=((List.range (min xs.length ys.length)).all (λj=>deq (xs.getD j .non) (ys.getD j .non))&&xs.length==ys.length)
 |[],[]=>rfl
 |[],y::ys=>by simp[b8]
 |x::xs,[]=>by simp[b8]
 |x::xs,y::ys=>by
  have e:min (x::xs).length (y::ys).length=(min xs.length ys.length)+1:=by simp only[cS];omega
  rw[b8,uX xs ys,e,List.range_succ_eq_map,List.all_cons,List.all_map];simp only[List.getD_cons_zero,cS,Bool.and_assoc];congr 1;congr 1;rw[ff];simp
theorem abv{xs ys:List D}(h:xs.length≠ys.length):b8 xs ys=false:=by rw[uX];rw[show (xs.length==ys.length)=false from eS.mpr h,hJ]
theorem lU:∀{xs:List D}{i:Nat},nrs xs=true->nr (xs.getD i .non)=true
 |[],_,_=>rfl
 |x::xs,0,h=>by rw[nrs,ae]at h;exact h.1
 |x::xs,i+1,h=>by rw[nrs,ae]at h;rw[List.getD_cons_succ];exact lU h.2
theorem lV:∀{xs:List D}{i:Nat},dpt (xs.getD i .non)<=bj xs
 |[],_=>ef _
 |x::xs,0=>by rw[bj,List.getD_cons_zero];omega
 |x::xs,i+1=>by rw[bj,List.getD_cons_succ];have:=@lV xs i;omega
section
variable {X:Cx} {pins:List (Addr×Obj)} {σ:L2.St} {H:Hp} {s:Shared} {F:FZ}
mutual
theorem uY(I:Inv X pins σ H s):∀{d d':D}{v:V},nr d=true->nr d'=true->Rep X.K H F d v->Rep X.K H F d' v->d=d'
 |.non,d',v,_,n',h,h'=>by
  have h:v=.non:=h;subst h;cases d' with
  |non=>rfl
  |bl _=>simp only[Rep]at h';cases h'
  |int _=>simp only[Rep]at h';cases h'
  |ref _=>simp only[Rep]at h';cases h'
  |scr _=>rw[nr]at n';cases n'
  |exn _=>rw[nr]at n';cases n'
  |obj _ _ _=>rw[nr]at n';cases n'
  |str _=>simp only[Rep]at h';obtain ⟨e,_⟩:=h';cases e
  |tup _=>simp only[Rep]at h';obtain ⟨_,_,e,_⟩:=h';cases e
  |lst _=>simp only[Rep]at h';obtain ⟨_,_,e,_⟩:=h';cases e
 |.bl b,d',v,_,n',h,h'=>by
  have h:v=.bl b:=h;subst h;cases d' with
  |non=>simp only[Rep]at h';cases h'
  |bl _=>simp only[Rep]at h';cases h';rfl
  |int _=>simp only[Rep]at h';cases h'
  |ref _=>simp only[Rep]at h';cases h'
  |scr _=>rw[nr]at n';cases n'
  |exn _=>rw[nr]at n';cases n'
  |obj _ _ _=>rw[nr]at n';cases n'
  |str _=>simp only[Rep]at h';obtain ⟨e,_⟩:=h';cases e
  |tup _=>simp only[Rep]at h';obtain ⟨_,_,e,_⟩:=h';cases e
  |lst _=>simp only[Rep]at h';obtain ⟨_,_,e,_⟩:=h';cases e
 |.int b,d',v,_,n',h,h'=>by
  have h:v=.int b:=h;subst h;cases d' with
  |non=>simp only[Rep]at h';cases h'
  |bl _=>simp only[Rep]at h';cases h'
  |int _=>simp only[Rep]at h';cases h';rfl
  |ref _=>simp only[Rep]at h';cases h'
  |scr _=>rw[nr]at n';cases n'
  |exn _=>rw[nr]at n';cases n'
  |obj _ _ _=>rw[nr]at n';cases n'
  |str _=>simp only[Rep]at h';obtain ⟨e,_⟩:=h';cases e
  |tup _=>simp only[Rep]at h';obtain ⟨_,_,e,_⟩:=h';cases e
  |lst _=>simp only[Rep]at h';obtain ⟨_,_,e,_⟩:=h';cases e
 |.str l,d',v,_,n',h,h'=>by
  obtain ⟨h,_⟩:=h;subst h;cases d' with
  |str l'=>
   obtain ⟨e,_⟩:=h';injection e with e;rw[Fg e]
  |non=>simp only[Rep]at h';cases h'
  |bl _=>simp only[Rep]at h';cases h'
  |int _=>simp only[Rep]at h';cases h'
  |ref _=>simp only[Rep]at h';cases h'
  |scr _=>rw[nr]at n';cases n'
  |exn _=>rw[nr]at n';cases n'
  |obj _ _ _=>rw[nr]at n';cases n'
  |tup _=>simp only[Rep]at h';obtain ⟨_,_,e,_⟩:=h';cases e
  |lst _=>simp only[Rep]at h';obtain ⟨_,_,e,_⟩:=h';cases e
 |.tup xs,d',v,n,n',h,h'=>by
  obtain ⟨a,vs,e,q,t⟩:=h;subst e;cases d' with
  |tup ys=>
   obtain ⟨a',vs',e,q',t'⟩:=h';injection e with e;subst e;have:=I.tuple_inj q.sq q'.sq;subst this;rw[nr]at n n';rw[zq I n n' t t']
  |lst ys=>
   obtain ⟨a',vs',e,q',t'⟩:=h';injection e with e;subst e;obtain ⟨its,_,⟨o,e1,c1,_⟩,_⟩:=I.tuple q.sq;obtain ⟨its',_,⟨o',n',e2,c2,_⟩,_⟩:=I.list q'.sq;rw[e1]at e2;cases e2;rw[c1]at c2;exact absurd c2 (by ac_rfl)
  |ref _=>rw[nr]at n';cases n'
  |scr _=>rw[nr]at n';cases n'
  |exn _=>rw[nr]at n';cases n'
  |obj _ _ _=>rw[nr]at n';cases n'
  |str _=>simp only[Rep]at h';obtain ⟨e,_⟩:=h';cases e
  |non=>simp only[Rep]at h';cases h'
  |bl _=>simp only[Rep]at h';cases h'
  |int _=>simp only[Rep]at h';cases h'
 |.lst xs,d',v,n,n',h,h'=>by
  obtain ⟨a,vs,e,q,t⟩:=h;subst e;cases d' with
  |lst ys=>
   obtain ⟨a',vs',e,q',t'⟩:=h';injection e with e;subst e;have:=I.list_inj q.sq q'.sq;subst this;rw[nr]at n n';rw[zq I n n' t t']
  |tup ys=>
   obtain ⟨a',vs',e,q',t'⟩:=h';injection e with e;subst e;obtain ⟨its,_,⟨o,e1,c1,_⟩,_⟩:=I.tuple q'.sq;obtain ⟨its',_,⟨o',n',e2,c2,_⟩,_⟩:=I.list q.sq;rw[e1]at e2;cases e2;rw[c1]at c2;exact absurd c2 (by ac_rfl)
  |ref _=>rw[nr]at n';cases n'
  |scr _=>rw[nr]at n';cases n'
  |exn _=>rw[nr]at n';cases n'
  |obj _ _ _=>rw[nr]at n';cases n'
  |str _=>simp only[Rep]at h';obtain ⟨e,_⟩:=h';cases e
  |non=>simp only[Rep]at h';cases h'
  |bl _=>simp only[Rep]at h';cases h'
  |int _=>simp only[Rep]at h';cases h'
 |.ref a,d',v,n,_,_,_=>by rw[nr]at n;cases n
 |.scr a,d',v,n,_,_,_=>by rw[nr]at n;cases n
 |.exn a,d',v,n,_,_,_=>by rw[nr]at n;cases n
 |.obj _ _ _,d',v,n,_,_,_=>by rw[nr]at n;cases n
theorem zq(I:Inv X pins σ H s):∀{ds ds':List D}{vs:List V},nrs ds=true->nrs ds'=true->Reps X.K H F ds vs->Reps X.K H F ds' vs->ds=ds'
 |[],[],_,_,_,_,_=>rfl
 |[],_::_,_,_,_,h,⟨v,r,e,_⟩=>by have h:_=[]:=h;rw[h]at e;cases e
 |_::_,[],_,_,_,⟨v,r,e,_⟩,h=>by have h:_=[]:=h;rw[h]at e;cases e
 |d::ds,d'::ds',_,n,n',⟨v,r,e,h,t⟩,⟨v',r',e',h',t'⟩=>by
  subst e;injection e' with e1 e2;subst e1;subst e2;rw[nrs,ae]at n n';rw[uY I n.1 n'.1 h h',zq I n.2 n'.2 t t']
end
theorem uZ{I:Inv X pins Y H s}{ds:List D}{vs:List V}{its:List Value}(t:Reps X.K H F ds vs)(r:Vals vs its)(j:Nat)(h:j < its.length):∃v,Rep X.K H F (ds.getD j .non) v/\RelV v its[j]:=by
 have hl:j < ds.length:=by rw[t.length,r.length];exact h
 have e1:ds[j]?=some (ds.getD j .non):=by rw[dc,a8 hl];rfl
 obtain ⟨v,e2,r2⟩:=t.get e1;obtain ⟨u,e3,r3⟩:=r.get e2;rw[a8 h]at e3;cases e3;exact ⟨v,r2,r3⟩
theorem abw(a b:List Nat):(tx a==tx b)=(a==b):=by rw[ff,a9,a9];exact ⟨λh=>Fg h,λh=>by rw[h]⟩
theorem abx(I:Inv X pins Y H s){n:Nat}{A:Around}{xs ys:List D}{a a':Addr}{vs vs':List V}{its its':List Value}
  (ih:∀m,m < n->∀(A:Around)(d d':D)(v v':V)(u u':Value),A.units+m < cLine->min (dpt d) (dpt d')<=m->nr d=true->nr d'=true->Rep X.K H F d v->Rep X.K H F d' v'->RelV v u->RelV v' u'->
   SeqAt.RcAt A s u u' (deq d d')/\SeqAt.EqAt A s u u' (deq d d')/\SeqAt.RcNeAt A s u u' (!deq d d'))
  (hu:A.units+n < cLine) (hd:min (dpt (.tup xs)) (dpt (.tup ys))<=n) (n1:nr (.tup xs)=true) (n2:nr (.tup ys)=true) (h:Rep X.K H F (.tup xs) (.ref a)) (h':Rep X.K H F (.tup ys) (.ref a'))
  (pt:s.heap.IsTuple a its.toArray) (pt':s.heap.IsTuple a' its'.toArray) (rv:Vals vs its) (rv':Vals vs' its') (tt:Reps X.K H F xs vs) (tt':Reps X.K H F ys vs'):
  SeqAt.RcAt A s (.ref a) (.ref a') (deq (.tup xs) (.tup ys))/\SeqAt.EqAt A s (.ref a) (.ref a') (deq (.tup xs) (.tup ys))/\SeqAt.RcNeAt A s (.ref a) (.ref a') (!deq (.tup xs) (.tup ys)):=by
 have hd':min (bj xs+1) (bj ys+1)<=n:=by rw[dpt,dpt]at hd;exact hd
 have hn1:nrs xs=true:=by rw[nr]at n1;exact n1
 have hn2:nrs ys=true:=by rw[nr]at n2;exact n2
 have l1:its.toArray.size=xs.length:=by rw[aw,<-rv.length,tt.length]
 have l2:its'.toArray.size=ys.length:=by rw[aw,<-rv'.length,tt'.length]
 have he:∀j (h1:j < its.toArray.size) (h2:j < its'.toArray.size),SeqAt.EqAt A.in1 s its.toArray[j] its'.toArray[j] (deq (xs.getD j .non) (ys.getD j .non)):=by intro j h1 h2;obtain ⟨w1,q1,q2⟩:=uZ (I:=I) tt rv j (by simpa using h1);obtain ⟨w2,q3,q4⟩:=uZ (I:=I) tt' rv' j (by simpa using h2);have d1:=@lV xs j;have d2:=@lV ys j;exact (ih (n - 1) (by omega) A.in1 _ _ w1 w2 _ _ (by show A.units+1+(n - 1) < cLine;omega) (by omega) (lU hn1) (lU hn2) q1 q3 (by simpa using q2) (by simpa using q4)).2.1
 have e:deq (.tup xs) (.tup ys)=((List.range (min its.toArray.size its'.toArray.size)).all (λj=>deq (xs.getD j .non) (ys.getD j .non))&&its.toArray.size==its'.toArray.size):=by rw[deq,uX,l1,l2]
 have rc:SeqAt.RcAt A s (.ref a) (.ref a') (deq (.tup xs) (.tup ys)):=by rw[e];exact .tuples pt pt' (by omega) he
 refine ⟨rc,?_,by rw[e];exact .tuples pt pt' (by omega) he⟩;by_cases z:a=a'
 ·subst z;have:=uY I n1 n2 h h';rw[<-this,j7 n1];exact .same _
 ·exact .of_refs z rc
theorem aby(I:Inv X pins Y H s){n:Nat}{A:Around}{xs ys:List D}{a a':Addr}{vs vs':List V}{its its':List Value}
  (ih:∀m,m < n->∀(A:Around)(d d':D)(v v':V)(u u':Value),A.units+m < cLine->min (dpt d) (dpt d')<=m->nr d=true->nr d'=true->Rep X.K H F d v->Rep X.K H F d' v'->RelV v u->RelV v' u'->
   SeqAt.RcAt A s u u' (deq d d')/\SeqAt.EqAt A s u u' (deq d d')/\SeqAt.RcNeAt A s u u' (!deq d d'))
  (hu:A.units+n < cLine) (hd:min (dpt (.lst xs)) (dpt (.lst ys))<=n) (n1:nr (.lst xs)=true) (n2:nr (.lst ys)=true) (h:a=a'->xs=ys)
  (pt:s.heap.IsList a its.toArray) (pt':s.heap.IsList a' its'.toArray) (rv:Vals vs its) (rv':Vals vs' its') (tt:Reps X.K H F xs vs) (tt':Reps X.K H F ys vs'):
  SeqAt.RcAt A s (.ref a) (.ref a') (deq (.lst xs) (.lst ys))/\SeqAt.EqAt A s (.ref a) (.ref a') (deq (.lst xs) (.lst ys))/\SeqAt.RcNeAt A s (.ref a) (.ref a') (!deq (.lst xs) (.lst ys)):=by
 have hd':min (bj xs+1) (bj ys+1)<=n:=by rw[dpt,dpt]at hd;exact hd
 have hn1:nrs xs=true:=by rw[nr]at n1;exact n1
 have hn2:nrs ys=true:=by rw[nr]at n2;exact n2
 have l1:its.toArray.size=xs.length:=by rw[aw,<-rv.length,tt.length]
 have l2:its'.toArray.size=ys.length:=by rw[aw,<-rv'.length,tt'.length]
 have eqs:∀(rc:SeqAt.RcAt A s (.ref a) (.ref a') (deq (.lst xs) (.lst ys))),SeqAt.EqAt A s (.ref a) (.ref a') (deq (.lst xs) (.lst ys)):=λrc=>by
  by_cases z:a=a'
  ·have:=h z;subst z;subst this;rw[j7 n1];exact .same _
  ·exact .of_refs z rc
 by_cases hl:xs.length=ys.length
 ·have he:∀j (h1:j < its.toArray.size) (h2:j < its'.toArray.size),SeqAt.EqAt A.in1 s its.toArray[j] its'.toArray[j] (deq (xs.getD j .non) (ys.getD j .non)):=by
   intro j h1 h2;obtain ⟨w1,q1,q2⟩:=uZ (I:=I) tt rv j (by simpa using h1);obtain ⟨w2,q3,q4⟩:=uZ (I:=I) tt' rv' j (by simpa using h2);have d1:=@lV xs j;have d2:=@lV ys j;exact (ih (n - 1) (by omega) A.in1 _ _ w1 w2 _ _ (by show A.units+1+(n - 1) < cLine;omega) (by omega) (lU hn1) (lU hn2) q1 q3 (by simpa using q2) (by simpa using q4)).2.1
  have e:deq (.lst xs) (.lst ys)=(List.range its.toArray.size).all (λj=>deq (xs.getD j .non) (ys.getD j .non)):=by rw[deq,uX,l1,hl,Nat.min_self];simp
  have rc:SeqAt.RcAt A s (.ref a) (.ref a') (deq (.lst xs) (.lst ys)):=by rw[e];exact .lists pt pt' (by rw[l1,l2];exact hl) (by omega) he
  exact ⟨rc,eqs rc,by rw[e];exact .lists pt pt' (by rw[l1,l2];exact hl) (by omega) he⟩
 ·have e:deq (.lst xs) (.lst ys)=false:=by rw[deq];exact abv hl
  have hne:(its.toArray.size != its'.toArray.size)=true:=by rw[l1,l2];simpa using hl
  have rc:SeqAt.RcAt A s (.ref a) (.ref a') (deq (.lst xs) (.lst ys)):=by rw[e];exact .lists_lengths pt pt' hne (by omega)
  exact ⟨rc,eqs rc,by rw[e];exact .lists_lengths pt pt' hne (by omega)⟩
theorem zr(I:Inv X pins Y H s):∀(n:Nat)(A:Around)(d d':D)(v v':V)(u u':Value),A.units+n < cLine->min (dpt d) (dpt d')<=n->nr d=true->nr d'=true->Rep X.K H F d v->Rep X.K H F d' v'->RelV v u->RelV v' u'->
  SeqAt.RcAt A s u u' (deq d d')/\SeqAt.EqAt A s u u' (deq d d')/\SeqAt.RcNeAt A s u u' (!deq d d'):=by
 intro n;induction n using Nat.strongRecOn with
 |_ n ih=>
  intro A d d' v v' u u' hu hd n1 n2 h h' r r';have hu0:A.units < cLine:=by omega
  cases d with
  |ref a=>rw[nr]at n1;cases n1
  |scr a=>rw[nr]at n1;cases n1
  |exn a=>rw[nr]at n1;cases n1
  |obj _ _ _=>rw[nr]at n1;cases n1
  |non=>
   have hv:v=.non:=h;subst hv;have hr:u=Value.none:=r;subst hr;cases d' with
   |ref a=>rw[nr]at n2;cases n2
   |scr a=>rw[nr]at n2;cases n2
   |exn a=>rw[nr]at n2;cases n2
   |obj _ _ _=>rw[nr]at n2;cases n2
   |non=>
    have hv:v'=.non:=h';subst hv;have hr:u'=Value.none:=r';subst hr;exact ⟨.none_none,.same _,.none_none⟩
   |bl b'=>
    have hv:v'=.bl b':=h';subst hv;have hr:u'=Value.bool b':=r';subst hr;exact ⟨.none_bool b',.none_bool b',.none_bool b'⟩
   |int i'=>
    have hv:v'=.int i':=h';subst hv;obtain ⟨t',hr⟩:∃t',u'=Value.int i' t':=r';subst hr;exact ⟨.none_int i' t',.none_int i' t',.none_int i' t'⟩
   |str l'=>
    obtain ⟨hv,_⟩:=h';subst hv;obtain ⟨t',hr⟩:∃t',u'=Value.str (tx l') t':=r';subst hr;exact ⟨.none_str (tx l') t',.none_str (tx l') t',.none_str (tx l') t'⟩
   |tup ys=>
    obtain ⟨a',vs',hv,q',tt'⟩:=id h';subst hv;have hr:u'=Value.ref a':=r';subst hr;obtain ⟨its',rv',pt',_⟩:=I.tuple q'.sq;have pt':s.heap.IsTuple a' its'.toArray:=pt';exact ⟨.none_tuple pt' hu0,.none_tuple pt' hu0,.none_tuple pt' hu0⟩
   |lst ys=>
    obtain ⟨a',vs',hv,q',tt'⟩:=id h';subst hv;have hr:u'=Value.ref a':=r';subst hr;obtain ⟨its',rv',pl',_⟩:=I.list q'.sq;have pt':s.heap.IsList a' its'.toArray:=pl'.isList;exact ⟨.none_list pt' hu0,.none_list pt' hu0,.none_list pt' hu0⟩
  |bl b=>
   have hv:v=.bl b:=h;subst hv;have hr:u=Value.bool b:=r;subst hr;cases d' with
   |ref a=>rw[nr]at n2;cases n2
   |scr a=>rw[nr]at n2;cases n2
   |exn a=>rw[nr]at n2;cases n2
   |obj _ _ _=>rw[nr]at n2;cases n2
   |non=>
    have hv:v'=.non:=h';subst hv;have hr:u'=Value.none:=r';subst hr;exact ⟨.bool_none b,.bool_none b,.bool_none b⟩
   |bl b'=>
    have hv:v'=.bl b':=h';subst hv;have hr:u'=Value.bool b':=r';subst hr;exact ⟨.bool_bool b b',.bool_bool b b',.bool_bool b b'⟩
   |int i'=>
    have hv:v'=.int i':=h';subst hv;obtain ⟨t',hr⟩:∃t',u'=Value.int i' t':=r';subst hr;exact ⟨.bool_int b i' t',.bool_int b i' t',.bool_int b i' t'⟩
   |str l'=>
    obtain ⟨hv,_⟩:=h';subst hv;obtain ⟨t',hr⟩:∃t',u'=Value.str (tx l') t':=r';subst hr;exact ⟨.bool_str b (tx l') t',.bool_str b (tx l') t',.bool_str b (tx l') t'⟩
   |tup ys=>
    obtain ⟨a',vs',hv,q',tt'⟩:=id h';subst hv;have hr:u'=Value.ref a':=r';subst hr;obtain ⟨its',rv',pt',_⟩:=I.tuple q'.sq;have pt':s.heap.IsTuple a' its'.toArray:=pt';exact ⟨.bool_tuple b pt' hu0,.bool_tuple b pt' hu0,.bool_tuple b pt' hu0⟩
   |lst ys=>
    obtain ⟨a',vs',hv,q',tt'⟩:=id h';subst hv;have hr:u'=Value.ref a':=r';subst hr;obtain ⟨its',rv',pl',_⟩:=I.list q'.sq;have pt':s.heap.IsList a' its'.toArray:=pl'.isList;exact ⟨.bool_list b pt' hu0,.bool_list b pt' hu0,.bool_list b pt' hu0⟩
  |int i=>
   have hv:v=.int i:=h;subst hv;obtain ⟨t,hr⟩:∃t,u=Value.int i t:=r;subst hr;cases d' with
   |ref a=>rw[nr]at n2;cases n2
   |scr a=>rw[nr]at n2;cases n2
   |exn a=>rw[nr]at n2;cases n2
   |obj _ _ _=>rw[nr]at n2;cases n2
   |non=>
    have hv:v'=.non:=h';subst hv;have hr:u'=Value.none:=r';subst hr;exact ⟨.int_none i t,.int_none i t,.int_none i t⟩
   |bl b'=>
    have hv:v'=.bl b':=h';subst hv;have hr:u'=Value.bool b':=r';subst hr;exact ⟨.int_bool i t b',.int_bool i t b',.int_bool i t b'⟩
   |int i'=>
    have hv:v'=.int i':=h';subst hv;obtain ⟨t',hr⟩:∃t',u'=Value.int i' t':=r';subst hr;exact ⟨.int_int i t i' t',.int_int i t i' t',.int_int i t i' t'⟩
   |str l'=>
    obtain ⟨hv,_⟩:=h';subst hv;obtain ⟨t',hr⟩:∃t',u'=Value.str (tx l') t':=r';subst hr;exact ⟨.int_str i t (tx l') t',.int_str i t (tx l') t',.int_str i t (tx l') t'⟩
   |tup ys=>
    obtain ⟨a',vs',hv,q',tt'⟩:=id h';subst hv;have hr:u'=Value.ref a':=r';subst hr;obtain ⟨its',rv',pt',_⟩:=I.tuple q'.sq;have pt':s.heap.IsTuple a' its'.toArray:=pt';exact ⟨.int_tuple i t pt' hu0,.int_tuple i t pt' hu0,.int_tuple i t pt' hu0⟩
   |lst ys=>
    obtain ⟨a',vs',hv,q',tt'⟩:=id h';subst hv;have hr:u'=Value.ref a':=r';subst hr;obtain ⟨its',rv',pl',_⟩:=I.list q'.sq;have pt':s.heap.IsList a' its'.toArray:=pl'.isList;exact ⟨.int_list i t pt' hu0,.int_list i t pt' hu0,.int_list i t pt' hu0⟩
  |str l=>
   obtain ⟨hv,_⟩:=h;subst hv;obtain ⟨t,hr⟩:∃t,u=Value.str (tx l) t:=r;subst hr;cases d' with
   |ref a=>rw[nr]at n2;cases n2
   |scr a=>rw[nr]at n2;cases n2
   |exn a=>rw[nr]at n2;cases n2
   |obj _ _ _=>rw[nr]at n2;cases n2
   |non=>
    have hv:v'=.non:=h';subst hv;have hr:u'=Value.none:=r';subst hr;exact ⟨.str_none (tx l) t,.str_none (tx l) t,.str_none (tx l) t⟩
   |bl b'=>
    have hv:v'=.bl b':=h';subst hv;have hr:u'=Value.bool b':=r';subst hr;exact ⟨.str_bool (tx l) t b',.str_bool (tx l) t b',.str_bool (tx l) t b'⟩
   |int i'=>
    have hv:v'=.int i':=h';subst hv;obtain ⟨t',hr⟩:∃t',u'=Value.int i' t':=r';subst hr;exact ⟨.str_int (tx l) t i' t',.str_int (tx l) t i' t',.str_int (tx l) t i' t'⟩
   |str l'=>
    obtain ⟨hv,_⟩:=h';subst hv;obtain ⟨t',hr⟩:∃t',u'=Value.str (tx l') t':=r';subst hr;rw[deq,<-abw];exact ⟨.str_str (tx l) t (tx l') t',.str_str (tx l) t (tx l') t',.str_str (tx l) t (tx l') t'⟩
   |tup ys=>
    obtain ⟨a',vs',hv,q',tt'⟩:=id h';subst hv;have hr:u'=Value.ref a':=r';subst hr;obtain ⟨its',rv',pt',_⟩:=I.tuple q'.sq;have pt':s.heap.IsTuple a' its'.toArray:=pt';exact ⟨.str_tuple (tx l) t pt' hu0,.str_tuple (tx l) t pt' hu0,.str_tuple (tx l) t pt' hu0⟩
   |lst ys=>
    obtain ⟨a',vs',hv,q',tt'⟩:=id h';subst hv;have hr:u'=Value.ref a':=r';subst hr;obtain ⟨its',rv',pl',_⟩:=I.list q'.sq;have pt':s.heap.IsList a' its'.toArray:=pl'.isList;exact ⟨.str_list (tx l) t pt' hu0,.str_list (tx l) t pt' hu0,.str_list (tx l) t pt' hu0⟩
  |tup xs=>
   obtain ⟨a,vs,hv,q,tt⟩:=id h;subst hv;have hr:u=Value.ref a:=r;subst hr;obtain ⟨its,rv,pt,_⟩:=I.tuple q.sq;have pt:s.heap.IsTuple a its.toArray:=pt;cases d' with
   |ref a=>rw[nr]at n2;cases n2
   |scr a=>rw[nr]at n2;cases n2
   |exn a=>rw[nr]at n2;cases n2
   |obj _ _ _=>rw[nr]at n2;cases n2
   |non=>
    have hv:v'=.non:=h';subst hv;have hr:u'=Value.none:=r';subst hr;exact ⟨.tuple_none pt hu0,.tuple_none pt hu0,.tuple_none pt hu0⟩
   |bl b'=>
    have hv:v'=.bl b':=h';subst hv;have hr:u'=Value.bool b':=r';subst hr;exact ⟨.tuple_bool b' pt hu0,.tuple_bool b' pt hu0,.tuple_bool b' pt hu0⟩
   |int i'=>
    have hv:v'=.int i':=h';subst hv;obtain ⟨t',hr⟩:∃t',u'=Value.int i' t':=r';subst hr;exact ⟨.tuple_int i' t' pt hu0,.tuple_int i' t' pt hu0,.tuple_int i' t' pt hu0⟩
   |str l'=>
    obtain ⟨hv,_⟩:=h';subst hv;obtain ⟨t',hr⟩:∃t',u'=Value.str (tx l') t':=r';subst hr;exact ⟨.tuple_str (tx l') t' pt hu0,.tuple_str (tx l') t' pt hu0,.tuple_str (tx l') t' pt hu0⟩
   |tup ys=>
    obtain ⟨a',vs',hv,q',tt'⟩:=id h';subst hv;have hr:u'=Value.ref a':=r';subst hr;obtain ⟨its',rv',pt',_⟩:=I.tuple q'.sq;have pt':s.heap.IsTuple a' its'.toArray:=pt';exact abx I ih hu hd n1 n2 h h' pt pt' rv rv' tt tt'
   |lst ys=>
    obtain ⟨a',vs',hv,q',tt'⟩:=id h';subst hv;have hr:u'=Value.ref a':=r';subst hr;obtain ⟨its',rv',pl',_⟩:=I.list q'.sq;have pt':s.heap.IsList a' its'.toArray:=pl'.isList;exact ⟨.tuple_list pt pt' hu0,.tuple_list pt pt' hu0,.tuple_list pt pt' hu0⟩
  |lst xs=>
   obtain ⟨a,vs,hv,q,tt⟩:=id h;subst hv;have hr:u=Value.ref a:=r;subst hr;obtain ⟨its,rv,pl,_⟩:=I.list q.sq;have pt:s.heap.IsList a its.toArray:=pl.isList;cases d' with
   |ref a=>rw[nr]at n2;cases n2
   |scr a=>rw[nr]at n2;cases n2
   |exn a=>rw[nr]at n2;cases n2
   |obj _ _ _=>rw[nr]at n2;cases n2
   |non=>
    have hv:v'=.non:=h';subst hv;have hr:u'=Value.none:=r';subst hr;exact ⟨.list_none pt hu0,.list_none pt hu0,.list_none pt hu0⟩
   |bl b'=>
    have hv:v'=.bl b':=h';subst hv;have hr:u'=Value.bool b':=r';subst hr;exact ⟨.list_bool b' pt hu0,.list_bool b' pt hu0,.list_bool b' pt hu0⟩
   |int i'=>
    have hv:v'=.int i':=h';subst hv;obtain ⟨t',hr⟩:∃t',u'=Value.int i' t':=r';subst hr;exact ⟨.list_int i' t' pt hu0,.list_int i' t' pt hu0,.list_int i' t' pt hu0⟩
   |str l'=>
    obtain ⟨hv,_⟩:=h';subst hv;obtain ⟨t',hr⟩:∃t',u'=Value.str (tx l') t':=r';subst hr;exact ⟨.list_str (tx l') t' pt hu0,.list_str (tx l') t' pt hu0,.list_str (tx l') t' pt hu0⟩
   |tup ys=>
    obtain ⟨a',vs',hv,q',tt'⟩:=id h';subst hv;have hr:u'=Value.ref a':=r';subst hr;obtain ⟨its',rv',pt',_⟩:=I.tuple q'.sq;have pt':s.heap.IsTuple a' its'.toArray:=pt';exact ⟨.list_tuple pt pt' hu0,.list_tuple pt pt' hu0,.list_tuple pt pt' hu0⟩
   |lst ys=>
    obtain ⟨a',vs',hv,q',tt'⟩:=id h';subst hv;have hr:u'=Value.ref a':=r';subst hr;obtain ⟨its',rv',pl',_⟩:=I.list q'.sq;have pt':s.heap.IsList a' its'.toArray:=pl'.isList;exact aby I ih hu hd n1 n2 (λz=>by subst z;have e:=uY I n1 n2 h h';injection e) pt pt' rv rv' tt tt'
end
def FA(F:FZ)(G:DH):FZ:=λa=>F a\/∃o,G a=some o
theorem GZ{H:Hp}{F:FZ}{G:DH}:Ext H F H (FA F G):=⟨λ_ f=>.inl f,λ_ _=>rfl,λ_ _ h=>h,λ_ _ _ h=>h⟩
theorem u5{K:PF}{H:Hp}{F:FZ}{G:DH}{d:D}{v:V}(r:R K H F G)(h:Rep K H F d v):Rep K H (FA F G) (view G d) v:=by
 cases d with
 |ref p=>
  have hv:v=.ref p:=h;cases g:G p with
  |none=>
   have e:view G (.ref p)=.ref p:=by simp only[view,g]
   rw[e];exact hv
  |some o=>
   cases o with
   |lst ds=>
    have e:view G (.ref p)=.lst ds:=by simp only[view,g]
    rw[e];obtain ⟨vs,q,t⟩:=r.lst g;exact ⟨p,vs,hv,⟨.inr ⟨_,g⟩,q⟩,Reps.ext GZ t⟩
 |_=>exact Rep.ext GZ h
def rC2(K:PF)(f:D->D->(Bool->Prop)->Prop):R2:=λx y H Q=>∃F G a b,R K H F G/\Rep K H F a x/\Rep K H F b y/\f (view G a) (view G b) (λc=>PV K H F Q (.bl c) G)
section
variable {X:Cx}
theorem Ha(c:Nat)(l:List Nat):(!(Builtin.Str.occurrences (tx l) (tx [c]) 0 (tx l).length 1).isEmpty)=l.contains c:=by have:=StrLaws.found_one (tx l) c;rw[this,ff];simp
theorem abz{pins:List (Addr×Obj)}{Y:L2.St}{H:Hp}{s:Shared}{F:FZ}(I:Inv X pins Y H s){A:Around}{x:D}{v:V}{u:Value}(hu:A.units+64 < cLine)(hx:nr x=true)(rx:Rep X.K H F x v)(ru:RelV v u):
  ∀{ds:List D}{vs:List V}{us:List Value},nrs ds=true->bj ds<=60->Reps X.K H F ds vs->Vals vs us->∃e:Value->Bool,(∀y∈us,SeqAt.EqAt A s y u (e y))/\us.any e=isIn x ds:=by
 intro ds vs us hn hd t r;let P:Value->D->Prop:=λy d=>nr d=true/\∃v,Rep X.K H F d v/\RelV v y
 have one:∀y d d',P y d->P y d'->d=d':=λy d d' ⟨n,v,q,z⟩ ⟨n',v',q',z'⟩=>by
  have e:=z.inj z';subst e;exact uY I n n' q q'
 have ⟨f,hf⟩:∃f:Value->D,∀y d,P y d->f y=d:=by refine ⟨λy=>Classical.epsilon (P y),λy d h=>?_⟩;exact one y _ _ (Classical.epsilon_spec ⟨d,h⟩) h
 refine ⟨λy=>deq (f y) x,?_,?_⟩
 ·skip;have key:∀{ds:List D}{vs:List V}{us:List Value},nrs ds=true->bj ds<=60->Reps X.K H F ds vs->Vals vs us->∀y∈us,SeqAt.EqAt A s y u (deq (f y) x):=by
   intro ds;induction ds with
   |nil=>
    intro vs us _ _ t r y hy;have t:vs=[]:=t;subst t;cases r;cases hy
   |cons d ds ih=>
    intro vs us hn hd t r y hy;obtain ⟨v1,r1,e,h1,t1⟩:=t;subst e;rw[nrs,ae]at hn;rw[bj]at hd;cases r with
    |cons p q=>
     rcases ci.mp hy with e |hy
     ·subst e;rw[hf _ d ⟨hn.1,_,h1,p⟩];exact (zr I 60 A d x v1 v _ u (by omega) (by omega) hn.1 hx h1 rx p ru).2.1
     ·exact ih hn.2 (by omega) t1 q y hy
  exact key hn hd t r
 ·have key:∀{ds:List D}{vs:List V}{us:List Value},nrs ds=true->Reps X.K H F ds vs->Vals vs us->us.any (λy=>deq (f y) x)=isIn x ds:=by
   intro ds;induction ds with
   |nil=>
    intro vs us _ t r;have t:vs=[]:=t;subst t;cases r;rfl
   |cons d ds ih=>
    intro vs us hn t r;obtain ⟨v1,r1,e,h1,t1⟩:=t;subst e;rw[nrs,ae]at hn;cases r with
    |cons p q=>
     rw[List.any_cons,hf _ d ⟨hn.1,_,h1,p⟩,ih hn.2 t1 q];rfl
  exact key hn t r
theorem j8(op:CmpOp)(hu:X.A.units+100 < cLine):OpR X (compareOp op) (rC2 X.K (bC op)):=by
 intro pins s Y H x y v u Q I rx ry h;obtain ⟨F,G,a,b,r,ra,rb,h⟩:=h;have ra':=u5 r ra;have rb':=u5 r rb;generalize ea:view G a=va at h ra';generalize eb:view G b=vb at h rb';have fin:∀c:Bool,PV X.K H F Q (.bl c) G->EP X pins Y Q (.bool c) s:=λc q=>⟨.bl c,H,I,rfl,q.now r rfl⟩;have hin:∀(l:List D)(k:Bool->Prop),(nr va=true/\nrs l=true/\bj l<=60)->∀{vs:List V}{us:List Value},Reps X.K H (FA F G) l vs->Vals vs us->
   ∃e:Value->Bool,(∀z∈us,SeqAt.EqAt X.A.in1 s z v (e z))/\us.any e=isIn va l:=λl k hh {vs us} t rv=>
  abz I (A:=X.A.in1) (by show X.A.units+1+64 < cLine;omega) hh.1 ra' rx hh.2.1 hh.2.2 t rv
 cases op with
 |Eq=>
  obtain ⟨⟨n1,n2,n3⟩,q⟩:=h;exact (zr I 60 X.A _ _ x y v u (by omega) n3 n1 n2 ra' rb' rx ry).1 _ _ _ _ (fin _ q)
 |NotEq=>
  obtain ⟨⟨n1,n2,n3⟩,q⟩:=h;exact (zr I 60 X.A _ _ x y v u (by omega) n3 n1 n2 ra' rb' rx ry).2.2 _ _ _ _ (fin _ q)
 |Lt=>
  have h:jT va vb (λc=>PV X.K H F Q (.bl c) G):=h;unfold jT at h;split at h
  ·have e1:x=.int _:=ra';have e2:y=.int _:=rb';subst e1;subst e2;obtain ⟨t,rfl⟩:=rx;obtain ⟨t',rfl⟩:=ry;exact lt_int (fin _ h)
  ·obtain ⟨e1,_⟩:=ra';obtain ⟨e2,_⟩:=rb';subst e1;subst e2;obtain ⟨t,rfl⟩:=rx;obtain ⟨t',rfl⟩:=ry;exact lt_str (fin _ h)
  ·exact h.elim
 |LtE=>
  have h:jU va vb (λc=>PV X.K H F Q (.bl c) G):=h;unfold jU at h;split at h
  ·have e1:x=.int _:=ra';have e2:y=.int _:=rb';subst e1;subst e2;obtain ⟨t,rfl⟩:=rx;obtain ⟨t',rfl⟩:=ry;exact le_int (fin _ h)
  ·obtain ⟨e1,_⟩:=ra';obtain ⟨e2,_⟩:=rb';subst e1;subst e2;obtain ⟨t,rfl⟩:=rx;obtain ⟨t',rfl⟩:=ry;exact PySem.P.le_str (fin _ h)
  ·exact h.elim
 |Gt=>
  have h:jV va vb (λc=>PV X.K H F Q (.bl c) G):=h;unfold jV at h;split at h
  ·have e1:x=.int _:=ra';have e2:y=.int _:=rb';subst e1;subst e2;obtain ⟨t,rfl⟩:=rx;obtain ⟨t',rfl⟩:=ry;exact gt_int (fin _ h)
  ·exact h.elim
 |GtE=>
  have h:jW va vb (λc=>PV X.K H F Q (.bl c) G):=h;unfold jW at h;split at h
  ·have e1:x=.int _:=ra';have e2:y=.int _:=rb';subst e1;subst e2;obtain ⟨t,rfl⟩:=rx;obtain ⟨t',rfl⟩:=ry;exact ge_int (fin _ h)
  ·exact h.elim
 |Is=>
  have h:jX va vb (λc=>PV X.K H F Q (.bl c) G):=h;unfold jX at h;split at h
  ·have e2:y=.non:=rb';subst e2;have q:∀c,(c=decide (x=.non))->PV X.K H F Q (.bl c) G->↥X (compareOp .Is v u) (EP X pins Y Q) X.xe s:=λc e q=>
    YM pins s Y H _ _ v u Q I rx ry ⟨rfl,by rw[<-e];exact q.now r rfl⟩
   refine q _ ?_ h;have:fZ va=decide (x=.non):=by
    cases va with
    |non=>have e1:x=.non:=ra';subst e1;rfl
    |bl _=>have e1:x=.bl _:=ra';subst e1;rfl
    |int _=>have e1:x=.int _:=ra';subst e1;rfl
    |str _=>obtain ⟨e1,_⟩:=ra';subst e1;rfl
    |tup _=>obtain ⟨_,_,e1,_⟩:=ra';subst e1;rfl
    |lst _=>obtain ⟨_,_,e1,_⟩:=ra';subst e1;rfl
    |ref _=>have e1:x=.ref _:=ra';subst e1;rfl
    |scr _=>obtain ⟨_,e1,_⟩:=ra';subst e1;rfl
    |exn _=>obtain ⟨_,_,e1,_⟩:=ra';subst e1;rfl
    |obj _ _ _=>obtain ⟨_,_,_,e1,_⟩:=ra';subst e1;rfl
   rw[this]
  ·split at h
   ·have e1:x=.bl _:=ra';have e2:y=.bl _:=rb';subst e1;subst e2;exact aar pins s Y H _ _ v u Q I rx ry ⟨_,_,rfl,rfl,h.now r rfl⟩
   ·exact h.elim
  ·exact h.elim
 |IsNot=>
  have h:jY va vb (λc=>PV X.K H F Q (.bl c) G):=h;unfold jY at h;split at h
  ·have e2:y=.non:=rb';subst e2;have q:∀c,(c=!decide (x=.non))->PV X.K H F Q (.bl c) G->↥X (compareOp .IsNot v u) (EP X pins Y Q) X.xe s:=λc e q=>
    YQ pins s Y H _ _ v u Q I rx ry ⟨rfl,by rw[<-e];exact q.now r rfl⟩
   refine q _ ?_ h;have:fZ va=decide (x=.non):=by
    cases va with
    |non=>have e1:x=.non:=ra';subst e1;rfl
    |bl _=>have e1:x=.bl _:=ra';subst e1;rfl
    |int _=>have e1:x=.int _:=ra';subst e1;rfl
    |str _=>obtain ⟨e1,_⟩:=ra';subst e1;rfl
    |tup _=>obtain ⟨_,_,e1,_⟩:=ra';subst e1;rfl
    |lst _=>obtain ⟨_,_,e1,_⟩:=ra';subst e1;rfl
    |ref _=>have e1:x=.ref _:=ra';subst e1;rfl
    |scr _=>obtain ⟨_,e1,_⟩:=ra';subst e1;rfl
    |exn _=>obtain ⟨_,_,e1,_⟩:=ra';subst e1;rfl
    |obj _ _ _=>obtain ⟨_,_,_,e1,_⟩:=ra';subst e1;rfl
   rw[this]
  ·split at h
   ·have e1:x=.bl _:=ra';have e2:y=.bl _:=rb';subst e1;subst e2;exact aav pins s Y H _ _ v u Q I rx ry ⟨_,_,rfl,rfl,h.now r rfl⟩
   ·exact h.elim
  ·exact h.elim
 |In=>
  have h:gP va vb (λc=>PV X.K H F Q (.bl c) G):=h;unfold gP at h;split at h
  ·split at h
   ·obtain ⟨e1,_⟩:=ra';obtain ⟨e2,_⟩:=rb';subst e1;subst e2;obtain ⟨t,rfl⟩:=rx;obtain ⟨t',rfl⟩:=ry;exact in_str (by rw[Ha];exact fin _ h)
   ·exact h.elim
  ·obtain ⟨hh,q⟩:=h;obtain ⟨p,vs,e2,q2,t⟩:=rb';subst e2;cases ry;obtain ⟨its,rv,pl,hz⟩:=I.list q2.sq;obtain ⟨e,he,hany⟩:=hin _ (λ_=>True) hh t rv;refine SeqAt.in_listAt e pl.isList (λw hw=>he w (by simpa using hw)) ?_;rw[show its.toArray.any e=its.any e by simp,hany];exact fin _ q
  ·obtain ⟨hh,q⟩:=h;obtain ⟨p,vs,e2,q2,t⟩:=rb';subst e2;cases ry;obtain ⟨its,rv,pl,hz⟩:=I.tuple q2.sq;obtain ⟨e,he,hany⟩:=hin _ (λ_=>True) hh t rv;refine SeqAt.in_tupleAt e pl (λw hw=>he w (by simpa using hw)) ?_;rw[show its.toArray.any e=its.any e by simp,hany];exact fin _ q
  ·exact h.elim
 |NotIn=>
  have h:gP va vb (λc=>PV X.K H F Q (.bl (!c)) G):=h;unfold gP at h;split at h
  ·split at h
   ·obtain ⟨e1,_⟩:=ra';obtain ⟨e2,_⟩:=rb';subst e1;subst e2;obtain ⟨t,rfl⟩:=rx;obtain ⟨t',rfl⟩:=ry;exact notIn_str (by rw[Ha];exact fin _ h)
   ·exact h.elim
  ·obtain ⟨hh,q⟩:=h;obtain ⟨p,vs,e2,q2,t⟩:=rb';subst e2;cases ry;obtain ⟨its,rv,pl,hz⟩:=I.list q2.sq;obtain ⟨e,he,hany⟩:=hin _ (λ_=>True) hh t rv;refine SeqAt.notIn_listAt e pl.isList (λw hw=>he w (by simpa using hw)) ?_;rw[show its.toArray.any e=its.any e by simp,hany];exact fin _ q
  ·obtain ⟨hh,q⟩:=h;obtain ⟨p,vs,e2,q2,t⟩:=rb';subst e2;cases ry;obtain ⟨its,rv,pl,hz⟩:=I.tuple q2.sq;obtain ⟨e,he,hany⟩:=hin _ (λ_=>True) hh t rv;refine SeqAt.notIn_tupleAt e pl (λw hw=>he w (by simpa using hw)) ?_;rw[show its.toArray.any e=its.any e by simp,hany];exact fin _ q
  ·exact h.elim
end
section
variable {X:Cx}
def abA(K:PF):R2:=λx y H Q=>∃F G a b,R K H F G/\Rep K H F a x/\Rep K H F b y/\cG (view G a) b (λd=>PV K H F Q d G)
theorem u6{K:PF}{H:Hp}{F:FZ}{ds:List D}{vs:List V}{i:Int}{d:D}(t:Reps K H F ds vs)(h:atI ds i=some d):∃v,atI vs i=some v/\Rep K H F d v:=by
 unfold atI at h ⊢;rw[<-t.length];cases e:ixN ds.length i with
 |none=>rw[e]at h;cases h
 |some j=>
  rw[e]at h;obtain ⟨v,e1,r⟩:=t.get (show ds[j]?=some d from h);exact ⟨v,e1,r⟩
theorem abB:IxR X (abA X.K):=by
 intro value slice pins s Y H x y v u Q I rx ry h hs;obtain ⟨F,G,a,b,r,ra,rb,h⟩:=h;generalize ea:view G a=va at h;unfold cG at h;split at h
 ·obtain ⟨p,vs,e,q,t⟩:=Rep.list r ra ea;subst e;have e2:y=.int _:=rb;subst e2;split at h
  ·rename_i d hd;obtain ⟨w,hw,rw'⟩:=u6 t hd;exact ZJ value slice pins s Y H _ _ v u Q I rx ry ⟨p,vs,_,w,rfl,rfl,q,hw,h.now r rw'⟩ hs
  ·exact h.elim
 ·cases fY ea;obtain ⟨p,vs,e,q,t⟩:=ra;subst e;have e2:y=.int _:=rb;subst e2;split at h
  ·rename_i d hd;obtain ⟨w,hw,rw'⟩:=u6 t hd;exact ZK value slice pins s Y H _ _ v u Q I rx ry ⟨p,vs,_,w,rfl,rfl,q.sq,hw,h.now r rw'⟩ hs
  ·exact h.elim
 ·cases gO ea;obtain ⟨e,hl⟩:=ra;subst e;have e2:y=.int _:=rb;subst e2;split at h
  ·rename_i c hc;exact ZL value slice pins s Y H _ _ v u Q I rx ry ⟨_,_,c,rfl,rfl,by rw[cA];exact cX hl,hc,h.now r ⟨rfl,by show 1<=sz;decide⟩⟩ hs
  ·exact h.elim
 ·exact h.elim
theorem abC(l:List Nat)(lo hi:Option Int):Txt.slice (tx l) lo hi=tx (cut l lo hi):=by
 have e:Builtin.Str.strSliceIndices lo hi 1 (tx l).length=sliceRange (sliceBounds lo hi none (tx l).length).1 (sliceBounds lo hi none (tx l).length).2.1 1:=by unfold Builtin.Str.strSliceIndices sliceBounds;cases lo <;> cases hi <;> rfl
 obtain ⟨h1,h2,h3⟩:=Er lo hi (tx l).length;rw[h1,h2,sliceRange_one]at e;have e2:((Builtin.Str.strSliceIndices lo hi 1 (tx l).length).filterMap ((tx l).cps[·]?))=cut l lo hi:=by rw[e,pick_run];unfold cut;rw[cA]
 unfold Txt.slice;split
 ·rename_i hh;rw[ae]at hh;have hl:=eq_of_beq hh.2;rw[e,af,fT,cA]at hl;have b1:HT.sIx l.length l.length hi<=l.length:=HT.Ej _ _ (ay _) hi;unfold cut;by_cases hz:l=[]
  ·subst hz;simp
  ·have hp:0 < l.length:=gt.mpr hz;have e3:HT.sIx l.length 0 lo=0:=by omega
   have e4:HT.sIx l.length l.length hi=l.length:=by omega
   rw[e3,e4];simp
 ·rw[e2]
theorem abD{α:Type}(xs:List α)(lo hi:Option Int):(cut xs lo hi).length<=xs.length:=by unfold cut;rw[bX,cr];omega
theorem abE{prog:Program}{w:World}{A:Around}{E:Value->Shared->Prop}{s:Shared}{t sl:Addr}{items:Array Value}{vl vu:Value}{lo hi:Option Int}{Q:Value->Shared->Prop}(ht:IsTup s.heap t items)(hs:s.heap.IsSliceOf sl vl vu .none)(pl:IsPart vl lo)(pu:IsPart vu hi)
  (hw:HT.sIx items.size 0 lo=0/\HT.sIx items.size items.size hi=items.size) (h:Q (.ref t) s):wpAny (model prog w) A (getItem (.ref t) (.ref sl)) Q E s:=by
 obtain ⟨os,hos,hcs,hds⟩:=id hs;have hTs:s.TypeIs (.ref sl) "slice":=⟨os,hos,hcs⟩;unfold getItem;try with_reducible refine fe ?_
 first |refine al (bg ?_) |skip
 refine al (wpAny_sequenceKey ht.typeIs (by decide) ?_);refine al (fk (name:=Str.ofString "__getitem__") ht.typeIs dy
  (fA dy ht.typeIs entry_tuple_getitem ?_ (args_tuple_getitem _ _)))
 show wpAny _ _ (Builtin.Tuple.tupleItemsOf (.ref t) >>= _) _ _ s;refine al (tupleItemsOf_ ht ?_);refine al (wpAny_typeOf hTs ?_);rw[if_pos (by decide)];refine al (HT.El hs pl pu ?_);have hyes:(((HT.sIx items.size 0 lo:Nat):Int)==0&&(1:Int)==1&&(HT.sIx items.size items.size hi - HT.sIx items.size 0 lo)==items.size)=true:=by rw[hw.1,hw.2];simp
 show wpAny _ _ (if (((HT.sIx items.size 0 lo:Nat):Int)==0&&(1:Int)==1&&(HT.sIx items.size items.size hi - HT.sIx items.size 0 lo)==items.size)=true then _ else _) _ _ s;rw[if_pos hyes];refine al (m:=Builtin.Tuple.tupleIsExact _) (al (wpAny_typeOf ht.typeIs (bg ?_)));rw[if_pos (by decide)];exact al (wpAny_rule (bg ⟨_,rfl,bg h⟩))
theorem abF:SlR X (λx lo hi H Q=>∃a xs,x=.ref a/\SqT X.K H a xs/\(HT.sIx xs.length 0 lo=0/\HT.sIx xs.length xs.length hi=xs.length)/\Q (.ref a) H):=by
 intro pins s Y H x v vl vu lo hi sl Q I rx hs pl pu h;obtain ⟨a,xs,rfl,hx,hw,q⟩:=h;cases rx;obtain ⟨its,r,ht,hz⟩:=I.tuple hx;have hlen:its.toArray.size=xs.length:=by rw[aw];exact r.length.symm
 exact ⟨"tuple",_,dy.lookup,ht.typeIs,abE ht hs pl pu (by rw[hlen];exact hw) ⟨.ref a,H,I,rfl,q⟩⟩
theorem Hb{K:PF}{H:Hp}{F:FZ}:∀ns:List Int,Reps K H F (ns.map D.int) (ns.map V.int)
 |[]=>rfl
 |n::ns=>⟨_,_,rfl,rfl,Hb ns⟩
def abG(K:PF)(fz:Bool):V->Option Int->Option Int->Hp->VK->Prop:=λx lo hi H Q=>∃F G a,R K H F G/\Rep K H F a x/\eZ fz (view G a) lo hi G (PV K H F Q)
theorem Hc{K:PF}{H:Hp}{F:FZ}{ds:List D}{vs:List V}(t:Reps K H F ds vs)(lo hi:Option Int):Reps K H F (cut ds lo hi) (eX vs lo hi):=t.cut lo hi
theorem abH(fz:Bool):SlR X (abG X.K fz):=by
 intro pins s Y H x v vl vu lo hi sl Q I rx hs pl pu h;obtain ⟨F,G,a,r,ra,h⟩:=h;generalize ea:view G a=va at h;unfold eZ at h;split at h
 ·obtain ⟨p,vs,e,q,t⟩:=Rep.list r ra ea;subst e;exact Es pins s Y H _ v vl vu lo hi sl Q I rx hs pl pu ⟨p,vs,rfl,q,fG h r (Hc t lo hi)⟩
 ·rename_i ns;have ea':a=.scr ns:=by
   cases a with
   |ref p=>
    unfold view at ea;cases g:G p with
    |none=>simp only[g]at ea;cases ea
    |some o=>cases o;simp only[g]at ea;cases ea
   |_=>exact ea
  subst ea';obtain ⟨p,e,q⟩:=ra;subst e;refine Es pins s Y H _ v vl vu lo hi sl Q I rx hs pl pu ⟨p,_,rfl,q.sq,fG h r ?_⟩;have e2:eX (ns.map V.int) lo hi=(cut ns lo hi).map V.int:=by unfold eX cut;rw[af,List.map_take,List.map_drop]
  rw[e2];exact Hb (cut ns lo hi)
 ·cases fY ea;obtain ⟨p,vs,e,q,t⟩:=id ra;subst e;by_cases hw:HT.sIx vs.length 0 lo=0/\HT.sIx vs.length vs.length hi=vs.length
  ·refine abF pins s Y H _ v vl vu lo hi sl Q I rx hs pl pu ⟨p,vs,rfl,q.sq,hw,?_⟩;refine h.now r ?_;rename_i ds;have:cut ds lo hi=ds:=by
    unfold cut;rw[t.length,hw.1,hw.2];simp[<-t.length]
   rw[this];exact ra
  ·exact Zx pins s Y H _ v vl vu lo hi sl Q I rx hs pl pu ⟨p,vs,rfl,q.sq,hw,j6 h r (Hc t lo hi)⟩
 ·cases gO ea;obtain ⟨e,hl⟩:=ra;subst e;refine aau pins s Y H _ v vl vu lo hi sl Q I rx hs pl pu ⟨_,rfl,by rw[cA];exact cX hl,?_⟩;rw[abC];exact h.now r ⟨rfl,cp (abD _ _ _) hl⟩
 ·exact h.elim
theorem Hf{K:PF}{H:Hp}{F:FZ}{G:DH}{d:D}{v:V}{b:Bool}(r:R K H F G)(h:Rep K H F d v)(e:truth (view G d)=some b):sH K v H b:=by
 have h':=u5 r h;generalize view G d=w at e h';cases w with
 |non=>have e1:v=.non:=h';subst e1;simp only[truth,bn]at e;exact e.symm
 |bl x=>have e1:v=.bl x:=h';subst e1;simp only[truth,bn]at e;exact e.symm
 |int i=>have e1:v=.int i:=h';subst e1;simp only[truth,bn]at e;exact e.symm
 |str l=>
  obtain ⟨e1,hl⟩:=h';subst e1;simp only[truth,bn]at e;refine ⟨by rw[cA];exact cX hl,?_⟩;rw[cA,<-e];cases l with
  |nil=>rfl
  |cons c l=>simp;omega
 |tup l=>
  obtain ⟨a,vs,e1,q,t⟩:=h';subst e1;simp only[truth,bn]at e;refine .inr (.inl ⟨vs,q.sq,?_⟩);rw[<-e];cases l with
  |nil=>have t:vs=[]:=t;subst t;rfl
  |cons c l=>obtain ⟨_,_,e2,_⟩:=t;subst e2;rfl
 |lst l=>
  obtain ⟨a,vs,e1,q,t⟩:=h';subst e1;simp only[truth,bn]at e;refine .inl ⟨vs,q.sq,?_⟩;rw[<-e];cases l with
  |nil=>have t:vs=[]:=t;subst t;rfl
  |cons c l=>obtain ⟨_,_,e2,_⟩:=t;subst e2;rfl
 |ref a=>simp[truth]at e
 |scr a=>simp[truth]at e
 |exn a=>simp[truth]at e
 |obj _ _ _=>simp[truth]at e
theorem u9{K:PF}{H:Hp}{F:FZ}:∀{ds:List D}{vs:List V}{bs:List Bool},bools ds=some bs->Reps K H F ds vs->vs=bs.map V.bl
 |[],_,bs,e,h=>by
  simp only[bools,bn]at e;subst e;exact h
 |d::ds,_,bs,e,⟨v,w,e1,h,t⟩=>by
  cases d with
  |bl b=>
   simp only[bools]at e;cases q:bools ds with
   |none=>rw[q]at e;cases e
   |some s=>
    rw[q]at e;cases e;have hv:v=.bl b:=h;rw[e1,hv,u9 q t];rfl
  |_=>simp[bools]at e
theorem bT{K:PF}{H:Hp}{F:FZ}{d:D}{vs:List V}(t:Reps K H F [d] vs):∃v,vs=[v]/\Rep K H F d v:=by obtain ⟨v,r,e,h,t⟩:=t;have t:r=[]:=t;subst t;exact ⟨v,e,h⟩
def iJ(K:PF)(f:Bf):List V->Hp->VK->Prop:=λvs H Q=>∃F G ds,R K H F G/\Reps K H F ds vs/\opB f (ds.map (view G)) (λd=>PV K H F Q d G)
theorem map_one{G:DH}{ds:List D}{x:D}(h:ds.map (view G)=[x]):∃d,ds=[d]/\view G d=x:=by
 match ds,h with
 |[d],h=>exact ⟨d,rfl,by simpa using h⟩
theorem abI:bW X (.builtin "len") (iJ X.K .len):=by
 intro pins s Y H xs us Q I rs h;obtain ⟨F,G,ds,r,t,h⟩:=h;generalize ea:ds.map (view G)=va at h;simp only[opB,yp]at h;split at h
 ·obtain ⟨d,rfl,ev⟩:=map_one ea;obtain ⟨v,rfl,rv⟩:=bT t;obtain ⟨a,vs,e,q,t'⟩:=Rep.list r rv ev;subst e;exact Et pins s Y H _ us Q I rs ⟨a,vs,rfl,.inl q,by rw[<-t'.length];exact h.now r rfl⟩
 ·obtain ⟨d,rfl,ev⟩:=map_one ea;obtain ⟨v,rfl,rv⟩:=bT t;cases fY ev;obtain ⟨a,vs,e,q,t'⟩:=rv;subst e;exact Et pins s Y H _ us Q I rs ⟨a,vs,rfl,.inr q.sq,by rw[<-t'.length];exact h.now r rfl⟩
 ·obtain ⟨d,rfl,ev⟩:=map_one ea;obtain ⟨v,rfl,rv⟩:=bT t;cases gO ev;obtain ⟨e,hl⟩:=rv;subst e;exact ZS pins s Y H _ us Q I rs ⟨_,rfl,by rw[cA];exact cX hl,by rw[cA];exact h.now r rfl⟩
 ·exact h.elim
theorem abJ (hc:X.calm=true):bW X (.builtin "all") (iJ X.K .all):=by
 intro pins s Y H xs us Q I rs h;obtain ⟨F,G,ds,r,t,h⟩:=h;generalize ea:ds.map (view G)=va at h;simp only[opB,sU]at h;split at h
 ·obtain ⟨d,rfl,ev⟩:=map_one ea;obtain ⟨v,rfl,rv⟩:=bT t;obtain ⟨a,vs,e,q,t'⟩:=Rep.list r rv ev;subst e;split at h
  ·rename_i bs hb;have e2:=u9 hb t';subst e2;exact aaq hc pins s Y H _ us Q I rs ⟨a,bs,rfl,q,h.now r rfl⟩
  ·exact h.elim
 ·exact h.elim
theorem abK:bW X (.type "int") (iJ X.K .int):=by
 intro pins s Y H xs us Q I rs h;obtain ⟨F,G,ds,r,t,h⟩:=h;generalize ea:ds.map (view G)=va at h;simp only[opB,sV]at h;split at h
 ·obtain ⟨d,rfl,ev⟩:=map_one ea;obtain ⟨v,rfl,rv⟩:=bT t;cases abl ev;have e:v=.bl _:=rv;subst e;exact Ea pins s Y H _ us Q I rs (.inr ⟨_,rfl,h.now r rfl⟩)
 ·obtain ⟨d,rfl,ev⟩:=map_one ea;obtain ⟨v,rfl,rv⟩:=bT t;cases eY ev;have e:v=.int _:=rv;subst e;exact Ea pins s Y H _ us Q I rs (.inl ⟨_,rfl,h.now r rfl⟩)
 ·obtain ⟨d,rfl,ev⟩:=map_one ea;obtain ⟨v,rfl,rv⟩:=bT t;cases gO ev;obtain ⟨e,hl⟩:=rv;subst e;split at h
  ·rename_i n hn;exact aas pins s Y H _ us Q I rs ⟨_,n,rfl,hn,by rw[cA];exact h.1,h.2.now r rfl⟩
  ·exact h.elim
 ·exact h.elim
theorem abL:bW X (.type "tuple") (iJ X.K .tuple):=by
 intro pins s Y H xs us Q I rs h;obtain ⟨F,G,ds,r,t,h⟩:=h;generalize ea:ds.map (view G)=va at h;simp only[opB,yq]at h;split at h
 ·obtain ⟨d,rfl,ev⟩:=map_one ea;obtain ⟨v,rfl,rv⟩:=bT t;obtain ⟨a,vs,e,q,t'⟩:=Rep.list r rv ev;subst e;exact Ew pins s Y H _ us Q I rs ⟨a,vs,rfl,.inl ⟨q,j6 h r t'⟩⟩
 ·obtain ⟨d,rfl,ev⟩:=map_one ea;obtain ⟨v,rfl,rv⟩:=bT t;cases fY ev;obtain ⟨a,vs,e,q,t'⟩:=id rv;subst e;exact Ew pins s Y H _ us Q I rs ⟨a,vs,rfl,.inr ⟨q.sq,h.now r rv⟩⟩
 ·exact h.elim
def Hg(K:PF)(fz:Bool)(f:Lf):List V->Hp->VK->Prop:=λvs H Q=>∃F G ds,R K H F G/\Reps K H F ds vs/\dg f (ds.map (view G)) (λxs=>mk fz xs G (PV K H F Q))
theorem abM(l:List Nat):∀(us:List Value),us.length=l.length->(∀(j:Nat)(v:Value),us[j]?=some v->∃(c:Nat)(u:Tok),l[j]?=some c/\v=Value.str ⟨#[c]⟩ u)->Vals (l.map λc=>V.str (tx [c])) us:=by
 induction l with
 |nil=>intro us h _;cases us with |nil=>exact .nil |cons _ _=>cases h
 |cons c l ih=>
  intro us h q;cases us with
  |nil=>cases h
  |cons u us=>
   obtain ⟨c',t,e1,e2⟩:=q 0 u (by simp);have e1:c=c':=by simpa using e1
   subst e1;exact .cons ⟨t,e2⟩ (ih us (by simpa using h) λj v hv=>by simpa using q (j+1) v (by simpa using hv))
theorem abN (hc:X.calm=true):bW X (.type "list") (λxs H Q=>∃l:List Nat,xs=[.str (tx l)]/\l.length<=sizeLine/\∀p,H p=none->Q (.ref p) (upd H p (.lst (l.map λc=>V.str (tx [c]))))):=by
 intro pins s Y H xs us Q I r h;obtain ⟨l,rfl,hz,q⟩:=h;obtain ⟨u,rfl,t,rfl⟩:=vals1 r;have hz':(tx l).cps.size<=sizeLine:=by simpa using hz
 refine call_list_str (hn:=hz') (I.ok.hd hc) (tx l) t λh' tk acc' c' kp e hi=>?_;have hv:Vals (l.map λc=>V.str (tx [c])) acc'.toList:=by
  refine abM l _ ?_ λj v hv=>?_
  ·rw[eL,hi.1];simp
  ·obtain ⟨c,u,e1,e2⟩:=hi.2 j v (by rw[<-hV];exact hv);exact ⟨c,u,by simpa using e1,e2⟩
 exact ⟨.ref (~~~s),_,I.laid (t':=tk) kp (ay _) (show ObjOk X.prog X.w _ h' _ (.lst _) from ⟨by rw[af];exact hz,acc'.toList,c',hv,by rw[Array.toArray_toList];exact e⟩),rfl,q _ (I.hok.fresh (ay _))⟩
theorem zu{K:PF}{H:Hp}{F:FZ}:∀l:List Nat,Reps K H F (l.map λc=>D.str [c]) (l.map λc=>V.str (tx [c]))
 |[]=>rfl
 |c::l=>⟨_,_,rfl,⟨rfl,by show 1<=sz;decide⟩,zu l⟩
theorem abO (hc:X.calm=true) (fz:Bool):bW X (.type "list") (Hg X.K fz .list):=by
 intro pins s Y H xs us Q I rs h;obtain ⟨F,G,ds,r,t,h⟩:=h;generalize ea:ds.map (view G)=va at h;simp only[dg,yt]at h;split at h
 ·obtain ⟨d,rfl,ev⟩:=map_one ea;obtain ⟨v,rfl,rv⟩:=bT t;obtain ⟨a,vs,e,q,t'⟩:=Rep.list r rv ev;subst e;exact Eu pins s Y H _ us Q I rs ⟨a,vs,rfl,.inl q,fG h r t'⟩
 ·obtain ⟨d,rfl,ev⟩:=map_one ea;obtain ⟨v,rfl,rv⟩:=bT t;cases fY ev;obtain ⟨a,vs,e,q,t'⟩:=id rv;subst e;exact Eu pins s Y H _ us Q I rs ⟨a,vs,rfl,.inr q.sq,fG h r t'⟩
 ·obtain ⟨d,rfl,ev⟩:=map_one ea;obtain ⟨v,rfl,rv⟩:=bT t;cases gO ev;obtain ⟨e,hl⟩:=rv;subst e;exact abN hc pins s Y H _ us Q I rs ⟨_,rfl,cX hl,fG h r (zu _)⟩
 ·exact h.elim
theorem zx{K:PF}{H:Hp}{F:FZ}:∀{ds:List D}{vs:List V}{ls:List (List Nat)},bJ ds=some ls->Reps K H F ds vs->vs=(ls.map tx).map V.str
 |[],_,bs,e,h=>by
  simp only[bJ,bn]at e;subst e;exact h
 |d::ds,_,bs,e,⟨v,w,e1,h,t⟩=>by
  cases d with
  |str b=>
   simp only[bJ]at e;cases q:bJ ds with
   |none=>rw[q]at e;cases e
   |some s=>
    rw[q]at e;cases e;obtain ⟨hv,_⟩:=h;rw[e1,hv,zx q t];rfl
  |_=>simp[bJ]at e
theorem zy{K:PF}{H:Hp}{F:FZ}:∀{ds:List D}{vs:List V}{ns:List Int},cB ds=some ns->Reps K H F ds vs->vs=ns.map V.int
 |[],vs,ns,e,t=>by
  simp only[cB,bn]at e;subst e;have t:vs=[]:=t;rw[t];rfl
 |d::ds,vs,ns,e,t=>by
  obtain ⟨v,r,e1,h,t⟩:=t;cases d with
  |int b=>
   simp only[cB]at e;cases q:cB ds with
   |none=>rw[q]at e;cases e
   |some s=>
    rw[q]at e;cases e;have hv:v=.int b:=h;rw[e1,hv,zy q t];rfl
  |_=>simp[cB]at e
theorem zz:∀{ns:List Int}{its:List Value},Vals (ns.map V.int) its->IntsAre its ns
 |[],its,h=>by cases h;exact .nil
 |n::ns,its,h=>by
  cases h with
  |cons a b=>
   obtain ⟨t,rfl⟩:=a;exact .cons n t (zz b)
theorem abP (hc:X.calm=true):bW X (.builtin "sum") (λxs H Q=>∃(p:Addr) (ns:List Int),xs=[.ref p]/\SqL X.K H p (ns.map V.int)/\Q (.int ns.sum) H):=by
 intro pins s Y H xs us Q I r h;obtain ⟨p,ns,rfl,hq,q⟩:=h;obtain ⟨u,rfl,ru⟩:=vals1 r;cases ru;obtain ⟨its,rv,pl,hz⟩:=I.list hq;have hi:=zz rv;obtain ⟨xs,ex⟩:=hi.allInts.items;have hl:=pl.isList;rw[ex]at hl;refine PySem.sum_intListG (I.ok.hd hc) hl λh' tk t' hk=>⟨.int ns.sum,H,I.kept hk,⟨t',?_⟩,q⟩;have e1:xs.toList.map (·.1)=ns:=by rw[<-PySem.nums_intItems,<-ex];exact hi.numsOf
 rw[PySem.preSum_eq,e1,eP (by rw[<-e1];simp)]
theorem abQ (hc:X.calm=true):bW X (.builtin "sum") (iJ X.K .sum):=by
 intro pins s Y H xs us Q I rs h;obtain ⟨F,G,ds,r,t,h⟩:=h;generalize ea:ds.map (view G)=va at h;simp only[opB,sW]at h;split at h
 ·obtain ⟨d,rfl,ev⟩:=map_one ea;obtain ⟨v,rfl,rv⟩:=bT t;obtain ⟨a,vs,e,q,t'⟩:=Rep.list r rv ev;subst e;split at h
  ·rename_i bs hb;have e2:=zy hb t';subst e2;exact abP hc pins s Y H _ us Q I rs ⟨a,bs,rfl,q,h.now r rfl⟩
  ·exact h.elim
 ·exact h.elim
theorem abR:bootBuiltins "sum"=some (.builtin "sum"):=by ac_rfl
theorem Hh:∀{ls:List (List Nat)}{its:List Value},Vals ((ls.map tx).map V.str) its->StrsAre its (ls.map tx)
 |[],its,h=>by cases h;exact .nil
 |n::ns,its,h=>by
  cases h with
  |cons a b=>
   obtain ⟨t,rfl⟩:=a;exact .cons _ t (Hh b)
theorem Hi{K:PF}{H:Hp}{F:FZ}:∀{ds:List D}{vs:List V}{ls:List (List Nat)},bJ ds=some ls->Reps K H F ds vs->∀l∈ls,l.length<=sz
 |[],vs,ls,e,t=>by simp only[bJ,bn]at e;subst e;intro l hl;cases hl
 |d::ds,vs,ls,e,t=>by
  obtain ⟨v,r,e1,h,t⟩:=t;cases d with
  |str b=>
   simp only[bJ]at e;cases q:bJ ds with
   |none=>rw[q]at e;cases e
   |some s=>
    rw[q]at e;cases e;intro l hl;rcases ci.mp hl with e |hl
    ·rw[e];exact h.2
    ·exact Hi q t l hl
  |_=>simp[bJ]at e
theorem Hj(val:Nat->List Nat):∀k,argBest (λi j=>decide (val i < val j)) k<=k/\∀j,j<=k->¬val j < val (argBest (λi j=>decide (val i < val j)) k)
 |0=>⟨ay _,λj hj=>by
  have:j=0:=by omega
  subst this;exact ge _⟩
 |k+1=>by
  obtain ⟨h1,h2⟩:=Hj val k;simp only[argBest];by_cases hc:val (k+1) < val (argBest (λi j=>decide (val i < val j)) k)
  ·rw[if_pos (by simpa using hc)];refine ⟨ay _,λj hj=>?_⟩;rcases Nat.lt_or_ge j (k+1) with hlt |hge
   ·exact λh=>h2 j (by omega) (List.lt_trans h hc)
   ·have:j=k+1:=by omega
    subst this;exact ge _
  ·rw[if_neg (by simpa using hc)];refine ⟨by omega,λj hj=>?_⟩;rcases Nat.lt_or_ge j (k+1) with hlt |hge
   ·exact h2 j (by omega)
   ·have:j=k+1:=by omega
    subst this;exact hc
section
variable {prog:Program} {w:World} {A:Around} {E:Value->Shared->Prop} {s:Shared} {l:Addr}
theorem vd:∀{its:List Value}{ls:List (List Nat)}{i:Nat}{v:Value},StrsAre its (ls.map tx)->its[i]?=some v->∃t,v=.str (tx (ls.getD i [])) t
 |[],ls,i,v,_,h=>by simp at h
 |x::its,[],i,v,hs,h=>by cases hs
 |x::its,a::ls,0,v,hs,h=>by
  cases hs with
  |cons y t q=>exact ⟨t,by simpa using h.symm⟩
 |x::its,a::ls,i+1,v,hs,h=>by
  cases hs with
  |cons y t q=>
   have:=vd (i:=i) (v:=v) q (by simpa using h);simpa using this
theorem abS{Q:Value->Shared->Prop}{its:List Value}{ls:List (List Nat)}(hh:A.handled=none)(hl:s.heap.IsList l its.toArray)(hs:StrsAre its (ls.map tx))(hn:its.length=ls.length)(hne:0 < ls.length)
  (h:∀(m:List Nat)(t:Tok)(h':Heap)(tk:Nat),m∈ls->(∀a,a∈ls->¬a < m)->(∀b o,s.heap.get? b=some o->h'.get? b=some o)->Q (.str (tx m) t) { s with heap:=h',toks:=tk }):
  wpAny (model prog w) A (call (.builtin "min") [.ref l]) Q E s:=by
 have hlt:l < (~~~s):=by obtain ⟨_,e,_⟩:=hl;exact bi e
 refine call_min_walk (wpAny_pyIter_list hl ?_);refine ⟨_,_,_,_,_,_,λi j=>decide (ls.getD i [] < ls.getD j []),rfl,Walks.list (A:=A.in1) hh _ l (dA hlt) its.toArray,⟨⟨_,bv _ rfl,rfl,rfl⟩,hl.push _⟩,?_,?_,?_,?_⟩
 ·intro b hb;show b < (s.heap.push _).objs.size;rw[fg];rcases ci.mp hb with rfl |hb
  ·exact gl _
  ·rcases ci.mp hb with rfl |hb
   ·exact Nat.lt_succ_of_lt hlt
   ·cases hb
 ·simpa [hn] using hne
 ·intro i j vi vj s Q E hi hj h;obtain ⟨t,rfl⟩:=vd hs (by simpa using hi);obtain ⟨u,rfl⟩:=vd hs (by simpa using hj);exact richCompare_gives (op:=.Lt) (typeIs_str s _ t) (typeIs_str s _ u) F.slot_str_lt F.entry_str_lt (F.args_str_lt_2 _ _) (gives_str_lt _ _ t u) (λe=>nomatch e) h
 ·intro v h' tk hP hk;obtain ⟨t,rfl⟩:=vd hs (show its[_]?=some v by rw[<-List.getElem?_toArray];exact hP);obtain ⟨b1,b2⟩:=Hj (λi=>ls.getD i []) (its.toArray.size - 1);have hsz:its.toArray.size=ls.length:=by simpa using hn
  refine h _ t h' tk ?_ (λa ha=>?_) (old_kept hk)
  ·rw[dc,a8 (by omega)];exact d4 _
  ·obtain ⟨j,hj,rfl⟩:=List.getElem_of_mem ha;have:=b2 j (by omega);rwa [show ls.getD j []=ls[j] by rw[dc,a8 hj];rfl]at this
end
theorem abT (hc:X.calm=true):bW X (.builtin "min") (λxs H Q=>∃(p:Addr) (ns:List Int),xs=[.ref p]/\SqL X.K H p (ns.map V.int)/\ns≠[]/\∀m,m∈ns->(∀a,a∈ns->m<=a)->Q (.int m) H):=by
 intro pins s Y H xs us Q I r h;obtain ⟨p,ns,rfl,hq,hne,q⟩:=h;obtain ⟨u,rfl,ru⟩:=vals1 r;cases ru;obtain ⟨its,rv,pl,hz⟩:=I.list hq;have hi:=zz rv;obtain ⟨xs,ex⟩:=hi.allInts.items;have hl:=pl.isList;rw[ex]at hl;have e1:xs.toList.map (·.1)=ns:=by rw[<-PySem.nums_intItems,<-ex];exact hi.numsOf
 have hsz:0 < xs.size:=by have:=gt.mpr hne;rw[<-e1,af,eL]at this;exact this
 refine PySem.min_intList (I.ok.hd hc) hl hsz λv h' tk hv hk=>?_;obtain ⟨t,rfl⟩:=PySem.intItems_at hv;obtain ⟨b1,b2⟩:=PySem.argBest_lt (PySem.numAt xs) (xs.size - 1);refine ⟨.int _,H,I.kept hk,⟨t,rfl⟩,q _ ?_ λa ha=>?_⟩
 ·rw[<-e1,PySem.numAt_eq];exact PySem.getD_mem (by rw[af,eL];omega)
 ·rw[<-e1]at ha;obtain ⟨j,hj,rfl⟩:=PySem.mem_getD ha;rw[af,eL]at hj;rw[<-PySem.numAt_eq];exact b2 j (by omega)
theorem abU (hc:X.calm=true):bW X (.builtin "min") (λxs H Q=>∃(p:Addr) (ls:List (List Nat)),xs=[.ref p]/\SqL X.K H p ((ls.map tx).map V.str)/\ls≠[]/\∀m,m∈ls->(∀a,a∈ls->¬a < m)->Q (.str (tx m)) H):=by
 intro pins s Y H xs us Q I r h;obtain ⟨p,ls,rfl,hq,hne,q⟩:=h;obtain ⟨u,rfl,ru⟩:=vals1 r;cases ru;obtain ⟨its,rv,pl,hz⟩:=I.list hq;have hlen:its.length=ls.length:=by rw[<-rv.length];simp
 refine abS (I.ok.hd hc) pl.isList (Hh rv) hlen (gt.mpr hne) λm t h' tk h1 h2 hk=>?_;exact ⟨.str (tx m),H,I.kept hk,⟨t,rfl⟩,q m h1 h2⟩
theorem abV{ds:List D}{ls:List (List Nat)}(h0:cB ds=none)(h1:bJ ds=some ls):ls≠[]:=by
 rintro rfl;cases ds with
 |nil=>simp[cB]at h0
 |cons x y=>cases x <;> simp only[bJ]at h1 <;> first | (cases h1;done) | (cases hd:bJ y <;> rw[hd]at h1 <;> cases h1)
theorem abW (hc:X.calm=true):bW X (.builtin "min") (iJ X.K .min):=by
 intro pins s Y H xs us Q I rs h;obtain ⟨F,G,ds,r,t,h⟩:=h;generalize ea:ds.map (view G)=va at h;simp only[opB,lK]at h;split at h
 ·obtain ⟨d,rfl,ev⟩:=map_one ea;obtain ⟨v,rfl,rv⟩:=bT t;obtain ⟨a,vs,e,q,t'⟩:=Rep.list r rv ev;subst e;split at h
  ·rename_i ns hb;have e2:=zy hb t';subst e2;exact abT hc pins s Y H _ us Q I rs ⟨a,ns,rfl,q,h.1,λm h1 h2=>(h.2 m h1 h2).now r rfl⟩
  ·split at h
   ·rename_i hb0 _ ls hb;have e2:=zx hb t';have hsz:=Hi hb t';subst e2;refine abU hc pins s Y H _ us Q I rs ⟨a,ls,rfl,q,?_,λm h1 h2=>(h m h1 h2).now r ⟨rfl,hsz m h1⟩⟩;exact abV (by assumption) hb
   ·exact h.elim
 ·exact h.elim
theorem abX:bootBuiltins "min"=some (.builtin "min"):=by ac_rfl
theorem abY:bW X (.type "str") (iJ X.K .str):=by
 intro pins s Y H xs us Q I r h;obtain ⟨F,G,ds,rr,t,h⟩:=h;generalize ea:ds.map (view G)=va at h;simp only[opB,yr]at h;split at h
 ·rename_i i;obtain ⟨d',rfl,ev⟩:=map_one ea;obtain ⟨v',rfl,rv⟩:=bT t;have e1:=eY ev;subst e1;have e2:v'=.int i:=rv;subst e2;obtain ⟨⟨h0,h1⟩,h2⟩:=h;have hm:(i.toNat:Int)=i:=Int.toNat_of_nonneg h0;have hl:(iC i.toNat).length<=3:=by
   have:=digits_le ⟨i.toNat,by omega⟩;unfold iC;rw[eL];exact this
  have hs:=h2.now rr (v:=.str (tx (iC i.toNat))) ⟨rfl,by have hz:sz=1000000:=rfl;omega⟩;have ht:tx (iC i.toNat)=yd i.toNat:=(xW _).symm;rw[ht]at hs;exact aaT pins s Y H _ us Q I r ⟨i.toNat,by rw[hm],by omega,hs⟩
 ·exact h.elim
def d8:D->Option String
 |.non=>some "NoneType"
 |.bl _=>some "bool"
 |.int _=>some "int"
 |.str _=>some "str"
 |.tup _=>some "tuple"
 |.lst _=>some "list"
 |_=>none
theorem abZ{K:PF}{H:Hp}{F:FZ}{G:DH}{d:D}{v:V}{T:String}(r:R K H F G)(h:Rep K H F d v)(e:d8 (view G d)=some T):TyOf K H v (.type T):=by
 have h':=u5 r h;generalize view G d=w at e h';cases w with
 |non=>have e1:v=.non:=h';subst e1;simp only[d8,bn]at e;subst e;exact .non
 |bl x=>have e1:v=.bl x:=h';subst e1;simp only[d8,bn]at e;subst e;exact .bl x
 |int i=>have e1:v=.int i:=h';subst e1;simp only[d8,bn]at e;subst e;exact .int i
 |str l=>obtain ⟨e1,hl⟩:=h';subst e1;simp only[d8,bn]at e;subst e;exact .str _
 |tup l=>obtain ⟨a,vs,e1,q,t⟩:=h';subst e1;simp only[d8,bn]at e;subst e;exact .tup q.it
 |lst l=>obtain ⟨a,vs,e1,q,t⟩:=h';subst e1;simp only[d8,bn]at e;subst e;exact .lst q.2
 |ref a=>simp[d8]at e
 |scr a=>simp[d8]at e
 |exn a=>simp[d8]at e
 |obj _ _ _=>simp[d8]at e
def ab0 (K:PF):Prop:=∀T t:String,T∈["NoneType","bool","int","str","tuple","list"]->gQ t=true->PySem.W.kitOne K (.type T) (.type t)=some (T==t||(T=="bool"&&t=="int"))
theorem ab1{K:PF}:ab0 K:=by intro T t hT ht;simp only[ci,List.not_mem_nil,or_false]at hT;simp only[gQ,dP,a9]at ht;rcases hT with rfl |rfl |rfl |rfl |rfl |rfl <;> rcases ht with (((rfl |rfl) |rfl) |rfl) |rfl <;> (with_unfolding_all rfl)
theorem ab2 {d:D} {t:String} {b:Bool} (e:isT t d=some b):∃T,d8 d=some T/\T∈["NoneType","bool","int","str","tuple","list"]/\(gQ t=true->b=(T==t||(T=="bool"&&t=="int"))):=by
 have comm:∀a b:String,(a==b)=(b==a):=λa b=>by rw[ff,a9,a9];exact ⟨Eq.symm,Eq.symm⟩
 cases d with
 |non=>
  refine ⟨"NoneType",rfl,by simp,λht=>?_⟩;simp only[isT,bn]at e;simp only[gQ,dP,a9]at ht;subst e;rcases ht with (((rfl |rfl) |rfl) |rfl) |rfl <;> rfl
 |bl _=>
  refine ⟨"bool",rfl,by simp,λht=>?_⟩;simp only[isT,bn]at e;rw[<-e,comm t "bool"];rfl
 |int _=>
  refine ⟨"int",rfl,by simp,λht=>?_⟩;simp only[isT,bn]at e;rw[<-e,comm t "int"];simp
 |str _=>
  refine ⟨"str",rfl,by simp,λht=>?_⟩;simp only[isT,bn]at e;rw[<-e,comm t "str"];simp
 |tup _=>
  refine ⟨"tuple",rfl,by simp,λht=>?_⟩;simp only[isT,bn]at e;rw[<-e,comm t "tuple"];simp
 |lst _=>
  refine ⟨"list",rfl,by simp,λht=>?_⟩;simp only[isT,bn]at e;rw[<-e,comm t "list"];simp
 |ref a=>simp[isT]at e
 |scr a=>simp[isT]at e
 |exn a=>simp[isT]at e
 |obj _ _ _=>simp[isT]at e
theorem Hk(s:List Nat):∀ls:List (List Nat),Str.join (tx s) (ls.map tx)=tx (fu s ls)
 |[]=>rfl
 |[x]=>rfl
 |x::y::r=>by
  have ih:=Hk s (y::r);show tx x++tx s++Str.join (tx s) ((y::r).map tx)=_;rw[ih,sJ,sJ];rfl
theorem Hl(s:List Nat):∀ls:List (List Nat),(fu s ls).length<=(ls.map (·.length)).sum+ls.length * s.length
 |[]=>by simp[fu]
 |[x]=>by simp[fu]
 |x::y::r=>by
  have ih:=Hl s (y::r);simp only[fu,aE,bp,hZ,cS]at ih ⊢;have:(r.length+1+1) * s.length=(r.length+1) * s.length+s.length:=by rw[Nat.succ_mul]
  omega
def ju(K:PF)(m:Mf):V->List V->Hp->VK->Prop:=λx vs H Q=>∃F G d ds,R K H F G/\Rep K H F d x/\Reps K H F ds vs/\opM m d ds G (PV K H F Q)
theorem ab3:MtR X "str.join" (ju X.K .join):=by
 intro pins s Y H x xs v us Q I rx rs h;obtain ⟨F,G,d,ds,r,rd,t,h⟩:=h;simp only[opM]at h;generalize ea:ds.map (view G)=va at h;simp only[sY]at h;split at h
 ·obtain ⟨d',rfl,ev⟩:=map_one ea;obtain ⟨v',rfl,rv⟩:=bT t;obtain ⟨a,vs,e,q,t'⟩:=Rep.list r rv ev;subst e;obtain ⟨e1,hl⟩:=rd;subst e1;split at h
  ·rename_i ls hls;have e2:=zx hls t';subst e2;refine aac pins s Y H _ _ v us Q I rx rs ⟨_,a,_,rfl,rfl,q,?_,?_⟩
   ·have hz:=h.1;rw[ek,af,cA,show (λx:Str=>x.length)∘tx=λl=>l.length from funext cA];have:sz=1000000:=rfl;omega
   ·rw[Hk];exact h.2.now r ⟨rfl,cp (Hl _ _) h.1⟩
  ·exact h.elim
 ·exact h.elim
theorem ab4:MtM X "list.append" (ju X.K .append):=by
 intro pins s Y H x xs v us Q I rx rs h;obtain ⟨F,G,d,ds,r,rd,t,h⟩:=h;simp only[opM,sZ]at h;split at h
 ·obtain ⟨v',rfl,rv⟩:=bT t;have e1:x=.ref _:=rd;subst e1;split at h
  ·rename_i ds0 hg;obtain ⟨vs,q,t'⟩:=r.lst hg;refine ZX pins s Y H _ _ v us Q I rx rs ⟨_,vs,v',rfl,rfl,q,?_,?_⟩
   ·rw[<-t'.length];exact b9 h.1 szl
   ·exact h.2 _ _ _ (jo r hg) (r.write hg (t'.append (Reps.cons rv Reps.nil))) rfl
  ·exact h.elim
 ·exact h.elim
theorem ab5:MtR X "list.count" (ju X.K .count):=by
 intro pins s Y H x xs v us Q I rx rs h;obtain ⟨F,G,d,ds,r,rd,t,h⟩:=h;simp only[opM]at h;generalize ea:view G d=va at h;simp only[tB]at h;split at h
 ·obtain ⟨a,vs,e,q,t'⟩:=Rep.list r rd ea;subst e;obtain ⟨v',rfl,rv⟩:=bT t;have e2:v'=.bl true:=rv;subst e2;split at h
  ·rename_i bs hbs;have e3:=u9 hbs t';subst e3;exact aaO pins s Y H _ _ v us Q I rx rs ⟨a,bs,rfl,rfl,q,h.now r rfl⟩
  ·exact h.elim
 ·exact h.elim
theorem ab6:MtR X "list.index" (ju X.K .index):=by
 intro pins s Y H x xs v us Q I rx rs h;obtain ⟨F,G,d,ds,r,rd,t,h⟩:=h;simp only[opM]at h;generalize ea:view G d=va at h;simp only[tD]at h;split at h
 ·obtain ⟨a,vs,e,q,t'⟩:=Rep.list r rd ea;subst e;obtain ⟨v',rfl,rv⟩:=bT t;have e2:v'=.bl true:=rv;subst e2;split at h
  ·rename_i bs hbs;have e3:=u9 hbs t';subst e3;exact aaQ pins s Y H _ _ v us Q I rx rs ⟨a,bs,rfl,rfl,q,h.1,h.2.now r rfl⟩
  ·exact h.elim
 ·exact h.elim
def ab7:V->List V->Hp->VK->Prop:=λx vs H Q=>∃(l:Addr)(xs:List V)(i:Int)(y:V),x=.ref l/\vs=[.int i,y]/\H l=some (.lst xs)/\xs.length < sizeLine/\0<=i/\i<=1000000/\Q .non (upd H l (.lst (xs.take i.toNat++y::xs.drop i.toNat)))
theorem ab8{its:List Value}{i:Int}{u:Value}(h:0<=i):(its.toArray.extract 0 (if i < 0 then (i+(its.toArray.size:Int)).toNat else min i.toNat its.toArray.size)).push u++its.toArray.extract (if i < 0 then (i+(its.toArray.size:Int)).toNat else min i.toNat its.toArray.size)=(its.take i.toNat++u::its.drop i.toNat).toArray:=by
 rw[if_neg (by omega),PySem.W.kl_ins_eq,aw];by_cases hc:i.toNat<=its.length
 ·rw[Nat.min_eq_left hc]
 ·rw[Nat.min_eq_right (by omega),eP (ay _),List.drop_of_length_le (ay _),eP (by omega),List.drop_of_length_le (by omega)]
theorem ab9{i:Int}(h0:0<=i)(h1:i<=1000000):¬(!Builtin.List.listFitsIndex i)=true:=by
 have:Builtin.List.listFitsIndex i=true:=by unfold Builtin.List.listFitsIndex;rw[ae];exact ⟨cb (by omega),cb (by omega)⟩
 rw[this];decide
theorem aca:MtM X "list.insert" ab7:=by
 intro pins s Y H x vs v us Q I rx rv h;obtain ⟨l,xs,i,y,rfl,rfl,hH,hz,h0,h1,q⟩:=h;cases rx;cases rv with
 |cons r1 rv=>
  obtain ⟨t,rfl⟩:=r1;obtain ⟨u,rfl,ru⟩:=L2.Vals.one rv;obtain ⟨z,its,m,r,hl,e⟩:=I.lstM hH;refine gv PySem.F.slot_list_insert ⟨_,e,rfl⟩ PySem.F.entry_list_insert (PySem.F.args_list_insert_3 _ _ _) (PySem.AutoSeq1.list_insert_list_int_val_1 l its.toArray m i t u (ab9 h0 h1) (by rw[aw];omega)) ⟨e,?_⟩;refine ⟨.non,_,I.lset (its':=its.take i.toNat++u::its.drop i.toNat) hH e (ab8 h0) ((r.take _).append (.cons ru (r.drop _))) ?_,rfl,q⟩;rw[aE,cS,bX,cr];omega
theorem acb:MtM X "list.insert" (ju X.K .insert):=by
 intro pins s Y H x xs v us Q I rx rs h;obtain ⟨F,G,d,ds,r,rd,t,h⟩:=h;simp only[opM,tu]at h;split at h
 ·rename_i i y;obtain ⟨v1,r1,rfl,rv1,t⟩:=t;obtain ⟨v',rfl,rv⟩:=bT t;have e1:x=.ref _:=rd;subst e1;have e2:v1=.int i:=rv1;subst e2;split at h
  ·rename_i ds0 hg;obtain ⟨h1,h2,h3,h4⟩:=h;obtain ⟨vs,q,t'⟩:=r.lst hg;refine aca pins s Y H _ _ v us Q I rx rs ⟨_,vs,i,v',rfl,rfl,q,?_,h2,h3,?_⟩
   ·rw[<-t'.length];exact b9 h1 szl
   ·exact h4 _ _ _ (jo r hg) (r.write hg ((t'.take _).append (Reps.cons rv (t'.drop _)))) rfl
  ·exact h.elim
 ·exact h.elim
theorem acd:MtM X "list.pop" (ju X.K .pop):=by
 intro pins s Y H x xs v us Q I rx rs h;obtain ⟨F,G,d,ds,r,rd,t,h⟩:=h;simp only[opM,yu]at h;split at h
 ·rename_i i;obtain ⟨v',rfl,rv⟩:=bT t;have e1:x=.ref _:=rd;subst e1;have e2:v'=.int i:=rv;subst e2;split at h
  ·rename_i ds0 hg;obtain ⟨h1,h2,h3⟩:=h;obtain ⟨vs,q,t'⟩:=r.lst hg;split at h3
   ·rename_i y hy;obtain ⟨u,hu,ru⟩:=t'.get hy;have hlt:i.toNat < vs.length:=(am.mp hu).1;refine Z2 pins s Y H _ _ v us Q I rx rs ⟨_,vs,i,i.toNat,u,rfl,rfl,q,by omega,by omega,?_,hu,?_⟩
    ·unfold seqIndex?;have e3:¬i < 0:=by omega
     simp[e3];omega
    ·rw[List.eraseIdx_eq_take_drop_succ];rw[List.eraseIdx_eq_take_drop_succ]at h3;have rw2:=r.write hg ((t'.take i.toNat).append (t'.drop (i.toNat+1)));exact h3 _ _ _ (jo r hg) rw2 (Rep.ext (jo r hg) ru)
   ·exact h3.elim
  ·exact h.elim
 ·exact h.elim
theorem ace{K:PF}{H:Hp}{F:FZ}{G:DH}{d:D}{v:V}{ds:List D}(r:R K H F G)(h:Rep K H F d v)(e:view G d=.lst ds):∃a vs,v=.ref a/\H a=some (.lst vs)/\Reps K H F ds vs:=by
 cases d with
 |lst xs=>
  have e':D.lst xs=.lst ds:=e;cases e';obtain ⟨a,vs,e1,q,t⟩:=h;exact ⟨a,vs,e1,q.2,t⟩
 |ref p=>
  have hv:v=.ref p:=h;unfold view at e;cases g:G p with
  |none=>simp only[g]at e;cases e
  |some o=>
   cases o with
   |lst xs=>
    simp only[g]at e;cases e;obtain ⟨vs,q,t⟩:=r.lst g;exact ⟨p,vs,hv,q,t⟩
 |_=>cases (show _=D.lst ds from e)
theorem acf:MtM X "list.extend" (ju X.K .extend):=by
 intro pins s Y H x xs v us Q I rx rs h;obtain ⟨F,G,d,ds,r,rd,t,h⟩:=h;simp only[opM]at h;generalize ea:ds.map (view G)=va at h;simp only[jZ]at h;split at h
 ·obtain ⟨d',rfl,ev⟩:=map_one ea;obtain ⟨v',rfl,rv⟩:=bT t;obtain ⟨b,vs2,e2,q2,t2⟩:=ace r rv ev;subst e2;have e1:x=.ref _:=rd;subst e1;split at h
  ·rename_i ds0 hg;obtain ⟨vs,q,t'⟩:=r.lst hg;refine Z0 pins s Y H _ _ v us Q I rx rs ⟨_,b,vs,vs2,rfl,rfl,q,q2,?_,?_⟩
   ·rw[<-t'.length,<-t2.length];exact Nat.le_of_lt (b9 h.1 szl)
   ·exact h.2 _ _ _ (jo r hg) (r.write hg (t'.append t2)) rfl
  ·exact h.elim
 ·exact h.elim
theorem Hm:sr X (λo i x H Q=>∃F G a b c,R X.K H F G/\Rep X.K H F a o/\Rep X.K H F b i/\Rep X.K H F c x/\fB a b c G (λG'=>∀H' F',Ext H F H' F'->R X.K H' F' G'->Q H')):=by
 intro pins s Y H o i v ov iv u Q I ro ri rv h;obtain ⟨F,G,a,b,c,r,ra,rb,rc,h⟩:=h;unfold fB at h;split at h
 ·have e1:o=.ref _:=ra;have e2:i=.int _:=rb;subst e1;subst e2;split at h
  ·rename_i ds hg;obtain ⟨vs,q,t⟩:=r.lst hg;split at h
   ·rename_i j hj;refine set_list pins s Y H _ _ v ov iv u Q I ro ri rv ⟨_,vs,_,j,rfl,rfl,q,by rw[<-t.length];exact hj,?_⟩;exact h _ _ (jo r hg) (r.write hg (t.set rc j))
   ·exact h.elim
  ·exact h.elim
 ·exact h.elim
theorem Hn(op:Operator):PIp X op (λx y H Q=>∃F G a b,R X.K H F G/\Rep X.K H F a x/\Rep X.K H F b y/\d7 op a b (λd=>PV X.K H F Q d G)):=by
 intro pins s Y H x y v u Q I rx ry h;obtain ⟨F,G,a,b,r,ra,rb,h⟩:=h;unfold d7 at h;split at h
 ·have e1:x=.int _:=ra;have e2:y=.int _:=rb;subst e1;subst e2;exact YJ pins s Y H _ _ v u Q I rx ry ⟨_,_,rfl,rfl,h.now r rfl⟩
 ·obtain ⟨e1,l1⟩:=ra;obtain ⟨e2,l2⟩:=rb;subst e1;subst e2;refine Y5 pins s Y H _ _ v u Q I rx ry ⟨_,_,rfl,rfl,by rw[cA,cA];exact cX h.1,?_⟩;rw[sJ];exact h.2.now r ⟨rfl,by rw[aE];exact h.1⟩
 ·have e1:x=.int _:=ra;have e2:y=.int _:=rb;subst e1;subst e2;exact YK pins s Y H _ _ v u Q I rx ry ⟨_,_,rfl,rfl,h.now r rfl⟩
 ·exact h.elim
theorem acg:DK X (λo i H Q=>∃F G a b,R X.K H F G/\Rep X.K H F a o/\Rep X.K H F b i/\cG (view G a) b (λd=>PV X.K H F Q d G)):=by
 intro pins s Y H o i ov iv Q I ro ri h;obtain ⟨F,G,a,b,r,ra,rb,h⟩:=h;generalize ea:view G a=va at h;have hn:=iy;unfold cG at h;split at h
 ·rename_i dd k;obtain ⟨p,vs,e,q,t⟩:=Rep.list r ra ea;subst e;have e2:i=.int _:=rb;subst e2;split at h
  ·rename_i d hd;obtain ⟨w,hw,rw'⟩:=u6 t hd;cases ro;obtain ⟨tk,rfl⟩:=ri;obtain ⟨its,rv,pl,hz⟩:=I.list q;obtain ⟨j,h1,h2,h3,h4,h5⟩:=jP hw;obtain ⟨u,eu,ru⟩:=rv.get h2;have hl:=rv.length;have fin:EP X pins Y Q u s:=⟨w,H,I,ru,h.now r rw'⟩;by_cases h0:0<=k
   ·have hj:k.toNat=j:=by
     rw[seqIndex_of h0 h5]at h1;exact dE h1
    exact wpAny_getItem_list pl.isList h0 (by omega) (by rw[hj];simpa using eu) fin
   ·have hj:(k+(its.toArray.size:Int)).toNat=j:=by
     rw[seqIndex_neg (by omega) h4]at h1;rw[aw,<-hl];exact dE h1
    exact wpAny_getItem_list_neg pl.isList (by omega) (by rw[aw] <;> omega) (by omega) (by rw[hj];simpa using eu) fin
  ·exact h.elim
 ·cases fY ea;obtain ⟨p,vs,e,q,t⟩:=ra;subst e;have e2:i=.int _:=rb;subst e2;split at h
  ·rename_i d hd;obtain ⟨w,hw,rw'⟩:=u6 t hd;cases ro;obtain ⟨tk,rfl⟩:=ri;obtain ⟨its,rv,pl,hz⟩:=I.tuple q.sq;obtain ⟨j,h1,h2,h3,h4,h5⟩:=jP hw;obtain ⟨u,eu,ru⟩:=rv.get h2;have hl:=rv.length;exact getItem_tuple (j:=j) pl (by omega) (by omega) (by rw[aw,<-hl];exact h1) (by simpa using eu) ⟨w,H,I,ru,h.now r rw'⟩
  ·exact h.elim
 ·rename_i l k;cases gO ea;obtain ⟨e,hl⟩:=ra;subst e;have e2:i=.int _:=rb;subst e2;split at h
  ·rename_i c hc;obtain ⟨tk,rfl⟩:=ro;obtain ⟨tk',rfl⟩:=ri;obtain ⟨j,h1,h2,h3,h4,h5⟩:=jP hc;have hll:=cX hl;have e0:(tx l).length=l.length:=cA l;refine getItem_str (c:=c) (by
    have e1:decide (k < -(2 ^ 63:Int))=false:=cy (by omega);have e2:decide (k≥2 ^ 63)=false:=cy (by omega);rw[e1,e2,Bool.or_false]) (by rw[e0,h1];simpa using h2) ⟨.str (tx [c]),H,I.tok _,⟨_,rfl⟩,h.now r ⟨rfl,by show 1<=sz;decide⟩⟩
  ·exact h.elim
 ·exact h.elim
end
inductive SK where
 |lst (a:Addr) |tup (a:Addr) |str (x:Str) (t:Tok)
def SK.val:SK->Value
 |.lst a=>.ref a
 |.tup a=>.ref a
 |.str x t=>.str x t
def SK.cls:SK->String
 |.lst _=>"list_iterator"
 |.tup _=>"tuple_iterator"
 |.str x _=>strIterType x
def SK.obj(k:SK):Obj:={ cls:=.type k.cls,data:=.fields #[k.val,.int 0 0] }
def SK.pos(k:SK)(it:Addr)(i:Nat)(h:Heap):Prop:=∃o,h.get? it=some o/\o.cls=.type k.cls/\o.data=.fields #[k.val,.int i 0]
def SK.Sat(H:Hp)(vs:List V):SK->Prop
 |.lst a=>H a=some (.lst vs)
 |.tup a=>H a=some (.tup vs)
 |.str x _=>vs=x.cps.toList.map λc=>V.str ⟨#[c]⟩
def SK.No(e:Addr):SK->Prop
 |.lst a=>a≠e
 |.tup a=>a≠e
 |.str _ _=>True
theorem SK.Sat.no{H:Hp}{vs:List V}{k:SK}{e:Addr}(h:k.Sat H vs)(he:H e=none):k.No e:=by
 cases k with
 |lst a=>exact b7 (show H a=some _ from h) he
 |tup a=>exact b7 (show H a=some _ from h) he
 |str x t=>trivial
def SK.On(its:Array Value)(h:Heap):SK->Prop
 |.lst a=>h.IsList a its
 |.tup a=>h.IsTuple a its
 |.str _ _=>True
theorem SK.On.keeps{its:Array Value}{h h':Heap}{k:SK}(x:k.On its h)(kk:∀b o,k.val=.ref b->h.get? b=some o->h'.get? b=some o):k.On its h':=by
 cases k with
 |lst a=>obtain ⟨o,e,r⟩:=x;exact ⟨o,kk a o rfl e,r⟩
 |tup a=>obtain ⟨o,e,r⟩:=x;exact ⟨o,kk a o rfl e,r⟩
 |str _ _=>trivial
section
variable {prog:Program} {w:World} {A:Around} {E:Value->Shared->Prop} {s:Shared}
theorem SK.iter{k:SK}{its:Array Value}{Q:Value->Shared->Prop}(h:k.On its s.heap)(q:Q (.ref (~~~s)) { s with heap:=s.heap.push k.obj }):wpAny (model prog w) A (pyIter k.val) Q E s:=by
 cases k with
 |lst a=>exact wpAny_pyIter_list h q
 |tup a=>exact wpAny_pyIter_tuple h q
 |str x t=>exact wpAny_pyIter_strU q
theorem SK.pos0{k:SK}{h:Heap}:k.pos h.objs.size 0 (h.push k.obj):=⟨_,bv _ rfl,rfl,rfl⟩
theorem SK.pos.keep{k:SK}{it:Addr}{i:Nat}{h h':Heap}(x:k.pos it i h)(kk:∀o,h.get? it=some o->h'.get? it=some o):k.pos it i h':=let ⟨o,e,r⟩:=x;⟨o,kk o e,r⟩
theorem ach{it t:Addr}{i:Nat}{items}{x:Value}{Q:Value->Shared->Prop}(hit:s.heap.IsTupleIter it t i)
  (ht:s.heap.IsTuple t items) (hx:items[i]?=some x)
  (hQ:∀h',h'.IsTupleIter it t (i+1)->Heap.SameBut it s.heap h'->Q x { s with heap:=h' }):
  wpAny (model prog w) A (Builtin.SmallTypes.nextOf (.ref it)) Q E s:=by
 obtain ⟨o,ho,hc,hd⟩:=id hit;obtain ⟨ol,hol,_,nl,hdl⟩:=ht;unfold Builtin.SmallTypes.nextOf;refine al (fk (name:=Str.ofString "__next__") hit.typeIs gy
  (fA gy hit.typeIs F.entry_tuple_iterator_next ?_ (F.args_tuple_iterator_next_1 _)))
 show wpAny _ _ (field (.ref it) 0 >>= _) _ _ s;refine al (d3 ho hd (x:=.ref t) rfl ?_);show wpAny _ _ (if (Value.ref t==Value.none)=true then _ else _) _ _ s;rw[if_neg (show ¬((Value.ref t==Value.none)=true) from a7)];show wpAny _ _ (field (.ref it) 1 >>= _) _ _ s;refine al (d3 ho hd (x:=.int i 0) rfl ?_);show wpAny _ _ (seqItems? (.ref t) >>= _) _ _ s;refine al (ft hol hdl ?_);simp only[dr,hx];refine al (wpAny_setField ho hd (by simp) (bg ⟨x,rfl,bg (hQ _ ?_ (Heap.SameBut.update ..))⟩));exact ⟨_,Heap.get?_update_self _ ho (Obj.isFreed_of_fields (Obj.data_mapFields hd _)),(Obj.cls_mapFields ..).trans hc,by
  rw[Obj.data_mapFields hd];simp[rawInt]⟩
theorem aci{it t:Addr}{i:Nat}{items}{Q:Value->Shared->Prop}(hh:A.handled=none)
  (hit:s.heap.IsTupleIter it t i) (ht:s.heap.IsTuple t items) (hx:items[i]?=none)
  (hE:∀h' e,Heap.ExtBut it s.heap h'->(∃o,h'.get? e=some o/\o.cls=.type "StopIteration")->E (.ref e) { s with heap:=h' }):
  wpAny (model prog w) A (Builtin.SmallTypes.nextOf (.ref it)) Q E s:=by
 obtain ⟨o,ho,hc,hd⟩:=id hit;obtain ⟨ol,hol,_,nl,hdl⟩:=ht;unfold Builtin.SmallTypes.nextOf;refine al (fk (name:=Str.ofString "__next__") hit.typeIs gy
  (fA gy hit.typeIs F.entry_tuple_iterator_next ?_ (F.args_tuple_iterator_next_1 _)))
 show wpAny _ _ (field (.ref it) 0 >>= _) _ _ s;refine al (d3 ho hd (x:=.ref t) rfl ?_);show wpAny _ _ (if (Value.ref t==Value.none)=true then _ else _) _ _ s;rw[if_neg (show ¬((Value.ref t==Value.none)=true) from a7)];show wpAny _ _ (field (.ref it) 1 >>= _) _ _ s;refine al (d3 ho hd (x:=.int i 0) rfl ?_);show wpAny _ _ (seqItems? (.ref t) >>= _) _ _ s;refine al (ft hol hdl ?_);simp only[dr,hx];refine al (wpAny_rule (al (wpAny_setField ho hd (by simp) ?_)));show wpAny _ _ (newExc (.type "StopIteration") [] >>= _) _ _ _;refine al ?_;simp only[newExc,newTuple];refine al (fx ?_ (by size_fits));refine al (m:=firstArgMember _ _) (wpAny_of_eq (a:=Value.none) (by first |rfl | (simp only[firstArgMember];rfl)) ?_);refine fx ?_ (by size_fits);simp only[raiseNew];refine al (wpAny_handled ?_);first |rw[show A.in1.handled=none from hh] |rw[hh]
 refine al (bg (wpAny_throw ?_));exact hE _ _ (((Heap.SameBut.update ..).extBut.push _).push _) ⟨_,bv _ rfl,rfl⟩
theorem acj(hh:A.handled=none)(it l:Addr)(hne:l≠it)(items:Array Value):
  Draws prog w A it [it,l] items.size (λi v=>items[i]?=some v) (λi h=>h.IsTupleIter it l i/\h.IsTuple l items) where
 live:=λ_ _ st=>let ⟨o,ho,_⟩:=st.1;⟨o,ho⟩
 frame:=λ_ _ _ st hk=>⟨let ⟨o,e,r⟩:=st.1;⟨o,hk it (by simp) o e,r⟩,let ⟨o,e,r⟩:=st.2;⟨o,hk l (by simp) o e,r⟩⟩
 item:=λi s Q E hi st hQ=>by
  refine ach st.1 st.2 (x:=items[i]) (by simp[hi]) λh' hit' hs'=>?_;exact hQ _ h' s.toks (by simp[hi]) ⟨hit',let ⟨o,e,r⟩:=st.2;⟨o,hs'.extBut l o hne e,r⟩⟩ hs'
 done:=λs Q E st hE=>aci hh st.1 st.2 (by simp) hE
end
structure Drawn(P:Program)(w:World)(A:Around)(k:SK)(it:Addr)(i:Nat)(vs:List V)(h:Heap)(fp:List Addr)(Pd:Nat->Value->Prop)(S:Nat->Heap->Prop):Prop where
 D:Draws P w A it fp vs.length Pd S
 st:S i h
 val:∀j v,Pd j v->∃x,vs[j]?=some x/\RelV x v
 pos:∀j h,S j h->k.pos it j h
 fp:∀b∈fp,b=it\/k.val=.ref b
theorem drawn{X:Cx}{pins:List (Addr×Obj)}{Y:L2.St}{H:Hp}{s:Shared}{A:Around}(hh:A.handled=none)(I:Inv X pins Y H s){k:SK}{it:Addr}{i:Nat}{vs:List V}(sat:k.Sat H vs)(hit:H it=none)(p:k.pos it i s.heap):
  ∃fp Pd S,Drawn X.prog X.w A k it i vs s.heap fp Pd S:=by
 cases k with
 |lst a=>
  have sat:H a=some (.lst vs):=sat;obtain ⟨its,r,pl,_⟩:=I.list (SqL.of sat);refine ⟨[it,a],λj v=>its.toArray[j]?=some v,λj h=>h.IsListIter it a j/\h.IsList a its.toArray,?_,⟨p,pl.isList⟩,?_,λj h st=>st.1,?_⟩
  ·have D:=Draws.list (prog:=X.prog) (w:=X.w) hh it a (b7 sat hit) its.toArray;rw[aw,<-r.length]at D;exact D
  ·intro j v e;have e:its.toArray[j]?=some v:=e;have hj:j < vs.length:=by
    rw[r.length];have:=(Array.getElem?_eq_some_iff.mp e).1;simpa using this
   obtain ⟨u,e2,r2⟩:=r.get (show vs[j]?=some vs[j] by simp[hj]);refine ⟨vs[j],by simp[hj],?_⟩;have:its[j]?=some v:=by simpa using e
   rw[this]at e2;cases e2;exact r2
  ·intro b hb;have hb:b=it\/b=a:=by simpa using hb
   rcases hb with e |e
   ·exact .inl e
   ·exact .inr (by rw[e];rfl)
 |tup a=>
  have sat:H a=some (.tup vs):=sat;obtain ⟨its,r,pl,_⟩:=I.tuple (SqT.of sat);refine ⟨[it,a],λj v=>its.toArray[j]?=some v,λj h=>h.IsTupleIter it a j/\h.IsTuple a its.toArray,?_,⟨p,pl⟩,?_,λj h st=>st.1,?_⟩
  ·have D:=acj (prog:=X.prog) (w:=X.w) hh it a (b7 sat hit) its.toArray;rw[aw,<-r.length]at D;exact D
  ·intro j v e;have e:its.toArray[j]?=some v:=e;have hj:j < vs.length:=by
    rw[r.length];have:=(Array.getElem?_eq_some_iff.mp e).1;simpa using this
   obtain ⟨u,e2,r2⟩:=r.get (show vs[j]?=some vs[j] by simp[hj]);refine ⟨vs[j],by simp[hj],?_⟩;have:its[j]?=some v:=by simpa using e
   rw[this]at e2;cases e2;exact r2
  ·intro b hb;have hb:b=it\/b=a:=by simpa using hb
   rcases hb with e |e
   ·exact .inl e
   ·exact .inr (by rw[e];rfl)
 |str x t=>
  have sat:vs=x.cps.toList.map λc=>V.str ⟨#[c]⟩:=sat;refine ⟨[it],λi v=>∃c u,x.cps[i]?=some c/\v=.str ⟨#[c]⟩ u,λi h=>h.IsStrIter it (strIterType x) x t i,?_,p,?_,λj h st=>st,?_⟩
  ·have D:=aan (prog:=X.prog) (w:=X.w) hh it x t;have e:x.cps.size=vs.length:=by rw[sat,af,eL]
   rw[e]at D;exact D
  ·rintro j v ⟨c,u,e1,e2⟩;refine ⟨V.str ⟨#[c]⟩,?_,u,e2⟩;rw[sat,ax,hV,e1];rfl
  ·intro b hb;exact .inl (by simpa using hb)
def Jk(k:SK):It:=⟨λi H=>∃vs,k.Sat H vs/\i < vs.length,λi H x H'=>H'=H/\∀vs,k.Sat H vs->vs[i]?=some x,λi H=>∃vs,k.Sat H vs/\vs.length=i⟩
def Je(k:SK):It:=⟨λi H=>∃vs,k.Sat H vs/\i < vs.length,λi H x H'=>∃T y,H T=none/\x=.ref T/\H'=upd H T (.tup [.int i,y])/\∀vs,k.Sat H vs->vs[i]?=some y,λi H=>∃vs,k.Sat H vs/\vs.length=i⟩
theorem zA{H:Hp}{k:SK}{vs ws:List V}(h:k.Sat H vs)(h':k.Sat H ws):vs=ws:=by
 cases k with
 |lst a=>have e:=(show H a=some _ from h).symm.trans h';cases e;rfl
 |tup a=>have e:=(show H a=some _ from h).symm.trans h';cases e;rfl
 |str x t=>exact (show vs=_ from h).trans (show ws=_ from h').symm
theorem ack{P:Program}{w:World}{K:PF}{elts:List Expr}{x1:Nat}{pos:Pos}(k:SK)(e it:Addr)(hne:e≠it):
  Turn P w K (.Tuple elts x1 pos) (Je k) [e,it] e (λi h=>(∃old,IsEnum h e it i old)/\k.pos it i h) where
 mem:=by simp
 obj:=λi h st b hb=>by
  obtain ⟨⟨old,he⟩,o,ho,c,d⟩:=st;have hb:b=e\/b=it:=by simpa using hb
  rcases hb with rfl |rfl
  ·exact ⟨_,he,λv z=>by have z':Data.fields _=Data.cell v:=z;cases z'⟩
  ·exact ⟨o,ho,λv z=>by rw[d]at z;cases z⟩
 keep:=λi h h' st kk=>⟨let ⟨old,he⟩:=st.1;⟨old,kk e (by simp) _ he⟩,st.2.keep λo ho=>kk it (by simp) o ho⟩
 item:=by
  intro X hP hw hK hc i pins s Y H E I hf st hg;subst hP hw hK;obtain ⟨vs,sat,hi⟩:=hg;obtain ⟨⟨old,he⟩,hit⟩:=st;have hfe:=hf e (by simp);have hfi:=hf it (by simp);obtain ⟨fp,Pd,S,Dr⟩:=drawn (A:=X.A.in1) (I.ok.hd hc) I sat hfi.1 hit;have helt:e < (~~~s):=bi he;have hef:e∉fp:=λhb=>by
   rcases Dr.fp e hb with z |z
   ·exact hne z
   ·have:=sat.no hfe.1;cases k with
    |lst a=>cases z;exact this rfl
    |tup a=>cases z;exact this rfl
    |str _ _=>cases z
  refine wpAny_pyNext_enum_itemD Dr.D he Dr.st hi hne hef λu h1 tk hu heo hit1 ht1 hz1 hk1=>?_;obtain ⟨x,hx,ru⟩:=Dr.val _ _ hu;refine ⟨_,rfl,?_⟩;refine wpAny_letOwnedTupleGo_enum heo λh2 he2 hs2=>?_;have hs2':Heap.SameBut e h1 h2:=hs2;have hn:H (~~~s)=none:=I.hok.fresh (ay _);have k2:∀b o,b∉[e,it]->s.heap.get? b=some o->h2.get? b=some o:=λb o hb q=>by
   have hb':b≠e/\b≠it:=by simpa using hb
   exact hs2'.extBut b o hb'.1 (hk1 b o hb'.1 hb'.2 q)
  have I2:Inv X pins Y H { s with heap:=h2,toks:=tk+1 }:=I.turnedL hf k2;have ht2:h2.get? (~~~s)=some { cls:=.type "tuple",data:=.seq #[.int i tk,u] }:=hs2'.extBut _ _ (g6 helt) ht1;have ob:ObjOk X.prog X.w (upd H (~~~s) (.tup [.int i,x])) h2 (~~~s) (.tup [.int i,x]):=
   ⟨by rw[sizeLine_eq];simp,[.int i tk,u],.cons ⟨_,rfl⟩ (.cons ru .nil),⟨_,ht2,rfl,_,rfl⟩⟩
  have I3:=I2.track (I.fpOk (ay _) hn) ob;have nee:(~~~s)≠e:=g6 helt;have nei:(~~~s)≠it:=by obtain ⟨o,ho,_⟩:=hit;exact g6 (bi ho)
  refine ⟨.ref (~~~s),_,I3,rfl,⟨(~~~s),x,hn,rfl,rfl,λys hy=>by rw[zA hy sat];exact hx⟩,⟨⟨u,?_⟩,?_⟩,λb hb=>?_⟩
  ·show IsEnum h2 e it (((i+1:Nat)):Int) u;rw[show (((i+1:Nat):Int))=(i:Int)+1 by omega];exact he2
  ·exact (Dr.pos _ _ hit1).keep λo ho=>hs2'.extBut _ _ (Ne.symm hne) ho
  ·have hb':b=e\/b=it:=by simpa using hb
   rw[aX (by rcases hb' with rfl |rfl;exact Ne.symm nee;exact Ne.symm nei)];exact (hf b hb).1
 done:=by
  intro X hP hw hK hc i pins s Y H E I hf st hg;subst hP hw hK;obtain ⟨vs,sat,hi⟩:=hg;subst hi;obtain ⟨⟨old,he⟩,hit⟩:=st;have hfi:=hf it (by simp);obtain ⟨fp,Pd,S,Dr⟩:=drawn (A:=X.A.in1) (I.ok.hd hc) I sat hfi.1 hit;refine wpAny_pyNext_enum_endD Dr.D he Dr.st λh' eb=>⟨rfl,I.turnedL (t':=s.toks) hf λb o hb q=>?_⟩;have hb':b≠e/\b≠it:=by simpa using hb
  exact eb b o hb'.2 q
 self:=λA i s Q E st h=>by
  obtain ⟨⟨old,he⟩,_⟩:=st;exact wpAny_pyIter_enum he h
theorem acl{P:Program}{w:World}{K:PF}{tg:Expr}(k:SK)(it:Addr):Turn P w K tg (Jk k) [it] it (λi h=>k.pos it i h) where
 mem:=by simp
 obj:=λi h st b hb=>by
  have e:b=it:=by simpa using hb
  subst e;obtain ⟨o,e,c,d⟩:=st;exact ⟨o,e,λv z=>by rw[d]at z;cases z⟩
 keep:=λi h h' st kk=>st.keep λo e=>kk it (by simp) o e
 item:=by
  intro X hP hw hK hc i pins s Y H E I hf st hg;obtain ⟨vs,sat,hi⟩:=hg;have hfi:=hf it (by simp);cases k with
  |lst a=>
   have sat':H a=some (.lst vs):=sat;refine dS ((DN (tg:=tg) a it).item X hP hw hK hc i pins s Y H E I hf st ⟨vs,vs[i],SqL.of sat',by simp[hi]⟩) ?_ (λ_ _ e=>e);rintro r s1 ⟨u,hr,h1⟩;refine ⟨u,hr,dS h1 ?_ (λ_ _ e=>e)⟩;rintro _ s2 ⟨x,H',I',rx,⟨e1,e2⟩,st',fr⟩;exact ⟨x,H',I',rx,⟨e1,λws hw'=>e2 ws (SqL.of (show H a=some (.lst ws) from hw'))⟩,st',fr⟩
  |tup a=>
   have sat':H a=some (.tup vs):=sat;refine dS ((DP (tg:=tg) a it).item X hP hw hK hc i pins s Y H E I hf st ⟨vs,vs[i],SqT.of sat',by simp[hi]⟩) ?_ (λ_ _ e=>e);rintro r s1 ⟨u,hr,h1⟩;refine ⟨u,hr,dS h1 ?_ (λ_ _ e=>e)⟩;rintro _ s2 ⟨x,H',I',rx,⟨e1,e2⟩,st',fr⟩;exact ⟨x,H',I',rx,⟨e1,λws hw'=>e2 ws (SqT.of (show H a=some (.tup ws) from hw'))⟩,st',fr⟩
  |str y t=>
   have sat':vs=y.cps.toList.map λc=>V.str ⟨#[c]⟩:=sat;have hlen:vs.length=y.cps.size:=by rw[sat',af,eL]
   refine dS ((xU (tg:=tg) it y t).item X hP hw hK hc i pins s Y H E I hf st (show i < y.cps.size by omega)) ?_ (λ_ _ e=>e);rintro r s1 ⟨u,hr,h1⟩;refine ⟨u,hr,dS h1 ?_ (λ_ _ e=>e)⟩;rintro _ s2 ⟨x,H',I',rx,⟨e1,c,e2,e3⟩,st',fr⟩;refine ⟨x,H',I',rx,⟨e1,λws hw'=>?_⟩,st',fr⟩;have hw':ws=y.cps.toList.map λc=>V.str ⟨#[c]⟩:=hw';rw[hw',e3,ax,hV,e2];rfl
 done:=by
  intro X hP hw hK hc i pins s Y H E I hf st hg;obtain ⟨vs,sat,hi⟩:=hg;cases k with
  |lst a=>exact (DN (tg:=tg) a it).done X hP hw hK hc i pins s Y H E I hf st ⟨vs,SqL.of (show H a=some (.lst vs) from sat),by omega⟩
  |tup a=>exact (DP (tg:=tg) a it).done X hP hw hK hc i pins s Y H E I hf st ⟨vs,SqT.of (show H a=some (.tup vs) from sat),by omega⟩
  |str y t=>
   have sat':vs=y.cps.toList.map λc=>V.str ⟨#[c]⟩:=sat;have hlen:vs.length=y.cps.size:=by rw[sat',af,eL]
   exact (xU (tg:=tg) it y t).done X hP hw hK hc i pins s Y H E I hf st (show i=y.cps.size by omega)
 self:=λA i s Q E st h=>by
  cases k with
  |lst a=>exact wpAny_pyIter_listiter st h
  |tup a=>exact wpAny_pyIter_tupleiter st h
  |str y t=>exact (xU (K:=K) (tg:=tg) it y t).self A i s Q E st h
open Builtin Builtin.Str
section
variable {prog:Program} {w:World} {A:Around} {E:Value->Shared->Prop} {s:Shared}
theorem acn{z TI TO i1 i2:Addr}{k n1 n2:Nat}{fp1 fp2:List Addr}{P1 P2:Nat->Value->Prop}{S1 S2:Nat->Heap->Prop}{a b:Value}{Q:Value->Shared->Prop}(D:ZApart z TI TO i1 i2)
  (D1:Draws prog w A i1 fp1 n1 P1 S1) (D2:Draws prog w A i2 fp2 n2 P2 S2) (f1:∀c∈fp1,c≠z/\c≠TO/\c≠i2) (f2:∀c∈fp2,c≠z/\c≠TO/\c≠i1)
  (hz:IsZip s.heap z TI TO .none) (hTI:IsPair s.heap TI (.ref i1) (.ref i2)) (hTO:IsPair s.heap TO a b)
  (h1:S1 k s.heap) (h2:S2 k s.heap) (hx:k < n1) (hy:k < n2)
  (hQ:∀h' tk c d,P1 k c->P2 k d->IsZip h' z TI TO (rawInt (~~~s))->IsPair h' TO c d->S1 (k+1) h'->S2 (k+1) h'->
   IsPair h' (~~~s) c d->h'.objs.size=(~~~s)+1->
   (∀c o,c≠z->c≠TO->c≠i1->c≠i2->s.heap.get? c=some o->h'.get? c=some o)->Q (.ref (~~~s)) { s with heap:=h',toks:=tk }):
  wpAny (model prog w) A (Builtin.«zip.__next__» ⟨[.ref z],[]⟩) (λfin s'=>∃v,fin=.done (.ret v)/\Q v s') E s:=by
 have e1:∀{h h':Heap}{c:Addr}{j:Nat},S1 j h->Heap.ExtBut c h h'->(∀b∈fp1,b≠c)->S1 j h':=λq e n=>D1.frame _ _ _ q λb hb o y=>e b o (n b hb) y;have e2:∀{h h':Heap}{c:Addr}{j:Nat},S2 j h->Heap.ExtBut c h h'->(∀b∈fp2,b≠c)->S2 j h':=λq e n=>D2.frame _ _ _ q λb hb o y=>e b o (n b hb) y;have z1:∀b∈fp1,b≠z:=λb hb=>(f1 b hb).1;have t1:∀b∈fp1,b≠TO:=λb hb=>(f1 b hb).2.1;have j1:∀b∈fp1,b≠i2:=λb hb=>(f1 b hb).2.2;have z2:∀b∈fp2,b≠z:=λb hb=>(f2 b hb).1;have t2:∀b∈fp2,b≠TO:=λb hb=>(f2 b hb).2.1;have j2:∀b∈fp2,b≠i1:=λb hb=>(f2 b hb).2.2;show wpAny _ _ (field (.ref z) 2 >>= _) _ _ _;refine al (d3 hz rfl (x:=.bool false) rfl ?_);show wpAny _ _ (field (.ref z) 3 >>= _) _ _ _;refine al (d3 hz rfl (x:=.ref TI) rfl ?_);refine al (ft hTI rfl ?_);show wpAny _ _ (Builtin.SmallTypes.ownedTupleIsFree (.ref z) >>= _) _ _ _;refine al ?_;unfold Builtin.SmallTypes.ownedTupleIsFree;refine al (d3 hz rfl (x:=.none) rfl (bg ?_));simp only[if_true];refine al (wpAny_rule ?_);refine al (d3 hz rfl (x:=.ref TO) rfl ?_);refine al (fq hz (by simp) λh₁ hz₁ hs₁=>?_);replace hz₁:IsZip h₁ z TI TO .ellipsis:=hz₁;replace hs₁:Heap.SameBut z s.heap h₁:=hs₁;refine al ?_;simp only[List.zipIdx_cons,List.zipIdx_nil,List.forIn_cons,List.forIn_nil];refine al (al (wpAny_onRaise ?_));show wpAny _ _ (Builtin.SmallTypes.nextOf (.ref i1) >>= _) _ _ _;refine al (D1.item k _ _ _ hx (e1 h1 hs₁.extBut z1) λc h₂ tk₂ hc h1₂ hs₂=>bg ?_);replace hs₂:Heap.SameBut i1 h₁ h₂:=hs₂;have hTO₂:IsPair h₂ TO a b:=hs₂.extBut _ _ D.TOi1 (hs₁.extBut _ _ D.TOz hTO);refine al (ft hTO₂ rfl ?_);refine al (wpAny_updateSeq_pair hTO₂ λh₃ hTO₃ hs₃=>?_);replace hTO₃:IsPair h₃ TO c b:=hTO₃;replace hs₃:Heap.SameBut TO h₂ h₃:=hs₃;refine al (wpAny_letGo (bg ?_));refine al (al (wpAny_onRaise ?_));show wpAny _ _ (Builtin.SmallTypes.nextOf (.ref i2) >>= _) _ _ _;refine al (D2.item k _ _ _ hy (e2 (e2 (e2 h2 hs₁.extBut z2) hs₂.extBut j2) hs₃.extBut t2) λd h₄ tk₄ hd h2₄ hs₄=>bg ?_);replace hs₄:Heap.SameBut i2 h₃ h₄:=hs₄;have hTO₄:IsPair h₄ TO c b:=hs₄.extBut _ _ D.TOi2 hTO₃;refine al (ft hTO₄ rfl ?_);refine al (wpAny_updateSeq_pair hTO₄ λh₅ hTO₅ hs₅=>?_);replace hTO₅:IsPair h₅ TO c d:=hTO₅;replace hs₅:Heap.SameBut TO h₄ h₅:=hs₅;refine al (wpAny_letGo (bg (bg ?_)));refine al (ft hTO₅ rfl ?_);refine al (wpAny_newTuple ?_);have hsz:h₅.objs.size=(~~~s):=by rw[hs₅.1,hs₄.1,hs₃.1,hs₂.1,hs₁.1]
 have hz₅:IsZip h₅ z TI TO .ellipsis:=hs₅.extBut _ _ D.TOz.symm (hs₄.extBut _ _ D.i2z.symm (hs₃.extBut _ _ D.TOz.symm (hs₂.extBut _ _ D.i1z.symm hz₁)));have hk₅:∀c o,c≠z->c≠TO->c≠i1->c≠i2->s.heap.get? c=some o->h₅.get? c=some o:=λc o c1 c2 c3 c4 e=>
  hs₅.extBut _ _ c2 (hs₄.extBut _ _ c4 (hs₃.extBut _ _ c2 (hs₂.extBut _ _ c3 (hs₁.extBut _ _ c1 e))))
 have h1₅:S1 (k+1) h₅:=e1 (e1 (e1 h1₂ hs₃.extBut t1) hs₄.extBut j1) hs₅.extBut t1;have h2₅:S2 (k+1) h₅:=e2 h2₄ hs₅.extBut t2;have hzlt:z < h₅.objs.size:=bi hz₅;show wpAny _ _ (Builtin.SmallTypes.ownedTupleHandOut (.ref z) (.ref h₅.objs.size) >>= _) _ _ _;refine al ?_;unfold Builtin.SmallTypes.ownedTupleHandOut;have hz₆:IsZip (h₅.push { cls:=.type "tuple",data:=.seq #[c,d] }) z TI TO .ellipsis:=av _ hz₅;refine al (fq hz₆ (by simp) λh₇ hz₇ hs₇=>?_);replace hz₇:IsZip h₇ z TI TO (rawInt h₅.objs.size):=hz₇;refine fq hz₇ (by simp) λh₈ hz₈ hs₈=>?_;replace hz₈:IsZip h₈ z TI TO (rawInt h₅.objs.size):=hz₈;have up:∀c o,c≠z->h₅.get? c=some o->h₈.get? c=some o:=λc o c1 e=>hs₈.extBut _ _ c1 (hs₇.extBut _ _ c1 (av _ e));have hT₈:IsPair h₈ h₅.objs.size c d:=hs₈.extBut _ _ (g6 hzlt) (hs₇.extBut _ _ (g6 hzlt) (bv _ rfl));have hz8:h₈.objs.size=h₅.objs.size+1:=by rw[hs₈.1,hs₇.1,fg]
 rw[hsz]at hz₈ hT₈ hz8;refine bg ⟨_,rfl,?_⟩;show Q (.ref h₅.objs.size) _;rw[hsz];exact hQ h₈ tk₄ c d hc hd hz₈ (up _ _ D.TOz hTO₅) (D1.frame _ _ _ h1₅ λb hb o y=>up b o (z1 b hb) y) (D2.frame _ _ _ h2₅ λb hb o y=>up b o (z2 b hb) y) hT₈ hz8 λc o c1 c2 c3 c4 e=>up c o c1 (hk₅ c o c1 c2 c3 c4 e)
theorem aco{z TI TO i1 i2:Addr}{n1:Nat}{fp1:List Addr}{P1:Nat->Value->Prop}{S1:Nat->Heap->Prop}{a b:Value}{Q:Fin->Shared->Prop}(D:ZApart z TI TO i1 i2)
  (D1:Draws prog w A i1 fp1 n1 P1 S1) (f1:∀c∈fp1,c≠z)
  (hz:IsZip s.heap z TI TO .none) (hTI:IsPair s.heap TI (.ref i1) (.ref i2)) (hTO:IsPair s.heap TO a b) (h1:S1 n1 s.heap)
  (hE:∀h' e,(∀c o,c≠z->c≠TO->c≠i1->c≠i2->s.heap.get? c=some o->h'.get? c=some o)->(∃o,h'.get? e=some o/\o.cls=.type "StopIteration")->E (.ref e) { s with heap:=h' }):
  wpAny (model prog w) A (Builtin.«zip.__next__» ⟨[.ref z],[]⟩) Q E s:=by
 show wpAny _ _ (field (.ref z) 2 >>= _) _ _ _;refine al (d3 hz rfl (x:=.bool false) rfl ?_);show wpAny _ _ (field (.ref z) 3 >>= _) _ _ _;refine al (d3 hz rfl (x:=.ref TI) rfl ?_);refine al (ft hTI rfl ?_);show wpAny _ _ (Builtin.SmallTypes.ownedTupleIsFree (.ref z) >>= _) _ _ _;refine al ?_;unfold Builtin.SmallTypes.ownedTupleIsFree;refine al (d3 hz rfl (x:=.none) rfl (bg ?_));simp only[if_true];refine al (wpAny_rule ?_);refine al (d3 hz rfl (x:=.ref TO) rfl ?_);refine al (fq hz (by simp) λh₁ hz₁ hs₁=>?_);replace hz₁:IsZip h₁ z TI TO .ellipsis:=hz₁;replace hs₁:Heap.SameBut z s.heap h₁:=hs₁;refine al ?_;simp only[List.zipIdx_cons,List.zipIdx_nil,List.forIn_cons,List.forIn_nil];refine al (al (wpAny_onRaise ?_));show wpAny _ _ (Builtin.SmallTypes.nextOf (.ref i1) >>= _) _ _ _;refine al (D1.done _ _ _ (D1.frame _ _ _ h1 λb hb o y=>hs₁.extBut b o (f1 b hb) y) λh₂ e hs₂ he=>?_);obtain ⟨oe,hoe,hce⟩:=he;have hz₂:IsZip h₂ z TI TO .ellipsis:=hs₂ _ _ D.i1z.symm hz₁;have hez:e≠z:=λx=>by subst x;rw[hz₂]at hoe;cases hoe;simp at hce
 refine fq hz₂ (by simp) λh₃ _ hs₃=>hE h₃ e (λc o c1 _ c3 _ x=>hs₃.extBut _ _ c1 (hs₂ _ _ c3 (hs₁.extBut _ _ c1 x))) ⟨oe,hs₃.extBut _ _ hez hoe,hce⟩
theorem acp{z TI TO i1 i2:Addr}{k n1 n2:Nat}{fp1 fp2:List Addr}{P1 P2:Nat->Value->Prop}{S1 S2:Nat->Heap->Prop}{a b:Value}{Q:Fin->Shared->Prop}(D:ZApart z TI TO i1 i2)
  (D1:Draws prog w A i1 fp1 n1 P1 S1) (D2:Draws prog w A i2 fp2 n2 P2 S2) (f1:∀c∈fp1,c≠z/\c≠TO/\c≠i2) (f2:∀c∈fp2,c≠z/\c≠TO/\c≠i1)
  (hz:IsZip s.heap z TI TO .none) (hTI:IsPair s.heap TI (.ref i1) (.ref i2)) (hTO:IsPair s.heap TO a b) (h1:S1 k s.heap) (h2:S2 k s.heap) (hx:k < n1) (hy:k=n2)
  (hE:∀h' tk e,(∀c o,c≠z->c≠TO->c≠i1->c≠i2->s.heap.get? c=some o->h'.get? c=some o)->(∃o,h'.get? e=some o/\o.cls=.type "StopIteration")->E (.ref e) { s with heap:=h',toks:=tk }):
  wpAny (model prog w) A (Builtin.«zip.__next__» ⟨[.ref z],[]⟩) Q E s:=by
 have e1:∀{h h':Heap}{c:Addr}{j:Nat},S1 j h->Heap.ExtBut c h h'->(∀b∈fp1,b≠c)->S1 j h':=λq e n=>D1.frame _ _ _ q λb hb o y=>e b o (n b hb) y;have e2:∀{h h':Heap}{c:Addr}{j:Nat},S2 j h->Heap.ExtBut c h h'->(∀b∈fp2,b≠c)->S2 j h':=λq e n=>D2.frame _ _ _ q λb hb o y=>e b o (n b hb) y;have z1:∀b∈fp1,b≠z:=λb hb=>(f1 b hb).1;have z2:∀b∈fp2,b≠z:=λb hb=>(f2 b hb).1;have t2:∀b∈fp2,b≠TO:=λb hb=>(f2 b hb).2.1;have j2:∀b∈fp2,b≠i1:=λb hb=>(f2 b hb).2.2;show wpAny _ _ (field (.ref z) 2 >>= _) _ _ _;refine al (d3 hz rfl (x:=.bool false) rfl ?_);show wpAny _ _ (field (.ref z) 3 >>= _) _ _ _;refine al (d3 hz rfl (x:=.ref TI) rfl ?_);refine al (ft hTI rfl ?_);show wpAny _ _ (Builtin.SmallTypes.ownedTupleIsFree (.ref z) >>= _) _ _ _;refine al ?_;unfold Builtin.SmallTypes.ownedTupleIsFree;refine al (d3 hz rfl (x:=.none) rfl (bg ?_));simp only[if_true];refine al (wpAny_rule ?_);refine al (d3 hz rfl (x:=.ref TO) rfl ?_);refine al (fq hz (by simp) λh₁ hz₁ hs₁=>?_);replace hz₁:IsZip h₁ z TI TO .ellipsis:=hz₁;replace hs₁:Heap.SameBut z s.heap h₁:=hs₁;refine al ?_;simp only[List.zipIdx_cons,List.zipIdx_nil,List.forIn_cons,List.forIn_nil];refine al (al (wpAny_onRaise ?_));show wpAny _ _ (Builtin.SmallTypes.nextOf (.ref i1) >>= _) _ _ _;refine al (D1.item k _ _ _ hx (e1 h1 hs₁.extBut z1) λc h₂ tk₂ hc h1₂ hs₂=>bg ?_);replace hs₂:Heap.SameBut i1 h₁ h₂:=hs₂;have hTO₂:IsPair h₂ TO a b:=hs₂.extBut _ _ D.TOi1 (hs₁.extBut _ _ D.TOz hTO);refine al (ft hTO₂ rfl ?_);refine al (wpAny_updateSeq_pair hTO₂ λh₃ hTO₃ hs₃=>?_);replace hs₃:Heap.SameBut TO h₂ h₃:=hs₃;refine al (wpAny_letGo (bg ?_));refine al (al (wpAny_onRaise ?_));show wpAny _ _ (Builtin.SmallTypes.nextOf (.ref i2) >>= _) _ _ _;subst hy;refine al (D2.done _ _ _ (e2 (e2 (e2 h2 hs₁.extBut z2) hs₂.extBut j2) hs₃.extBut t2) λh₄ e hs₄ he=>?_);obtain ⟨oe,hoe,hce⟩:=he;have hz₄:IsZip h₄ z TI TO .ellipsis:=hs₄ _ _ D.i2z.symm (hs₃.extBut _ _ D.TOz.symm (hs₂.extBut _ _ D.i1z.symm hz₁));have hez:e≠z:=λx=>by subst x;rw[hz₄]at hoe;cases hoe;simp at hce
 refine fq hz₄ (by simp) λh₅ _ hs₅=>hE h₅ tk₂ e (λc o c1 c2 c3 c4 x=>hs₅.extBut _ _ c1 (hs₄ _ _ c4 (hs₃.extBut _ _ c2 (hs₂.extBut _ _ c3 (hs₁.extBut _ _ c1 x))))) ⟨oe,hs₅.extBut _ _ hez hoe,hce⟩
end
def Jz(k l:SK):It:=⟨λi H=>∃vs ws,k.Sat H vs/\l.Sat H ws/\i < vs.length/\i < ws.length,
 λi H x H'=>∃T y z,H T=none/\x=.ref T/\H'=upd H T (.tup [y,z])/\(∀vs,k.Sat H vs->vs[i]?=some y)/\(∀ws,l.Sat H ws->ws[i]?=some z),
 λi H=>∃vs ws,k.Sat H vs/\l.Sat H ws/\(vs.length=i/\i<=ws.length\/i < vs.length/\ws.length=i)⟩
theorem acq{P:Program}{w:World}{K:PF}{elts:List Expr}{x1:Nat}{pos:Pos}(k l:SK)(z TI TO i1 i2:Addr)(D:ZApart z TI TO i1 i2):
  Turn P w K (.Tuple elts x1 pos) (Jz k l) [z,TI,TO,i1,i2] z
   (λi h=>IsZip h z TI TO .none/\IsPair h TI (.ref i1) (.ref i2)/\(∃a b,IsPair h TO a b)/\k.pos i1 i h/\l.pos i2 i h) where
 mem:=by simp
 obj:=λi h st b hb=>by
  obtain ⟨hz,hTI,⟨a,c,hTO⟩,⟨o1,e1,_,d1⟩,⟨o2,e2,_,d2⟩⟩:=st;have hb':b=z\/b=TI\/b=TO\/b=i1\/b=i2:=by simpa using hb
  rcases hb' with rfl |rfl |rfl |rfl |rfl
  ·exact ⟨_,hz,λv q=>by have q':Data.fields _=Data.cell v:=q;cases q'⟩
  ·exact ⟨_,hTI,λv q=>by have q':Data.seq _ _=Data.cell v:=q;cases q'⟩
  ·exact ⟨_,hTO,λv q=>by have q':Data.seq _ _=Data.cell v:=q;cases q'⟩
  ·exact ⟨o1,e1,λv q=>by rw[d1]at q;cases q⟩
  ·exact ⟨o2,e2,λv q=>by rw[d2]at q;cases q⟩
 keep:=λi h h' st kk=>by
  obtain ⟨hz,hTI,⟨a,c,hTO⟩,p1,p2⟩:=st;exact ⟨kk z (by simp) _ hz,kk TI (by simp) _ hTI,⟨a,c,kk TO (by simp) _ hTO⟩,p1.keep λo e=>kk i1 (by simp) o e,p2.keep λo e=>kk i2 (by simp) o e⟩
 item:=by
  intro X hP hw hK hc i pins s Y H E I hf st hg;subst hP hw hK;obtain ⟨vs,ws,sat1,sat2,l1,l2⟩:=hg;obtain ⟨hz,hTI,⟨a,b,hTO⟩,h1,h2⟩:=st;have hT:s.TypeIs (.ref z) "zip":=⟨_,hz,rfl⟩;have fz:=hf z (by simp);have fTO:=hf TO (by simp);have fi1:=hf i1 (by simp);have fi2:=hf i2 (by simp);obtain ⟨fp1,P1,S1,Dr1⟩:=drawn (A:=X.A.in1) (I.ok.hd hc) I sat1 fi1.1 h1;obtain ⟨fp2,P2,S2,Dr2⟩:=drawn (A:=X.A.in1) (I.ok.hd hc) I sat2 fi2.1 h2;have no1:∀e,H e=none->e≠i1->∀c∈fp1,c≠e:=λe he hei c hc z=>by
   rcases Dr1.fp c hc with q |q
   ·exact hei (z.symm.trans q)
   ·have:=sat1.no he;cases k with
    |lst a=>injection q with q;exact this (q.trans z)
    |tup a=>injection q with q;exact this (q.trans z)
    |str _ _=>cases q
  have no2:∀e,H e=none->e≠i2->∀c∈fp2,c≠e:=λe he hei c hc z=>by
   rcases Dr2.fp c hc with q |q
   ·exact hei (z.symm.trans q)
   ·have:=sat2.no he;cases l with
    |lst a=>injection q with q;exact this (q.trans z)
    |tup a=>injection q with q;exact this (q.trans z)
    |str _ _=>cases q
  have f1:∀c∈fp1,c≠z/\c≠TO/\c≠i2:=λc hc=>⟨no1 z fz.1 D.i1z.symm c hc,no1 TO fTO.1 D.TOi1 c hc,no1 i2 fi2.1 D.i12.symm c hc⟩;have f2:∀c∈fp2,c≠z/\c≠TO/\c≠i1:=λc hc=>⟨no2 z fz.1 D.i2z.symm c hc,no2 TO fTO.1 D.TOi2 c hc,no2 i1 fi1.1 D.i12 c hc⟩;have ltz:z < (~~~s):=bi hz;have ltTI:TI < (~~~s):=bi hTI;have ltTO:TO < (~~~s):=bi hTO;have lti1:i1 < (~~~s):=by obtain ⟨_,e,_⟩:=h1;exact bi e
  have lti2:i2 < (~~~s):=by obtain ⟨_,e,_⟩:=h2;exact bi e
  unfold pyNext;refine al (wpAny_attempt (fk (name:=Str.ofString "__next__") hT F.slot_zip_next
   (fA F.slot_zip_next hT F.entry_zip_next (acn D Dr1.D Dr2.D f1 f2 hz hTI hTO Dr1.st Dr2.st l1 l2 λh' tk c d pc pd a1 a2 a3 a4 a5 a6 hk=>bg ?_) (F.args_zip_next_1 _))))
  obtain ⟨y,hy,ry⟩:=Dr1.val _ _ pc;obtain ⟨y',hy',ry'⟩:=Dr2.val _ _ pd;refine ⟨_,rfl,?_⟩;refine wpAny_letOwnedTupleGo_zip a1 λh2' hz2 hs2=>?_;have hs2':Heap.SameBut z h' h2':=hs2;have hn:H (~~~s)=none:=I.hok.fresh (ay _);have k2:∀b o,b∉[z,TI,TO,i1,i2]->s.heap.get? b=some o->h2'.get? b=some o:=λb o hb q=>by
   have hb':b≠z/\b≠TI/\b≠TO/\b≠i1/\b≠i2:=by simpa using hb
   exact hs2'.extBut b o hb'.1 (hk b o hb'.1 hb'.2.2.1 hb'.2.2.2.1 hb'.2.2.2.2 q)
  have I2:Inv X pins Y H { s with heap:=h2',toks:=tk }:=I.turnedL hf k2;have ht2:h2'.get? (~~~s)=some { cls:=.type "tuple",data:=.seq #[c,d] }:=hs2'.extBut _ _ (g6 ltz) a5;have ob:ObjOk X.prog X.w (upd H (~~~s) (.tup [y,y'])) h2' (~~~s) (.tup [y,y']):=
   ⟨by rw[sizeLine_eq];simp,[c,d],.cons ry (.cons ry' .nil),⟨_,ht2,rfl,_,rfl⟩⟩
  have I3:=I2.track (I.fpOk (ay _) hn) ob;refine ⟨.ref (~~~s),_,I3,rfl,⟨(~~~s),y,y',hn,rfl,rfl,λus hu=>by rw[zA hu sat1];exact hy,λus hu=>by rw[zA hu sat2];exact hy'⟩,
   ⟨hz2,hs2'.extBut _ _ D.TIz (hk _ _ D.TIz D.TITO D.TIi1 D.TIi2 hTI),⟨_,_,hs2'.extBut _ _ D.TOz a2⟩,(Dr1.pos _ _ a3).keep λo e=>hs2'.extBut _ _ D.i1z e,(Dr2.pos _ _ a4).keep λo e=>hs2'.extBut _ _ D.i2z e⟩,λb hb=>?_⟩
  have hb':b=z\/b=TI\/b=TO\/b=i1\/b=i2:=by simpa using hb
  rw[aX (by rcases hb' with rfl |rfl |rfl |rfl |rfl <;> exact dA ‹_›)];exact (hf b hb).1
 done:=by
  intro X hP hw hK hc i pins s Y H E I hf st hg;subst hP hw hK;obtain ⟨vs,ws,sat1,sat2,hend⟩:=hg;obtain ⟨hz,hTI,⟨a,b,hTO⟩,h1,h2⟩:=st;have hT:s.TypeIs (.ref z) "zip":=⟨_,hz,rfl⟩;have fz:=hf z (by simp);have fTO:=hf TO (by simp);have fi1:=hf i1 (by simp);have fi2:=hf i2 (by simp);obtain ⟨fp1,P1,S1,Dr1⟩:=drawn (A:=X.A.in1) (I.ok.hd hc) I sat1 fi1.1 h1;obtain ⟨fp2,P2,S2,Dr2⟩:=drawn (A:=X.A.in1) (I.ok.hd hc) I sat2 fi2.1 h2;have no1:∀e,H e=none->e≠i1->∀c∈fp1,c≠e:=λe he hei c hc z=>by
   rcases Dr1.fp c hc with q |q
   ·exact hei (z.symm.trans q)
   ·have:=sat1.no he;cases k with
    |lst a=>injection q with q;exact this (q.trans z)
    |tup a=>injection q with q;exact this (q.trans z)
    |str _ _=>cases q
  have no2:∀e,H e=none->e≠i2->∀c∈fp2,c≠e:=λe he hei c hc z=>by
   rcases Dr2.fp c hc with q |q
   ·exact hei (z.symm.trans q)
   ·have:=sat2.no he;cases l with
    |lst a=>injection q with q;exact this (q.trans z)
    |tup a=>injection q with q;exact this (q.trans z)
    |str _ _=>cases q
  have f1:∀c∈fp1,c≠z/\c≠TO/\c≠i2:=λc hc=>⟨no1 z fz.1 D.i1z.symm c hc,no1 TO fTO.1 D.TOi1 c hc,no1 i2 fi2.1 D.i12.symm c hc⟩;have f2:∀c∈fp2,c≠z/\c≠TO/\c≠i1:=λc hc=>⟨no2 z fz.1 D.i2z.symm c hc,no2 TO fTO.1 D.TOi2 c hc,no2 i1 fi1.1 D.i12 c hc⟩;have fin:∀(h':Heap)(tk:Nat)(e:Addr),(∀c o,c≠z->c≠TO->c≠i1->c≠i2->s.heap.get? c=some o->h'.get? c=some o)->Inv X pins Y H { s with heap:=h',toks:=tk }:=λh' tk e hk=>I.turnedL (t':=tk) hf λb o hb q=>by
   have hb':b≠z/\b≠TI/\b≠TO/\b≠i1/\b≠i2:=by simpa using hb
   exact hk b o hb'.1 hb'.2.2.1 hb'.2.2.2.1 hb'.2.2.2.2 q
  unfold pyNext;refine al (wpAny_attempt (fk (name:=Str.ofString "__next__") hT F.slot_zip_next
   (fA F.slot_zip_next hT F.entry_zip_next ?_ (F.args_zip_next_1 _))))
  rcases hend with ⟨e1,_⟩ |⟨e1,e2⟩
  ·subst e1;refine aco D Dr1.D (λc hc=>(f1 c hc).1) hz hTI hTO Dr1.st λh' e hk he=>?_;obtain ⟨o,ho,hc'⟩:=he;refine al (wpAny_isInstance (T:="StopIteration") (b:=true) ⟨o,ho,hc'⟩ isSubtype_stop ?_);exact bg ⟨rfl,fin h' s.toks e hk⟩
  ·refine acp D Dr1.D Dr2.D f1 f2 hz hTI hTO Dr1.st Dr2.st e1 e2.symm λh' tk e hk he=>?_;obtain ⟨o,ho,hc'⟩:=he;refine al (wpAny_isInstance (T:="StopIteration") (b:=true) ⟨o,ho,hc'⟩ isSubtype_stop ?_);exact bg ⟨rfl,fin h' tk e hk⟩
 self:=λA i s Q E st h=>wpAny_pyIter_zip st.1 h
open Sem (wp)
open AutoSeq1 (wpAny_loadPart')
set_option maxHeartbeats 1000000 in
theorem acr(l:Addr)(items:Array Value)(n:Nat)(dct:Option Addr)(sl:Array (Option Value)):
  Meets (Builtin.«enumerate.__new__» ⟨[.type "enumerate",.ref l],[]⟩) (λ_ R s=>s.heap.get? l=some { cls:=.type "tuple",dict:=dct,data:=.seq items n,slots:=sl }/\
   R (.ok (.ret (.ref (s.heap.push { cls:=.type "tuple_iterator",data:=.fields #[.ref l,.int 0 0] }).objs.size)))
    { s with heap:=(s.heap.push { cls:=.type "tuple_iterator",data:=.fields #[.ref l,.int 0 0] }).push { cls:=.type "enumerate",data:=.fields #[.none,.bool false,.ref (~~~s),rawInt 0,.none,.none] } }):=
 .of_wp λprog w A R s h=>by
  obtain ⟨hp,g,d,tk,os⟩:=s;obtain ⟨hl,h⟩:=h;have hsub:=sub_enumerate;have hL:Heap.IsTuple (Shared.heap ⟨hp,g,d,tk,os⟩) l items:=⟨_,hl,rfl,n,rfl⟩;wp_walk using wpAny_loadPart' hl
  refine wpAny_stack_any λst=>bg ?_;split
  ·rename_i c _ _ _ _ _;cases (c==Value.type "enumerate")
   ·wp_walk using wpAny_loadPart' hl,wpAny_pyIter_tuple hL
    exact ⟨_,rfl,h⟩
   ·wp_walk using wpAny_loadPart' hl,wpAny_pyIter_tuple hL
    exact ⟨_,rfl,h⟩
  ·wp_walk using wpAny_loadPart' hl,wpAny_pyIter_tuple hL
   exact ⟨_,rfl,h⟩
abbrev vf(h:Heap)(k:SK):Heap:=h.push k.obj
abbrev vg(h:Heap)(k l:SK):Heap:=(vf h k).push l.obj
abbrev vh (h:Heap) (k l:SK):Heap:=(vg h k l).push { cls:=.type "tuple",data:=.seq #[.ref h.objs.size,.ref (vf h k).objs.size] }
abbrev vm (h:Heap) (k l:SK):Heap:=(vh h k l).push { cls:=.type "tuple",data:=.seq #[.none,.none] }
abbrev jw (h:Heap) (k l:SK):Heap:=(vm h k l).push { cls:=.type "zip",data:=.fields #[.none,.bool false,.bool false,.ref (vg h k l).objs.size,.ref (vh h k l).objs.size] }
theorem acs(k l:SK)(xs ys:Array Value):
  Meets (Builtin.«zip.__new__» ⟨[.type "zip",k.val,l.val],[]⟩) (λ_ R s=>k.On xs s.heap/\l.On ys s.heap/\R (.ok (.ret (.ref (vm s.heap k l).objs.size))) { s with heap:=jw s.heap k l }):=
 .of_wp λprog w A R s h=>by
  obtain ⟨hp,g,d,tk,os⟩:=s;obtain ⟨h1,h2,h⟩:=h;have hsub:=sub_zip;have h1':k.On xs (Shared.heap ⟨hp,g,d,tk,os⟩):=h1;have h2':l.On ys (Shared.heap ⟨hp.push k.obj,g,d,tk,os⟩):=SK.On.keeps h2 λb o _ e=>av _ e;wp_walk using SK.iter h1',SK.iter h2'
  exact ⟨_,rfl,h⟩
section
variable {prog:Program} {w:World} {A:Around} {E:Value->Shared->Prop} {s:Shared}
theorem acu{k l:SK}{xs ys:Array Value}{Q:Value->Shared->Prop}(h1:k.On xs s.heap)(h2:l.On ys s.heap)
  (h:∀h',IsZip h' ((~~~s)+4) ((~~~s)+2) ((~~~s)+3) .none->IsPair h' ((~~~s)+2) (.ref (~~~s)) (.ref ((~~~s)+1))->
   IsPair h' ((~~~s)+3) .none .none->k.pos (~~~s) 0 h'->l.pos ((~~~s)+1) 0 h'->h'.objs.size=(~~~s)+5->
   (∀c o,s.heap.get? c=some o->h'.get? c=some o)->Q (.ref ((~~~s)+4)) { s with heap:=h' }):
  wpAny (model prog w) A (call (.type "zip") [k.val,l.val]) Q E s:=by
 refine callType_new F.called_zip (by decide) (F.typeCall_zip_2 _ _) (F.newCall_zip_2 _ _) (λobj=>F.args_object_init_3 obj _ _) F.entry_zip_new
  (acs k l xs ys) ⟨h1,h2,?_⟩
 have z1:(vf s.heap k).objs.size=(~~~s)+1:=fg ..;have z2:(vg s.heap k l).objs.size=(~~~s)+2:=by rw[fg,z1]
 have z3:(vh s.heap k l).objs.size=(~~~s)+3:=by rw[fg,z2]
 have z4:(vm s.heap k l).objs.size=(~~~s)+4:=by rw[fg,z3]
 have z5:(jw s.heap k l).objs.size=(~~~s)+5:=by rw[fg,z4]
 have g5:(jw s.heap k l).get? (vm s.heap k l).objs.size=some _:=bv _ rfl;have g4:(jw s.heap k l).get? (vh s.heap k l).objs.size=some _:=av _ (bv _ rfl);have g3:(jw s.heap k l).get? (vg s.heap k l).objs.size=some _:=av _ (av _ (bv _ rfl));have g2:(jw s.heap k l).get? (vf s.heap k).objs.size=some _:=av _ (av _ (av _ (bv _ rfl)));have g1:(jw s.heap k l).get? (~~~s)=some _:=av _ (av _ (av _ (av _ (bv _ rfl))));show _/\_;rw[z2,z3,z4]at g5;rw[z1,z2]at g3;rw[z3]at g4;rw[z1]at g2;rw[z4];exact ⟨⟨_,g5,rfl⟩,h _ g5 g3 g4 ⟨_,g1,rfl,rfl⟩ ⟨_,g2,rfl,rfl⟩ z5 λc o x=>
  av _ (av _ (av _ (av _ (av _ x))))⟩
theorem acv{l:Addr}{items:Array Value}{Q:Value->Shared->Prop}(hL:s.heap.IsTuple l items)
  (h:∀h',IsEnum h' ((~~~s)+1) (~~~s) 0 .none->h'.IsTupleIter (~~~s) l 0->h'.objs.size=(~~~s)+2->
   (∀b o,s.heap.get? b=some o->h'.get? b=some o)->Q (.ref ((~~~s)+1)) { s with heap:=h' }):
  wpAny (model prog w) A (call (.type "enumerate") [.ref l]) Q E s:=by
 obtain ⟨⟨c,dct,dt,sl⟩,hl,hc,n,hd⟩:=hL;replace hc:c=.type "tuple":=hc;replace hd:dt=.seq items n:=hd;subst hc hd;refine callType_new F.called_enumerate (by decide) (F.typeCall_enumerate_1 _) (F.newCall_enumerate_1 _) (λobj=>F.args_object_init_2 obj _) F.entry_enumerate_new
  (acr l items n dct sl) ⟨hl,?_⟩
 have hz:(s.heap.push { cls:=.type "tuple_iterator",data:=.fields #[.ref l,.int 0 0] }).objs.size=(~~~s)+1:=fg ..;show _/\_;rw[hz];have he:IsEnum ((s.heap.push { cls:=.type "tuple_iterator",data:=.fields #[.ref l,.int 0 0] }).push
   { cls:=.type "enumerate",data:=.fields #[.none,.bool false,.ref (~~~s),rawInt 0,.none,.none] }) ((~~~s)+1) (~~~s) 0 .none:=by
  have:=bv (s.heap.push { cls:=.type "tuple_iterator",data:=.fields #[.ref l,.int 0 0] })
   (o:={ cls:=.type "enumerate",data:=.fields #[.none,.bool false,.ref (~~~s),rawInt 0,.none,.none] }) rfl
  rw[hz]at this;exact this
 refine ⟨⟨_,he,rfl⟩,h _ he ⟨_,av _ (bv _ rfl),rfl,rfl⟩ (by rw[fg,hz]) λb o x=>av _ (av _ x)⟩
theorem acw{k:SK}{xs:Array Value}{Q:Value->Shared->Prop}(h1:k.On xs s.heap)
  (h:∀h',IsEnum h' ((~~~s)+1) (~~~s) 0 .none->k.pos (~~~s) 0 h'->h'.objs.size=(~~~s)+2->
   (∀b o,s.heap.get? b=some o->h'.get? b=some o)->Q (.ref ((~~~s)+1)) { s with heap:=h' }):
  wpAny (model prog w) A (call (.type "enumerate") [k.val]) Q E s:=by
 cases k with
 |lst a=>exact call_enumerate_list h1 h
 |tup a=>exact acv h1 h
 |str x t=>exact call_enumerate_str h
end
structure OT where
 ms:List (String×String×String×Nat):=[]
 ks:List (String×Nat):=[]
 fl:List (String×String):=[]
structure CT where
 N:List Str
 kd:List (Str×NameKind)
 fn:Bool
 fs:List (String×Nat)
 bt:List String
 cn:List (String×D)
 xs:List (String×Bool):=[]
 ot:OT:={}
def jx:Option NameKind->Bool
 |some .local=>true
 |some .cell=>true
 |some .free=>true
 |_=>false
def CT.sto(c:CT)(x:Str):Bool:=c.kd.lookup x==some .local||(c.fn&&c.kd.lookup x==some .cell)
def okN (x:Str):Bool:=!(x==("__debug__":Str))&&!(x==("__classdict__":Str))&&!(x==("__name__":Str))
def CT.glo(c:CT)(x:Str):Bool:=c.kd.lookup x==some .globalImplicit&&okN x
def sEq:D->D->Bool
 |.non,.non=>true
 |.bl a,.bl b=>a==b
 |.int a,.int b=>a==b
 |.str a,.str b=>a==b
 |_,_=>false
theorem acx{a b:D}(h:sEq a b=true):a=b:=by cases a <;> cases b <;> simp_all [sEq]
def vo(d:D)(k:Const):Bool:=
 match d,k with
 |.non,.none=>true
 |.bl a,.bool b=>a==b
 |.int a,.int b=>a==b
 |.str a,.str b=>a==b.cps.toList&&decide (a.length<=sz)
 |_,_=>false
def Bf.name:Bf->String
 |.len=>"len"
 |.all=>"all"
 |.int=>"int"
 |.tuple=>"tuple"
 |.sum=>"sum"
 |.min=>"min"
 |.max=>"max"
 |.abs=>"abs"
 |.min2=>"min"
 |.str=>"str"
def zB:Bf->Bool
 |.sum=>true
 |.min=>true
 |.max=>false
 |.abs=>false
 |.min2=>false
 |.str=>true
 |_=>true
def zE:Lf->Bool
 |.sorted=>false
 |_=>true
def Lf.name:Lf->String
 |.list=>"list"
 |.sorted=>"sorted"
def Mf.name:Mf->String
 |.join=>"join"
 |.append=>"append"
 |.extend=>"extend"
 |.insert=>"insert"
 |.pop=>"pop"
 |.count=>"count"
 |.index=>"index"
def vp:Expr->Bool
 |.Call (.Name _ _) [] [] _=>true
 |_=>false
def dM:Expr->Bool
 |.ListComp ..=>true
 |.SetComp ..=>true
 |.DictComp ..=>true
 |_=>false
def jy:Expr->Bool
 |.UnaryOp .Not _ _=>false
 |.BoolOp ..=>false
 |.IfExp ..=>false
 |.Compare ..=>false
 |_=>true
def fH(N:List Str)(scope:Scope):List Str->List (Option Nat)->Bool
 |[],[]=>true
 |_::N',none::cap=>fH N scope N' cap
 |x::N',some j::cap=>(N[j]?==some x)&&(scope.names.lookup x==some NameKind.free)&&fH N scope N' cap
 |_,_=>false
def gU(c:CT)(scope:Scope):Bool:=
 scope.names.all (λy=>y.2 != NameKind.cell)&&scope.names.all (λy=>y.2 != NameKind.local||scope.names.lookup y.1==some NameKind.local) &&
 scope.names.all (λy=>y.2 != NameKind.free||(c.kd.lookup y.1==some NameKind.cell||c.kd.lookup y.1==some NameKind.free))&&decide (scope.kind=.function)&&decide (c.kd=c.kd)
def CT.comp(c:CT)(N:List Str)(scope:Scope):CT:={ N:=N,kd:=scope.names,fn:=false,fs:=c.fs,bt:=c.bt,cn:=c.cn,ot:=c.ot }
def dw:List Str->Bool
 |[]=>true
 |x::r=>!r.contains x&&dw r
def asName(e:Expr):Option { t:Str×Pos // e=.Name t.1 t.2 }:=match e with
 |.Name a0 a1=>some ⟨(a0,a1),rfl⟩
 |_=>none
def vq(e:Expr):Option { t:Const×Nat×Pos // e=.Constant t.1 t.2.1 t.2.2 }:=match e with
 |.Constant a0 a1 a2=>some ⟨(a0,a1,a2),rfl⟩
 |_=>none
def Ho(e:Expr):Option { t:Expr×Operator×Expr×Pos // e=.BinOp t.1 t.2.1 t.2.2.1 t.2.2.2 }:=match e with
 |.BinOp a0 a1 a2 a3=>some ⟨(a0,a1,a2,a3),rfl⟩
 |_=>none
def j9(e:Expr):Option { t:UnaryOp×Expr×Pos // e=.UnaryOp t.1 t.2.1 t.2.2 }:=match e with
 |.UnaryOp a0 a1 a2=>some ⟨(a0,a1,a2),rfl⟩
 |_=>none
def lW(e:Expr):Option { t:Expr×List CmpOp×List Expr×Pos // e=.Compare t.1 t.2.1 t.2.2.1 t.2.2.2 }:=match e with
 |.Compare a0 a1 a2 a3=>some ⟨(a0,a1,a2,a3),rfl⟩
 |_=>none
def vy(e:Expr):Option { t:BoolOp×List Expr×Pos // e=.BoolOp t.1 t.2.1 t.2.2 }:=match e with
 |.BoolOp a0 a1 a2=>some ⟨(a0,a1,a2),rfl⟩
 |_=>none
def Hq(e:Expr):Option { t:Expr×Expr×Expr×Pos // e=.IfExp t.1 t.2.1 t.2.2.1 t.2.2.2 }:=match e with
 |.IfExp a0 a1 a2 a3=>some ⟨(a0,a1,a2,a3),rfl⟩
 |_=>none
def iK(e:Expr):Option { t:List Expr×Nat×Pos // e=.Tuple t.1 t.2.1 t.2.2 }:=match e with
 |.Tuple a0 a1 a2=>some ⟨(a0,a1,a2),rfl⟩
 |_=>none
def asList(e:Expr):Option { t:List Expr×Pos // e=.List t.1 t.2 }:=match e with
 |.List a0 a1=>some ⟨(a0,a1),rfl⟩
 |_=>none
def gh(e:Expr):Option { t:Expr×Expr×Pos // e=.Subscript t.1 t.2.1 t.2.2 }:=match e with
 |.Subscript a0 a1 a2=>some ⟨(a0,a1,a2),rfl⟩
 |_=>none
def vz(e:Expr):Option { t:Option Expr×Option Expr×Option Expr×Pos // e=.Slice t.1 t.2.1 t.2.2.1 t.2.2.2 }:=match e with
 |.Slice a0 a1 a2 a3=>some ⟨(a0,a1,a2,a3),rfl⟩
 |_=>none
def zF(e:Expr):Option { t:Expr×List Expr×List Keyword×Pos // e=.Call t.1 t.2.1 t.2.2.1 t.2.2.2 }:=match e with
 |.Call a0 a1 a2 a3=>some ⟨(a0,a1,a2,a3),rfl⟩
 |_=>none
def Hr(e:Expr):Option { t:Expr×Str×Pos // e=.Attribute t.1 t.2.1 t.2.2 }:=match e with
 |.Attribute a0 a1 a2=>some ⟨(a0,a1,a2),rfl⟩
 |_=>none
def vA(e:Expr):Option { t:Expr×List Comprehension×Scope×Pos // e=.ListComp t.1 t.2.1 t.2.2.1 t.2.2.2 }:=match e with
 |.ListComp a0 a1 a2 a3=>some ⟨(a0,a1,a2,a3),rfl⟩
 |_=>none
def lX(e:Stmt):Option { t:Expr×Pos // e=.Expr t.1 t.2 }:=match e with
 |.Expr a0 a1=>some ⟨(a0,a1),rfl⟩
 |_=>none
def lY(e:Stmt):Option { t:List Expr×Expr×Pos // e=.Assign t.1 t.2.1 t.2.2 }:=match e with
 |.Assign a0 a1 a2=>some ⟨(a0,a1,a2),rfl⟩
 |_=>none
def vB(e:Stmt):Option { t:Expr×Operator×Expr×Pos // e=.AugAssign t.1 t.2.1 t.2.2.1 t.2.2.2 }:=match e with
 |.AugAssign a0 a1 a2 a3=>some ⟨(a0,a1,a2,a3),rfl⟩
 |_=>none
def Hs(e:Stmt):Option { t:Option Expr×Option Expr×Pos // e=.Raise t.1 t.2.1 t.2.2 }:=match e with
 |.Raise a0 a1 a2=>some ⟨(a0,a1,a2),rfl⟩
 |_=>none
def ak2(e:Stmt):Option { t:List Stmt×List ExceptHandler×List Stmt×List Stmt×Pos // e=.Try t.1 t.2.1 t.2.2.1 t.2.2.2.1 t.2.2.2.2 }:=match e with
 |.Try a0 a1 a2 a3 a4=>some ⟨(a0,a1,a2,a3,a4),rfl⟩
 |_=>none
def ak3(e:ExceptHandler):Option { t:Option Expr×Option Str×List Stmt×Pos // e=.ExceptHandler t.1 t.2.1 t.2.2.1 t.2.2.2 }:=match e with
 |.ExceptHandler a0 a1 a2 a3=>some ⟨(a0,a1,a2,a3),rfl⟩
def zG(e:Expr):Option { t:Expr×Int×Option Expr×Pos // e=.FormattedValue t.1 t.2.1 t.2.2.1 t.2.2.2 }:=match e with
 |.FormattedValue a0 a1 a2 a3=>some ⟨(a0,a1,a2,a3),rfl⟩
 |_=>none
def acy(e:Expr):Option { t:List Expr×Pos // e=.JoinedStr t.1 t.2 }:=match e with
 |.JoinedStr a0 a1=>some ⟨(a0,a1),rfl⟩
 |_=>none
def acz(k:Const):Option { x:Str // k=.str x }:=match k with
 |.str x=>some ⟨x,rfl⟩
 |_=>none
def ak4(b:Bool)(k:Const):Bool:=match k with
 |.bool c=>c==b
 |_=>false
def vC(e:Stmt):Option { t:Option Expr×Pos // e=.Return t.1 t.2 }:=match e with
 |.Return a0 a1=>some ⟨(a0,a1),rfl⟩
 |_=>none
def zH(e:Stmt):Option { t:Expr×List Stmt×List Stmt×Pos // e=.If t.1 t.2.1 t.2.2.1 t.2.2.2 }:=match e with
 |.If a0 a1 a2 a3=>some ⟨(a0,a1,a2,a3),rfl⟩
 |_=>none
def Ht(e:Stmt):Option { t:Expr×Expr×List Stmt×List Stmt×Pos // e=.For t.1 t.2.1 t.2.2.1 t.2.2.2.1 t.2.2.2.2 }:=match e with
 |.For a0 a1 a2 a3 a4=>some ⟨(a0,a1,a2,a3,a4),rfl⟩
 |_=>none
def Hu(e:Stmt):Option { t:Expr×List Stmt×List Stmt×Pos // e=.While t.1 t.2.1 t.2.2.1 t.2.2.2 }:=match e with
 |.While a0 a1 a2 a3=>some ⟨(a0,a1,a2,a3),rfl⟩
 |_=>none
def Hv(e:Stmt):Option { t:Pos // e=.Pass t }:=match e with
 |.Pass a0=>some ⟨a0,rfl⟩
 |_=>none
def Hw(e:Stmt):Option { t:Pos // e=.Break t }:=match e with
 |.Break a0=>some ⟨a0,rfl⟩
 |_=>none
def Hx(e:Stmt):Option { t:Pos // e=.Continue t }:=match e with
 |.Continue a0=>some ⟨a0,rfl⟩
 |_=>none
def one{α:Type}:List α->Option α
 |[a]=>some a
 |_=>none
def three{α:Type}:List α->Option (α×α×α)
 |[x,y,z]=>some (x,y,z)
 |_=>none
theorem acA{α:Type}{l:List α}{v:α×α×α}(h:three l=some v):l=[v.1,v.2.1,v.2.2]:=by
 unfold three at h;split at h
 ·cases h;rfl
 ·cases h
def two{α:Type}:List α->Option (α×α)
 |[a,b]=>some (a,b)
 |_=>none
def hdT{α:Type}:List α->Option (α×List α)
 |a::r=>some (a,r)
 |[]=>none
theorem fJ{α:Type}{l:List α}{a:α}(h:one l=some a):l=[a]:=by
 cases l with
 |nil=>cases h
 |cons x r=>cases r with
  |nil=>cases h;rfl
  |cons _ _=>cases h
theorem lZ{α:Type}{l:List α}{a:α×α}(h:two l=some a):l=[a.1,a.2]:=by
 cases l with
 |nil=>cases h
 |cons x r=>cases r with
  |nil=>cases h
  |cons y r=>cases r with
   |nil=>cases h;rfl
   |cons _ _=>cases h
theorem Hy{α:Type}{l:List α}{a:α×List α}(h:hdT l=some a):l=a.1::a.2:=by
 cases l with
 |nil=>cases h
 |cons x r=>cases h;rfl
theorem bu{α:Type}{o:Option α}{p:α->Bool}(h:o.any p=true):∃t,o=some t/\p t=true:=by
 cases o with
 |none=>cases h
 |some t=>exact ⟨t,rfl,h⟩
def zJ:UnaryOp->Bool
 |.USub=>true
 |_=>false
def mj:UnaryOp->Bool
 |.Not=>true
 |_=>false
theorem acB{o:UnaryOp}(h:zJ o=true):o=.USub:=by cases o <;> first |rfl |cases h
theorem Hz{o:UnaryOp}(h:mj o=true):o=.Not:=by cases o <;> first |rfl |cases h
def bU(e:Expr):Option (Str×Pos×List Expr×Pos):=(zF e).bind λt=>(asName t.1.1).bind λn=>match t.1.2.2.1 with |[]=>some (n.1.1,n.1.2,t.1.2.1,t.1.2.2.2) |_::_=>none
def aA{α:Type}{q:α->Prop}(o:Option { t:α // q t })(P:α->Bool):Bool:=match o with |some t=>P t.1 |none=>false
theorem aP{α:Type}{q:α->Prop}{o:Option { t:α // q t }}{P:α->Bool}(h:aA o P=true):∃t,q t/\P t=true:=by
 cases o with
 |none=>cases h
 |some t=>exact ⟨t.1,t.2,h⟩
theorem HB{α β:Type}{o:Option α}{f:α->Option β}{b:β}(h:o.bind f=some b):∃t,o=some t/\f t=some b:=by
 cases o with
 |none=>cases h
 |some t=>exact ⟨t,rfl,h⟩
theorem fK{e:Expr}{t:Str×Pos×List Expr×Pos}(h:bU e=some t):e=.Call (.Name t.1 t.2.1) t.2.2.1 [] t.2.2.2:=by
 obtain ⟨⟨⟨f,as,ks,p⟩,hu⟩,_,h⟩:=HB h;obtain ⟨⟨⟨x,p'⟩,hn⟩,_,h⟩:=HB h;dsimp only at h hn hu;cases ks with
 |nil=>cases h;rw[hu,hn]
 |cons _ _=>cases h
def mq(e:Expr):Bool:=(lW e).isSome
def HF:Ex->Bool
 |.frz _=>false
 |_=>true
def zK:Tx->Bool
 |.yes=>true
 |_=>false
mutual
def bK(c:CT):Tg->Expr->Bool
 |.nm i,e=>aA (asName e) λt=>(c.N[i]?==some t.1)&&c.sto t.1
 |.tp ts,e=>aA (iK e) λt=>cR c ts t.1
def cR(c:CT):Tgs->List Expr->Bool
 |.nil,es=>es.isEmpty
 |.cons t r,es=>match es with
  |e::es=>bK c t e&&cR c r es
  |[]=>false
end
def zL(e:Expr):Bool:=aA (vq e) λt=>aA (acz t.1) λx=>decide (x.length<=1000)
def unF(e:Expr):Expr:=match zG e with |some t=>t.1.1 |none=>e
def acC:Ex->Bool
 |.cst (.str _)=>true
 |_=>false
def acD:Exs->List Expr->Bool
 |.cons x xs,p::ps=>(match zG p with |some t=>decide (t.1.2.1=-1)&&t.1.2.2.1.isNone |none=>acC x)&&acD xs ps
 |.nil,ps=>ps.isEmpty
 |_,[]=>false
mutual
def aa(c:CT):Ex->Expr->Bool
 |.var i,e=>aA (asName e) λt=>(c.N[i]?==some t.1)&&jx (c.kd.lookup t.1)&&okN t.1
 |.cst d,e=>aA (vq e) λt=>vo d t.1
 |.glb x d,e=>aA (asName e) λt=>t.1==Str.ofString x&&c.glo t.1&&c.cn.any (λp=>p.1==x&&sEq p.2 d)
 |.bin op _ a b,e=>aA (Ho e) λt=>t.2.1==op&&aa c a t.1&&aa c b t.2.2.1
 |.neg a,e=>aA (j9 e) λt=>zJ t.1&&aa c a t.2.1
 |.cmp op a b,e=>aA (lW e) λt=>(one t.2.1).any λo=>(one t.2.2.1).any λr=>o==op&&aa c a t.1&&aa c b r
 |.chn op op' a b d,e=>aA (lW e) λt=>(two t.2.1).any λo=>(two t.2.2.1).any λr=>o.1==op&&o.2==op'&&aa c a t.1&&aa c b r.1&&aa c d r.2
 |.not a,e=>aA (j9 e) λt=>mj t.1&&aa c a t.2.1
 |.boo isAnd x es,e=>aA (vy e) λt=>(hdT t.2.1).any λv=>t.1==(if isAnd then .And else .Or)&&aa c x v.1&&aO c es v.2
 |.ife t a b,e=>aA (Hq e) λu=>bN c t u.1&&aa c a u.2.1&&aa c b u.2.2.1
 |.tup es,e=>aA (iK e) λt=>aO c es t.1
 |.lst _ es,e=>aA (asList e) λt=>aO c es t.1
 |.idx a i,e=>aA (gh e) λt=>aa c a t.1&&aa c i t.2.1
 |.slc _ a lo hi,e=>aA (gh e) λt=>aA (vz t.2.1) λs=>s.2.2.1.isNone&&(aa c a t.1&&gW c lo s.1&&gW c hi s.2.1)
 |.rvs _ a s,e=>aA (gh e) λt=>aA (vz t.2.1) λu=>u.1.isNone&&u.2.1.isNone&&(u.2.2.1.any λst=>aa c a t.1&&aa c s st)
 |.call f es,e=>(bU e).any λt=>t.1==Str.ofString f&&c.glo t.1&&(c.fs.any λp=>p.1==f&&p.2==t.2.2.1.length)&&!t.2.2.1.isEmpty&&aO c es t.2.2.1
 |.bcl f es,e=>(bU e).any λt=>t.1==Str.ofString f.name&&zB f&&c.glo t.1&&c.bt.contains f.name&&!t.2.2.1.isEmpty&&aO c es t.2.2.1
 |.lcl _ f es,e=>(bU e).any λt=>t.1==Str.ofString f.name&&zE f&&c.glo t.1&&c.bt.contains f.name&&!t.2.2.1.isEmpty&&aO c es t.2.2.1
 |.isi a t,e=>(bU e).any λu=>(two u.2.2.1).any λv=>aA (asName v.2) λy=>u.1==Str.ofString "isinstance"&&c.glo u.1&&c.bt.contains "isinstance"&&aa c a v.1&&y.1==Str.ofString t&&c.glo y.1&&c.bt.contains t&&gQ t
 |.isx _ _ _,_=>false
 |.fst _,_=>false
 |.rgl _ _,_=>false
 |.rgt _,_=>false
 |.rpl _ _ _ _,_=>false
 |.fld _ _ _,_=>false
 |.mcl _ _ _ _ _,_=>false
 |.mko _ _,_=>false
 |.pp0 _,_=>false
 |.mth m o es,e=>aA (zF e) λt=>aA (Hr t.1) λv=>t.2.2.1.isEmpty&&(v.2.1==Str.ofString m.name&&aa c o v.1&&!vp v.1&&(v.2.2.endLine==t.2.2.2.line)&&decide (t.2.1.length < 29)&&!t.2.1.isEmpty&&aO c es t.2.1)
 |.comp _ elt tg it cond N cap,e=>aA (vA e) λt=>(one t.2.1).any λg=>decide (g.is_async=0)&&bz c it g.target g.iter&&fH c.N t.2.2.1 (N.map Str.ofString) cap&&gU c t.2.2.1&&dw (N.map Str.ofString) &&
    bK (c.comp (N.map Str.ofString) t.2.2.1) tg g.target&&((zK cond&&g.ifs.isEmpty)||(one g.ifs).any λf=>bN (c.comp (N.map Str.ofString) t.2.2.1) cond f)&&aa (c.comp (N.map Str.ofString) t.2.2.1) elt t.1
 |.cm3 elt t1 i1 t2 i2 t3 i3 N cap,e=>aA (vA e) λt=>(three t.2.1).any λg=>decide (g.1.is_async=0)&&decide (g.2.1.is_async=0)&&decide (g.2.2.is_async=0)&&g.1.ifs.isEmpty&&g.2.1.ifs.isEmpty&&g.2.2.ifs.isEmpty&&bz c i1 g.1.target g.1.iter&&fH c.N t.2.2.1 (N.map Str.ofString) cap&&gU c t.2.2.1&&dw (N.map Str.ofString)&&bK (c.comp (N.map Str.ofString) t.2.2.1) t1 g.1.target&&bz (c.comp (N.map Str.ofString) t.2.2.1) i2 g.2.1.target g.2.1.iter&&bK (c.comp (N.map Str.ofString) t.2.2.1) t2 g.2.1.target&&bz (c.comp (N.map Str.ofString) t.2.2.1) i3 g.2.2.target g.2.2.iter&&bK (c.comp (N.map Str.ofString) t.2.2.1) t3 g.2.2.target&&aa (c.comp (N.map Str.ofString) t.2.2.1) elt t.1
 |.frz a,e=>aa c a e
def bN(c:CT):Tx->Expr->Bool
 |.val x,e=>(jy e||mq e)&&aa c x e&&HF x
 |.not t,e=>aA (j9 e) λu=>mj u.1&&bN c t u.2.1
 |.boo isAnd t ts,e=>aA (vy e) λu=>(hdT u.2.1).any λv=>u.1==(if isAnd then .And else .Or)&&bN c t v.1&&jz c ts v.2
 |.yes,_=>false
def jz(c:CT):Txs->List Expr->Bool
 |.nil,es=>es.isEmpty
 |.cons t r,es=>match es with
  |e::es=>bN c t e&&jz c r es
  |[]=>false
def aO(c:CT):Exs->List Expr->Bool
 |.nil,es=>es.isEmpty
 |.cons t r,es=>match es with
  |e::es=>aa c t e&&aO c r es
  |[]=>false
def gW(c:CT):Ox->Option Expr->Bool
 |.no,e=>e.isNone
 |.ob x,e=>match e with
  |some e=>aa c x e
  |none=>false
def bz(c:CT):It'->Expr->Expr->Bool
 |.seq x,_,e=>aa c x e
 |.rng a,_,e=>(bU e).any λt=>(one t.2.2.1).any λv=>t.1==Str.ofString "range"&&c.glo t.1&&c.bt.contains "range"&&aa c a v
 |.rng2 a b,_,e=>(bU e).any λt=>(two t.2.2.1).any λv=>t.1==Str.ofString "range"&&c.glo t.1&&c.bt.contains "range"&&aa c a v.1&&aa c b v.2
 |.rev a,_,e=>(bU e).any λt=>(one t.2.2.1).any λv=>(bU v).any λt'=>(one t'.2.2.1).any λv'=>t.1==Str.ofString "reversed"&&c.glo t.1&&c.bt.contains "reversed"&&t'.1==Str.ofString "range"&&c.glo t'.1&&c.bt.contains "range"&&aa c a v'
 |.dwn _ _ _,_,_=>false
 |.enm a,tg,e=>aA (iK tg) λ_=>(bU e).any λt=>(one t.2.2.1).any λv=>t.1==Str.ofString "enumerate"&&c.glo t.1&&c.bt.contains "enumerate"&&aa c a v
 |.zip a b,tg,e=>aA (iK tg) λ_=>(bU e).any λt=>(two t.2.2.1).any λv=>t.1==Str.ofString "zip"&&c.glo t.1&&c.bt.contains "zip"&&aa c a v.1&&aa c b v.2
end
def my(c:CT)(cond:Tx)(ifs:List Expr):Bool:=(zK cond&&ifs.isEmpty)||(one ifs).any λf=>bN c cond f
def HH:Ex->Bool
 |.comp ..=>true
 |.cm3 ..=>true
 |_=>false
def HJ:Expr->Bool
 |.Tuple ..=>true
 |_=>false
def zM(g:Tg)(x:Ex)(e:Expr):Bool:=match g with |.nm _=>!dM e||HH x |.tp _=>!HJ e&&!dM e
def mz(c:CT):Exs->List Expr->Bool
 |es,[]=>(match es with |.nil=>true |_=>false)
 |es,p::ps=>match zL p with
  |true=>mz c es ps
  |false=>(match es with |.cons x r=>(aA (zG p) λt=>decide (t.2.1=-1)&&t.2.2.1.isNone&&aa c x t.1)&&mz c r ps |.nil=>false)
def vD(c:CT)(es:Exs)(e:Expr):Bool:=(match es with |.nil=>zL e |_=>false)||aA (acy e) λt=>decide (2<=t.1.length)&&decide (t.1.length<=50)&&mz c es t.1
def HN(c:CT):Tb->List Stmt->Bool
 |.call f es,sts=>(one sts).any λs0=>aA (lX s0) λe0=>(bU e0.1).any λu=>(u.1==Str.ofString f&&c.glo u.1&&(c.fs.any λp=>p.1==f&&p.2==u.2.2.1.length)&&!u.2.2.1.isEmpty&&aO c es u.2.2.1)
 |.pick _ _ _ _,_=>false
 |.asg i f es,sts=>(one sts).any λs0=>aA (lY s0) λa=>(one a.1).any λtg=>aA (asName tg) λy=>(bU a.2.1).any λu=>(c.N[i]?==some y.1&&c.sto y.1&&okN y.1)&&(u.1==Str.ofString f&&c.glo u.1&&(c.fs.any λp=>p.1==f&&p.2==u.2.2.1.length)&&!u.2.2.1.isEmpty&&aO c es u.2.2.1)
 |.ite t a b,sts=>(one sts).any λs0=>aA (zH s0) λu=>bN c t u.1&&HN c a u.2.1&&HN c b u.2.2.1
 |.mcl f C m o es,sts=>(one sts).any λs0=>aA (lX s0) λe0=>aa c (.mcl f C m o es) e0.1
 |.mko C es,sts=>(one sts).any λs0=>aA (lX s0) λe0=>aa c (.mko C es) e0.1
def acE(b:Bool):Const->Bool
 |.bool x=>x==b
 |_=>false
def ak5(c:CT)(h:Hd)(nm:Option Str)(y:Str)(e:Expr):Bool:=(match h with
 |.flag i b=>nm.isNone&&(c.N[i]?==some y)&&aA (vq e) λk=>acE b k.1
 |.bind n i=>nm.any λx=>(c.N[i]?==some y)&&(c.N[n]?==some x)&&(c.kd.lookup x==some .local)&&okN x&&aA (asName e) λz=>z.1==x)&&c.sto y&&okN y
mutual
def bD(c:CT):Sx->Stmt->Bool
 |.exp x,st=>aA (lX st) λt=>!dM t.1&&aa c x t.1
 |.asg g x,st=>aA (lY st) λt=>(one t.1).any λtg=>bK c g tg&&aa c x t.2.1&&zM g x t.2.1
 |.set o i x,st=>aA (lY st) λt=>(one t.1).any λtg=>aA (gh tg) λu=>aa c o u.1&&aa c i u.2.1&&aa c x t.2.1&&!dM t.2.1
 |.aug i op x,st=>aA (vB st) λt=>aA (asName t.1) λy=>t.2.1==op&&(c.N[i]?==some y.1)&&c.sto y.1&&okN y.1&&aa c x t.2.2.1
 |.augs o i op x,st=>aA (vB st) λt=>aA (gh t.1) λu=>t.2.1==op&&aa c o u.1&&aa c i u.2.1&&aa c x t.2.2.1
 |.ret x,st=>aA (vC st) λt=>t.1.any λe=>aa c x e
 |.rtn,st=>aA (vC st) λt=>t.1.isNone
 |.ite t a b,st=>aA (zH st) λu=>bN c t u.1&&aC c a u.2.1&&aC c b u.2.2.1
 |.for_ g it b,st=>aA (Ht st) λt=>t.2.2.2.1.isEmpty&&(bK c g t.1&&bz c it t.1 t.2.1&&aC c b t.2.2.1)
 |.whl t b,st=>aA (Hu st) λu=>u.2.2.1.isEmpty&&(bN c t u.1&&aC c b u.2.1)
 |.pas,st=>(Hv st).isSome
 |.brk,st=>(Hw st).isSome
 |.cnt,st=>(Hx st).isSome
 |.nev,_=>true
 |.rse C es,st=>aA (Hs st) λt=>t.2.1.isNone&&t.1.any λe=>(bU e).any λu=>u.1==Str.ofString C&&c.glo u.1&&c.xs.contains (C,true)&&(one u.2.2.1).any λm=>vD c es m
 |.tryc _ _ _ _ _,_=>false
 |.tryx _ _ _ _,_=>false
def aC(c:CT):Sxs->List Stmt->Bool
 |.nil,es=>es.isEmpty
 |.cons t r,es=>match es with
  |e::es=>bD c t e&&aC c r es
  |[]=>false
end
theorem zN{c:CT}{i:Nat}{e:Expr}(h:bK c (.nm i) e=true):∃x p,e=.Name x p/\((c.N[i]?==some x)&&c.sto x)=true:=by have h:(aA (asName e) λt=>(c.N[i]?==some t.1)&&c.sto t.1)=true:=h;obtain ⟨t,ht,h⟩:=aP h;exact ⟨_,_,ht,h⟩
theorem zO{c:CT}{ts:Tgs}{e:Expr}(h:bK c (.tp ts) e=true):∃es k p,e=.Tuple es k p/\(cR c ts es)=true:=by have h:(aA (iK e) λt=>cR c ts t.1)=true:=h;obtain ⟨t,ht,h⟩:=aP h;exact ⟨_,_,_,ht,h⟩
theorem HQ{c:CT}{i:Nat}{e:Expr}(h:aa c (.var i) e=true):∃x p,e=.Name x p/\((c.N[i]?==some x)&&jx (c.kd.lookup x)&&okN x)=true:=by have h:(aA (asName e) λt=>(c.N[i]?==some t.1)&&jx (c.kd.lookup t.1)&&okN t.1)=true:=h;obtain ⟨t,ht,h⟩:=aP h;exact ⟨_,_,ht,h⟩
theorem HR{c:CT}{d:D}{e:Expr}(h:aa c (.cst d) e=true):∃k n p,e=.Constant k n p/\(vo d k)=true:=by have h:(aA (vq e) λt=>vo d t.1)=true:=h;obtain ⟨t,ht,h⟩:=aP h;exact ⟨_,_,_,ht,h⟩
theorem HS{c:CT}{x:String}{d:D}{e:Expr}(h:aa c (.glb x d) e=true):∃y p,e=.Name y p/\(y==Str.ofString x&&c.glo y&&c.cn.any (λp=>p.1==x&&sEq p.2 d))=true:=by have h:(aA (asName e) λt=>t.1==Str.ofString x&&c.glo t.1&&c.cn.any (λp=>p.1==x&&sEq p.2 d))=true:=h;obtain ⟨t,ht,h⟩:=aP h;exact ⟨_,_,ht,h⟩
theorem HW{c:CT}{op:Operator}{fz:Bool}{a b:Ex}{e:Expr}(h:aa c (.bin op fz a b) e=true):∃l o r p,e=.BinOp l o r p/\(o==op&&aa c a l&&aa c b r)=true:=by have h:(aA (Ho e) λt=>t.2.1==op&&aa c a t.1&&aa c b t.2.2.1)=true:=h;obtain ⟨t,ht,h⟩:=aP h;exact ⟨_,_,_,_,ht,h⟩
theorem HX{c:CT}{a:Ex}{e:Expr}(h:aa c (.neg a) e=true):∃x p,e=.UnaryOp .USub x p/\(aa c a x)=true:=by have h:(aA (j9 e) λt=>zJ t.1&&aa c a t.2.1)=true:=h;obtain ⟨t,ht,h⟩:=aP h;rw[ae]at h;exact ⟨_,_,by rw[ht,acB h.1],h.2⟩
theorem HY{c:CT}{a:Ex}{e:Expr}(h:aa c (.not a) e=true):∃x p,e=.UnaryOp .Not x p/\(aa c a x)=true:=by have h:(aA (j9 e) λt=>mj t.1&&aa c a t.2.1)=true:=h;obtain ⟨t,ht,h⟩:=aP h;rw[ae]at h;exact ⟨_,_,by rw[ht,Hz h.1],h.2⟩
theorem H9{c:CT}{op:CmpOp}{a b:Ex}{e:Expr}(h:aa c (.cmp op a b) e=true):∃l o r p,e=.Compare l [o] [r] p/\(o==op&&aa c a l&&aa c b r)=true:=by have h:(aA (lW e) λt=>(one t.2.1).any λo=>(one t.2.2.1).any λr=>o==op&&aa c a t.1&&aa c b r)=true:=h;obtain ⟨t,ht,h⟩:=aP h;obtain ⟨o,ho,h⟩:=bu h;obtain ⟨r,hr,h⟩:=bu h;exact ⟨_,_,_,_,by rw[ht,fJ ho,fJ hr],h⟩
theorem Ia{c:CT}{op op':CmpOp}{a b d:Ex}{e:Expr}(h:aa c (.chn op op' a b d) e=true):∃l o o' m r p,e=.Compare l [o,o'] [m,r] p/\(o==op&&o'==op'&&aa c a l&&aa c b m&&aa c d r)=true:=by have h:(aA (lW e) λt=>(two t.2.1).any λo=>(two t.2.2.1).any λr=>o.1==op&&o.2==op'&&aa c a t.1&&aa c b r.1&&aa c d r.2)=true:=h;obtain ⟨t,ht,h⟩:=aP h;obtain ⟨o,ho,h⟩:=bu h;obtain ⟨r,hr,h⟩:=bu h;exact ⟨_,_,_,_,_,_,by rw[ht,lZ ho,lZ hr],h⟩
theorem Ib{c:CT}{isAnd:Bool}{x:Ex}{es:Exs}{e:Expr}(h:aa c (.boo isAnd x es) e=true):∃op v vs p,e=.BoolOp op (v::vs) p/\(op==(if isAnd then .And else .Or)&&aa c x v&&aO c es vs)=true:=by have h:(aA (vy e) λt=>(hdT t.2.1).any λv=>t.1==(if isAnd then .And else .Or)&&aa c x v.1&&aO c es v.2)=true:=h;obtain ⟨t,ht,h⟩:=aP h;obtain ⟨v,hv,h⟩:=bu h;exact ⟨_,_,_,_,by rw[ht,Hy hv],h⟩
theorem Ie{c:CT}{t:Tx}{a b:Ex}{e:Expr}(h:aa c (.ife t a b) e=true):∃t' a' b' p,e=.IfExp t' a' b' p/\(bN c t t'&&aa c a a'&&aa c b b')=true:=by have h:(aA (Hq e) λu=>bN c t u.1&&aa c a u.2.1&&aa c b u.2.2.1)=true:=h;obtain ⟨u,ht,h⟩:=aP h;exact ⟨_,_,_,_,ht,h⟩
theorem Ig{c:CT}{es:Exs}{e:Expr}(h:aa c (.tup es) e=true):∃vs k p,e=.Tuple vs k p/\(aO c es vs)=true:=by have h:(aA (iK e) λt=>aO c es t.1)=true:=h;obtain ⟨t,ht,h⟩:=aP h;exact ⟨_,_,_,ht,h⟩
theorem Ih{c:CT}{fz:Bool}{es:Exs}{e:Expr}(h:aa c (.lst fz es) e=true):∃vs p,e=.List vs p/\(aO c es vs)=true:=by have h:(aA (asList e) λt=>aO c es t.1)=true:=h;obtain ⟨t,ht,h⟩:=aP h;exact ⟨_,_,ht,h⟩
theorem Ii{c:CT}{a i:Ex}{e:Expr}(h:aa c (.idx a i) e=true):∃v s p,e=.Subscript v s p/\(aa c a v&&aa c i s)=true:=by have h:(aA (gh e) λt=>aa c a t.1&&aa c i t.2.1)=true:=h;obtain ⟨t,ht,h⟩:=aP h;exact ⟨_,_,_,ht,h⟩
theorem Ij{c:CT}{fz:Bool}{a:Ex}{lo hi:Ox}{e:Expr}(h:aa c (.slc fz a lo hi) e=true):∃v l u p' p,e=.Subscript v (.Slice l u none p') p/\(aa c a v&&gW c lo l&&gW c hi u)=true:=by have h:(aA (gh e) λt=>aA (vz t.2.1) λs=>s.2.2.1.isNone&&(aa c a t.1&&gW c lo s.1&&gW c hi s.2.1))=true:=h;obtain ⟨t,ht,h⟩:=aP h;obtain ⟨s,hs,h⟩:=aP h;rw[ae,eW]at h;exact ⟨_,_,_,_,_,by rw[ht,hs,h.1],h.2⟩
theorem Ik{c:CT}{fz:Bool}{a s:Ex}{e:Expr}(h:aa c (.rvs fz a s) e=true):∃v st p' p,e=.Subscript v (.Slice none none (some st) p') p/\(aa c a v&&aa c s st)=true:=by have h:(aA (gh e) λt=>aA (vz t.2.1) λu=>u.1.isNone&&u.2.1.isNone&&(u.2.2.1.any λst=>aa c a t.1&&aa c s st))=true:=h;obtain ⟨t,ht,h⟩:=aP h;obtain ⟨u,hu,h⟩:=aP h;rw[ae,ae,eW,eW]at h;obtain ⟨st,hst,h'⟩:=bu h.2;exact ⟨_,_,_,_,by rw[ht,hu,h.1.1,h.1.2,hst],h'⟩
theorem Il{c:CT}{f:String}{es:Exs}{e:Expr}(h:aa c (.call f es) e=true):∃x p args pos,e=.Call (.Name x p) args [] pos/\(x==Str.ofString f&&c.glo x&&(c.fs.any λp=>p.1==f&&p.2==args.length)&&!args.isEmpty&&aO c es args)=true:=by have h:((bU e).any λt=>t.1==Str.ofString f&&c.glo t.1&&(c.fs.any λp=>p.1==f&&p.2==t.2.2.1.length)&&!t.2.2.1.isEmpty&&aO c es t.2.2.1)=true:=h;obtain ⟨t,ht,h⟩:=bu h;exact ⟨_,_,_,_,fK ht,h⟩
theorem Im{c:CT}{f:Bf}{es:Exs}{e:Expr}(h:aa c (.bcl f es) e=true):∃x p args pos,e=.Call (.Name x p) args [] pos/\(x==Str.ofString f.name&&zB f&&c.glo x&&c.bt.contains f.name&&!args.isEmpty&&aO c es args)=true:=by have h:((bU e).any λt=>t.1==Str.ofString f.name&&zB f&&c.glo t.1&&c.bt.contains f.name&&!t.2.2.1.isEmpty&&aO c es t.2.2.1)=true:=h;obtain ⟨t,ht,h⟩:=bu h;exact ⟨_,_,_,_,fK ht,h⟩
theorem Io{c:CT}{fz:Bool}{f:Lf}{es:Exs}{e:Expr}(h:aa c (.lcl fz f es) e=true):∃x p args pos,e=.Call (.Name x p) args [] pos/\(x==Str.ofString f.name&&zE f&&c.glo x&&c.bt.contains f.name&&!args.isEmpty&&aO c es args)=true:=by have h:((bU e).any λt=>t.1==Str.ofString f.name&&zE f&&c.glo t.1&&c.bt.contains f.name&&!t.2.2.1.isEmpty&&aO c es t.2.2.1)=true:=h;obtain ⟨t,ht,h⟩:=bu h;exact ⟨_,_,_,_,fK ht,h⟩
theorem Ip {c:CT} {a:Ex} {t:String} {e:Expr} (h:aa c (.isi a t) e=true):∃x p v y p' pos,e=.Call (.Name x p) [v,.Name y p'] [] pos/\(x==Str.ofString "isinstance"&&c.glo x&&c.bt.contains "isinstance"&&aa c a v&&y==Str.ofString t&&c.glo y&&c.bt.contains t&&gQ t)=true:=by have h:((bU e).any λu=>(two u.2.2.1).any λv=>aA (asName v.2) λy=>u.1==Str.ofString "isinstance"&&c.glo u.1&&c.bt.contains "isinstance"&&aa c a v.1&&y.1==Str.ofString t&&c.glo y.1&&c.bt.contains t&&gQ t)=true:=h;obtain ⟨u,hu,h⟩:=bu h;obtain ⟨v,hv,h⟩:=bu h;obtain ⟨y,hy,h⟩:=aP h;exact ⟨_,_,_,_,_,_,by rw[fK hu,lZ hv,hy],h⟩
theorem Ir{c:CT}{m:Mf}{o:Ex}{es:Exs}{e:Expr}(h:aa c (.mth m o es) e=true):∃v x apos args cpos,e=.Call (.Attribute v x apos) args [] cpos/\(x==Str.ofString m.name&&aa c o v&&!vp v&&(apos.endLine==cpos.line)&&decide (args.length < 29)&&!args.isEmpty&&aO c es args)=true:=by have h:(aA (zF e) λt=>aA (Hr t.1) λv=>t.2.2.1.isEmpty&&(v.2.1==Str.ofString m.name&&aa c o v.1&&!vp v.1&&(v.2.2.endLine==t.2.2.2.line)&&decide (t.2.1.length < 29)&&!t.2.1.isEmpty&&aO c es t.2.1))=true:=h;obtain ⟨t,ht,h⟩:=aP h;obtain ⟨v,hv,h⟩:=aP h;rw[ae,e8]at h;exact ⟨_,_,_,_,_,by rw[ht,hv,h.1],h.2⟩
theorem Iu{c:CT}{fz:Bool}{elt:Ex}{tg:Tg}{it:It'}{cond:Tx}{N:List String}{cap:List (Option Nat)}{e:Expr}(h:aa c (.comp fz elt tg it cond N cap) e=true):∃elt' tg' iter ifs as scope pos,e=.ListComp elt' [⟨tg',iter,ifs,as⟩] scope pos/\(decide (as=0)&&bz c it tg' iter&&fH c.N scope (N.map Str.ofString) cap&&gU c scope&&dw (N.map Str.ofString)&&bK (c.comp (N.map Str.ofString) scope) tg tg'&&my (c.comp (N.map Str.ofString) scope) cond ifs&&aa (c.comp (N.map Str.ofString) scope) elt elt')=true:=by have h:(aA (vA e) λt=>(one t.2.1).any λg=>decide (g.is_async=0)&&bz c it g.target g.iter&&fH c.N t.2.2.1 (N.map Str.ofString) cap&&gU c t.2.2.1&&dw (N.map Str.ofString)&&bK (c.comp (N.map Str.ofString) t.2.2.1) tg g.target&&((zK cond&&g.ifs.isEmpty)||(one g.ifs).any λf=>bN (c.comp (N.map Str.ofString) t.2.2.1) cond f)&&aa (c.comp (N.map Str.ofString) t.2.2.1) elt t.1)=true:=h;obtain ⟨t,ht,h⟩:=aP h;obtain ⟨⟨tg',iter,ifs,as⟩,hg,h⟩:=bu h;exact ⟨t.1,tg',iter,ifs,as,t.2.2.1,t.2.2.2,(ht).trans (by rw[fJ hg]),h⟩
theorem zP{c:CT}{elt:Ex}{t1 t2 t3:Tg}{i1 i2 i3:It'}{N:List String}{cap:List (Option Nat)}{e:Expr}(h:aa c (.cm3 elt t1 i1 t2 i2 t3 i3 N cap) e=true):∃elt' a1 b1 a2 b2 a3 b3 scope pos,e=.ListComp elt' [⟨a1,b1,[],0⟩,⟨a2,b2,[],0⟩,⟨a3,b3,[],0⟩] scope pos/\
  (bz c i1 a1 b1=true/\fH c.N scope (N.map Str.ofString) cap=true/\gU c scope=true/\dw (N.map Str.ofString)=true/\bK (c.comp (N.map Str.ofString) scope) t1 a1=true/\bz (c.comp (N.map Str.ofString) scope) i2 a2 b2=true/\bK (c.comp (N.map Str.ofString) scope) t2 a2=true/\bz (c.comp (N.map Str.ofString) scope) i3 a3 b3=true/\bK (c.comp (N.map Str.ofString) scope) t3 a3=true/\aa (c.comp (N.map Str.ofString) scope) elt elt'=true):=by
 have h:(aA (vA e) λt=>(three t.2.1).any λg=>decide (g.1.is_async=0)&&decide (g.2.1.is_async=0)&&decide (g.2.2.is_async=0)&&g.1.ifs.isEmpty&&g.2.1.ifs.isEmpty&&g.2.2.ifs.isEmpty&&bz c i1 g.1.target g.1.iter&&fH c.N t.2.2.1 (N.map Str.ofString) cap&&gU c t.2.2.1&&dw (N.map Str.ofString)&&bK (c.comp (N.map Str.ofString) t.2.2.1) t1 g.1.target&&bz (c.comp (N.map Str.ofString) t.2.2.1) i2 g.2.1.target g.2.1.iter&&bK (c.comp (N.map Str.ofString) t.2.2.1) t2 g.2.1.target&&bz (c.comp (N.map Str.ofString) t.2.2.1) i3 g.2.2.target g.2.2.iter&&bK (c.comp (N.map Str.ofString) t.2.2.1) t3 g.2.2.target&&aa (c.comp (N.map Str.ofString) t.2.2.1) elt t.1)=true:=h;obtain ⟨t,ht,h⟩:=aP h;obtain ⟨⟨⟨a1,b1,f1,z1⟩,⟨a2,b2,f2,z2⟩,⟨a3,b3,f3,z3⟩⟩,hg,h⟩:=bu h;simp only[ae,b6,e8,and_assoc]at h;obtain ⟨rfl,rfl,rfl,rfl,rfl,rfl,h⟩:=h;exact ⟨t.1,a1,b1,a2,b2,a3,b3,t.2.2.1,t.2.2.2,(ht).trans (by rw[acA hg]),h⟩
theorem acF{c:CT}{t:Tx}{e:Expr}(h:bN c (.not t) e=true):∃x p,e=.UnaryOp .Not x p/\(bN c t x)=true:=by have h:(aA (j9 e) λu=>mj u.1&&bN c t u.2.1)=true:=h;obtain ⟨u,ht,h⟩:=aP h;rw[ae]at h;exact ⟨_,_,by rw[ht,Hz h.1],h.2⟩
theorem acG{c:CT}{isAnd:Bool}{x:Tx}{es:Txs}{e:Expr}(h:bN c (.boo isAnd x es) e=true):∃op v vs p,e=.BoolOp op (v::vs) p/\(op==(if isAnd then .And else .Or)&&bN c x v&&jz c es vs)=true:=by have h:(aA (vy e) λu=>(hdT u.2.1).any λv=>u.1==(if isAnd then .And else .Or)&&bN c x v.1&&jz c es v.2)=true:=h;obtain ⟨t,ht,h⟩:=aP h;obtain ⟨v,hv,h⟩:=bu h;exact ⟨_,_,_,_,by rw[ht,Hy hv],h⟩
theorem Iv {c:CT} {a:Ex} {tg e:Expr} (h:bz c (.rng a) tg e=true):∃x p v pos,e=.Call (.Name x p) [v] [] pos/\(x==Str.ofString "range"&&c.glo x&&c.bt.contains "range"&&aa c a v)=true:=by have h:((bU e).any λt=>(one t.2.2.1).any λv=>t.1==Str.ofString "range"&&c.glo t.1&&c.bt.contains "range"&&aa c a v)=true:=h;obtain ⟨t,ht,h⟩:=bu h;obtain ⟨v,hv,h⟩:=bu h;exact ⟨_,_,_,_,by rw[fK ht,fJ hv],h⟩
theorem Iw {c:CT} {a:Ex} {tg e:Expr} (h:bz c (.rev a) tg e=true):∃x p y q v pos pos',e=.Call (.Name x p) [.Call (.Name y q) [v] [] pos] [] pos'/\(x==Str.ofString "reversed"&&c.glo x&&c.bt.contains "reversed"&&y==Str.ofString "range"&&c.glo y&&c.bt.contains "range"&&aa c a v)=true:=by have h:((bU e).any λt=>(one t.2.2.1).any λv=>(bU v).any λt'=>(one t'.2.2.1).any λv'=>t.1==Str.ofString "reversed"&&c.glo t.1&&c.bt.contains "reversed"&&t'.1==Str.ofString "range"&&c.glo t'.1&&c.bt.contains "range"&&aa c a v')=true:=h;obtain ⟨t,ht,h⟩:=bu h;obtain ⟨v,hv,h⟩:=bu h;obtain ⟨t',ht',h⟩:=bu h;obtain ⟨v',hv',h⟩:=bu h;exact ⟨_,_,_,_,_,_,_,by rw[fK ht,fJ hv,fK ht',fJ hv'],h⟩
theorem Iz {c:CT} {a b:Ex} {tg e:Expr} (h:bz c (.rng2 a b) tg e=true):∃x p v v' pos,e=.Call (.Name x p) [v,v'] [] pos/\(x==Str.ofString "range"&&c.glo x&&c.bt.contains "range"&&aa c a v&&aa c b v')=true:=by have h:((bU e).any λt=>(two t.2.2.1).any λv=>t.1==Str.ofString "range"&&c.glo t.1&&c.bt.contains "range"&&aa c a v.1&&aa c b v.2)=true:=h;obtain ⟨t,ht,h⟩:=bu h;obtain ⟨v,hv,h⟩:=bu h;exact ⟨_,_,_,_,_,by rw[fK ht,lZ hv],h⟩
theorem IK {c:CT} {a:Ex} {tg e:Expr} (h:bz c (.enm a) tg e=true):∃ts k p0 x p v pos,tg=.Tuple ts k p0/\e=.Call (.Name x p) [v] [] pos/\(x==Str.ofString "enumerate"&&c.glo x&&c.bt.contains "enumerate"&&aa c a v)=true:=by have h:(aA (iK tg) λ_=>(bU e).any λt=>(one t.2.2.1).any λv=>t.1==Str.ofString "enumerate"&&c.glo t.1&&c.bt.contains "enumerate"&&aa c a v)=true:=h;obtain ⟨g,hg,h⟩:=aP h;obtain ⟨t,ht,h⟩:=bu h;obtain ⟨v,hv,h⟩:=bu h;exact ⟨_,_,_,_,_,_,_,hg,by rw[fK ht,fJ hv],h⟩
theorem IV {c:CT} {a b:Ex} {tg e:Expr} (h:bz c (.zip a b) tg e=true):∃ts k p0 x p v v' pos,tg=.Tuple ts k p0/\e=.Call (.Name x p) [v,v'] [] pos/\(x==Str.ofString "zip"&&c.glo x&&c.bt.contains "zip"&&aa c a v&&aa c b v')=true:=by have h:(aA (iK tg) λ_=>(bU e).any λt=>(two t.2.2.1).any λv=>t.1==Str.ofString "zip"&&c.glo t.1&&c.bt.contains "zip"&&aa c a v.1&&aa c b v.2)=true:=h;obtain ⟨g,hg,h⟩:=aP h;obtain ⟨t,ht,h⟩:=bu h;obtain ⟨v,hv,h⟩:=bu h;exact ⟨_,_,_,_,_,_,_,_,hg,by rw[fK ht,lZ hv],h⟩
theorem acH{c:CT}{x:Ex}{st:Stmt}(h:bD c (.exp x) st=true):∃e pos,st=.Expr e pos/\(!dM e&&aa c x e)=true:=by have h:(aA (lX st) λt=>!dM t.1&&aa c x t.1)=true:=h;obtain ⟨t,ht,h⟩:=aP h;exact ⟨_,_,ht,h⟩
theorem IW{c:CT}{g:Tg}{x:Ex}{st:Stmt}(h:bD c (.asg g x) st=true):∃tg e pos,st=.Assign [tg] e pos/\(bK c g tg&&aa c x e&&zM g x e)=true:=by have h:(aA (lY st) λt=>(one t.1).any λtg=>bK c g tg&&aa c x t.2.1&&zM g x t.2.1)=true:=h;obtain ⟨t,ht,h⟩:=aP h;obtain ⟨g,hg,h⟩:=bu h;exact ⟨_,_,_,by rw[ht,fJ hg],h⟩
theorem acI{c:CT}{o i x:Ex}{st:Stmt}(h:bD c (.set o i x) st=true):∃o' i' tpos e pos,st=.Assign [.Subscript o' i' tpos] e pos/\(aa c o o'&&aa c i i'&&aa c x e&&!dM e)=true:=by have h:(aA (lY st) λt=>(one t.1).any λtg=>aA (gh tg) λu=>aa c o u.1&&aa c i u.2.1&&aa c x t.2.1&&!dM t.2.1)=true:=h;obtain ⟨t,ht,h⟩:=aP h;obtain ⟨g,hg,h⟩:=bu h;obtain ⟨u,hu,h⟩:=aP h;exact ⟨_,_,_,_,_,by rw[ht,fJ hg,hu],h⟩
theorem acJ{c:CT}{i:Nat}{op:Operator}{x:Ex}{st:Stmt}(h:bD c (.aug i op x) st=true):∃y py o e pos,st=.AugAssign (.Name y py) o e pos/\(o==op&&(c.N[i]?==some y)&&c.sto y&&okN y&&aa c x e)=true:=by have h:(aA (vB st) λt=>aA (asName t.1) λy=>t.2.1==op&&(c.N[i]?==some y.1)&&c.sto y.1&&okN y.1&&aa c x t.2.2.1)=true:=h;obtain ⟨t,ht,h⟩:=aP h;obtain ⟨u,hu,h⟩:=aP h;exact ⟨_,_,_,_,_,by rw[ht,hu],h⟩
theorem acK{c:CT}{o i:Ex}{op:Operator}{x:Ex}{st:Stmt}(h:bD c (.augs o i op x) st=true):∃o' i' tpos p e pos,st=.AugAssign (.Subscript o' i' tpos) p e pos/\(p==op&&aa c o o'&&aa c i i'&&aa c x e)=true:=by have h:(aA (vB st) λt=>aA (gh t.1) λu=>t.2.1==op&&aa c o u.1&&aa c i u.2.1&&aa c x t.2.2.1)=true:=h;obtain ⟨t,ht,h⟩:=aP h;obtain ⟨u,hu,h⟩:=aP h;exact ⟨_,_,_,_,_,_,by rw[ht,hu],h⟩
theorem acL{c:CT}{C:String}{es:Exs}{st:Stmt}(h:bD c (.rse C es) st=true):∃x np m cpos pos,st=.Raise (some (.Call (.Name x np) [m] [] cpos)) none pos/\(x==Str.ofString C&&c.glo x&&c.xs.contains (C,true)&&vD c es m)=true:=by have h:(aA (Hs st) λt=>t.2.1.isNone&&t.1.any λe=>(bU e).any λu=>u.1==Str.ofString C&&c.glo u.1&&c.xs.contains (C,true)&&(one u.2.2.1).any λm=>vD c es m)=true:=h;obtain ⟨t,ht,h⟩:=aP h;rw[ae,eW]at h;obtain ⟨e,he,h2⟩:=bu h.2;obtain ⟨u,hu,h3⟩:=bu h2;rw[ae]at h3;obtain ⟨m,hm,h4⟩:=bu h3.2;exact ⟨_,_,m,_,_,by rw[ht,h.1,he,fK hu,fJ hm],by rw[ae];exact ⟨h3.1,h4⟩⟩
theorem acM{c:CT}{x:Ex}{st:Stmt}(h:bD c (.ret x) st=true):∃e pos,st=.Return (some e) pos/\(aa c x e)=true:=by have h:(aA (vC st) λt=>t.1.any λe=>aa c x e)=true:=h;obtain ⟨t,ht,h⟩:=aP h;obtain ⟨e,he,h⟩:=bu h;exact ⟨_,_,by rw[ht,he],h⟩
theorem acN{c:CT}{st:Stmt}(h:bD c .rtn st=true):∃pos,st=.Return none pos/\(true)=true:=by have h:(aA (vC st) λt=>t.1.isNone)=true:=h;obtain ⟨t,ht,h⟩:=aP h;rw[eW]at h;exact ⟨_,by rw[ht,h],rfl⟩
theorem acO{c:CT}{t:Tx}{a b:Sxs}{st:Stmt}(h:bD c (.ite t a b) st=true):∃t' a' b' pos,st=.If t' a' b' pos/\(bN c t t'&&aC c a a'&&aC c b b')=true:=by have h:(aA (zH st) λu=>bN c t u.1&&aC c a u.2.1&&aC c b u.2.2.1)=true:=h;obtain ⟨u,ht,h⟩:=aP h;exact ⟨_,_,_,_,ht,h⟩
theorem acP{c:CT}{g:Tg}{it:It'}{b:Sxs}{st:Stmt}(h:bD c (.for_ g it b) st=true):∃tg iter body pos,st=.For tg iter body [] pos/\(bK c g tg&&bz c it tg iter&&aC c b body)=true:=by have h:(aA (Ht st) λt=>t.2.2.2.1.isEmpty&&(bK c g t.1&&bz c it t.1 t.2.1&&aC c b t.2.2.1))=true:=h;obtain ⟨t,ht,h⟩:=aP h;rw[ae,e8]at h;exact ⟨_,_,_,_,by rw[ht,h.1],h.2⟩
theorem acQ{c:CT}{t:Tx}{b:Sxs}{st:Stmt}(h:bD c (.whl t b) st=true):∃t' body pos,st=.While t' body [] pos/\(bN c t t'&&aC c b body)=true:=by have h:(aA (Hu st) λu=>u.2.2.1.isEmpty&&(bN c t u.1&&aC c b u.2.1))=true:=h;obtain ⟨u,ht,h⟩:=aP h;rw[ae,e8]at h;exact ⟨_,_,_,by rw[ht,h.1],h.2⟩
theorem acR{c:CT}{st:Stmt}(h:bD c .pas st=true):∃pos,st=.Pass pos/\(true)=true:=by obtain ⟨⟨t,ht⟩,_⟩:=dv.mp (show (Hv st).isSome=true from h);exact ⟨t,ht,rfl⟩
theorem acS{c:CT}{st:Stmt}(h:bD c .brk st=true):∃pos,st=.Break pos/\(true)=true:=by obtain ⟨⟨t,ht⟩,_⟩:=dv.mp (show (Hw st).isSome=true from h);exact ⟨t,ht,rfl⟩
theorem acT{c:CT}{st:Stmt}(h:bD c .cnt st=true):∃pos,st=.Continue pos/\(true)=true:=by obtain ⟨⟨t,ht⟩,_⟩:=dv.mp (show (Hx st).isSome=true from h);exact ⟨t,ht,rfl⟩
def mC:Expr->Bool
 |.Starred ..=>false
 |.Set ..=>false
 |.Slice ..=>false
 |_=>true
theorem cj{c:CT}:∀(x:Ex){e:Expr},aa c x e=true->mC e=true
 |.frz a,e,h=>cj a (show aa c a e=true from h)
 |.var _,e,h=>by obtain ⟨_,_,rfl,_⟩:=HQ h;rfl
 |.cst _,e,h=>by obtain ⟨_,_,_,rfl,_⟩:=HR h;rfl
 |.glb _ _,e,h=>by obtain ⟨_,_,rfl,_⟩:=HS h;rfl
 |.bin _ _ _ _,e,h=>by obtain ⟨_,_,_,_,rfl,_⟩:=HW h;rfl
 |.neg _,e,h=>by obtain ⟨_,_,rfl,_⟩:=HX h;rfl
 |.cmp _ _ _,e,h=>by obtain ⟨_,_,_,_,rfl,_⟩:=H9 h;rfl
 |.chn _ _ _ _ _,e,h=>by obtain ⟨_,_,_,_,_,_,rfl,_⟩:=Ia h;rfl
 |.not _,e,h=>by obtain ⟨_,_,rfl,_⟩:=HY h;rfl
 |.boo _ _ _,e,h=>by obtain ⟨_,_,_,_,rfl,_⟩:=Ib h;rfl
 |.ife _ _ _,e,h=>by obtain ⟨_,_,_,_,rfl,_⟩:=Ie h;rfl
 |.tup _,e,h=>by obtain ⟨_,_,_,rfl,_⟩:=Ig h;rfl
 |.lst _ _,e,h=>by obtain ⟨_,_,rfl,_⟩:=Ih h;rfl
 |.idx _ _,e,h=>by obtain ⟨_,_,_,rfl,_⟩:=Ii h;rfl
 |.slc _ _ _ _,e,h=>by obtain ⟨_,_,_,_,_,rfl,_⟩:=Ij h;rfl
 |.rvs _ _ _,e,h=>by obtain ⟨_,_,_,_,rfl,_⟩:=Ik h;rfl
 |.call _ _,e,h=>by obtain ⟨_,_,_,_,rfl,_⟩:=Il h;rfl
 |.bcl _ _,e,h=>by obtain ⟨_,_,_,_,rfl,_⟩:=Im h;rfl
 |.lcl _ _ _,e,h=>by obtain ⟨_,_,_,_,rfl,_⟩:=Io h;rfl
 |.isi _ _,e,h=>by obtain ⟨_,_,_,_,_,_,rfl,_⟩:=Ip h;rfl
 |.rgl _ _,_,h=>nZf h
 |.rgt _,_,h=>nZf h
 |.fst _,_,h=>nZf h
 |.isx _ _ _,_,h=>nZf h
 |.rpl _ _ _ _,_,h=>nZf h
 |.fld _ _ _,_,h=>nZf h
 |.mcl _ _ _ _ _,_,h=>nZf h
 |.mko _ _,_,h=>nZf h
 |.pp0 _,_,h=>nZf h
 |.mth _ _ _,e,h=>by obtain ⟨_,_,_,_,_,rfl,_⟩:=Ir h;rfl
 |.comp _ _ _ _ _ _ _,e,h=>by obtain ⟨_,_,_,_,_,_,_,rfl,_⟩:=Iu h;rfl
 |.cm3 _ _ _ _ _ _ _ _ _,e,h=>by obtain ⟨_,_,_,_,_,_,_,_,_,rfl,_⟩:=zP h;rfl
theorem di{e:Expr}(h:mC e=true):noStar e=true:=by cases e <;> first |rfl |exact nZf h
theorem Ja{e:Expr}(h:mC e=true)(op:CmpOp):behindInMarks op e=false:=by cases e <;> first |rfl |exact nZf h
theorem acU{e:Expr}(h:mC e=true)(env:Env)(x:Value):foldedSetIterable e env x=pure x:=by cases e <;> first |rfl |exact nZf h
theorem acV{e:Expr}(h:mC e=true):Ep e:=by intro o i;cases e <;> first |rfl |exact nZf h
theorem acW{e:Expr}(h:jy e=true)(env:Env)(whole:Sem Value):isTrue e env whole=(do let v <-whole;standAt e.pos;holding [v] (truthy v)):=by
 cases e with
 |UnaryOp op x p=>cases op <;> first |rfl |exact nZf h
 |_=>first |rfl |exact nZf h
def XV(K:PF)(H:Hp)(F:FZ)(x:Xn)(cv:Value)(od:Option Addr):Prop:=
 ∃C,cv=.ref C/\PySem.W.nsIn K mainGlobals (Str.ofString x.cls)=some (some (.ref C))/\
  match x.fld with
  |.non=>True
  |d=>∃a f v,od=some a/\H a=some (.xd [(f,v)])/\Rep K H F d v
def XR(K:PF)(H:Hp)(F:FZ)(x:Xn)(EX:XK):Prop:=∀cv od,XV K H F x cv od->EX cv od H
def PX(K:PF)(H:Hp)(F:FZ)(EX:XK):EK:=λx G'=>∀H' F',Ext H F H' F'->R K H' F' G'->XR K H' F' x EX
theorem el{α β γ:Type}{p q r s:α->β->γ->Prop}{C:Prop}(h:∃x y z,p x y z/\q x y z/\r x y z/\s x y z)(k:∀x y z,p x y z->q x y z->r x y z->s x y z->C):C:=by obtain ⟨x,y,z,h1,h2,h3,h4⟩:=h;exact k x y z h1 h2 h3 h4
def lift(K:PF)(n:Nat)(S:RF.Spec):Sp:=λvs H Q EX=>vs.length=n/\∃F G ds,R K H F G/\Reps K H F ds vs/\S.t ds G (PV K H F Q) (PX K H F EX)
def CV(K:PF)(mg:Str->Option Value)(C':String)(cv:V):Prop:=
 (∃a,cv=.ref a/\mg (Str.ofString C')=some (.ref a)/\Ga K a=true)\/(C'="ValueError"/\cv=.ty "ValueError"/\mg (Str.ofString C')=none)
def XI(K:PF)(C C':String)(cv:V):Prop:=
 ∃c,PySem.W.nsIn K mainGlobals (Str.ofString C)=some (some (.ref c))/\FW K c=true/\PySem.W.mroIn K c (valOf cv)=some (iD C C')/\(iD C C'=false->(Value.ref c==valOf cv)=false)
structure Bs where
 H:Hp
 F:FZ
def Jb(K:PF)(C f:String):Prop:=∃c,PySem.W.nsIn K mainGlobals (Str.ofString C)=some (some (.ref c))/\Cls K c/\Y8 K c (Str.ofString f)
def MthOk(Z:aj)(P:Program)(w:World)(K:PF)(mg:Str->Option Value)(base:Heap)(CX:CXT)(k:Nat)(f C m:String)(n:Nat):Prop:=
 ∃c fa fd ps,PySem.W.nsIn K mainGlobals (Str.ofString C)=some (some (.ref c))/\Cls K c/\Meth K c (Str.ofString m) fa/\Binds K fd ps []/\FnOk P w K mg base CX k fa fd ps (lift K n (Z f))
def MkoOk(Z:aj)(P:Program)(w:World)(K:PF)(mg:Str->Option Value)(base:Heap)(CX:CXT)(k:Nat)(C:String)(n:Nat):Prop:=
 ∃c fa fd ps sp j,j+1<=k/\mg (Str.ofString C)=some (.ref c)/\Mk K c fa/\Binds K fd ps []/\FnOk P w K mg base CX j fa fd ps sp/\
  ∀vs H Q E,lift K n (Z C) vs H Q E->∀x dx,H x=none->H dx=none->dx≠x->sp (.ref x::vs) (upd (upd H dx (.own x)) x (.ins c dx [])) (λv H2=>v=.non/\Q (.ref x) H2) E
structure Stat(Z:aj)(CX:CXT)(k:Nat)(c:CT)(E:EK)(B:Bs)(X:Cx):Prop where
 N:X.N=c.N
 nd:X.N.Nodup
 calm:X.calm=true
 own:PassesOwn (model X.prog X.w) X.A X.env X.xe
 kd:X.env.kindOf=λx=>X.env.scope.names.lookup x
 vis:∀x,jx (c.kd.lookup x)=true->Vis X.env.scope x
 cel:∀x,(c.kd.lookup x=some .cell\/c.kd.lookup x=some .free)->(X.env.kindOf x=some .cell\/X.env.kindOf x=some .free)
 glo:∀x,c.kd.lookup x=some .globalImplicit->Gl X x
 sto:∀x,c.sto x=true->Loc X.env.scope x/\(X.fn x=true\/X.env.scope.names.lookup x=some .local)
 room:Room k X.A
 call:∀f n,(f,n)∈c.fs->∃fa fd ps,FnOk X.prog X.w X.K X.mg X.base CX k fa fd ps (lift X.K n (Z f))/\PySem.W.keepIn X.K (.ref fa)=true/\Binds X.K fd ps []/\X.mg (Str.ofString f)=some (.ref fa)
 blt:∀f,f∈c.bt->X.mg (Str.ofString f)=none
 con:∀x d,(x,d)∈c.cn->∃u v,X.mg (Str.ofString x)=some u/\RelV v u/\∀H F,Rep X.K H F d v
 exc:∃EX,lF CX X EX/\Throws X EX/\∀x G' H' F',E x G'->Ext B.H B.F H' F'->R X.K H' F' G'->XR X.K H' F' x EX
 nox:∀(Y:Cx),lF CX Y λ_ _ _=>False
 xcl:∀C,c.xs.contains (C,true)=true->∃a,X.mg (Str.ofString C)=some (.ref a)/\jm X.K a=true/\PySem.W.nsIn X.K mainGlobals (Str.ofString C)=some (some (.ref a))
 loc:∀x,c.kd.lookup x=some .local->X.env.scope.names.lookup x=some .local
 xis:∀C',c.xs.contains (C',false)=true->∃cv,CV X.K X.mg C' cv/\∀C,c.xs.contains (C,true)=true->XI X.K C C' cv
 mth:∀f C m n,(f,C,m,n)∈c.ot.ms->MthOk Z X.prog X.w X.K X.mg X.base CX k f C m n
 mko:∀C n,(C,n)∈c.ot.ks->MkoOk Z X.prog X.w X.K X.mg X.base CX k C n
 fld:∀C f,(C,f)∈c.ot.fl->Jb X.K C f
 trc:c.xs≠[]->CX=CX1 X.prog X.w/\X.stack=X.env::X.outer/\X.ex=[]
def tE(K:PF)(B:Bs)(w:ak->DH->(D->DH->Prop)->Prop):TE:=λX H Q=>∃Y F G,Ext B.H B.F H F/\EnvR K H F Y X/\R K H F G/\w Y G (PV K H F Q)
def tB'(K:PF)(B:Bs)(w:ak->DH->(Bool->DH->Prop)->Prop):TT:=λX H Q=>∃Y F G,Ext B.H B.F H F/\EnvR K H F Y X/\R K H F G/\w Y G (PB K H F Q)
def tL(K:PF)(B:Bs)(w:ak->DH->(List D->DH->Prop)->Prop):TA:=λX H Q=>∃Y F G,Ext B.H B.F H F/\EnvR K H F Y X/\R K H F G/\w Y G (PLs K H F Q)
def POp(K:PF)(H:Hp)(F:FZ)(Q:Option Int->Hp->Prop):Option Int->DH->Prop:=λb G'=>∀H' F',Ext H F H' F'->R K H' F' G'->Q b H'
def Jc(K:PF)(B:Bs)(w:ak->DH->(Option Int->DH->Prop)->Prop):TO:=λX H Q=>∃Y F G,Ext B.H B.F H F/\EnvR K H F Y X/\R K H F G/\w Y G (POp K H F Q)
theorem peI{X:Cx}{e:Expr}{t t':TE}(h:PE X e t)(i:∀Y H Q,t' Y H Q->t Y H Q):PE X e t':=λpins s Y H Q I q=>h pins s Y H Q I (i Y H Q q)
theorem ptI{X:Cx}{e:Expr}{t t':TT}(h:PT X e t)(i:∀Y H Q,t' Y H Q->t Y H Q):PT X e t':=λpins s Y H Q I q=>h pins s Y H Q I (i Y H Q q)
theorem pwI{X:Cx}{e:Expr}{t t':TT}(h:PW X e t)(i:∀Y H Q,t' Y H Q->t Y H Q):PW X e t':=λwh pins s Y H Q I q=>h wh pins s Y H Q I (i Y H Q q)
theorem paI{X:Cx}{e:List Expr}{t t':TA}(h:PA X e t)(i:∀Y H Q,t' Y H Q->t Y H Q):PA X e t':=λpos pins s Y H Q I q=>h pos pins s Y H Q I (i Y H Q q)
section
variable {Z:aj} {CX:CXT} {k:Nat} {c:CT} {E:EK} {B:Bs} {X:Cx}
theorem aN{K:PF}{x:Ex}{X:L2.St}{H:Hp}{F:FZ}{G:DH}{Y:ak}{W:D->DH->Prop}{Q:VK}(e0:Ext B.H B.F H F)(he:EnvR K H F Y X)(r:R K H F G)(hw:wpE Z x E Y G W)
  (h:∀d G1 H1 F1 v,W d G1->Ext B.H B.F H1 F1->Ext H F H1 F1->EnvR K H1 F1 Y X->R K H1 F1 G1->Rep K H1 F1 d v->Q v H1):tE K B (wpE Z x E) X H Q:=
 ⟨Y,F,G,e0,he,r,aD x (λd G1 q H1 F1 v x1 r1 rv=>h d G1 H1 F1 v q (e0.trans x1) x1 (he.ext x1) r1 rv) hw⟩
theorem dm{K:PF}{x:Exs}{X:L2.St}{H:Hp}{F:FZ}{G:DH}{Y:ak}{W:List D->DH->Prop}{Q:List V->Hp->Prop}(e0:Ext B.H B.F H F)(he:EnvR K H F Y X)(r:R K H F G)(hw:aR Z x E Y G W)
  (h:∀d G1 H1 F1 v,W d G1->Ext B.H B.F H1 F1->Ext H F H1 F1->EnvR K H1 F1 Y X->R K H1 F1 G1->Reps K H1 F1 d v->Q v H1):tL K B (aR Z x E) X H Q:=
 ⟨Y,F,G,e0,he,r,cQ x (λd G1 q H1 F1 v x1 r1 rv=>h d G1 H1 F1 v q (e0.trans x1) x1 (he.ext x1) r1 rv) hw⟩
theorem jA{K:PF}{x:Tx}{X:L2.St}{H:Hp}{F:FZ}{G:DH}{Y:ak}{W:Bool->DH->Prop}{Q:Bool->Hp->Prop}(e0:Ext B.H B.F H F)(he:EnvR K H F Y X)(r:R K H F G)(hw:wpT Z x E Y G W)
  (h:∀d G1 H1 F1,W d G1->Ext B.H B.F H1 F1->Ext H F H1 F1->EnvR K H1 F1 Y X->R K H1 F1 G1->Q d H1):tB' K B (wpT Z x E) X H Q:=
 ⟨Y,F,G,e0,he,r,dh x (λd G1 q H1 F1 x1 r1=>h d G1 H1 F1 q (e0.trans x1) x1 (he.ext x1) r1) hw⟩
theorem Jd{K:PF}{x:Ox}{X:L2.St}{H:Hp}{F:FZ}{G:DH}{Y:ak}{W:Option Int->DH->Prop}{Q:Option Int->Hp->Prop}(e0:Ext B.H B.F H F)(he:EnvR K H F Y X)(r:R K H F G)(hw:wpO Z x E Y G W)
  (h:∀d G1 H1 F1,W d G1->Ext B.H B.F H1 F1->Ext H F H1 F1->EnvR K H1 F1 Y X->R K H1 F1 G1->Q d H1):Jc K B (wpO Z x E) X H Q:=
 ⟨Y,F,G,e0,he,r,zj x (λd G1 q H1 F1 x1 r1=>h d G1 H1 F1 q (e0.trans x1) x1 (he.ext x1) r1) hw⟩
theorem PV.later{K:PF}{H H1:Hp}{F F1:FZ}{Q:VK}{d:D}{G:DH}(h:PV K H F Q d G)(x:Ext H F H1 F1):PV K H1 F1 Q d G:=λH' F' v x1=>h H' F' v (x.trans x1)
theorem PB.later{K:PF}{H H1:Hp}{F F1:FZ}{Q:Bool->Hp->Prop}{d:Bool}{G:DH}(h:PB K H F Q d G)(x:Ext H F H1 F1):PB K H1 F1 Q d G:=λH' F' x1=>h H' F' (x.trans x1)
theorem PB.now{K:PF}{H:Hp}{F:FZ}{Q:Bool->Hp->Prop}{d:Bool}{G:DH}(h:PB K H F Q d G)(r:R K H F G):Q d H:=h H F (Ext.refl H F) r
theorem kh(S:Stat Z CX k c E B X):X.A.units+100 < cLine:=by have:=S.room.un;omega
theorem cT {x:Str} (h:okN x=true):(x==("__debug__":Str))=false:=by
 unfold okN at h;cases e:x==("__debug__":Str) with
 |false=>rfl
 |true=>rw[e]at h;simp at h
theorem acX {x:Str} (h:okN x=true):(x==("__classdict__":Str))=false:=by
 unfold okN at h;cases e:x==("__classdict__":Str) with
 |false=>rfl
 |true=>rw[e]at h;simp at h
theorem d9 {x:Str} (h:okN x=true):x≠"__name__":=by unfold okN at h;intro e;rw[a9.mpr e]at h;simp at h
theorem dN{x:Str}(h:c.glo x=true):c.kd.lookup x=some .globalImplicit/\okN x=true:=by unfold CT.glo at h;rw[ae,a9]at h;exact h
theorem acY(S:Stat Z CX k c E B X){i:Nat}{e:Expr}(h:aa c (.var i) e=true):PE X e (tE X.K B (wpE Z (.var i) E)):=by
 replace h:=HQ h;obtain ⟨x,pos,rfl,h⟩:=h
 ·rw[ae,ae,a9]at h;refine peI (Dv (i:=i) (by rw[S.N];exact h.1.1) (S.vis x h.1.2) (cT h.2) (acX h.2)) λW H Q q=>?_;obtain ⟨Y,F,G,_,he,r,hw⟩:=q;rw[ud]at hw;split at hw
  ·rename_i d hd;obtain ⟨v,e1,rv⟩:=he.get hd;exact ⟨v,e1,hw.now r rv⟩
  ·exact hw.elim
theorem acZ(S:Stat Z CX k c E B X){d:D}{e:Expr}(h:aa c (.cst d) e=true):PE X e (tE X.K B (wpE Z (.cst d) E)):=by
 replace h:=HR h;obtain ⟨kk,_,_,rfl,h⟩:=h
 ·unfold vo at h;split at h
  ·exact peI Xf λW H Q hq=>el hq λY F G _ he r hw=>by rw[jr]at hw;exact hw.now r rfl
  ·rw[a9]at h;subst h;exact peI Xe λW H Q hq=>el hq λY F G _ he r hw=>by rw[jr]at hw;exact hw.now r rfl
  ·rw[a9]at h;subst h;exact peI Xd λW H Q hq=>el hq λY F G _ he r hw=>by rw[jr]at hw;exact hw.now r rfl
  ·rename_i l b;rw[ae,a9,b6]at h;refine peI Dw λW H Q hq=>el hq λY F G _ he r hw=>?_;rw[jr]at hw;refine hw.now r ⟨?_,h.2⟩;rw[h.1,<-xW]
  ·cases h
theorem ac0(S:Stat Z CX k c E B X){x:String}{d:D}{e:Expr}(h:aa c (.glb x d) e=true):PE X e (tE X.K B (wpE Z (.glb x d) E)):=by
 replace h:=HS h;obtain ⟨y,pos,rfl,h⟩:=h
 ·rw[ae,ae,a9,List.any_eq_true]at h;obtain ⟨⟨e1,h1⟩,⟨x',d'⟩,hm,h2⟩:=h;rw[ae,a9]at h2;obtain ⟨e2,e3⟩:=h2;have e3:=acx e3;simp only at e2 e3;subst e1 e2 e3;obtain ⟨g1,g2⟩:=dN h1;obtain ⟨u,v,hu,ru,hr⟩:=S.con _ _ hm;exact peI (Xg (S.glo _ g1) hu ru (cT g2)) λW H Q hq=>el hq λY F G _ he r hw=>by rw[ue]at hw;exact hw.now r (hr H F)
theorem ac1(S:Stat Z CX k c E B X){op:Operator}{fz:Bool}{a b:Ex}(iha:∀{e},aa c a e=true->PE X e (tE X.K B (wpE Z a E)))(ihb:∀{e},aa c b e=true->PE X e (tE X.K B (wpE Z b E))){e:Expr}
  (h:aa c (.bin op fz a b) e=true):PE X e (tE X.K B (wpE Z (.bin op fz a b) E)):=by
 replace h:=HW h;obtain ⟨l,o,r,pos,rfl,h⟩:=h
 ·rw[ae,ae,a9]at h;obtain ⟨⟨e1,h1⟩,h2⟩:=h;subst e1;refine peI (Yz (abu _ fz) (iha h1) (ihb h2)) λW H Q hq=>el hq λY F G e0 he r hw=>?_;rw[uf]at hw;refine aN e0 he r hw λx G1 H1 F1 v q e1 x1 he1 r1 rv=>aN e1 he1 r1 q λy G2 H2 F2 u q e2 x2 he2 r2 ru=>?_;exact ⟨F2,G2,x,y,r2,Rep.ext x2 rv,ru,GC (λd G' z=>PV.later z (x1.trans x2)) q⟩
theorem ac2(S:Stat Z CX k c E B X){a:Ex}(iha:∀{e},aa c a e=true->PE X e (tE X.K B (wpE Z a E))){e:Expr}(h:aa c (.neg a) e=true):PE X e (tE X.K B (wpE Z (.neg a) E)):=by
 replace h:=HX h;obtain ⟨_,_,rfl,h⟩:=h
 ·refine peI (YB YL (iha h)) λW H Q hq=>el hq λY F G e0 he r hw=>?_;rw[ug]at hw;refine aN e0 he r hw λx G1 H1 F1 v q e1 x1 he1 r1 rv=>?_;split at q
  ·have e2:v=.int _:=rv;subst e2;exact ⟨_,rfl,q _ _ _ x1 r1 rfl⟩
  ·exact q.elim
theorem Jf(S:Stat Z CX k c E B X){op:CmpOp}{a b:Ex}(iha:∀{e},aa c a e=true->PE X e (tE X.K B (wpE Z a E)))(ihb:∀{e},aa c b e=true->PE X e (tE X.K B (wpE Z b E))){e:Expr}
  (h:aa c (.cmp op a b) e=true):PE X e (tE X.K B (wpE Z (.cmp op a b) E))/\PT X e (tB' X.K B (wpT Z (.val (.cmp op a b)) E)):=by
 replace h:=H9 h;obtain ⟨l,o,r,pos,rfl,h⟩:=h
 ·rw[ae,ae,a9]at h;obtain ⟨⟨e1,h1⟩,h2⟩:=h;subst e1;have hm:=Ja (cj b h2) o;refine ⟨peI (YS (j8 _ (kh S)) (iha h1) (ihb h2) hm) λW H Q hq=>el hq λY F G e0 he r hw=>?_,ptI (YT (j8 _ (kh S)) (iha h1) (ihb h2) hm) λW H Q hq=>el hq λY F G e0 he r hw=>?_⟩
  ·rw[lN]at hw;refine aN e0 he r hw λx G1 H1 F1 v q e1 x1 he1 r1 rv=>aN e1 he1 r1 q λy G2 H2 F2 u q e2 x2 he2 r2 ru=>?_;exact ⟨F2,G2,x,y,r2,Rep.ext x2 rv,ru,jt (λd z=>PV.later z (x1.trans x2)) q⟩
  ·rw[j0,lN]at hw;refine aN e0 he r hw λx G1 H1 F1 v q e1 x1 he1 r1 rv=>aN e1 he1 r1 q λy G2 H2 F2 u q e2 x2 he2 r2 ru=>?_;refine ⟨F2,G2,x,y,r2,Rep.ext x2 rv,ru,jt (λd z=>?_) q⟩;intro H' F' v' x' r' rv';have e3:v'=.bl d:=rv';exact ⟨d,e3,z H' F' ((x1.trans x2).trans x') r'⟩
theorem Jg(S:Stat Z CX k c E B X){op op':CmpOp}{a b d:Ex}(iha:∀{e},aa c a e=true->PE X e (tE X.K B (wpE Z a E)))(ihb:∀{e},aa c b e=true->PE X e (tE X.K B (wpE Z b E)))(ihd:∀{e},aa c d e=true->PE X e (tE X.K B (wpE Z d E))){e:Expr}
  (h:aa c (.chn op op' a b d) e=true):PE X e (tE X.K B (wpE Z (.chn op op' a b d) E))/\PT X e (tB' X.K B (wpT Z (.val (.chn op op' a b d)) E)):=by
 replace h:=Ia h;obtain ⟨l,o,o',m,r,pos,rfl,h⟩:=h
 ·simp only[ae,a9]at h;obtain ⟨⟨⟨⟨e1,e2⟩,h1⟩,h2⟩,h3⟩:=h;subst e1 e2;have hm:lastMarks [o,o'] [m,r]=false:=Ja (cj d h3) o';have go:∀{V H Q Y F G}{W:Bool->DH->Prop},Ext B.H B.F H F->EnvR X.K H F Y V->R X.K H F G->
    wpE Z a E Y G (λx G1=>wpE Z b E Y G1 λy G2=>bC o (view G2 x) (view G2 y) λt=>match t with |true=>wpE Z d E Y G2 λz G3=>bC o' (view G3 y) (view G3 z) λt'=>W t' G3 |false=>W false G2)->
    (∀t G' H' F',W t G'->Ext H F H' F'->R X.K H' F' G'->Q (.bl t) H')->
    xP (rC2 X.K (bC o)) (rC2 X.K (bC o')) (tE X.K B (wpE Z a E)) (tE X.K B (wpE Z b E)) (tE X.K B (wpE Z d E)) V H Q:=by
   intro V H Q Y F G W e0 he r hw fin;refine aN e0 he r hw λx G1 H1 F1 v q e1 x1 he1 r1 rv=>aN e1 he1 r1 q λy G2 H2 F2 u q e2 x2 he2 r2 ru=>?_;refine ⟨F2,G2,x,y,r2,Rep.ext x2 rv,ru,jt (λt q=>?_) q⟩;intro H3 F3 v3 x3 r3 rv3;have e3:v3=.bl t:=rv3;refine ⟨t,e3,?_⟩;cases t with
   |true=>
    rw[if_pos rfl];refine aN (e2.trans x3) (he2.ext x3) r3 q λz G4 H4 F4 v4 q e4 x4 he4 r4 rv4=>?_;refine ⟨F4,G4,y,z,r4,Rep.ext (x3.trans x4) ru,rv4,jt (λt' q=>?_) q⟩;intro H5 F5 v5 x5 r5 rv5;have e5:v5=.bl t':=rv5;subst e5;exact fin _ _ _ _ q ((((x1.trans x2).trans x3).trans x4).trans x5) r5
   |false=>
    rw[if_neg a7];exact fin _ _ _ _ q ((x1.trans x2).trans x3) r3
  refine ⟨peI (YW (j8 _ (kh S)) (j8 _ (kh S)) (iha h1) (ihb h2) (ihd h3) hm) λV H Q hq=>el hq λY F G e0 he r hw=>?_,ptI (YX (j8 _ (kh S)) (j8 _ (kh S)) (iha h1) (ihb h2) (ihd h3) hm) λV H Q hq=>el hq λY F G e0 he r hw=>?_⟩
  ·rw[lO]at hw;exact go (W:=λt G'=>PV X.K H F Q (.bl t) G') e0 he r hw λt G' H' F' z x' r'=>z H' F' _ x' r' rfl
  ·rw[j0,lO]at hw;refine go (W:=λt G'=>PB X.K H F Q t G') e0 he r hw λt G' H' F' z x' r'=>⟨t,rfl,z H' F' x' r'⟩
end
section
variable {Z:aj} {CX:CXT} {k:Nat} {c:CT} {E:EK} {B:Bs} {X:Cx}
abbrev OkE(Z:aj)(c:CT)(E:EK)(B:Bs)(X:Cx)(x:Ex):Prop:=∀{e:Expr},aa c x e=true->PE X e (tE X.K B (wpE Z x E))
abbrev gj(Z:aj)(c:CT)(E:EK)(B:Bs)(X:Cx)(x:Exs):Prop:=∀{es:List Expr},aO c x es=true->PA X es (tL X.K B (aR Z x E))
abbrev OkT(Z:aj)(c:CT)(E:EK)(B:Bs)(X:Cx)(x:Tx):Prop:=∀{e:Expr},bN c x e=true->PT X e (tB' X.K B (wpT Z x E))
theorem ac3(S:Stat Z CX k c E B X){a:Ex}(iha:OkE Z c E B X a){e:Expr}(h:aa c (.not a) e=true):PE X e (tE X.K B (wpE Z (.not a) E)):=by
 replace h:=HY h;obtain ⟨_,_,rfl,h⟩:=h
 ·intro pins s W H Q I q;obtain ⟨Y,F,G,e0,he,r,hw⟩:=q;rw[uh]at hw;have q':tE X.K B (wpE Z a E) W H (λx H1=>∃b,sH X.K x H1 b/\Q (.bl (!b)) H1):=aN e0 he r hw λx G1 H1 F1 v q e1 x1 he1 r1 rv=>by
   split at q
   ·rename_i b hb;exact ⟨b,Hf r1 rv hb,q _ _ _ x1 r1 rfl⟩
   ·exact q.elim
  refine UnaryOp_ (thn (iha h pins s W H _ I q') λv s1 ⟨x,H1,I1,r1,b,tb,q1⟩=>?_);refine not_of (thn (DY pins s1 W H1 x v (λb' H'=>Q (.bl (!b')) H') I1 r1 ⟨b,tb,q1⟩) λb' s2 ⟨H2,I2,q2⟩=>?_);exact ⟨.bl (!b'),H2,I2,rfl,q2⟩
theorem zQ{es:List Expr}(h:aO c .nil es=true):PA X es (tL X.K B (aR Z .nil E)):=by
 unfold aO at h;cases es with
 |nil=>exact paI jk λW H Q hq=>el hq λY F G e0 he r hw=>by rw[jq]at hw;exact hw H F [] (Ext.refl _ _) r rfl
 |cons _ _=>cases h
theorem vG{x:Ex}{xs:Exs}(ih:OkE Z c E B X x)(ihs:gj Z c E B X xs){es:List Expr}(h:aO c (.cons x xs) es=true):PA X es (tL X.K B (aR Z (.cons x xs) E)):=by
 unfold aO at h;split at h
 ·rename_i e es;rw[ae]at h;refine paI (gK (ih h.1) (ihs h.2) (cN e es X.env (di (cj x h.1)))) λW H Q hq=>el hq λY F G e0 he r hw=>?_;rw[iG]at hw;refine aN e0 he r hw λd G1 H1 F1 v q e1 x1 he1 r1 rv=>dm e1 he1 r1 q λds G2 H2 F2 vs q e2 x2 he2 r2 rvs=>?_;exact q H2 F2 _ (x1.trans x2) r2 ⟨v,vs,rfl,Rep.ext x2 rv,rvs⟩
 ·cases h
theorem ac4(S:Stat Z CX k c E B X){es:Exs}(ih:gj Z c E B X es){e:Expr}(h:aa c (.tup es) e=true):PE X e (tE X.K B (wpE Z (.tup es) E)):=by
 replace h:=Ig h;obtain ⟨_,_,_,rfl,h⟩:=h
 ·refine peI (Ze (ih h)) λW H Q hq=>el hq λY F G e0 he r hw=>?_;rw[uq]at hw;refine dm e0 he r hw λds G1 H1 F1 vs q e1 x1 he1 r1 rvs=>⟨by rw[<-rvs.length];exact cX q.1,j6 (PV.later q.2 x1) r1 rvs⟩
theorem ac5(S:Stat Z CX k c E B X){fz:Bool}{es:Exs}(ih:gj Z c E B X es){e:Expr}(h:aa c (.lst fz es) e=true):PE X e (tE X.K B (wpE Z (.lst fz es) E)):=by
 replace h:=Ih h;obtain ⟨_,_,rfl,h⟩:=h
 ·refine peI (Zf (ih h)) λW H Q hq=>el hq λY F G e0 he r hw=>?_;rw[ur]at hw;refine dm e0 he r hw λds G1 H1 F1 vs q e1 x1 he1 r1 rvs=>⟨by rw[<-rvs.length];exact cX q.1,fG (du (λd G' z=>PV.later z x1) q.2) r1 rvs⟩
theorem ac6(S:Stat Z CX k c E B X){a i:Ex}(iha:OkE Z c E B X a)(ihi:OkE Z c E B X i){e:Expr}(h:aa c (.idx a i) e=true):PE X e (tE X.K B (wpE Z (.idx a i) E)):=by
 replace h:=Ii h;obtain ⟨_,_,_,rfl,h⟩:=h
 ·rw[ae]at h;refine peI (ZC abB (iha h.1) (ihi h.2) (acV (cj i h.2))) λW H Q hq=>el hq λY F G e0 he r hw=>?_;rw[ut]at hw;refine aN e0 he r hw λx G1 H1 F1 v q e1 x1 he1 r1 rv=>aN e1 he1 r1 q λy G2 H2 F2 u q e2 x2 he2 r2 ru=>?_;exact ⟨F2,G2,x,y,r2,Rep.ext x2 rv,ru,lR (λd z=>PV.later z (x1.trans x2)) q⟩
theorem Jh{lo:Ox}(ih:∀x,lo=.ob x->OkE Z c E B X x){l:Option Expr}(h:gW c lo l=true):PO X l (Jc X.K B (wpO Z lo E)):=by
 cases lo with
 |no=>
  unfold gW at h;cases l with
  |none=>
   intro pins s W H Q I q;refine xQ pins s W H Q I ?_;obtain ⟨Y,F,G,e0,he,r,hw⟩:=q;rw[tW]at hw;exact hw H F (Ext.refl _ _) r
  |some _=>cases h
 |ob x=>
  unfold gW at h;split at h
  ·intro pins s W H Q I q;refine Zu (ih x rfl h) pins s W H Q I ?_;obtain ⟨Y,F,G,e0,he,r,hw⟩:=q;rw[tX]at hw;refine aN e0 he r hw λd G1 H1 F1 v q e1 x1 he1 r1 rv=>?_;split at q
   ·have e2:v=.int _:=rv;exact ⟨_,e2,q H1 F1 x1 r1⟩
   ·exact q.elim
  ·cases h
theorem ac7(S:Stat Z CX k c E B X){fz:Bool}{a:Ex}{lo hi:Ox}(iha:OkE Z c E B X a)(ihl:∀x,lo=.ob x->OkE Z c E B X x)(ihh:∀x,hi=.ob x->OkE Z c E B X x){e:Expr}(h:aa c (.slc fz a lo hi) e=true):
  PE X e (tE X.K B (wpE Z (.slc fz a lo hi) E)):=by
 replace h:=Ij h;obtain ⟨_,_,_,_,_,rfl,h⟩:=h
 ·rw[ae,ae]at h;refine peI (Zv (abH fz) (iha h.1.1) (Jh ihl h.1.2) (Jh ihh h.2)) λW H Q hq=>el hq λY F G e0 he r hw=>?_;rw[uw]at hw;refine aN e0 he r hw λx G1 H1 F1 v q e1 x1 he1 r1 rv=>Jd e1 he1 r1 q λl G2 H2 F2 q e2 x2 he2 r2=>Jd e2 he2 r2 q λu G3 H3 F3 q e3 x3 he3 r3=>?_;exact ⟨F3,G3,x,r3,Rep.ext (x2.trans x3) rv,GF (λd G' z=>PV.later z ((x1.trans x2).trans x3)) q⟩
theorem ac8(S:Stat Z CX k c E B X){fz:Bool}{a s:Ex}(iha:OkE Z c E B X a)(ihs:OkE Z c E B X s){e:Expr}(h:aa c (.rvs fz a s) e=true):PE X e (tE X.K B (wpE Z (.rvs fz a s) E)):=by
 replace h:=Ik h;obtain ⟨_,_,_,_,rfl,h⟩:=h;rw[ae]at h;refine peI (abg (iha h.1) (ihs h.2)) λW H Q hq=>el hq λY F G e0 he r hw=>?_;rw[uv]at hw;refine aN e0 he r hw λx G1 H1 F1 v q e1 x1 he1 r1 rv=>aN e1 he1 r1 q λy G2 H2 F2 u q e2 x2 he2 r2 ru=>?_;have q:=GJ (λd G' z=>PV.later z (x1.trans x2)) q;have rv2:=Rep.ext x2 rv;generalize ea:view G2 x=va at q;unfold iB at q;split at q
 ·obtain ⟨p,vs,e,sq,t⟩:=Rep.list r2 rv2 ea;have ey:=q.1;subst ey;exact ⟨ru,p,vs,e,.inl ⟨sq,fG q.2 r2 t.reverse⟩⟩
 ·obtain ⟨ey,q9⟩:=q;cases fY ea;subst ey;obtain ⟨p,vs,e,sq,t⟩:=rv2;exact ⟨ru,p,vs,e,.inr ⟨SqT.of sq.it,j6 q9 r2 t.reverse⟩⟩
 ·exact q.elim
theorem ac9(S:Stat Z CX k c E B X){a:Ex}(iha:OkE Z c E B X a){e:Expr}(h:aa c (.frz a) e=true):PE X e (tE X.K B (wpE Z (.frz a) E)):=by
 have h:aa c a e=true:=h;refine peI (iha h) λW H Q hq=>el hq λY F G e0 he r hw=>?_;rw[uB]at hw;refine aN e0 he r hw λx G1 H1 F1 v q e1 x1 he1 r1 rv=>?_;split at q
 ·rename_i p;have e2:v=.ref p:=rv;subst e2;split at q
  ·rename_i ds hg;exact q _ _ _ (x1.trans yo) (r1.frz hg) (abk r1 hg)
  ·exact q.elim
 ·exact q _ _ _ x1 r1 rv
theorem vH{es:List Expr}{xs:Exs}(h:aO c xs es=true)(env:Env)(pos:Pos):(backTo pos (starEach es env)).any (·.1)=false:=by
 induction es generalizing xs with
 |nil=>rfl
 |cons e es ih=>
  cases xs with
  |nil=>unfold aO at h;cases h
  |cons x xs=>
   unfold aO at h;rw[ae]at h;rw[cN e es env (di (cj x h.1))];show (false||(backTo pos (starEach es env)).any (·.1))=false;rw[ih h.2];rfl
theorem mD{e:Expr}{es:List Expr}{xs:Exs}(h:aO c xs (e::es)=true):∃x xs',xs=.cons x xs'/\aa c x e=true/\aO c xs' es=true:=by
 cases xs with
 |nil=>unfold aO at h;cases h
 |cons x xs'=>
  unfold aO at h;rw[ae]at h;exact ⟨x,xs',rfl,h.1,h.2⟩
theorem Ji{Y:ak}:∀(xs:Exs){es:List Expr}{G:DH}{Q:List D->DH->Prop},aO c xs es=true->aR Z xs E Y G Q->aR Z xs E Y G (λds G'=>ds.length=es.length/\Q ds G')
 |.nil,es,G,Q,h,q=>by
  unfold aO at h;rw[jq]at q ⊢;cases es with
  |nil=>exact ⟨rfl,q⟩
  |cons _ _=>cases h
 |.cons x xs,es,G,Q,h,q=>by
  unfold aO at h;split at h
  ·rename_i e es;rw[ae]at h;rw[iG]at q ⊢;refine aD x (λd G1 q=>cQ xs (λds G2 z=>?_) (Ji xs h.2 q)) q;exact ⟨by simp[z.1],z.2⟩
  ·cases h
theorem ada(S:Stat Z CX k c E B X){f:String}{xs:Exs}(ih:gj Z c E B X xs){e:Expr}(h:aa c (.call f xs) e=true):PE X e (tE X.K B (wpE Z (.call f xs) E)):=by
 replace h:=Il h;obtain ⟨x,p,args,pos,rfl,h⟩:=h
 ·simp only[ae,a9,List.any_eq_true]at h;obtain ⟨⟨⟨⟨e1,h1⟩,⟨f',n⟩,hm,e2,e3⟩,h2⟩,h3⟩:=h;simp only at e2 e3;subst e1 e2 e3;obtain ⟨g1,g2⟩:=dN h1;obtain ⟨fa,fd,ps,F0,hk,hb,hmg⟩:=S.call _ _ hm;obtain ⟨EX,hpass,_,hEX⟩:=S.exc;cases args with
  |nil=>cases h2
  |cons e es=>
   obtain ⟨x0,xs',rfl,c1,c2⟩:=mD h3;refine peI (Zi F0 S.room (S.glo _ g1) hmg hk hb .nil hpass (ih h3) (cT g2) (cN e es X.env (di (cj x0 c1))) (vH c2 X.env pos)) λW H Q hq=>el hq λY F G e0 he r hw=>?_;rw[ux]at hw;refine dm e0 he r (Ji _ h3 hw) λds G1 H1 F1 vs q e1 x1 he1 r1 rvs=>?_;rw[eg];refine ⟨by rw[<-rvs.length];exact q.1,F1,G1,ds,r1,rvs,Spec.mono q.2 (λd G' z=>PV.later z x1) λx G' z H' F' x' r'=>?_⟩;exact hEX x G' H' F' z (e1.trans x') r'
theorem adb(S:Stat Z CX k c E B X){f:Bf}{xs:Exs}(ih:gj Z c E B X xs){e:Expr}(h:aa c (.bcl f xs) e=true):PE X e (tE X.K B (wpE Z (.bcl f xs) E)):=by
 replace h:=Im h;obtain ⟨x,p,args,pos,rfl,h⟩:=h
 ·simp only[ae,a9]at h;obtain ⟨⟨⟨⟨⟨e1,hok⟩,h1⟩,hm⟩,h2⟩,h3⟩:=h;subst e1;obtain ⟨g1,g2⟩:=dN h1;have hmg:=S.blt _ (ca.mp hm);cases args with
  |nil=>cases h2
  |cons e es=>
   obtain ⟨x0,xs',rfl,c1,c2⟩:=mD h3;have hs:=cN e es X.env (di (cj x0 c1));have ha:=vH c2 X.env pos;have go:∀W H Q,tE X.K B (wpE Z (.bcl f (.cons x0 xs')) E) W H Q->tCB (iJ X.K f) (tL X.K B (aR Z (.cons x0 xs') E)) W H Q:=λW H Q hq=>el hq λY F G e0 he r hw=>by
    rw[uy]at hw;refine dm e0 he r hw λds G1 H1 F1 vs q e1 x1 he1 r1 rvs=>?_;exact ⟨F1,G1,ds,r1,rvs,GK (λd z=>PV.later z x1) q⟩
   cases f with
   |len=>exact peI (lG abI (S.glo _ g1) hmg PySem.boot_len (ih h3) (d9 g2) (cT g2) hs ha) go
   |all=>exact peI (lG (abJ S.calm) (S.glo _ g1) hmg aao (ih h3) (d9 g2) (cT g2) hs ha) go
   |int=>exact peI (sI abK (S.glo _ g1) hmg Fj (ih h3) (d9 g2) (cT g2) hs ha) go
   |tuple=>exact peI (sI abL (S.glo _ g1) hmg (by ac_rfl) (ih h3) (d9 g2) (cT g2) hs ha) go
   |sum=>exact peI (lG (abQ S.calm) (S.glo _ g1) hmg abR (ih h3) (d9 g2) (cT g2) hs ha) go
   |min=>exact peI (lG (abW S.calm) (S.glo _ g1) hmg abX (ih h3) (d9 g2) (cT g2) hs ha) go
   |max=>cases hok
   |abs=>cases hok
   |min2=>cases hok
   |str=>exact peI (sI abY (S.glo _ g1) hmg Fl (ih h3) (d9 g2) (cT g2) hs ha) go
theorem adc(S:Stat Z CX k c E B X){fz:Bool}{f:Lf}{xs:Exs}(ih:gj Z c E B X xs){e:Expr}(h:aa c (.lcl fz f xs) e=true):PE X e (tE X.K B (wpE Z (.lcl fz f xs) E)):=by
 replace h:=Io h;obtain ⟨x,p,args,pos,rfl,h⟩:=h
 ·simp only[ae,a9]at h;obtain ⟨⟨⟨⟨⟨e1,hok⟩,h1⟩,hm⟩,h2⟩,h3⟩:=h;subst e1;obtain ⟨g1,g2⟩:=dN h1;have hmg:=S.blt _ (ca.mp hm);cases args with
  |nil=>cases h2
  |cons e es=>
   obtain ⟨x0,xs',rfl,c1,c2⟩:=mD h3;have hs:=cN e es X.env (di (cj x0 c1));have ha:=vH c2 X.env pos;have go:∀W H Q,tE X.K B (wpE Z (.lcl fz f (.cons x0 xs')) E) W H Q->tCB (Hg X.K fz f) (tL X.K B (aR Z (.cons x0 xs') E)) W H Q:=λW H Q hq=>el hq λY F G e0 he r hw=>by
    rw[uz]at hw;refine dm e0 he r hw λds G1 H1 F1 vs q e1 x1 he1 r1 rvs=>?_;exact ⟨F1,G1,ds,r1,rvs,GP (λd z=>du (λd G' z=>PV.later z x1) z) q⟩
   cases f with
   |list=>exact peI (sI (abO S.calm fz) (S.glo _ g1) hmg Fp (ih h3) (d9 g2) (cT g2) hs ha) go
   |sorted=>cases hok
theorem ade(S:Stat Z CX k c E B X){fz:Bool}{a:Ex}(iha:OkE Z c E B X a){e:Expr}(h:aa c (.rgl fz a) e=true):PE X e (tE X.K B (wpE Z (.rgl fz a) E)):=nZf h
theorem adf(S:Stat Z CX k c E B X){a:Ex}(iha:OkE Z c E B X a){e:Expr}(h:aa c (.rgt a) e=true):PE X e (tE X.K B (wpE Z (.rgt a) E)):=nZf h
theorem adg{t:String}(h:gQ t=true):bootBuiltins (Str.ofString t)=some (.type t):=by
 simp only[gQ,dP,a9]at h;rcases h with (((rfl |rfl) |rfl) |rfl) |rfl
 ·exact aaf
 ·exact Fj
 ·exact Fl
 ·ac_rfl
 ·exact Fp
theorem adh(S:Stat Z CX k c E B X){a:Ex}{t:String}(iha:OkE Z c E B X a){e:Expr}(h:aa c (.isi a t) e=true):PE X e (tE X.K B (wpE Z (.isi a t) E)):=by
 replace h:=Ip h;obtain ⟨x,p,v,y,p2,pos,rfl,h⟩:=h
 ·simp only[ae,a9]at h;obtain ⟨⟨⟨⟨⟨⟨⟨e1,h1⟩,hm1⟩,h2⟩,e2⟩,h3⟩,hm2⟩,h4⟩:=h;subst e1 e2;obtain ⟨g1,g2⟩:=dN h1;obtain ⟨g3,g4⟩:=dN h3;have hmg:=S.blt _ (ca.mp hm1);have hmt:=S.blt _ (ca.mp hm2);have hty:PE X (.Name (Str.ofString t) p2) (tC (.ty t)):=aah (S.glo _ g3) hmt (adg h4) (d9 g4) (cT g4);have sv:=di (cj a h2);refine peI (lG aae (S.glo _ g1) hmg aag (gK (iha h2) (gK hty jk (cN _ _ _ rfl)) (cN _ _ _ sv)) (d9 g2) (cT g2) (cN _ _ _ sv) rfl) λW H Q hq=>el hq λY F G e0 he r hw=>?_;rw[uA]at hw;refine aN e0 he r hw λd G1 H1 F1 v q e1 x1 he1 r1 rv=>?_;split at q
  ·rename_i b hb;obtain ⟨T,hk,hT,hb'⟩:=ab2 hb;refine ⟨v,t,.type T,b,rfl,abZ r1 rv hk,?_,q _ _ _ x1 r1 rfl⟩;rw[ab1 T t hT h4,hb' h4]
  ·exact q.elim
theorem adi(S:Stat Z CX k c E B X){a:Ex}{C:String}{xs:List String}(iha:OkE Z c E B X a){e:Expr}(h:aa c (.isx a C xs) e=true):PE X e (tE X.K B (wpE Z (.isx a C xs) E)):=nZf h
theorem adk{v:Expr}(h:(!vp v)=true)(name:Str)(env:Env):attributeBase v name env (eval v env)=eval v env:=by
 cases v with
 |Call f args kw pos=>
  cases f with
  |Name id p=>
   cases args with
   |nil=>
    cases kw with
    |nil=>cases h
    |cons _ _=>rfl
   |cons _ _=>rfl
  |_=>rfl
 |_=>rfl
theorem all_plain{es:List Expr}{xs:Exs}(h:aO c xs es=true)(env:Env)(pos:Pos):(backTo pos (starEach es env)).all (λx=>!x.1)=true:=by
 induction es generalizing xs with
 |nil=>rfl
 |cons e es ih=>
  obtain ⟨x0,xs',rfl,c1,c2⟩:=mD h;rw[cN e es env (di (cj x0 c1))];show (!false&&(backTo pos (starEach es env)).all (λx=>!x.1))=true;rw[ih c2];rfl
theorem adl(S:Stat Z CX k c E B X){f:String}{a b ix:Ex}(iha:OkE Z c E B X a)(ihb:OkE Z c E B X b)(ihx:OkE Z c E B X ix){e:Expr}(h:aa c (.rpl f a b ix) e=true):PE X e (tE X.K B (wpE Z (.rpl f a b ix) E)):=nZf h
theorem adm(S:Stat Z CX k c E B X){C f:String}{o:Ex}(iho:OkE Z c E B X o){e:Expr}(h:aa c (.fld C f o) e=true):PE X e (tE X.K B (wpE Z (.fld C f o) E)):=nZf h
theorem adn(S:Stat Z CX k c E B X){f C m:String}{o:Ex}{xs:Exs}(iho:OkE Z c E B X o)(ih:gj Z c E B X xs){e:Expr}(h:aa c (.mcl f C m o xs) e=true):PE X e (tE X.K B (wpE Z (.mcl f C m o xs) E)):=nZf h
theorem ado(S:Stat Z CX k c E B X){C:String}{xs:Exs}(ih:gj Z c E B X xs){e:Expr}(h:aa c (.mko C xs) e=true):PE X e (tE X.K B (wpE Z (.mko C xs) E)):=nZf h
theorem adp(S:Stat Z CX k c E B X){o:Ex}(iho:OkE Z c E B X o){e:Expr}(h:aa c (.pp0 o) e=true):PE X e (tE X.K B (wpE Z (.pp0 o) E)):=nZf h
theorem adq(S:Stat Z CX k c E B X){m:Mf}{o:Ex}{xs:Exs}(iho:OkE Z c E B X o)(ih:gj Z c E B X xs){e:Expr}(h:aa c (.mth m o xs) e=true):PE X e (tE X.K B (wpE Z (.mth m o xs) E)):=by
 replace h:=Ir h;obtain ⟨v,x,apos,args,cpos,rfl,h⟩:=h
 ·simp only[ae,a9,b6]at h;obtain ⟨⟨⟨⟨⟨⟨e1,h1⟩,hb⟩,hl⟩,hn⟩,h2⟩,h3⟩:=h;subst e1;cases args with
  |nil=>cases h2
  |cons e es=>
   obtain ⟨x0,xs',rfl,c1,c2⟩:=mD h3;have hs:=cN e es X.env (di (cj x0 c1));have ha:=vH c2 X.env cpos;have hbase:=adk hb (Str.ofString m.name) X.env;have hfew:((backTo cpos (starEach (e::es) X.env)).all (λx=>!x.1)&&(backToKw cpos (keywordEach [] X.env)).all (λx=>x.1.isSome)
    &&decide ((e::es).length+([]:List Keyword).length+(if ([]:List Keyword).isEmpty then 0 else 1) < 30))=true:=by
    rw[all_plain h3 X.env cpos];have:(e::es).length+([]:List Keyword).length+(if ([]:List Keyword).isEmpty then 0 else 1) < 30:=by have e0:(if ([]:List Keyword).isEmpty=true then 0 else 1)=0:=rfl;rw[e0];show (e::es).length+0+0 < 30;omega
    rw[cb this];rfl
   have hline:(apos.endLine==cpos.line)=true:=by rw[a9];exact hl
   have lst:∀{d:D} {u:V} {G1:DH} {H1:Hp} {F1:FZ},(match d with |.ref p=>(match G1 p with |some (.lst _)=>True |none=>False) |_=>False)->R X.K H1 F1 G1->Rep X.K H1 F1 d u->tyV X.K "list" u H1:=λ{d u G1 H1 F1} q r1 ru=>by
    split at q
    ·rename_i p;split at q
     ·rename_i ds hg;obtain ⟨vs,hv,_⟩:=r1.lst hg;have e2:u=.ref p:=ru;subst e2;exact .inl ⟨rfl,vs,SqL.of hv⟩
     ·exact q.elim
    ·exact q.elim
   have lstV:∀{d:D} {u:V} {G1:DH} {H1:Hp} {F1:FZ},yw (view G1 d)->R X.K H1 F1 G1->Rep X.K H1 F1 d u->tyV X.K "list" u H1:=λ{d u G1 H1 F1} q r1 ru=>by
    generalize hv:view G1 d=w at q;cases w with
    |lst ds=>
     obtain ⟨a,vs,rfl,sq,_⟩:=Rep.list r1 ru hv;exact .inl ⟨rfl,vs,sq⟩
    |_=>exact (show False from q).elim
   cases m with
   |join=>
    refine peI (jl PySem.F.plainAttrs_str PySem.F.slot_str_join PySem.F.type_str_join ab3 (iho h1) (ih h3) hbase hfew hline hs ha) λW H Q hq=>el hq λY F G e0 he r hw=>?_;rw[gb]at hw;refine aN e0 he r hw λd G1 H1 F1 u q e1 x1 he1 r1 ru=>⟨?_,dm e1 he1 r1 q.2 λds G2 H2 F2 vs q e2 x2 he2 r2 rvs=>?_⟩
    ·have q1:=q.1;cases d with
     |str l=>obtain ⟨e2,_⟩:=ru;subst e2;exact rfl
     |_=>exact (show False from q1).elim
    ·exact ⟨F2,G2,d,ds,r2,Rep.ext x2 ru,rvs,iI (λd G' z=>PV.later z (x1.trans x2)) q⟩
   |append=>
    refine peI (jl fb PySem.F.slot_list_append PySem.F.type_list_append ab4 (iho h1) (ih h3) hbase hfew hline hs ha) λW H Q hq=>el hq λY F G e0 he r hw=>?_;rw[gb]at hw;refine aN e0 he r hw λd G1 H1 F1 u q e1 x1 he1 r1 ru=>⟨?_,dm e1 he1 r1 q.2 λds G2 H2 F2 vs q e2 x2 he2 r2 rvs=>?_⟩
    ·refine lst (d:=d) (G1:=G1) ?_ r1 ru;have q1:=q.1;cases d <;> first |exact q1 |exact (show False from q1).elim
    ·exact ⟨F2,G2,d,ds,r2,Rep.ext x2 ru,rvs,iI (λd G' z=>PV.later z (x1.trans x2)) q⟩
   |extend=>
    refine peI (jl fb PySem.F.slot_list_extend PySem.F.type_list_extend acf (iho h1) (ih h3) hbase hfew hline hs ha) λW H Q hq=>el hq λY F G e0 he r hw=>?_;rw[gb]at hw;refine aN e0 he r hw λd G1 H1 F1 u q e1 x1 he1 r1 ru=>⟨?_,dm e1 he1 r1 q.2 λds G2 H2 F2 vs q e2 x2 he2 r2 rvs=>?_⟩
    ·refine lst (d:=d) (G1:=G1) ?_ r1 ru;have q1:=q.1;cases d <;> first |exact q1 |exact (show False from q1).elim
    ·exact ⟨F2,G2,d,ds,r2,Rep.ext x2 ru,rvs,iI (λd G' z=>PV.later z (x1.trans x2)) q⟩
   |insert=>
    refine peI (jl fb PySem.F.slot_list_insert PySem.F.type_list_insert acb (iho h1) (ih h3) hbase hfew hline hs ha) λW H Q hq=>el hq λY F G e0 he r hw=>?_;rw[gb]at hw;refine aN e0 he r hw λd G1 H1 F1 u q e1 x1 he1 r1 ru=>⟨?_,dm e1 he1 r1 q.2 λds G2 H2 F2 vs q e2 x2 he2 r2 rvs=>?_⟩
    ·refine lst (d:=d) (G1:=G1) ?_ r1 ru;have q1:=q.1;cases d <;> first |exact q1 |exact (show False from q1).elim
    ·exact ⟨F2,G2,d,ds,r2,Rep.ext x2 ru,rvs,iI (λd G' z=>PV.later z (x1.trans x2)) q⟩
   |pop=>
    refine peI (jl fb PySem.F.slot_list_pop PySem.F.type_list_pop acd (iho h1) (ih h3) hbase hfew hline hs ha) λW H Q hq=>el hq λY F G e0 he r hw=>?_;rw[gb]at hw;refine aN e0 he r hw λd G1 H1 F1 u q e1 x1 he1 r1 ru=>⟨?_,dm e1 he1 r1 q.2 λds G2 H2 F2 vs q e2 x2 he2 r2 rvs=>?_⟩
    ·refine lst (d:=d) (G1:=G1) ?_ r1 ru;have q1:=q.1;cases d <;> first |exact q1 |exact (show False from q1).elim
    ·exact ⟨F2,G2,d,ds,r2,Rep.ext x2 ru,rvs,iI (λd G' z=>PV.later z (x1.trans x2)) q⟩
   |count=>
    refine peI (jl fb PySem.F.slot_list_count PySem.F.type_list_count ab5 (iho h1) (ih h3) hbase hfew hline hs ha) λW H Q hq=>el hq λY F G e0 he r hw=>?_;rw[gb]at hw;refine aN e0 he r hw λd G1 H1 F1 u q e1 x1 he1 r1 ru=>⟨lstV q.1 r1 ru,dm e1 he1 r1 q.2 λds G2 H2 F2 vs q e2 x2 he2 r2 rvs=>?_⟩;exact ⟨F2,G2,d,ds,r2,Rep.ext x2 ru,rvs,iI (λd G' z=>PV.later z (x1.trans x2)) q⟩
   |index=>
    refine peI (jl fb PySem.F.slot_list_index PySem.F.type_list_index ab6 (iho h1) (ih h3) hbase hfew hline hs ha) λW H Q hq=>el hq λY F G e0 he r hw=>?_;rw[gb]at hw;refine aN e0 he r hw λd G1 H1 F1 u q e1 x1 he1 r1 ru=>⟨lstV q.1 r1 ru,dm e1 he1 r1 q.2 λds G2 H2 F2 vs q e2 x2 he2 r2 rvs=>?_⟩;exact ⟨F2,G2,d,ds,r2,Rep.ext x2 ru,rvs,iI (λd G' z=>PV.later z (x1.trans x2)) q⟩
end
section
variable {Z:aj} {CX:CXT} {k:Nat} {c:CT} {E:EK} {B:Bs} {X:Cx}
def EachE(Z:aj)(c:CT)(E:EK)(B:Bs)(X:Cx):Exs->Prop
 |.nil=>True
 |.cons e es=>OkE Z c E B X e/\EachE Z c E B X es
def vI(Z:aj)(c:CT)(E:EK)(B:Bs)(X:Cx):Txs->Prop
 |.nil=>True
 |.cons e es=>OkT Z c E B X e/\vI Z c E B X es
theorem adt(S:Stat Z CX k c E B X){es:Exs}(ih:EachE Z c E B X es){e:Expr}(h:aa c (.fst es) e=true):PE X e (tE X.K B (wpE Z (.fst es) E)):=nZf h
theorem EachE.oks:∀{xs:Exs},EachE Z c E B X xs->gj Z c E B X xs
 |.nil,_=>λh=>zQ h
 |.cons x xs,hh=>λh=>vG hh.1 (EachE.oks hh.2) h
def vJ(Z:aj)(E:EK)(isAnd:Bool)(x:Ex)(xs:Exs):ak->DH->(D->DH->Prop)->Prop:=λY G kk=>wpE Z x E Y G λd G1=>match d with |.bl b=>wpB Z xs isAnd b E Y G1 (λc G2=>kk (.bl c) G2) |_=>False
theorem Jj{isAnd:Bool}{pos:Pos}:∀(xs:Exs){x:Ex},OkE Z c E B X x->EachE Z c E B X xs->∀{v:Expr}{vs:List Expr},aa c x v=true->aO c xs vs=true->
  PE X (.BoolOp (if isAnd then .And else .Or) (v::vs) pos) (tE X.K B (vJ Z E isAnd x xs))
 |.nil,x,ih,_,v,vs,h1,h2=>by
  unfold aO at h2;cases vs with
  |nil=>
   refine peI (Xu (ih h1)) λW H Q hq=>el hq λY F G e0 he r hw=>?_;unfold vJ at hw;refine aN e0 he r hw λd G1 H1 F1 u q e1 x1 he1 r1 ru=>?_;split at q
   ·rw[tU]at q;exact q _ _ _ x1 r1 ru
   ·exact q.elim
  |cons _ _=>cases h2
 |.cons y ys,x,ih,hh,v,vs,h1,h2=>by
  unfold aO at h2;split at h2
  ·rename_i w ws;rw[ae]at h2;have rest:=Jj (isAnd:=isAnd) (pos:=pos) ys hh.1 hh.2 h2.1 h2.2;cases isAnd with
   |true=>
    refine peI (Xv (ih h1) rest) λW H Q hq=>el hq λY F G e0 he r hw=>?_;unfold vJ at hw;refine aN e0 he r hw λd G1 H1 F1 u q e1 x1 he1 r1 ru=>?_;split at q
    ·rename_i b;refine ⟨b,ru,?_⟩;rw[lL]at q;cases b with
     |true=>
      rw[if_pos rfl];exact ⟨Y,F1,G1,e1,he1,r1,aD y (λd G' z=>by
       cases d <;> first |exact (show False from z).elim |exact uU ys (λc G2 z=>PV.later z x1) z) q⟩
     |false=>
      rw[if_neg a7];exact q _ _ _ x1 r1 rfl
    ·exact q.elim
   |false=>
    refine peI (Xw (ih h1) rest) λW H Q hq=>el hq λY F G e0 he r hw=>?_;unfold vJ at hw;refine aN e0 he r hw λd G1 H1 F1 u q e1 x1 he1 r1 ru=>?_;split at q
    ·rename_i b;refine ⟨b,ru,?_⟩;rw[lL]at q;cases b with
     |false=>
      rw[if_neg a7];exact ⟨Y,F1,G1,e1,he1,r1,aD y (λd G' z=>by
       cases d <;> first |exact (show False from z).elim |exact uU ys (λc G2 z=>PV.later z x1) z) q⟩
     |true=>
      rw[if_pos rfl];exact q _ _ _ x1 r1 rfl
    ·exact q.elim
  ·cases h2
theorem adu{isAnd:Bool}{x:Ex}{xs:Exs}(ih:OkE Z c E B X x)(hh:EachE Z c E B X xs){e:Expr}(h:aa c (.boo isAnd x xs) e=true):PE X e (tE X.K B (wpE Z (.boo isAnd x xs) E)):=by
 replace h:=Ib h;obtain ⟨_,_,_,_,rfl,h⟩:=h
 ·simp only[ae,a9]at h;obtain ⟨⟨e1,h1⟩,h2⟩:=h;subst e1;refine peI (Jj xs ih hh h1 h2) λW H Q hq=>el hq λY F G e0 he r hw=>⟨Y,F,G,e0,he,r,?_⟩;rw[um]at hw;exact hw
theorem adv{t:Tx}{a b:Ex}(iht:OkT Z c E B X t)(iha:OkE Z c E B X a)(ihb:OkE Z c E B X b){e:Expr}(h:aa c (.ife t a b) e=true):PE X e (tE X.K B (wpE Z (.ife t a b) E)):=by
 replace h:=Ie h;obtain ⟨_,_,_,_,rfl,h⟩:=h
 ·simp only[ae]at h;obtain ⟨⟨h1,h2⟩,h3⟩:=h;refine peI (Xx (iht h1) (iha h2) (ihb h3)) λW H Q hq=>el hq λY F G e0 he r hw=>?_;rw[uo]at hw;refine jA e0 he r hw λb' G1 H1 F1 q e1 x1 he1 r1=>?_;cases b' with
  |true=>
   rw[if_pos rfl];exact ⟨Y,F1,G1,e1,he1,r1,aD a (λd G' z=>PV.later z x1) q⟩
  |false=>
   rw[if_neg a7];exact ⟨Y,F1,G1,e1,he1,r1,aD b (λd G' z=>PV.later z x1) q⟩
theorem adw{x:Ex}(ih:OkE Z c E B X x){e:Expr}(hp:jy e=true)(h:aa c x e=true):PT X e (tB' X.K B (wpT Z (.val x) E)):=by
 refine ptI (Y0 (ih h) (acW hp X.env)) λW H Q hq=>el hq λY F G e0 he r hw=>?_;rw[j0]at hw;refine aN e0 he r hw λd G1 H1 F1 u q e1 x1 he1 r1 ru=>?_;split at q
 ·rename_i b hb;exact ⟨b,Hf r1 ru hb,q _ _ x1 r1⟩
 ·exact q.elim
theorem adx{t:Tx}(ih:OkT Z c E B X t){e:Expr}(h:bN c (.not t) e=true):PT X e (tB' X.K B (wpT Z (.not t) E)):=by
 replace h:=acF h;obtain ⟨_,_,rfl,h⟩:=h
 ·refine ptI (Xp (ih h)) λW H Q hq=>el hq λY F G e0 he r hw=>?_;rw[tM]at hw;exact jA e0 he r hw λb G1 H1 F1 q e1 x1 he1 r1=>q _ _ x1 r1
def mF(Z:aj)(E:EK)(isAnd:Bool)(x:Tx)(xs:Txs):ak->DH->(Bool->DH->Prop)->Prop:=λY G kk=>wpT Z x E Y G λb G1=>gR Z xs isAnd b E Y G1 kk
theorem Jl{isAnd:Bool}{pos:Pos}:∀(xs:Txs){x:Tx},OkT Z c E B X x->vI Z c E B X xs->∀{v:Expr}{vs:List Expr},bN c x v=true->jz c xs vs=true->
  PW X (.BoolOp (if isAnd then .And else .Or) (v::vs) pos) (tB' X.K B (mF Z E isAnd x xs))
 |.nil,x,ih,_,v,vs,h1,h2=>by
  unfold jz at h2;cases vs with
  |nil=>
   have go:∀W H Q,tB' X.K B (mF Z E isAnd x .nil) W H Q->tB' X.K B (wpT Z x E) W H Q:=λW H Q hq=>el hq λY F G e0 he r hw=>by
    unfold mF at hw;refine ⟨Y,F,G,e0,he,r,dh x (λb G1 q=>?_) hw⟩;rw[tV]at q;exact q
   cases isAnd with
   |true=>exact pwI (Xk (ih h1)) go
   |false=>exact pwI (Xl (ih h1)) go
  |cons _ _=>cases h2
 |.cons y ys,x,ih,hh,v,vs,h1,h2=>by
  unfold jz at h2;split at h2
  ·rename_i w ws;rw[ae]at h2;have rest:=Jl (isAnd:=isAnd) (pos:=pos) ys hh.1 hh.2 h2.1 h2.2;cases isAnd with
   |true=>
    refine pwI (Xm (ih h1) rest) λW H Q hq=>el hq λY F G e0 he r hw=>?_;unfold mF at hw;refine jA e0 he r hw λb G1 H1 F1 q e1 x1 he1 r1=>?_;rw[lM]at q;cases b with
    |true=>
     rw[if_pos rfl];exact ⟨Y,F1,G1,e1,he1,r1,dh y (λb' G' z=>uV ys (λc G2 z=>PB.later z x1) z) q⟩
    |false=>
     rw[if_neg a7];exact q _ _ x1 r1
   |false=>
    refine pwI (Xo (ih h1) rest) λW H Q hq=>el hq λY F G e0 he r hw=>?_;unfold mF at hw;refine jA e0 he r hw λb G1 H1 F1 q e1 x1 he1 r1=>?_;rw[lM]at q;cases b with
    |false=>
     rw[if_neg a7];exact ⟨Y,F1,G1,e1,he1,r1,dh y (λb' G' z=>uV ys (λc G2 z=>PB.later z x1) z) q⟩
    |true=>
     rw[if_pos rfl];exact q _ _ x1 r1
  ·cases h2
theorem ady{isAnd:Bool}{x:Tx}{xs:Txs}(ih:OkT Z c E B X x)(hh:vI Z c E B X xs){e:Expr}(h:bN c (.boo isAnd x xs) e=true):PT X e (tB' X.K B (wpT Z (.boo isAnd x xs) E)):=by
 replace h:=acG h;obtain ⟨_,_,_,_,rfl,h⟩:=h
 ·simp only[ae,a9]at h;obtain ⟨⟨e1,h1⟩,h2⟩:=h;subst e1;refine ptI (PW.pt (Jl xs ih hh h1 h2)) λW H Q hq=>el hq λY F G e0 he r hw=>⟨Y,F,G,e0,he,r,?_⟩;rw[tQ]at hw;exact hw
def tG(K:PF)(B:Bs)(t:Tg):TG:=λv X H Q=>∃Y F G d,Ext B.H B.F H F/\EnvR K H F Y X/\R K H F G/\Rep K H F d v/\aY t d Y G (λρ'=>∀σ',EnvR K H F ρ' σ'->Q σ' H)
def tGs(K:PF)(B:Bs)(t:Tgs):TGs:=λvs X H Q=>∃Y F G ds,Ext B.H B.F H F/\EnvR K H F Y X/\R K H F G/\Reps K H F ds vs/\cg t ds Y G (λρ'=>∀σ',EnvR K H F ρ' σ'->Q σ' H)
theorem vK:∀{ts:Tgs}{es:List Expr}{env:Env},cR c ts es=true->(assignEach es env).length=es.length/\(assignEach es env).findIdx? (·.1)=none/\(assignEach es env).map (·.2)=es.map λe=>assign e env
 |.nil,[],env,_=>⟨rfl,rfl,rfl⟩
 |.nil,_::_,env,h=>by unfold cR at h;cases h
 |.cons t r,[],env,h=>by unfold cR at h;cases h
 |.cons t r,e::es,env,h=>by
  unfold cR at h;rw[ae]at h;obtain ⟨h1,h2,h3⟩:=vK (env:=env) h.2;have hs:assignEach (e::es) env=(false,assign e env)::assignEach es env:=by
   cases t with
   |nm i=>
    have h':=h.1;obtain ⟨_,_,rfl,_⟩:=zN h';rfl
   |tp ts=>
    have h':=h.1;obtain ⟨_,_,_,rfl,_⟩:=zO h';rfl
  rw[hs];refine ⟨by simp[h1],?_,by simp[h3]⟩;rw[gL];simp[h2]
section
variable {prog:Program} {w:World} {A:Around} {E:Value->Shared->Prop} {s:Shared}
theorem Jm{it t:Addr}{items:Array Value}(hne:t≠it):∀(n i:Nat)(s:Shared)(Q:List Value->Shared->Prop),s.heap.IsListIter it t i->s.heap.IsList t items->i+n<=items.size->
  (∀h',h'.IsListIter it t (i+n)->Heap.SameBut it s.heap h'->Q ((items.toList.drop i).take n) { s with heap:=h' })->wpAny (model prog w) A (draw (.ref it) n) Q E s
 |0,i,s,Q,hit,_,_,hQ=>by
  show wpAny _ _ (pure []) Q E s;exact bg (by simpa using hQ s.heap hit (Heap.SameBut.refl ..))
 |n+1,i,s,Q,hit,ht,hle,hQ=>by
  have hlt:i < items.size:=by omega
  show wpAny _ _ (pyNext (.ref it) >>= _) Q E s;refine al (wpAny_pyNext_list_item hit ht (x:=items[i]) (by simp[hlt]) λh₁ hit₁ hs₁=>?_);refine al (fe (Jm hne n (i+1) _ _ hit₁ (ht.extBut hs₁.extBut hne) (by omega) λh₂ hit₂ hs₂=>bg ?_));have hd:items.toList.drop i=items[i]::items.toList.drop (i+1):=by simp[bo,hlt]
  have:=hQ h₂ (by rw[show i+(n+1)=i+1+n by omega];exact hit₂) (hs₁.trans hs₂);rw[hd,List.take_succ_cons]at this;exact this
theorem adz{t:Addr}{items:Array Value}{Q:List Value->Shared->Prop}(hh:A.handled=none)(ht:s.heap.IsList t items)
  (hQ:∀h',Heap.ExtBut (~~~s) s.heap h'->Q items.toList { s with heap:=h' }):wpAny (model prog w) A (unpackItems (.ref t) items.size none) Q E s:=by
 have hlt:t≠(~~~s):=by obtain ⟨o,ho,_⟩:=ht;exact dA (bi ho)
 unfold unpackItems;refine al ?_;unfold notIterableAtAll;refine al (wpAny_specialOf ht.typeIs PySem.F.slot_list_iter.lookup ?_);refine bg ?_;simp only[Bool.false_eq_true,if_false];refine al (fe (wpAny_pyIter_list ht ?_));refine al (fe (Jm hlt items.size 0 _ _ ⟨_,bv _ rfl,rfl,rfl⟩ (ht.push _) (by omega) λh₁ hit₁ hs₁=>?_));have hall:List.take items.size (List.drop 0 items.toList)=items.toList:=by rw[gg];exact eP (by simp)
 rw[hall];rw[if_neg (by simp)];have ht₁:h₁.IsList t items:=(ht.push _).extBut hs₁.extBut hlt;refine al (fe (wpAny_pyNext_list_end hh hit₁ ht₁ (by simp) λh₂ he₂=>?_));simp only[Option.isSome_none,Bool.false_eq_true,if_false];refine bg (hQ h₂ λb o hb e=>he₂ b o hb (hs₁.extBut b o hb (av _ e)))
theorem adA{env:Env}{elts:List Expr}{x1}{pos:Pos}{t:Addr}{items:Array Value}{Q:Unit->Shared->Prop}(hh:A.handled=none)(ht:s.heap.IsList t items)
  (hn:(assignEach elts env).length=items.size) (hstar:(assignEach elts env).findIdx? (·.1)=none)
  (h:∀h',Heap.ExtBut (~~~s) s.heap h'->wpAny (model prog w) A (assignInOrder ((assignEach elts env).map (·.2)) items.toList) Q E { s with heap:=h' }):
  wpAny (model prog w) A (assign (.Tuple elts x1 pos) env (.ref t)) Q E s:=by
 rw[assign_Tuple];refine al (ib ?_);unfold unpack;rw[hn,hstar];exact al (fe (adz hh ht h))
end
section
variable {X:Cx} {pos:Pos}
def adB(K:PF)(n:Nat)(t:TGs):TG:=λv Y H Q=>∃a xs,v=.ref a/\SqL K H a xs/\xs.length=n/\t xs Y H Q
theorem adC{es:List Expr}{k:Nat}{t:TGs}{n:Nat}(hc:X.calm=true)(h:PGs X es t)
  (hn:(assignEach es X.env).length=n:=by rfl) (hst:(assignEach es X.env).findIdx? (·.1)=none:=by rfl):PG X (.Tuple es k pos) (adB X.K n t):=by
 intro pins s Y H v u Q I r hw;obtain ⟨a,xs,e1,hq,hl,hw⟩:=hw;subst e1;cases r;obtain ⟨its,rv,pl,hz⟩:=I.list hq;refine adA (I.ok.hd hc) pl.isList (by simp[hn,<-hl,rv.length]) hst λh' hx=>?_;have I1:Inv X pins Y H { s with heap:=h' }:=I.kept (t':=s.toks) λb o e=>hx b o (dA (bi e)) e;exact h pins _ Y H xs _ Q I1 (by simpa using rv) hw
end
mutual
theorem jB(S:Stat Z CX k c E B X):∀(t:Tg){e:Expr},bK c t e=true->PG X e (tG X.K B t)
 |.nm i,e,h=>by
  replace h:=zN h;obtain ⟨x,pos,rfl,h⟩:=h
  ·skip;rw[ae,a9]at h;obtain ⟨l,f⟩:=S.sto x h.2;intro pins s W H v u Q I rv q;refine Yb (i:=i) S.nd (by rw[S.N];exact h.1) l f pins s W H v u Q I rv ?_;obtain ⟨Y,F,G,d,e0,he,r,rd,hw⟩:=q;unfold aY at hw;exact hw _ (he.set rd i)
 |.tp ts,e,h=>by
  replace h:=zO h;obtain ⟨es,kk,pos,rfl,h⟩:=h
  ·skip;obtain ⟨h1,h2,h3⟩:=vK (env:=X.env) h;intro pins s W H v u Q I rv q;obtain ⟨Y,F,G,d,e0,he,r,rd,hw⟩:=q;unfold aY at hw;split at hw
   ·rename_i ds;refine Yi (n:=es.length) S.calm (zR S ts h) h1 h2 pins s W H v u Q I rv ?_;obtain ⟨a,vs,e1,q,t⟩:=rd;refine ⟨a,vs,e1,q.sq,?_,Y,F,G,ds,e0,he,r,t,hw⟩;rw[<-t.length];exact zT ts h hw
   ·rename_i ds;refine adC (n:=es.length) S.calm (zR S ts h) h1 h2 pins s W H v u Q I rv ?_;obtain ⟨a,vs,e1,q,t⟩:=rd;refine ⟨a,vs,e1,q.sq,?_,Y,F,G,ds,e0,he,r,t,hw⟩;rw[<-t.length];exact zT ts h hw
   ·exact hw.elim
theorem zR(S:Stat Z CX k c E B X):∀(ts:Tgs){es:List Expr},cR c ts es=true->PGs X es (tGs X.K B ts)
 |.nil,es,h=>by
  unfold cR at h;cases es with
  |nil=>
   intro pins s W H vs us Q I rv q;refine Ye pins s W H vs us Q I rv ?_;obtain ⟨Y,F,G,ds,e0,he,r,rd,hw⟩:=q;unfold cg at hw;split at hw
   ·exact ⟨rd,hw _ he⟩
   ·exact hw.elim
  |cons _ _=>cases h
 |.cons t r,es,h=>by
  unfold cR at h;split at h
  ·rename_i e es;rw[ae]at h;intro pins s W H vs us Q I rv q;have hs:(assignEach (e::es) X.env).map (·.2)=assign e X.env::(assignEach es X.env).map (·.2):=by
    have hh:cR c (.cons t r) (e::es)=true:=by unfold cR;show (bK c t e&&cR c r es)=true;rw[h.1,h.2];rfl
    rw[(vK (env:=X.env) hh).2.2,(vK (env:=X.env) h.2).2.2];rfl
   refine Yg (jB S t h.1) (zR S r h.2) hs pins s W H vs us Q I rv ?_;obtain ⟨Y,F,G,ds,e0,he,rr,rd,hw⟩:=q;unfold cg at hw;split at hw
   ·rename_i d ds;obtain ⟨v,vs',e1,rd1,rds⟩:=rd;refine ⟨v,vs',e1,Y,F,G,d,e0,he,rr,rd1,dI (λρ' z σ' he'=>?_) t hw⟩;exact ⟨ρ',F,G,ds,e0,he',rr,rds,z⟩
   ·exact hw.elim
  ·cases h
theorem zT{G:DH}:∀(ts:Tgs){es:List Expr}{ds:List D}{Y:ak}{Q:ak->Prop},cR c ts es=true->cg ts ds Y G Q->ds.length=es.length
 |.nil,es,ds,Y,Q,h,q=>by
  unfold cR at h;unfold cg at q;split at q
  ·cases es with
   |nil=>rfl
   |cons _ _=>cases h
  ·exact q.elim
 |.cons t r,es,ds,Y,Q,h,q=>by
  unfold cR at h;split at h
  ·rw[ae]at h;unfold cg at q;split at q
   ·rename_i d ds;have:∃ρ',cg r ds ρ' G Q:=Jo t q;obtain ⟨ρ',q'⟩:=this;have:=zT r h.2 q';simp[this]
   ·exact q.elim
  ·cases h
theorem Jo{G:DH}:∀(t:Tg){d:D}{Y:ak}{Q:ak->Prop},aY t d Y G Q->∃ρ',Q ρ'
 |.nm i,d,Y,Q,q=>⟨_,q⟩
 |.tp ts,d,Y,Q,q=>by
  unfold aY at q;split at q
  ·exact zU ts q
  ·exact zU ts q
  ·exact q.elim
theorem zU{G:DH}:∀(ts:Tgs){ds:List D}{Y:ak}{Q:ak->Prop},cg ts ds Y G Q->∃ρ',Q ρ'
 |.nil,ds,Y,Q,q=>by
  unfold cg at q;split at q
  ·exact ⟨_,q⟩
  ·exact q.elim
 |.cons t r,ds,Y,Q,q=>by
  unfold cg at q;split at q
  ·obtain ⟨ρ',q'⟩:=Jo t q;exact zU r q'
  ·exact q.elim
end
end
structure WalkJ(K:PF)(H:Hp)(F:FZ)(items:List D)(g:Hld)(J:It):Prop where
 go:∀H' F' G i,Ext H F H' F'->R K H' F' G->held g G->i < items.length->J.go i H'
 stop:∀H' F' G,Ext H F H' F'->R K H' F' G->held g G->J.stop items.length H'
 yld:∀H' F' i x H'' d G,Ext H F H' F'->R K H' F' G->held g G->items[i]?=some d->J.yld i H' x H''->Ext H' F' H'' F'/\R K H'' F' G/\Rep K H'' F' d x
section
variable {K:PF} {H:Hp} {F:FZ}
structure Src(K:PF)(H:Hp)(F:FZ)(u:Value)(ds:List D)(g:Hld)(k:SK):Prop where
 val:k.val=u
 sat:∀H' F' G,Ext H F H' F'->R K H' F' G->held g G->∃vs,k.Sat H' vs/\Reps K H' F' ds vs
theorem vL{d:D}{v:V}{u:Value}{G:DH}{ds:List D×Hld}(h:Rep K H F d v)(r:RelV v u)(e:itemsOf G d=some ds):∃k,Src K H F u ds.1 ds.2 k:=by
 cases d with
 |lst xs=>
  simp only[itemsOf,bn]at e;subst e;obtain ⟨a,vs,e1,q,t⟩:=h;subst e1;have hu:u=Value.ref a:=r;subst hu;exact ⟨.lst a,rfl,λH' F' G' x _ _=>⟨vs,(FzL.ext x q).2,Reps.ext x t⟩⟩
 |tup xs=>
  simp only[itemsOf,bn]at e;subst e;obtain ⟨a,vs,e1,q,t⟩:=h;subst e1;have hu:u=Value.ref a:=r;subst hu;exact ⟨.tup a,rfl,λH' F' G' x _ _=>⟨vs,(TpT.ext (K:=K) x q).it,Reps.ext x t⟩⟩
 |str l=>
  simp only[itemsOf,bn]at e;subst e;obtain ⟨e1,hl⟩:=h;subst e1;obtain ⟨t,hu⟩:∃t,u=Value.str (tx l) t:=r;subst hu;exact ⟨.str (tx l) t,rfl,λH' F' G' x _ _=>⟨_,rfl,by simpa using zu l⟩⟩
 |ref p=>
  simp only[itemsOf]at e;split at e
  ·rename_i xs hg;simp only[bn]at e;subst e;have e1:v=.ref p:=h;subst e1;have hu:u=Value.ref p:=r;subst hu;exact ⟨.lst p,rfl,λH' F' G' x r' hh=>r'.lst hh.1⟩
  ·cases e
 |_=>cases e
theorem vM{G:DH}{d:D}{ds:List D×Hld}(e:itemsOf G d=some ds):held ds.2 G:=by
 cases d with
 |ref p=>
  simp only[itemsOf]at e;split at e
  ·rename_i xs hg;simp only[bn]at e;subst e;exact ⟨hg,trivial⟩
  ·cases e
 |_=>simp only[itemsOf]at e;first | (cases e;done) | (simp only[bn]at e;subst e;exact trivial)
theorem adD{u:Value}{ds:List D}{g:Hld}{k:SK}(s:Src K H F u ds g k):WalkJ K H F ds g (Jk k) where
 go:=λH' F' G i x r hh hi=>by
  obtain ⟨vs,h1,h2⟩:=s.sat H' F' G x r hh;exact ⟨vs,h1,by rw[<-h2.length];exact hi⟩
 stop:=λH' F' G x r hh=>by
  obtain ⟨vs,h1,h2⟩:=s.sat H' F' G x r hh;exact ⟨vs,h1,h2.length.symm⟩
 yld:=λH' F' i v H'' d G x r hh hd y=>by
  obtain ⟨e,hv⟩:=y;subst e;obtain ⟨vs,h1,h2⟩:=s.sat _ F' G x r hh;obtain ⟨w,e1,rw'⟩:=h2.get hd;have e2:=hv vs h1;rw[e1]at e2;cases e2;exact ⟨Ext.refl _ _,r,rw'⟩
theorem gY:∀(n:Nat)(ds:List D),(dZ n ds).length=ds.length
 |_,[]=>rfl
 |n,d::ds=>by simp[dZ,gY (n+1) ds]
theorem iM:∀(n:Nat)(ds:List D)(i:Nat),(dZ n ds)[i]?=(ds[i]?).map λd=>.tup [.int ((n+i:Nat):Int),d]
 |_,[],_=>by simp[dZ]
 |n,d::ds,0=>by simp[dZ]
 |n,d::ds,i+1=>by
  simp only[dZ,ic];rw[iM (n+1) ds i];congr 1;funext d;rw[show n+1+i=n+(i+1) by omega]
theorem zV:∀(as bs:List D),(cH as bs).length=min as.length bs.length
 |[],bs=>by simp[cH]
 |a::as,[]=>by simp[cH]
 |a::as,b::bs=>by simp[cH,zV as bs]
theorem Jp:∀(as bs:List D)(i:Nat)(d:D),(cH as bs)[i]?=some d->∃a b,as[i]?=some a/\bs[i]?=some b/\d=.tup [a,b]
 |[],bs,i,d,h=>by simp[cH]at h
 |a::as,[],i,d,h=>by simp[cH]at h
 |a::as,b::bs,0,d,h=>by simp[cH]at h;exact ⟨a,b,rfl,rfl,h.symm⟩
 |a::as,b::bs,i+1,d,h=>by
  simp only[cH,ic]at h;obtain ⟨x,y,h1,h2,h3⟩:=Jp as bs i d h;exact ⟨x,y,by simpa using h1,by simpa using h2,h3⟩
theorem adE{u:Value}{ds:List D}{g:Hld}{k:SK}(s:Src K H F u ds g k):WalkJ K H F (dZ 0 ds) g (Je k) where
 go:=λH' F' G i x r hh hi=>by
  obtain ⟨vs,h1,h2⟩:=s.sat H' F' G x r hh;exact ⟨vs,h1,by rw[<-h2.length,<-gY 0];exact hi⟩
 stop:=λH' F' G x r hh=>by
  obtain ⟨vs,h1,h2⟩:=s.sat H' F' G x r hh;exact ⟨vs,h1,by rw[gY];exact h2.length.symm⟩
 yld:=λH' F' i v H'' d G x r hh hd y=>by
  obtain ⟨vs,h1,h2⟩:=s.sat H' F' G x r hh;obtain ⟨T,y,hT,e1,e2,hv⟩:=y;subst e1 e2;rw[iM]at hd;obtain ⟨d',hd',e3⟩:=ar.mp hd;subst e3;obtain ⟨w,e1,rw'⟩:=h2.get hd';have e2:=hv vs h1;rw[e1]at e2;cases e2;refine ⟨fX r hT,r.new hT,?_⟩;rw[gi];exact ym r hT (Reps.cons rfl (Reps.cons rw' Reps.nil))
theorem kj{g g':Hld}{G:DH}:held (g++g') G->held g G/\held g' G:=by
 induction g with
 |nil=>exact λh=>⟨trivial,h⟩
 |cons p r ih=>
  intro h;obtain ⟨h1,h2⟩:=ih h.2;exact ⟨⟨h.1,h1⟩,h2⟩
theorem adF{u u':Value}{ds es:List D}{g g':Hld}{k l:SK}(s:Src K H F u ds g k)(s':Src K H F u' es g' l):WalkJ K H F (cH ds es) (g++g') (Jz k l) where
 go:=λH' F' G i x r hh hi=>by
  obtain ⟨vs,h1,h2⟩:=s.sat H' F' G x r (kj hh).1;obtain ⟨ws,h3,h4⟩:=s'.sat H' F' G x r (kj hh).2;rw[zV]at hi;exact ⟨vs,ws,h1,h3,by rw[<-h2.length];omega,by rw[<-h4.length];omega⟩
 stop:=λH' F' G x r hh=>by
  obtain ⟨vs,h1,h2⟩:=s.sat H' F' G x r (kj hh).1;obtain ⟨ws,h3,h4⟩:=s'.sat H' F' G x r (kj hh).2;exact ⟨vs,ws,h1,h3,by rw[zV,<-h2.length,<-h4.length];omega⟩
 yld:=λH' F' i v H'' d G x r hh hd y=>by
  obtain ⟨T,y,z,hT,e1,e2,hv,hz⟩:=y;subst e1 e2;obtain ⟨a,b,ha,hb,e3⟩:=Jp _ _ _ _ hd;subst e3;obtain ⟨vs,h1,h2⟩:=s.sat H' F' G x r (kj hh).1;obtain ⟨ws,h3,h4⟩:=s'.sat H' F' G x r (kj hh).2;obtain ⟨w,e1,rw'⟩:=h2.get ha;obtain ⟨w2,e3,rw2⟩:=h4.get hb;have e2:=hv vs h1;have e4:=hz ws h3;rw[e1]at e2;cases e2;rw[e3]at e4;cases e4;exact ⟨fX r hT,r.new hT,ym r hT (Reps.cons rw' (Reps.cons rw2 Reps.nil))⟩
theorem Jq(lo:Int)(n:Nat):WalkJ K H F (aW lo n) [] (Itr lo n) where
 go:=λH' F' G i x _ _ hi=>by show i < n;simpa [aW] using hi
 stop:=λH' F' G x _ _=>by show n<=(aW lo n).length;simp[aW]
 yld:=λH' F' i v H'' d G x r _ hd y=>by
  obtain ⟨e1,e2⟩:=y;subst e1 e2;refine ⟨Ext.refl _ _,r,?_⟩;unfold aW at hd;rw[ax]at hd;obtain ⟨j,hj,e3⟩:=ar.mp hd;have:j=i:=by have:=am.mp hj;obtain ⟨h1,h2⟩:=this;simpa using h2.symm
  subst this;subst e3;rfl
end
def tI(K:PF)(B:Bs)(w:ak->DH->(List D->Hld->DH->Prop)->Prop):TI:=λX H Rr=>∃Y F G,Ext B.H B.F H F/\EnvR K H F Y X/\R K H F G/\
 w Y G (λitems g G'=>∀H' F' J,Ext H F H' F'->R K H' F' G'->WalkJ K H' F' items g J->Rr J H')
section
variable {Z:aj} {CX:CXT} {k:Nat} {c:CT} {E:EK} {B:Bs} {X:Cx}
theorem vN{pins:List (Addr×Obj)}{Y:L2.St}{H:Hp}{s:Shared}(I:Inv X pins Y H s){kk:SK}{vs:List V}(h:kk.Sat H vs):∃its:Array Value,kk.On its s.heap:=by
 cases kk with
 |lst a=>obtain ⟨its,_,pl,_⟩:=I.list (SqL.of (show H a=some _ from h));exact ⟨its.toArray,pl.isList⟩
 |tup a=>obtain ⟨its,_,pl,_⟩:=I.tuple (SqT.of (show H a=some _ from h));exact ⟨its.toArray,pl⟩
 |str x t=>exact ⟨#[],trivial⟩
theorem adG{x:Ex}(ih:OkE Z c E B X x){tg e:Expr}(h:aa c x e=true):PI X tg e (tI X.K B (wpI Z (.seq x) E)):=by
 intro pins s W H Rr I q;obtain ⟨Y,F,G,e0,he,r,hw⟩:=q;rw[tY]at hw;have q':tE X.K B (wpE Z x E) W H (λv H1=>∃F1 G1 d items,R X.K H1 F1 G1/\Rep X.K H1 F1 d v/\itemsOf G1 d=some items/\∀J,WalkJ X.K H1 F1 items.1 items.2 J->Rr J H1):=
  aN e0 he r hw λd G1 H1 F1 u q e1 x1 he1 r1 ru=>by
   split at q
   ·rename_i ds hd;exact ⟨F1,G1,d,ds,r1,ru,hd,λJ w=>q H1 F1 J x1 r1 w⟩
   ·exact q.elim
 refine thn (ih h pins s W H _ I q') λu s1 ⟨v,H1,I1,rv,F1,G1,d,items,r1,rd,hd,q1⟩=>?_;obtain ⟨kk,src⟩:=vL rd rv hd;obtain ⟨vs,sat,_⟩:=src.sat H1 F1 G1 (Ext.refl _ _) r1 (vM hd);obtain ⟨its,on⟩:=vN I1 sat;rw[<-src.val];refine SK.iter on ?_;refine ⟨s1.heap.objs.size,[s1.heap.objs.size],_,_,H1,rfl,I1.kept (t':=s1.toks) λb o e=>av _ e,acl kk _,SK.pos0,λb hb=>?_,q1 _ (adD src)⟩;have e:b=s1.heap.objs.size:=by simpa using hb
 subst e;exact I1.fpOk (ay _) (I1.hok.fresh (ay _))
theorem adH(S:Stat Z CX k c E B X){a:Ex}(ih:OkE Z c E B X a){tg e:Expr}(h:bz c (.rng a) tg e=true):PI X tg e (tI X.K B (wpI Z (.rng a) E)):=by
 replace h:=Iv h;obtain ⟨_,_,_,_,rfl,h⟩:=h
 ·simp only[ae,a9]at h;obtain ⟨⟨⟨e1,h1⟩,hm⟩,h2⟩:=h;subst e1;obtain ⟨g1,g2⟩:=dN h1;have hmg:=S.blt _ (ca.mp hm);have hs:=cN _ [] X.env (di (cj a h2));intro pins s W H Rr I q;refine Yu (S.glo _ g1) hmg (gK (ih h2) jk hs) hs pins s W H Rr I ?_;obtain ⟨Y,F,G,e0,he,r,hw⟩:=q;rw[tZ]at hw;refine aN e0 he r hw λd G1 H1 F1 u q e1 x1 he1 r1 ru=>?_;split at q
  ·rename_i n;have e2:u=.int n:=ru;subst e2;exact ⟨n,rfl,q.1.1,q.1.2,q.2 H1 F1 _ x1 r1 (Jq 0 n.toNat)⟩
  ·exact q.elim
theorem adI{K:PF}{H:Hp}{F:FZ}(lo:Int)(n:Nat):WalkJ K H F (dH lo n) [] (Itd lo n) where
 go:=λH' F' G i x _ _ hi=>by show i < n;simpa [dH] using hi
 stop:=λH' F' G x _ _=>by show n<=(dH lo n).length;simp[dH]
 yld:=λH' F' i v H'' d G x r _ hd y=>by
  obtain ⟨e1,e2⟩:=y;subst e1 e2;refine ⟨Ext.refl _ _,r,?_⟩;unfold dH at hd;rw[ax]at hd;obtain ⟨j,hj,e3⟩:=ar.mp hd;have:j=i:=by have:=am.mp hj;obtain ⟨h1,h2⟩:=this;simpa using h2.symm
  subst this;subst e3;rfl
theorem adJ(S:Stat Z CX k c E B X){a:Ex}(ih:OkE Z c E B X a){tg e:Expr}(h:bz c (.rev a) tg e=true):PI X tg e (tI X.K B (wpI Z (.rev a) E)):=by
 replace h:=Iw h;obtain ⟨_,_,_,_,_,_,_,rfl,h⟩:=h;simp only[ae,a9]at h;obtain ⟨⟨⟨⟨⟨⟨e1,h1⟩,hm⟩,e2⟩,h2⟩,hm2⟩,h3⟩:=h;subst e1 e2;obtain ⟨g1,_⟩:=dN h1;obtain ⟨g2,_⟩:=dN h2;have hmg:=S.blt _ (ca.mp hm);have hmg2:=S.blt _ (ca.mp hm2);have hs:=cN _ [] X.env (di (cj a h3));intro pins s W H Rr I q;refine aaD (S.glo _ g1) hmg (S.glo _ g2) hmg2 (gK (ih h3) jk hs) hs pins s W H Rr I ?_;obtain ⟨Y,F,G,e0,he,r,hw⟩:=q;rw[t7]at hw;refine aN e0 he r hw λd G1 H1 F1 u q e1 x1 he1 r1 ru=>?_;split at q
 ·rename_i n;have e2:u=.int n:=ru;subst e2;exact ⟨n,rfl,q.1.1,q.1.2,q.2 H1 F1 _ x1 r1 (adI _ n.toNat)⟩
 ·exact q.elim
theorem adK(S:Stat Z CX k c E B X){a b d:Ex}(iha:OkE Z c E B X a)(ihb:OkE Z c E B X b)(ihd:OkE Z c E B X d){tg e:Expr}(h:bz c (.dwn a b d) tg e=true):PI X tg e (tI X.K B (wpI Z (.dwn a b d) E)):=nZf h
theorem adL(S:Stat Z CX k c E B X){a b:Ex}(iha:OkE Z c E B X a)(ihb:OkE Z c E B X b){tg e:Expr}(h:bz c (.rng2 a b) tg e=true):PI X tg e (tI X.K B (wpI Z (.rng2 a b) E)):=by
 replace h:=Iz h;obtain ⟨_,_,v,v',pos,rfl,h⟩:=h
 ·simp only[ae,a9]at h;obtain ⟨⟨⟨⟨e1,h1⟩,hm⟩,h2⟩,h3⟩:=h;subst e1;obtain ⟨g1,g2⟩:=dN h1;have hmg:=S.blt _ (ca.mp hm);have hs2:=cN v' [] X.env (di (cj b h3));have hs:=cN v [v'] X.env (di (cj a h2));intro pins s W H Rr I q;refine Yv (S.glo _ g1) hmg (gK (iha h2) (gK (ihb h3) jk hs2) hs) (by rw[hs,hs2];rfl) hs2 pins s W H Rr I ?_;obtain ⟨Y,F,G,e0,he,r,hw⟩:=q;rw[t6]at hw;refine aN e0 he r hw λd G1 H1 F1 u q e1 x1 he1 r1 ru=>aN e1 he1 r1 q λd' G2 H2 F2 u' q e2 x2 he2 r2 ru'=>?_;cases d with
  |int m=>
   cases d' with
   |int n=>
    have e3:u=.int m:=ru;have e4:u'=.int n:=ru';subst e3 e4;exact ⟨m,n,rfl,q.1,q.2 H2 F2 _ (x1.trans x2) r2 (Jq m (n - m).toNat)⟩
   |_=>exact (show False from q).elim
  |_=>exact (show False from q).elim
theorem adM(S:Stat Z CX k c E B X){a:Ex}(ih:OkE Z c E B X a){tg e:Expr}(h:bz c (.enm a) tg e=true):PI X tg e (tI X.K B (wpI Z (.enm a) E)):=by
 replace h:=IK h;obtain ⟨_,_,_,_,_,_,_,rfl,rfl,h⟩:=h
 ·skip
  ·simp only[ae,a9]at h;obtain ⟨⟨⟨e1,h1⟩,hm⟩,h2⟩:=h;subst e1;obtain ⟨g1,g2⟩:=dN h1;have hmg:=S.blt _ (ca.mp hm);have hs:=cN _ [] X.env (di (cj a h2));intro pins s V H Rr I q;obtain ⟨Y,F,G,e0,he,r,hw⟩:=q;rw[t8]at hw;have q':tL X.K B (aR Z (.cons a .nil) E) V H (λvs H1=>∃v F1 G1 d items,vs=[v]/\R X.K H1 F1 G1/\Rep X.K H1 F1 d v/\itemsOf G1 d=some items/\∀J,WalkJ X.K H1 F1 (dZ 0 items.1) items.2 J->Rr J H1):=by
    refine dm (W:=λds G1=>∃d items,ds=[d]/\itemsOf G1 d=some items/\∀H' F' J,Ext H F H' F'->R X.K H' F' G1->WalkJ X.K H' F' (dZ 0 items.1) items.2 J->Rr J H') e0 he r ?_ λds G1 H1 F1 vs q e1 x1 he1 r1 rvs=>?_
    ·rw[iG];refine aD a (λd G1 q=>?_) hw;rw[jq];split at q
     ·rename_i items hd;exact ⟨d,items,rfl,hd,q⟩
     ·exact q.elim
    ·obtain ⟨d,items,e2,hd,q⟩:=q;subst e2;obtain ⟨v,e3,rv⟩:=bT rvs;exact ⟨v,F1,G1,d,items,e3,r1,rv,hd,λJ w=>q H1 F1 J x1 r1 w⟩
   refine Call_ (gJ I (S.glo _ g1) hmg (u:=.type "enumerate") boot_enumerate (d5 (thn (vG ih (λh=>zQ h) (c:=c) (es:=[_]) (by unfold aO;show (aa c a _&&true)=true;rw[h2];rfl) _ pins s V H _ I q') λus s1 ⟨vs,H1,I1,r1v,q1⟩=>?_) hs rfl) (d9 g2) (cT g2));obtain ⟨v,F1,G1,d,items,e1,r1,rd,hd,q1⟩:=q1;subst e1;obtain ⟨u,rfl,ru⟩:=vals1 r1v;obtain ⟨kk,src⟩:=vL rd ru hd;obtain ⟨vs,sat,_⟩:=src.sat H1 F1 G1 (Ext.refl _ _) r1 (vM hd);obtain ⟨its,on⟩:=vN I1 sat;rw[<-src.val];refine acw on λh' hen hit hsz hk=>?_;refine wpAny_pyIter_enum hen ?_;have n1:H1 s1.heap.objs.size=none:=I1.hok.fresh (ay _);have n2:H1 (s1.heap.objs.size+1)=none:=I1.hok.fresh (gS _);refine ⟨s1.heap.objs.size+1,[s1.heap.objs.size+1,s1.heap.objs.size],_,_,H1,rfl,I1.kept (t':=s1.toks) hk,ack kk _ _ (Nat.succ_ne_self _),⟨⟨_,hen⟩,hit⟩,λb hb=>?_,q1 _ (adE src)⟩;have hb':b=s1.heap.objs.size+1\/b=s1.heap.objs.size:=by simpa using hb
   rcases hb' with rfl |rfl
   ·exact I1.fpOk (gS _) n2
   ·exact I1.fpOk (ay _) n1
theorem zap(n:Nat):ZApart (n+4) (n+2) (n+3) n (n+1):=
 ⟨(by omega:(n+2:Nat)≠n+4),(by omega:(n+3:Nat)≠n+4),(by omega:(n:Nat)≠n+4),(by omega:(n+1:Nat)≠n+4),(by omega:(n+2:Nat)≠n+3),(by omega:(n+2:Nat)≠n),(by omega:(n+2:Nat)≠n+1),(by omega:(n+3:Nat)≠n),(by omega:(n+3:Nat)≠n+1),(by omega:(n:Nat)≠n+1)⟩
theorem adN(S:Stat Z CX k c E B X){a b:Ex}(iha:OkE Z c E B X a)(ihb:OkE Z c E B X b){tg e:Expr}(h:bz c (.zip a b) tg e=true):PI X tg e (tI X.K B (wpI Z (.zip a b) E)):=by
 replace h:=IV h;obtain ⟨_,_,_,_,_,v,v',pos,rfl,rfl,h⟩:=h
 ·skip
  ·simp only[ae,a9]at h;obtain ⟨⟨⟨⟨e1,h1⟩,hm⟩,h2⟩,h3⟩:=h;subst e1;obtain ⟨g1,g2⟩:=dN h1;have hmg:=S.blt _ (ca.mp hm);have hs2:=cN v' [] X.env (di (cj b h3));have hs:=cN v [v'] X.env (di (cj a h2));intro pins s V H Rr I q;obtain ⟨Y,F,G,e0,he,r,hw⟩:=q;rw[uc]at hw;have hA:aO c (.cons a (.cons b .nil)) [v,v']=true:=by
    unfold aO aO aO;show (aa c a v&&(aa c b v'&&true))=true;rw[h2,h3];rfl
   have q':tL X.K B (aR Z (.cons a (.cons b .nil)) E) V H (λvs H1=>∃v v' F1 G1 d d' items items',vs=[v,v']/\R X.K H1 F1 G1/\Rep X.K H1 F1 d v/\Rep X.K H1 F1 d' v'/\itemsOf G1 d=some items/\itemsOf G1 d'=some items'/\∀J,WalkJ X.K H1 F1 (cH items.1 items'.1) (items.2++items'.2) J->Rr J H1):=by
    refine dm (W:=λds G1=>∃d d' items items',ds=[d,d']/\itemsOf G1 d=some items/\itemsOf G1 d'=some items'/\∀H' F' J,Ext H F H' F'->R X.K H' F' G1->WalkJ X.K H' F' (cH items.1 items'.1) (items.2++items'.2) J->Rr J H') e0 he r ?_ λds G1 H1 F1 vs q e1 x1 he1 r1 rvs=>?_
    ·rw[iG];refine aD a (λd G1 q=>?_) hw;rw[iG];refine aD b (λd' G2 q=>?_) q;rw[jq];split at q
     ·rename_i items items' hd hd';exact ⟨d,d',items,items',rfl,hd,hd',q⟩
     ·exact q.elim
    ·obtain ⟨d,d',items,items',e2,hd,hd',q⟩:=q;subst e2;obtain ⟨w1,r2,e3,rw1,t2⟩:=rvs;obtain ⟨w2,e4,rw2⟩:=bT t2;subst e4;exact ⟨w1,w2,F1,G1,d,d',items,items',e3,r1,rw1,rw2,hd,hd',λJ w=>q H1 F1 J x1 r1 w⟩
   refine Call_ (gJ I (S.glo _ g1) hmg (u:=.type "zip") aap (d5 (thn (vG iha (λh=>vG ihb (λh=>zQ h) h) (c:=c) (es:=[v,v']) hA _ pins s V H _ I q') λus s1 ⟨vs,H1,I1,r1v,q1⟩=>?_) hs (by rw[hs2];rfl)) (d9 g2) (cT g2));obtain ⟨w1,w2,F1,G1,d,d',items,items',e1,r1,rd,rd',hd,hd',q1⟩:=q1;subst e1;obtain ⟨u,u',rfl,ru,ru'⟩:=vals2 r1v;obtain ⟨kk,src⟩:=vL rd ru hd;obtain ⟨ll,src'⟩:=vL rd' ru' hd';obtain ⟨vs,sat,_⟩:=src.sat H1 F1 G1 (Ext.refl _ _) r1 (vM hd);obtain ⟨ws,sat',_⟩:=src'.sat H1 F1 G1 (Ext.refl _ _) r1 (vM hd');obtain ⟨its,on⟩:=vN I1 sat;obtain ⟨its',on'⟩:=vN I1 sat';rw[<-src.val,<-src'.val];refine acu on on' λh' hz hTI hTO p1 p2 hsz hk=>?_;refine wpAny_pyIter_zip hz ?_;have fr:∀j,H1 (s1.heap.objs.size+j)=none:=λj=>I1.hok.fresh (e7 _ _);refine ⟨s1.heap.objs.size+4,[s1.heap.objs.size+4,s1.heap.objs.size+2,s1.heap.objs.size+3,s1.heap.objs.size,s1.heap.objs.size+1],_,_,H1,rfl,I1.kept (t':=s1.toks) hk,
    acq kk ll (s1.heap.objs.size+4) (s1.heap.objs.size+2) (s1.heap.objs.size+3) s1.heap.objs.size (s1.heap.objs.size+1) (zap s1.heap.objs.size),⟨hz,hTI,⟨_,_,hTO⟩,p1,p2⟩,λb hb=>?_,q1 _ (adF src src')⟩
   have hb':b=s1.heap.objs.size+4\/b=s1.heap.objs.size+2\/b=s1.heap.objs.size+3\/b=s1.heap.objs.size\/b=s1.heap.objs.size+1:=by simpa using hb
   rcases hb' with rfl |rfl |rfl |rfl |rfl
   ·exact I1.fpOk (e7 _ _) (fr 4)
   ·exact I1.fpOk (e7 _ _) (fr 2)
   ·exact I1.fpOk (e7 _ _) (fr 3)
   ·exact I1.fpOk (ay _) (fr 0)
   ·exact I1.fpOk (e7 _ _) (fr 1)
end
section
variable {Z:aj} {CX:CXT} {k:Nat} {c:CT} {E:EK} {B:Bs} {X:Cx}
theorem zW:∀{l:List Str},dw l=true->l.Nodup
 |[],_=>List.nodup_nil
 |x::r,h=>by
  unfold dw at h;rw[ae]at h;refine gE.mpr ⟨λhm=>?_,zW h.2⟩;have:=h.1;rw[ca.mpr hm]at this;cases this
theorem km{N:List Str}{scope:Scope}:∀{N':List Str}{cap:List (Option Nat)},X.N=N->fH N scope N' cap=true->Caps X scope N' cap
 |[],[],_,_=>trivial
 |_::N',none::cap,e,h=>km (N':=N') (cap:=cap) e h
 |x::N',some j::cap,e,h=>by
  unfold fH at h;simp only[ae,a9]at h;exact ⟨⟨by rw[e];exact h.1.1,h.1.2⟩,km (N':=N') (cap:=cap) e h.2⟩
 |[],_::_,_,h=>by cases h
 |_::_,[],_,h=>by cases h
theorem mG{scope:Scope}{env:Env}(x:Str):(relabel scope env).names.lookup x=(scope.names.lookup x).map λkk=>if (kk==NameKind.free&&env.scope.kind==.function&&env.kindOf x==some .cell)=true then NameKind.cell else kk:=xV
theorem Stat.comp(S:Stat Z CX k c E B X){N':List Str}{scope:Scope}(hn:dw N'=true)(cl:List (Str×Addr))(C:Addr)(s₁:Shared)(H₁:Hp)(fp:List Addr)(pn:List (Addr×Obj)):
  Stat Z CX k (c.comp N' scope) noE B (X.comp N' scope cl C s₁ H₁ fp pn) where
 N:=rfl
 nd:=zW hn
 calm:=S.calm
 own:=PassesOwn.never
 kd:=rfl
 vis:=λx h=>by
  have h:jx (scope.names.lookup x)=true:=h;show (relabel scope X.env).names.lookup x=_\/(relabel scope X.env).names.lookup x=_\/(relabel scope X.env).names.lookup x=_;rw[mG];cases e:scope.names.lookup x with
  |none=>rw[e]at h;cases h
  |some kk=>
   rw[e]at h;cases kk with
   | «local»=>exact .inl (by simp[show (NameKind.«local»==NameKind.free)=false by decide])
   |cell=>exact .inr (.inl (by simp[show (NameKind.cell==NameKind.free)=false by decide]))
   |free=>
    by_cases q:(NameKind.free==NameKind.free&&X.env.scope.kind==ScopeKind.function&&X.env.kindOf x==some NameKind.cell)=true
    ·exact .inr (.inl (by simp only[ia,if_pos q]))
    ·exact .inr (.inr (by simp only[ia,if_neg q]))
   |globalExplicit=>cases h
   |globalImplicit=>cases h
 cel:=λx h=>by
  have h:scope.names.lookup x=some .cell\/scope.names.lookup x=some .free:=h;show (relabel scope X.env).names.lookup x=_\/(relabel scope X.env).names.lookup x=_;rw[mG];rcases h with h |h
  ·exact .inl (by rw[h];simp[show (NameKind.cell==NameKind.free)=false by decide])
  ·rw[h];by_cases q:(NameKind.free==NameKind.free&&X.env.scope.kind==ScopeKind.function&&X.env.kindOf x==some NameKind.cell)=true
   ·exact .inl (by simp only[ia,if_pos q])
   ·exact .inr (by simp only[ia,if_neg q])
 glo:=λx h=>by
  have h:scope.names.lookup x=some .globalImplicit:=h;show (relabel scope X.env).names.lookup x=_;rw[mG,h];simp[show (NameKind.globalImplicit==NameKind.free)=false by decide]
 sto:=λx h=>by
  have h:(scope.names.lookup x==some .local||(false&&scope.names.lookup x==some .cell))=true:=h;rw[g9,Bool.or_false,a9]at h;have e:(relabel scope X.env).names.lookup x=some .local:=by rw[mG,h];simp[show (NameKind.«local»==NameKind.free)=false by decide]
  exact ⟨.inl e,.inr e⟩
 room:=S.room
 call:=S.call
 blt:=S.blt
 con:=S.con
 exc:=⟨_,S.nox _,λ_ _ _ _ _ _ _ _ _ _ q=>q.elim,λx G' H' F' h=>h.elim⟩
 nox:=S.nox
 xcl:=λC h=>nZf h
 loc:=λx h=>by show (relabel scope X.env).names.lookup x=_;rw[mG,show scope.names.lookup x=some .local from h];simp[show (NameKind.«local»==NameKind.free)=false by decide]
 xis:=λC h=>nZf h
 mth:=S.mth
 mko:=S.mko
 fld:=S.fld
 trc:=λh=>absurd rfl h
theorem adO(S:Stat Z CX k c E B X){t:Tx}(ih:OkT Z c E B X t){ifs:List Expr}(h:my c t ifs=true):PIf X ifs (tB' X.K B (wpT Z t E)):=by
 unfold my at h;rw[dP]at h;rcases h with h |h
 ·rw[ae,e8]at h;obtain ⟨hy,rfl⟩:=h;cases t with
  |yes=>
   intro pins s W H Q I q;refine aaa pins s W H Q I ?_;obtain ⟨Y,F,G,e0,he,r,hw⟩:=q;rw[tR]at hw;exact hw.now r
  |_=>cases hy
 ·obtain ⟨e,he,h⟩:=bu h;rw[fJ he];exact aab (ih h)
theorem Jr(S:Stat Z CX k c E B X){fz:Bool}{elt:Ex}{tg:Tg}{it:It'}{cond:Tx}{N':List Str}{cap:List (Option Nat)}{scope:Scope}{elt' tg':Expr}{ifs:List Expr}(hn:dw N'=true)
  (ihe:∀{X':Cx},Stat Z CX k (c.comp N' scope) noE B X'->OkE Z (c.comp N' scope) noE B X' elt) (iht:∀{X':Cx},Stat Z CX k (c.comp N' scope) noE B X'->OkT Z (c.comp N' scope) noE B X' cond)
  (hg:bK (c.comp N' scope) tg tg'=true) (hi:my (c.comp N' scope) cond ifs=true) (he:aa (c.comp N' scope) elt elt'=true)
  {V:L2.St} {H:Hp} {Q:VK} {Y:ak} {F:FZ} {G:DH} (e0:Ext B.H B.F H F) (henv:EnvR X.K H F Y V) (r:R X.K H F G)
  (hw:wpI Z it E Y G λitems g G1=>
   compLoop (λd ρ' G' k'=>aY tg d ρ' G' λρ1=>wpT Z cond noE ρ1 G' λb G2=>match b with |true=>wpE Z elt noE ρ1 G2 λy G3=>k' (some y) ρ1 G3 |false=>k' none ρ1 G2)
    g items [] (cap.map λo=>match o with |none=>none |some j=>(Y[j]?).join) G1 λds G2=>mk fz ds G2 (PV X.K H F Q)):
  tI X.K B (wpI Z it E) V H (λJ H1=>ye true X N' scope tg' (emT ifs elt') J (dY cap V) H1 Q):=by
 refine ⟨Y,F,G,e0,henv,r,gf it (λitems g G1 q H1 F1 J x1 r1 W=>?_) hw⟩;let step:D->ak->DH->(Option D->ak->DH->Prop)->Prop:=λd ρ' G' k'=>aY tg d ρ' G' λρ1=>wpT Z cond noE ρ1 G' λb G2=>match b with |true=>wpE Z elt noE ρ1 G2 λy G3=>k' (some y) ρ1 G3 |false=>k' none ρ1 G2
 let fin:List D->DH->Prop:=λds G2=>mk fz ds G2 (PV X.K H F Q)
 refine ⟨λi m ys σ' H'=>m=items.length - i/\i<=items.length/\∃ρ' F' G' acc,Ext B.H B.F H' F'/\Ext H1 F1 H' F'/\EnvR X.K H' F' ρ' σ'/\R X.K H' F' G'/\Reps X.K H' F' acc ys/\compLoop step g (items.drop i) acc ρ' G' fin,
  ⟨items.length,by simp,ef _,_,F1,G1,[],e0.trans x1,Ext.refl _ _,(henv.ext x1).cap cap,r1,rfl,q⟩,?_⟩
 rintro i m ys σ' H' ⟨rfl,hle,ρ',F',G',acc,eB,e1,he',r',ra,hl⟩;by_cases hlt:i < items.length
 ·have hd:items.drop i=items[i]::items.drop (i+1):=bo hlt;rw[hd]at hl;obtain ⟨hh,hz,hl⟩:=hl;refine .inr ⟨W.go H' F' G' i e1 r' hh hlt,λ_=>by rw[<-ra.length];exact b9 hz szl,λcl C s₁ H₁ fp pn=>?_⟩;have S':=S.comp (scope:=scope) hn cl C s₁ H₁ fp pn;refine ⟨_,tmT _ _,jB S' tg hg,λa ha=>aa8 rfl ha (adO S' (iht S') hi) (ihe S' he),λx H2 hy=>?_⟩;obtain ⟨xy,ry,rx⟩:=W.yld H' F' i x H2 items[i] G' e1 r' hh (by simp[hlt]) hy;refine ⟨ρ',F',G',items[i],eB.trans xy,he'.ext xy,ry,rx,dI (λρ1 z σ1 hσ1=>?_) tg hl⟩;unfold tmT;refine jA (eB.trans xy) hσ1 ry z λb G2 H3 F3 z e3 x3 he3 r3=>?_;cases b with
  |true=>
   rw[if_pos rfl];refine aN e3 he3 r3 z λy G4 H4 F4 v z e4 x4 he4 r4 rv=>?_;exact ⟨items.length - (i+1),by omega,rfl,hlt,ρ1,F4,G4,acc++[y],e4,e1.trans (xy.trans (x3.trans x4)),he4,r4,(Reps.ext (xy.trans (x3.trans x4)) ra).append (Reps.cons rv Reps.nil),z⟩
  |false=>
   rw[if_neg a7];exact ⟨items.length - (i+1),by omega,rfl,hlt,ρ1,F3,G2,acc,e3,e1.trans (xy.trans x3),he3,r3,Reps.ext (xy.trans x3) ra,z⟩
 ·have hi':i=items.length:=by omega
  subst hi';rw[eK]at hl;obtain ⟨hh,hz,hl⟩:=hl;refine .inl ⟨W.stop H' F' G' e1 r' hh,by rw[<-ra.length];exact cX hz,λp hp=>?_⟩;exact fG (du (λd G' z=>PV.later z (x1.trans e1)) hl) r' ra p hp
structure CompC(c:CT)(elt:Ex)(tg:Tg)(it:It')(cond:Tx)(N':List Str)(cap:List (Option Nat))(elt' tg' iter:Expr)(ifs:List Expr)(scope:Scope):Prop where
 it:bz c it tg' iter=true
 cap:fH c.N scope N' cap=true
 sc:gU c scope=true
 nd:dw N'=true
 tg:bK (c.comp N' scope) tg tg'=true
 cd:my (c.comp N' scope) cond ifs=true
 el:aa (c.comp N' scope) elt elt'=true
theorem vO(S:Stat Z CX k c E B X){scope:Scope}(h:gU c scope=true):scope.names.all (λy=>y.2 != NameKind.cell)=true/\scope.names.all (λy=>y.2 != NameKind.local||scope.names.lookup y.1==some NameKind.local)=true/\
  scope.names.all (λy=>y.2 != NameKind.free||(X.env.kindOf y.1==some NameKind.cell||X.env.kindOf y.1==some NameKind.free))=true/\scope.kind=.function:=by
 unfold gU at h;simp only[ae,b6]at h;obtain ⟨⟨⟨⟨h1,h2⟩,h3⟩,h4⟩,_⟩:=h;refine ⟨h1,h2,?_,h4⟩;rw[cq]at h3 ⊢;intro y hy;have:=h3 y hy;rw[dP,dP,a9,a9]at this;rw[dP,dP,a9,a9];rcases this with q |q
 ·exact .inl q
 ·exact .inr (S.cel y.1 q)
theorem Js{fz:Bool}{elt:Ex}{tg:Tg}{it:It'}{cond:Tx}{N:List String}{cap:List (Option Nat)}{e:Expr}(h:aa c (.comp fz elt tg it cond N cap) e=true):
  ∃elt' tg' iter ifs scope pos,e=.ListComp elt' [⟨tg',iter,ifs,0⟩] scope pos/\CompC c elt tg it cond (N.map Str.ofString) cap elt' tg' iter ifs scope:=by
 replace h:=Iu h;obtain ⟨_,_,_,_,_,_,_,rfl,h⟩:=h;simp only[ae,b6]at h;obtain ⟨⟨⟨⟨⟨⟨⟨h1,h2⟩,h3⟩,h4⟩,h5⟩,h6⟩,h7⟩,h8⟩:=h;subst h1;exact ⟨_,_,_,_,_,_,rfl,h2,h3,h4,h5,h6,h7,h8⟩
theorem gZ{it:It'}{tg' iter:Expr}(h:bz c it tg' iter=true)(env:Env)(x:Value):foldedSetIterable iter env x=pure x:=by
 cases it with
 |seq y=>exact acU (cj y (show aa c y iter=true from h)) env x
 |rng a=>obtain ⟨_,_,_,_,rfl,_⟩:=Iv h;rfl
 |rng2 a b=>obtain ⟨_,_,_,_,_,rfl,_⟩:=Iz h;rfl
 |rev a=>obtain ⟨_,_,_,_,_,_,_,rfl,_⟩:=Iw h;rfl
 |dwn _ _ _=>exact nZf h
 |enm a=>obtain ⟨_,_,_,_,_,_,_,_,rfl,_⟩:=IK h;rfl
 |zip a b=>obtain ⟨_,_,_,_,_,_,_,_,_,rfl,_⟩:=IV h;rfl
theorem adP(S:Stat Z CX k c E B X){fz:Bool}{elt:Ex}{tg:Tg}{it:It'}{cond:Tx}{N:List String}{cap:List (Option Nat)}
  (ihe:∀{c':CT}{X':Cx},Stat Z CX k c' noE B X'->OkE Z c' noE B X' elt) (iht:∀{c':CT}{X':Cx},Stat Z CX k c' noE B X'->OkT Z c' noE B X' cond)
  (ihi:∀{tg' iter:Expr},bz c it tg' iter=true->PI X tg' iter (tI X.K B (wpI Z it E))) {e:Expr} (h:aa c (.comp fz elt tg it cond N cap) e=true):
  PE X e (tE X.K B (wpE Z (.comp fz elt tg it cond N cap) E)):=by
 obtain ⟨elt',tg',iter,ifs,scope,pos,rfl,C⟩:=Js h;obtain ⟨s1,s2,s3,s4⟩:=vO S C.sc;refine peI (Gn (lim:=true) (N.map Str.ofString) cap S.calm (ihi C.it) (km S.N C.cap) s1 s2 s3 s4 (gZ C.it X.env) (Gi _ _ _ _ _ _)) λW H Q hq=>el hq λY F G e0 he r hw=>?_;rw[zb]at hw;exact Jr S C.nd (λS'=>ihe S') (λS'=>iht S') C.tg C.cd C.el e0 he r hw
def RelM(K:PF)(B:Bs)(eD:List D->ak->DH->(List D->ak->DH->Prop)->Prop)(tm:TM):Prop:=
 ∀(X:L2.St)(H:Hp)(Y:ak)(F:FZ)(G:DH)(acc:List D)(ys:List V)(W:List D->ak->DH->Prop)(Q:List V->L2.St->Hp->Prop),Ext B.H B.F H F->EnvR K H F Y X->R K H F G->Reps K H F acc ys->eD acc Y G W->
  (∀acc' ρ' G' H' F' σ' ys',W acc' ρ' G'->Ext H F H' F'->EnvR K H' F' ρ' σ'->R K H' F' G'->Reps K H' F' acc' ys'->Q ys' σ' H')->tm ys X H Q
theorem adQ{K:PF}{elt:Ex}:RelM K B (λacc Y G k=>acc.length < sz/\wpE Z elt noE Y G λy G'=>k (acc++[y]) Y G') (tmE (tE K B (wpE Z elt noE))):=by intro X H Y F G acc ys W Q e0 he r ra hw hk;refine ⟨by rw[<-ra.length];exact b9 hw.1 szl,aN e0 he r hw.2 λy G1 H1 F1 v q e1 x1 he1 r1 rv=>?_⟩;exact hk _ _ _ H1 F1 _ _ q x1 he1 r1 ((Reps.ext x1 ra).append (Reps.cons rv Reps.nil))
theorem Jt{K:PF}{t:Tg}{eD:List D->ak->DH->(List D->ak->DH->Prop)->Prop}{tm:TM}(hr:RelM K B eD tm){items:List D}{g:Hld}{Y:ak}{G:DH}{acc:List D}{ys:List V}{X:L2.St}{H:Hp}{F:FZ}{J:It}{W:List D->ak->DH->Prop}{Q:List V->L2.St->Hp->Prop}
  (e0:Ext B.H B.F H F) (he:EnvR K H F Y X) (r:R K H F G) (ra:Reps K H F acc ys) (Wk:WalkJ K H F items g J) (hw:dG (λd acc ρ' G' k=>aY t d ρ' G' λρ1=>eD acc ρ1 G' k) g items acc Y G W)
  (hk:∀acc' ρ' G' H' F' σ' ys',W acc' ρ' G'->Ext H F H' F'->EnvR K H' F' ρ' σ'->R K H' F' G'->Reps K H' F' acc' ys'->Q ys' σ' H'):Gj J (tG K B t) tm ys X H Q:=by
 refine ⟨λi m ys σ' H'=>m=items.length - i/\i<=items.length/\∃ρ' F' G' acc,Ext B.H B.F H' F'/\Ext H F H' F'/\EnvR K H' F' ρ' σ'/\R K H' F' G'/\Reps K H' F' acc ys/\dG (λd acc ρ' G' k=>aY t d ρ' G' λρ1=>eD acc ρ1 G' k) g (items.drop i) acc ρ' G' W,
  ⟨items.length,by simp,ef _,Y,F,G,acc,e0,Ext.refl _ _,he,r,ra,hw⟩,?_⟩
 rintro i m ys σ' H' ⟨rfl,hle,ρ',F',G',acc,eB,e1,he',r',ra,hl⟩;by_cases hlt:i < items.length
 ·have hd:items.drop i=items[i]::items.drop (i+1):=bo hlt;rw[hd]at hl;obtain ⟨hh,hl⟩:=hl;refine .inr ⟨Wk.go H' F' G' i e1 r' hh hlt,λx H2 hy=>?_⟩;obtain ⟨xy,ry,rx⟩:=Wk.yld H' F' i x H2 items[i] G' e1 r' hh (by simp[hlt]) hy;refine ⟨ρ',F',G',items[i],eB.trans xy,he'.ext xy,ry,rx,dI (λρ1 z σ1 hσ1=>?_) t hl⟩;refine hr _ _ _ _ _ _ _ _ _ (eB.trans xy) hσ1 ry (Reps.ext xy ra) z λacc' ρ2 G2 H3 F3 σ3 ys3 q x3 he3 r3 ra3=>?_;exact ⟨items.length - (i+1),by omega,rfl,hlt,ρ2,F3,G2,acc',(eB.trans xy).trans x3,e1.trans (xy.trans x3),he3,r3,ra3,q⟩
 ·have hi':i=items.length:=by omega
  subst hi';rw[eK]at hl;exact .inl ⟨Wk.stop H' F' G' e1 r' hl.1,hk _ _ _ _ _ _ _ hl.2 e1 he' r' ra⟩
theorem Ju{K:PF}{t:Tg}{it:It'}{eD:List D->ak->DH->(List D->ak->DH->Prop)->Prop}{tm:TM}(hr:RelM K B eD tm):
  RelM K B (λacc Y G k=>wpI Z it noE Y G λitems g G1=>dG (λd acc ρ' G' k=>aY t d ρ' G' λρ1=>eD acc ρ1 G' k) g items acc Y G1 k) (tmG (tI K B (wpI Z it noE)) (tG K B t) tm):=by
 intro X H Y F G acc ys W Q e0 he r ra hw hk;refine ⟨Y,F,G,e0,he,r,gf it (λitems g G1 q H1 F1 J x1 r1 Wk=>?_) hw⟩;exact Jt hr (e0.trans x1) (he.ext x1) r1 (Reps.ext x1 ra) Wk q λacc' ρ' G' H' F' σ' ys' z x2 he2 r2 ra2=>hk _ _ _ _ _ _ _ z (x1.trans x2) he2 r2 ra2
theorem Jv(S:Stat Z CX k c E B X){elt:Ex}{t1 t2 t3:Tg}{i1 i2 i3:It'}{N':List Str}{cap:List (Option Nat)}{scope:Scope}{elt' a1 b1 a2 b2 a3 b3:Expr}{pos:Pos}(hn:dw N'=true)
  (ihe:∀{X':Cx},Stat Z CX k (c.comp N' scope) noE B X'->OkE Z (c.comp N' scope) noE B X' elt)
  (ih2:∀{X':Cx},Stat Z CX k (c.comp N' scope) noE B X'->PI X' a2 b2 (tI X'.K B (wpI Z i2 noE))) (ih3:∀{X':Cx},Stat Z CX k (c.comp N' scope) noE B X'->PI X' a3 b3 (tI X'.K B (wpI Z i3 noE)))
  (f2:∀env x,foldedSetIterable b2 env x=pure x) (f3:∀env x,foldedSetIterable b3 env x=pure x)
  (hg1:bK (c.comp N' scope) t1 a1=true) (hg2:bK (c.comp N' scope) t2 a2=true) (hg3:bK (c.comp N' scope) t3 a3=true) (he:aa (c.comp N' scope) elt elt'=true)
  {V:L2.St} {H:Hp} {Q:VK} {Y:ak} {F:FZ} {G:DH} (e0:Ext B.H B.F H F) (henv:EnvR X.K H F Y V) (r:R X.K H F G)
  (hw:wpE Z (.cm3 elt t1 i1 t2 i2 t3 i3 N0 cap) E Y G (PV X.K H F Q)):
  tI X.K B (wpI Z i1 E) V H (λJ H1=>ye false X N' scope a1 (emG (.ListComp elt' [⟨a1,b1,[],0⟩,⟨a2,b2,[],0⟩,⟨a3,b3,[],0⟩] scope pos) 1 b2) J (dY cap V) H1 Q):=by
 rw[zc]at hw;refine ⟨Y,F,G,e0,henv,r,gf i1 (λitems g G1 q H1 F1 J x1 r1 W=>?_) hw⟩;have rel:=Ju (Z:=Z) (K:=X.K) (B:=B) (t:=t2) (it:=i2) (Ju (Z:=Z) (t:=t3) (it:=i3) (adQ (Z:=Z) (elt:=elt)));obtain ⟨WW,⟨m0,w0⟩,turn⟩:=Jt (t:=t1) (Q:=λys _ H'=>ys.length<=sizeLine/\∀D,H' D=none->Q (.ref D) (upd H' D (.lst ys))) rel (e0.trans x1) ((henv.ext x1).cap cap) r1 (Reps.nil) W q λacc' ρ' G' H' F' σ' ys' z x2 he2 r2 ra2=>
  ⟨by rw[<-ra2.length];exact cX z.1,λp hp=>fG (du (λd G' z=>PV.later z (x1.trans x2)) z.2) r2 ra2 p hp⟩
 refine ⟨WW,⟨m0,w0⟩,λi m ys σ' H' w=>?_⟩;rcases turn i m ys σ' H' w with ⟨st,z1,z2⟩ |⟨go,step⟩
 ·exact .inl ⟨st,z1,z2⟩
 ·refine .inr ⟨go,(λz=>nomatch z),λcl C s₁ H₁ fp pn=>?_⟩;have S':=S.comp (scope:=scope) hn cl C s₁ H₁ fp pn;exact ⟨_,_,jB S' t1 hg1,λa ha=>Gk rfl S'.calm rfl (aa6 _ _ _ _ _ _ _ _ _) (ih2 S') (jB S' t2 hg2) (f2 _) (Gk rfl S'.calm rfl (aa5 _ _ _ _ _ _ _ _ _) (ih3 S') (jB S' t3 hg3) (f3 _) (Gg rfl ha (ihe S' he))),step⟩
theorem adR(S:Stat Z CX k c E B X){elt:Ex}{t1 t2 t3:Tg}{i1 i2 i3:It'}{N:List String}{cap:List (Option Nat)}
  (ihe:∀{c':CT}{X':Cx},Stat Z CX k c' noE B X'->OkE Z c' noE B X' elt) (ih1:∀{tg' iter:Expr},bz c i1 tg' iter=true->PI X tg' iter (tI X.K B (wpI Z i1 E)))
  (ih2:∀{c':CT}{X':Cx},Stat Z CX k c' noE B X'->∀{tg' iter:Expr},bz c' i2 tg' iter=true->PI X' tg' iter (tI X'.K B (wpI Z i2 noE)))
  (ih3:∀{c':CT}{X':Cx},Stat Z CX k c' noE B X'->∀{tg' iter:Expr},bz c' i3 tg' iter=true->PI X' tg' iter (tI X'.K B (wpI Z i3 noE))) {e:Expr} (h:aa c (.cm3 elt t1 i1 t2 i2 t3 i3 N cap) e=true):
  PE X e (tE X.K B (wpE Z (.cm3 elt t1 i1 t2 i2 t3 i3 N cap) E)):=by
 obtain ⟨elt',a1,b1,a2,b2,a3,b3,scope,pos,rfl,c1,c2,c3,c4,c5,c6,c7,c8,c9,c10⟩:=zP h;obtain ⟨s1,s2,s3,s4⟩:=vO S c3;refine peI (Gn (lim:=false) (N.map Str.ofString) cap S.calm (ih1 c1) (km S.N c2) s1 s2 s3 s4 (gZ c1 X.env) (Ge _ _ _ _ _ _ _ _ _)) λW H Q hq=>el hq λY F G e0 he r hw=>?_;exact Jv S c4 (λS'=>ihe S') (λS'=>ih2 S' c6) (λS'=>ih3 S' c8) (gZ c6) (gZ c8) c5 c7 c9 c10 e0 he r hw
theorem bF{x:Ex}(ih:OkE Z c E B X x)(hn:∀l os rs pos,aa c x (.Compare l os rs pos)=true->False){e:Expr}(h:bN c (.val x) e=true):PT X e (tB' X.K B (wpT Z (.val x) E)):=by
 have h:((jy e||mq e)&&aa c x e&&HF x)=true:=h;simp only[ae,dP]at h;obtain ⟨⟨h1,h2⟩,h3⟩:=h;rcases h1 with h1 |h1
 ·exact adw ih h1 h2
 ·obtain ⟨⟨t,ht⟩,_⟩:=dv.mp h1;rw[ht]at h2;exact (hn _ _ _ _ h2).elim
end
mutual
theorem aB{Z:aj}{CX:CXT}{k:Nat}{B:Bs}:∀(x:Ex){c:CT}{E:EK}{X:Cx},Stat Z CX k c E B X->OkE Z c E B X x
 |.var i,c,E,X,S=>λh=>acY S h
 |.cst d,c,E,X,S=>λh=>acZ S h
 |.glb x d,c,E,X,S=>λh=>ac0 S h
 |.bin op fz a b,c,E,X,S=>λh=>ac1 S (aB a S) (aB b S) h
 |.neg a,c,E,X,S=>λh=>ac2 S (aB a S) h
 |.cmp op a b,c,E,X,S=>λh=>(Jf S (aB a S) (aB b S) h).1
 |.chn op op' a b d,c,E,X,S=>λh=>(Jg S (aB a S) (aB b S) (aB d S) h).1
 |.not a,c,E,X,S=>λh=>ac3 S (aB a S) h
 |.boo isAnd e es,c,E,X,S=>λh=>adu (aB e S) (fL es S) h
 |.ife t a b,c,E,X,S=>λh=>adv (iQ t S) (aB a S) (aB b S) h
 |.tup es,c,E,X,S=>λh=>ac4 S (EachE.oks (fL es S)) h
 |.lst fz es,c,E,X,S=>λh=>ac5 S (EachE.oks (fL es S)) h
 |.idx a i,c,E,X,S=>λh=>ac6 S (aB a S) (aB i S) h
 |.slc fz a lo hi,c,E,X,S=>λh=>ac7 S (aB a S) (Jx lo S) (Jx hi S) h
 |.rvs fz a s,c,E,X,S=>λh=>ac8 S (aB a S) (aB s S) h
 |.call f es,c,E,X,S=>λh=>ada S (EachE.oks (fL es S)) h
 |.bcl f es,c,E,X,S=>λh=>adb S (EachE.oks (fL es S)) h
 |.lcl fz f es,c,E,X,S=>λh=>adc S (EachE.oks (fL es S)) h
 |.isi a t,c,E,X,S=>λh=>adh S (aB a S) h
 |.isx a C xs,c,E,X,S=>λh=>adi S (aB a S) h
 |.fst es,c,E,X,S=>λh=>adt S (fL es S) h
 |.rgl fz a,c,E,X,S=>λh=>ade S (aB a S) h
 |.rgt a,c,E,X,S=>λh=>adf S (aB a S) h
 |.fld C f o,c,E,X,S=>λh=>adm S (aB o S) h
 |.mcl f C m o es,c,E,X,S=>λh=>adn S (aB o S) (EachE.oks (fL es S)) h
 |.mko C es,c,E,X,S=>λh=>ado S (EachE.oks (fL es S)) h
 |.pp0 o,c,E,X,S=>λh=>adp S (aB o S) h
 |.rpl f a b ix,c,E,X,S=>λh=>adl S (aB a S) (aB b S) (aB ix S) h
 |.mth m o es,c,E,X,S=>λh=>adq S (aB o S) (EachE.oks (fL es S)) h
 |.comp fz elt tg it cond N cap,c,E,X,S=>λh=>adP S (λS'=>aB elt S') (λS'=>iQ cond S') (g8 it S) h
 |.cm3 elt t1 i1 t2 i2 t3 i3 N cap,c,E,X,S=>λh=>adR S (λS'=>aB elt S') (g8 i1 S) (λS'=>g8 i2 S') (λS'=>g8 i3 S') h
 |.frz a,c,E,X,S=>λh=>ac9 S (aB a S) h
theorem fL{Z:aj}{CX:CXT}{k:Nat}{B:Bs}:∀(x:Exs){c:CT}{E:EK}{X:Cx},Stat Z CX k c E B X->EachE Z c E B X x
 |.nil,_,_,_,_=>trivial
 |.cons e es,c,E,X,S=>⟨aB e S,fL es S⟩
theorem iQ{Z:aj}{CX:CXT}{k:Nat}{B:Bs}:∀(x:Tx){c:CT}{E:EK}{X:Cx},Stat Z CX k c E B X->OkT Z c E B X x
 |.not t,c,E,X,S=>λh=>adx (iQ t S) h
 |.boo isAnd t ts,c,E,X,S=>λh=>ady (iQ t S) (Jw ts S) h
 |.yes,c,E,X,S=>λh=>nZf h
 |.val (.cmp op a b),c,E,X,S=>by
  intro h;have h:((jy _||mq _)&&aa c (.cmp op a b) _&&true)=true:=h;simp only[ae]at h;exact (Jf S (aB a S) (aB b S) h.1.2).2
 |.val (.chn op op' a b d),c,E,X,S=>by
  intro h;have h:((jy _||mq _)&&aa c (.chn op op' a b d) _&&true)=true:=h;simp only[ae]at h;exact (Jg S (aB a S) (aB b S) (aB d S) h.1.2).2
 |.val (.frz a),c,E,X,S=>by
  intro h;have h:((jy _||mq _)&&aa c (.frz a) _&&false)=true:=h;rw[hJ]at h;cases h
 |.val (.var i),c,E,X,S=>λh=>bF (aB (.var i) S) (λ_ _ _ _ h=>nZf h) h
 |.val (.cst d),c,E,X,S=>λh=>bF (aB (.cst d) S) (λ_ _ _ _ h=>nZf h) h
 |.val (.glb x d),c,E,X,S=>λh=>bF (aB (.glb x d) S) (λ_ _ _ _ h=>nZf h) h
 |.val (.bin op fz a b),c,E,X,S=>λh=>bF (aB (.bin op fz a b) S) (λ_ _ _ _ h=>nZf h) h
 |.val (.neg a),c,E,X,S=>λh=>bF (aB (.neg a) S) (λ_ _ _ _ h=>nZf h) h
 |.val (.not a),c,E,X,S=>λh=>bF (aB (.not a) S) (λ_ _ _ _ h=>nZf h) h
 |.val (.boo isAnd e es),c,E,X,S=>λh=>bF (aB (.boo isAnd e es) S) (λ_ _ _ _ h=>nZf h) h
 |.val (.ife t a b),c,E,X,S=>λh=>bF (aB (.ife t a b) S) (λ_ _ _ _ h=>nZf h) h
 |.val (.tup es),c,E,X,S=>λh=>bF (aB (.tup es) S) (λ_ _ _ _ h=>nZf h) h
 |.val (.lst fz es),c,E,X,S=>λh=>bF (aB (.lst fz es) S) (λ_ _ _ _ h=>nZf h) h
 |.val (.idx a i),c,E,X,S=>λh=>bF (aB (.idx a i) S) (λ_ _ _ _ h=>nZf h) h
 |.val (.slc fz a lo hi),c,E,X,S=>λh=>bF (aB (.slc fz a lo hi) S) (λ_ _ _ _ h=>nZf h) h
 |.val (.rvs fz a s),c,E,X,S=>λh=>bF (aB (.rvs fz a s) S) (λ_ _ _ _ h=>nZf h) h
 |.val (.call f es),c,E,X,S=>λh=>bF (aB (.call f es) S) (λ_ _ _ _ h=>nZf h) h
 |.val (.bcl f es),c,E,X,S=>λh=>bF (aB (.bcl f es) S) (λ_ _ _ _ h=>nZf h) h
 |.val (.lcl fz f es),c,E,X,S=>λh=>bF (aB (.lcl fz f es) S) (λ_ _ _ _ h=>nZf h) h
 |.val (.isx a C xs),c,E,X,S=>λh=>bF (aB (.isx a C xs) S) (λ_ _ _ _ h=>nZf h) h
 |.val (.rgl fz a),c,E,X,S=>λh=>bF (aB (.rgl fz a) S) (λ_ _ _ _ h=>nZf h) h
 |.val (.rpl f a b ix),c,E,X,S=>λh=>bF (aB (.rpl f a b ix) S) (λ_ _ _ _ h=>nZf h) h
 |.val (.fld C f o),c,E,X,S=>λh=>bF (aB (.fld C f o) S) (λ_ _ _ _ h=>nZf h) h
 |.val (.mcl f C m o es),c,E,X,S=>λh=>bF (aB (.mcl f C m o es) S) (λ_ _ _ _ h=>nZf h) h
 |.val (.mko C es),c,E,X,S=>λh=>bF (aB (.mko C es) S) (λ_ _ _ _ h=>nZf h) h
 |.val (.pp0 o),c,E,X,S=>λh=>bF (aB (.pp0 o) S) (λ_ _ _ _ h=>nZf h) h
 |.val (.rgt a),c,E,X,S=>λh=>bF (aB (.rgt a) S) (λ_ _ _ _ h=>nZf h) h
 |.val (.fst es),c,E,X,S=>λh=>bF (aB (.fst es) S) (λ_ _ _ _ h=>nZf h) h
 |.val (.isi a t),c,E,X,S=>λh=>bF (aB (.isi a t) S) (λ_ _ _ _ h=>nZf h) h
 |.val (.mth m o es),c,E,X,S=>λh=>bF (aB (.mth m o es) S) (λ_ _ _ _ h=>nZf h) h
 |.val (.comp fz elt tg it cond N cap),c,E,X,S=>λh=>bF (aB (.comp fz elt tg it cond N cap) S) (λ_ _ _ _ h=>nZf h) h
 |.val (.cm3 elt t1 i1 t2 i2 t3 i3 N cap),c,E,X,S=>λh=>bF (aB (.cm3 elt t1 i1 t2 i2 t3 i3 N cap) S) (λ_ _ _ _ h=>nZf h) h
theorem Jw{Z:aj}{CX:CXT}{k:Nat}{B:Bs}:∀(x:Txs){c:CT}{E:EK}{X:Cx},Stat Z CX k c E B X->vI Z c E B X x
 |.nil,_,_,_,_=>trivial
 |.cons e es,c,E,X,S=>⟨iQ e S,Jw es S⟩
theorem Jx{Z:aj}{CX:CXT}{k:Nat}{B:Bs}:∀(x:Ox){c:CT}{E:EK}{X:Cx},Stat Z CX k c E B X->∀y,x=.ob y->OkE Z c E B X y
 |.no,c,E,X,S,y,e=>by cases e
 |.ob z,c,E,X,S,y,e=>by injection e with e;subst e;exact aB z S
theorem g8{Z:aj}{CX:CXT}{k:Nat}{B:Bs}:∀(x:It'){c:CT}{E:EK}{X:Cx},Stat Z CX k c E B X->∀{tg e:Expr},bz c x tg e=true->PI X tg e (tI X.K B (wpI Z x E))
 |.seq y,c,E,X,S,tg,e,h=>adG (aB y S) (show aa c y e=true from h)
 |.rng a,c,E,X,S,tg,e,h=>adH S (aB a S) h
 |.rng2 a b,c,E,X,S,tg,e,h=>adL S (aB a S) (aB b S) h
 |.rev a,c,E,X,S,tg,e,h=>adJ S (aB a S) h
 |.dwn a b d,c,E,X,S,tg,e,h=>adK S (aB a S) (aB b S) (aB d S) h
 |.enm a,c,E,X,S,tg,e,h=>adM S (aB a S) h
 |.zip a b,c,E,X,S,tg,e,h=>adN S (aB a S) (aB b S) h
end
def EnD(K:PF)(H:Hp)(F:FZ)(D:Ends):En where
 nx:=λY G'=>∀H' F' σ',Ext H F H' F'->EnvR K H' F' Y σ'->R K H' F' G'->D.nx σ' H'
 rt:=PV K H F D.rt
 bk:=λY G'=>∀H' F' σ',Ext H F H' F'->EnvR K H' F' Y σ'->R K H' F' G'->D.bk σ' H'
 ct:=λY G'=>∀H' F' σ',Ext H F H' F'->EnvR K H' F' Y σ'->R K H' F' G'->D.ct σ' H'
theorem EnD.later{K:PF}{H H1:Hp}{F F1:FZ}{D:Ends}(x:Ext H F H1 F1):(EnD K H F D).Le (EnD K H1 F1 D):=
 ⟨λ_ _ h H' F' σ' x1=>h H' F' σ' (x.trans x1),λ_ _ h=>PV.later h x,λ_ _ h H' F' σ' x1=>h H' F' σ' (x.trans x1),λ_ _ h H' F' σ' x1=>h H' F' σ' (x.trans x1)⟩
def tS(K:PF)(B:Bs)(w:ak->DH->En->Prop):TS:=λD X H=>∃Y F G,Ext B.H B.F H F/\EnvR K H F Y X/\R K H F G/\w Y G (EnD K H F D)
theorem psI{X:Cx}{st:Stmt}{t t':TS}(h:PS X st t)(i:∀D Y H,t' D Y H->t D Y H):PS X st t':=λpins s Y H D I q=>h pins s Y H D I (i D Y H q)
theorem Jy{X:Cx}{st:List Stmt}{t t':TS}(h:PSs X st t)(i:∀D Y H,t' D Y H->t D Y H):PSs X st t':=λpins s Y H D I q=>h pins s Y H D I (i D Y H q)
theorem zX{e:Expr}(h:dM e=false)(t:Option Expr)(n:Nat)(env:Env):swapsWith e t n env=pure false:=by cases e <;> first |rfl |exact nomatch (show true=false from h)
theorem JC{e:Expr}(h:dM e=false)(t:Expr)(n:Nat)(env:Env):swapsWithSole [t] e n env=pure false:=zX h _ _ _
section
variable {Z:aj} {CX:CXT} {k:Nat} {c:CT} {E:EK} {B:Bs} {X:Cx}
abbrev OkS(Z:aj)(c:CT)(E:EK)(B:Bs)(X:Cx)(x:Sx):Prop:=∀{st:Stmt},bD c x st=true->PS X st (tS X.K B (wpS Z x E))
abbrev kE(Z:aj)(c:CT)(E:EK)(B:Bs)(X:Cx)(x:Sxs):Prop:=∀{st:List Stmt},aC c x st=true->PSs X st (tS X.K B (au Z x E))
theorem adS(S:Stat Z CX k c E B X){x:Ex}{st:Stmt}(h:bD c (.exp x) st=true):PS X st (tS X.K B (wpS Z (.exp x) E)):=by
 replace h:=acH h;obtain ⟨_,_,rfl,h⟩:=h
 ·rw[ae]at h;refine psI (XS (aB x S h.2) (zX (by simpa using h.1) _ _ _)) λD W H hq=>el hq λY F G e0 he r hw=>?_;rw[uC]at hw;exact aN e0 he r hw λd G1 H1 F1 v q e1 x1 he1 r1 rv=>q _ _ _ x1 he1 r1
theorem adT(S:Stat Z CX k c E B X){i:Nat}{x:Ex}{st:Stmt}(h:bD c (.asg (.nm i) x) st=true):PS X st (tS X.K B (wpS Z (.asg (.nm i) x) E)):=by
 replace h:=IW h;obtain ⟨tg,e,pos,rfl,h⟩:=h
 ·simp only[ae]at h;obtain ⟨⟨h1,h2⟩,h3⟩:=h;have h3:(!dM e||HH x)=true:=h3;replace h1:=zN h1;obtain ⟨y,py,rfl,h1⟩:=h1
  ·rw[ae,a9]at h1;obtain ⟨l,f⟩:=S.sto y h1.2;have hi:X.N[i]?=some y:=by rw[S.N];exact h1.1
   have go:∀(D:Ends)(W:L2.St)(H:Hp),tS X.K B (wpS Z (.asg (.nm i) x) E) D W H->sy (tE X.K B (wpE Z x E)) (su i) D W H:=λD W H hq=>el hq λY F G e0 he r hw=>by
    rw[iH]at hw;refine aN e0 he r hw λd G1 H1 F1 v q e1 x1 he1 r1 rv=>?_;unfold aY at q;exact q _ _ _ x1 (he1.set rv i) r1
   cases hc:dM e with
   |false=>exact psI (xM S.nd hi l (aB x S h2) (zX hc _ _ _) f) go
   |true=>
    rw[hc,Bool.not_true,Bool.false_or]at h3;cases x with
    |comp fz elt tg it cond N cap=>
     obtain ⟨elt',tg',iter,ifs,scope,pos',rfl,C⟩:=Js h2;obtain ⟨s1,s2,s3,s4⟩:=vO S C.sc;have hb:∃b:Bool,swapsWith (.ListComp elt' [⟨tg',iter,ifs,0⟩] scope pos') (some (.Name y py)) pos.line X.env=pure b:=⟨_,rfl⟩;obtain ⟨b,hb⟩:=hb;cases b with
     |false=>exact psI (xM S.nd hi l (aB _ S h2) hb f) go
     |true=>
      refine psI (Gp (lim:=true) (Gi _ _ _ _ _ _) S.nd hi l (N.map Str.ofString) cap S.calm (g8 it S C.it) (km S.N C.cap) s1 s2 s3 s4 (gZ C.it X.env) hb f) λD W H hq=>el hq λY F G e0 he r hw=>?_;rw[iH]at hw;rw[zb]at hw;refine Jr (fz:=fz) (Q:=λv H1=>D.nx (W.set i (some v)) H1) S C.nd (λS'=>aB elt S') (λS'=>iQ cond S') C.tg C.cd C.el e0 he r (gf it (λitems g G1 q=>?_) hw);refine uR (λd ρ' G' k1 k2 hk z=>dI (λρ1 z=>dh cond (λb G2 z=>by
       cases b with
       |true=>exact aD elt (λy G3 z=>hk _ _ _ z) z
       |false=>exact hk _ _ _ z) z) tg z) ?_ _ _ _ _ q
      ·intro ds G2 q;refine du (λd G3 q=>?_) q;intro H1 F1 v x1 r1 rv;unfold aY at q;exact q _ _ _ x1 ((he.ext x1).set rv i) r1
    |cm3 elt t1 i1 t2 i2 t3 i3 N cap=>
     obtain ⟨elt',a1,b1,a2,b2,a3,b3,scope,pos',rfl,c1,c2,c3,c4,c5,c6,c7,c8,c9,c10⟩:=zP h2;obtain ⟨s1,s2,s3,s4⟩:=vO S c3;have hb:∃b:Bool,swapsWith (.ListComp elt' [⟨a1,b1,[],0⟩,⟨a2,b2,[],0⟩,⟨a3,b3,[],0⟩] scope pos') (some (.Name y py)) pos.line X.env=pure b:=⟨_,rfl⟩;obtain ⟨b,hb⟩:=hb;cases b with
     |false=>exact psI (xM S.nd hi l (aB _ S h2) hb f) go
     |true=>
      refine psI (Gp (lim:=false) (Ge _ _ _ _ _ _ _ _ _) S.nd hi l (N.map Str.ofString) cap S.calm (g8 i1 S c1) (km S.N c2) s1 s2 s3 s4 (gZ c1 X.env) hb f) λD W H hq=>el hq λY F G e0 he r hw=>?_;rw[iH]at hw;refine Jv (Q:=λv H1=>D.nx (W.set i (some v)) H1) S c4 (λS'=>aB elt S') (λS'=>g8 i2 S' c6) (λS'=>g8 i3 S' c8) (gZ c6) (gZ c8) c5 c7 c9 c10 e0 he r (aD _ (λd G3 q=>?_) hw);intro H1 F1 v x1 r1 rv;unfold aY at q;exact q _ _ _ x1 ((he.ext x1).set rv i) r1
    |_=>cases h3
theorem adU(S:Stat Z CX k c E B X){ts:Tgs}{x:Ex}{st:Stmt}(h:bD c (.asg (.tp ts) x) st=true):PS X st (tS X.K B (wpS Z (.asg (.tp ts) x) E)):=by
 replace h:=IW h;obtain ⟨tg,e,pos,rfl,h⟩:=h
 ·rw[ae,ae]at h;have h34:(!HJ e&&!dM e)=true:=h.2;obtain ⟨h1,h2⟩:=h.1;rw[ae,ga,ga]at h34;obtain ⟨h3,h4⟩:=h34;have hg:=jB S (.tp ts) h1;replace h1:=zO h1;obtain ⟨_,_,_,rfl,h1⟩:=h1
  ·refine psI (DG (aB x S h2) hg (JC h4 _ _ _) ?_ rfl) λD W H hq=>el hq λY F G e0 he r hw=>?_
   ·cases e <;> first |rfl |exact nomatch (show true=false from h3)
   ·rw[iH]at hw;refine aN e0 he r hw λd G1 H1 F1 v q e1 x1 he1 r1 rv=>?_;exact ⟨Y,F1,G1,d,e1,he1,r1,rv,dI (λρ' z σ' hσ=>z H1 F1 σ' x1 hσ r1) (.tp ts) q⟩
theorem adV(S:Stat Z CX k c E B X){o i x:Ex}{st:Stmt}(h:bD c (.set o i x) st=true):PS X st (tS X.K B (wpS Z (.set o i x) E)):=by
 replace h:=acI h;obtain ⟨o',i',tpos,e,pos,rfl,h⟩:=h
 ·simp only[ae,ga]at h;obtain ⟨⟨⟨h1,h2⟩,h3⟩,h4⟩:=h;have hi:=cj i h2;refine psI (DG (aB x S h3) (Yk (aB o S h1) (aB i S h2) Hm ?_) (JC h4 _ _ _) ?_ rfl) λD W H hq=>el hq λY F G e0 he r hw=>?_
  ·intro v;cases i' <;> first |rfl |exact nomatch (show false=true from hi)
  ·cases e <;> rfl
  ·rw[uD]at hw;refine aN e0 he r hw λd G1 H1 F1 v q e1 x1 he1 r1 rv=>?_;refine aN e1 he1 r1 q λa G2 H2 F2 w q e2 x2 he2 r2 rw'=>?_;refine aN e2 he2 r2 q λy G3 H3 F3 u q e3 x3 he3 r3 ru=>?_;refine ⟨F3,G3,a,y,d,r3,rw'.ext x3,ru,rv.ext (x2.trans x3),uP (λG4 q=>?_) q⟩;intro H4 F4 x4 r4;exact q _ _ _ (x1.trans (x2.trans (x3.trans x4))) (he3.ext x4) r4
theorem adW(S:Stat Z CX k c E B X){i:Nat}{op:Operator}{x:Ex}{st:Stmt}(h:bD c (.aug i op x) st=true):PS X st (tS X.K B (wpS Z (.aug i op x) E)):=by
 replace h:=acJ h;obtain ⟨y,py,o,e,pos,rfl,h⟩:=h
 ·simp only[ae,a9]at h;obtain ⟨⟨⟨⟨rfl,h1⟩,h2⟩,h3⟩,h4⟩:=h;obtain ⟨l,f⟩:=S.sto y h2;refine psI (Ym S.nd (by rw[S.N];exact h1) l (aB x S h4) (Hn o) f) λD W H hq=>el hq λY F G e0 he r hw=>?_;rw[uE]at hw;split at hw
  ·rename_i a ha;obtain ⟨v,e1,rv⟩:=he.get ha;refine ⟨v,e1,aN e0 he r hw λb G1 H1 F1 u q e1 x1 he1 r1 ru=>?_⟩;refine ⟨F1,G1,a,b,r1,rv.ext x1,ru,uQ (λd q=>?_) q⟩;intro H2 F2 w x2 r2 rw';exact q _ _ _ (x1.trans x2) ((he1.ext x2).set rw' i) r2
  ·exact hw.elim
theorem adX(S:Stat Z CX k c E B X){o i:Ex}{op:Operator}{x:Ex}{st:Stmt}(h:bD c (.augs o i op x) st=true):PS X st (tS X.K B (wpS Z (.augs o i op x) E)):=by
 replace h:=acK h;obtain ⟨o',i',tpos,p,e,pos,rfl,h⟩:=h
 ·simp only[ae,a9]at h;obtain ⟨⟨⟨rfl,h1⟩,h2⟩,h3⟩:=h;have hi:=cj i h2;refine psI (Yo (aB o S h1) (aB i S h2) acg (aB x S h3) (Hn p) Hm ?_) λD W H hq=>el hq λY F G e0 he r hw=>?_
  ·intro a b d;cases i' <;> first |rfl |exact nomatch (show false=true from hi)
  ·rw[uF]at hw;refine aN e0 he r hw λa G1 H1 F1 v q e1 x1 he1 r1 rv=>?_;refine aN e1 he1 r1 q λy G2 H2 F2 u q e2 x2 he2 r2 ru=>?_;refine ⟨F2,G2,a,y,r2,rv.ext x2,ru,lR (λold q=>?_) q⟩;intro H3 F3 w x3 r3 rw';refine aN (e2.trans x3) (he2.ext x3) r3 q λb G4 H4 F4 z q e4 x4 he4 r4 rz=>?_;refine ⟨F4,G4,old,b,r4,rw'.ext x4,rz,uQ (λcc q=>?_) q⟩;intro H5 F5 z' x5 r5 rz';refine ⟨F5,G4,a,y,cc,r5,rv.ext (x2.trans (x3.trans (x4.trans x5))),ru.ext (x3.trans (x4.trans x5)),rz',uP (λG6 q=>?_) q⟩;intro H6 F6 x6 r6;exact q _ _ _ (x1.trans (x2.trans (x3.trans (x4.trans (x5.trans x6))))) (he4.ext (x5.trans x6)) r6
theorem adY(S:Stat Z CX k c E B X){x:Ex}{st:Stmt}(h:bD c (.ret x) st=true):PS X st (tS X.K B (wpS Z (.ret x) E)):=by
 replace h:=acM h;obtain ⟨_,_,rfl,h⟩:=h
 ·refine psI (XX (aB x S h)) λD W H hq=>el hq λY F G e0 he r hw=>?_;rw[uG]at hw;exact ⟨Y,F,G,e0,he,r,hw⟩
theorem adZ{st:Stmt}(h:bD c .rtn st=true):PS X st (tS X.K B (wpS Z .rtn E)):=by
 replace h:=acN h;obtain ⟨_,rfl,h⟩:=h
 ·refine psI X4 λD W H hq=>el hq λY F G e0 he r hw=>?_;rw[uH]at hw;exact hw.now r rfl
theorem ad0(S:Stat Z CX k c E B X){t:Tx}{a b:Sxs}(iha:kE Z c E B X a)(ihb:kE Z c E B X b){st:Stmt}(h:bD c (.ite t a b) st=true):PS X st (tS X.K B (wpS Z (.ite t a b) E)):=by
 replace h:=acO h;obtain ⟨_,_,_,_,rfl,h⟩:=h
 ·simp only[ae]at h;obtain ⟨⟨h1,h2⟩,h3⟩:=h;refine psI (X6 (iQ t S h1) (iha h2) (ihb h3)) λD W H hq=>el hq λY F G e0 he r hw=>?_;rw[uI]at hw;refine jA e0 he r hw λb' G1 H1 F1 q e1 x1 he1 r1=>?_;cases b' with
  |true=>
   rw[if_pos rfl];exact ⟨Y,F1,G1,e1,he1,r1,dJ a (EnD.later x1) q⟩
  |false=>
   rw[if_neg a7];exact ⟨Y,F1,G1,e1,he1,r1,dJ b (EnD.later x1) q⟩
theorem ad1(S:Stat Z CX k c E B X){t:Tg}{it:It'}{b:Sxs}(ihb:kE Z c E B X b){st:Stmt}(h:bD c (.for_ t it b) st=true):PS X st (tS X.K B (wpS Z (.for_ t it b) E)):=by
 replace h:=acP h;obtain ⟨tg,iter,body,pos,rfl,h⟩:=h
 ·simp only[ae]at h;obtain ⟨⟨h1,h2⟩,h3⟩:=h;refine psI (Yx S.own S.calm (g8 it S h2) (jB S t h1) (ihb h3) (gZ h2 X.env)) λD V H hq=>el hq λY F G e0 he r hw=>?_;rw[Gx]at hw;refine ⟨Y,F,G,e0,he,r,gf it (λitems g G1 q H1 F1 J x1 r1 W=>?_) hw⟩;let step:RF.D->ak->DH->(ak->DH->Prop)->Prop:=λd ρ' G' k=>aY t d ρ' G' λρ1=>au Z b E ρ1 G' { EnD X.K H F D with nx:=k,ct:=k,bk:=(EnD X.K H F D).nx }
  let P:Nat->L2.St->Hp->Prop:=λi σ' H'=>∃ρ' F' G',Ext B.H B.F H' F'/\Ext H1 F1 H' F'/\EnvR X.K H' F' ρ' σ'/\R X.K H' F' G'/\forLoop step g (items.drop i) ρ' G' (EnD X.K H F D).nx
  refine ⟨λi m σ' H'=>m=items.length - i/\i<=items.length/\P i σ' H',⟨items.length,by simp,ef _,Y,F1,G1,e0.trans x1,Ext.refl _ _,he.ext x1,r1,q⟩,?_⟩;rintro i m σ' H' ⟨rfl,hle,ρ',F',G',eB,e1,he',r',hl⟩;by_cases hlt:i < items.length
  ·have hd:items.drop i=items[i]::items.drop (i+1):=bo hlt;rw[hd]at hl;obtain ⟨hh,hl⟩:=hl;refine .inr ⟨W.go H' F' G' i e1 r' hh hlt,P (i+1),λσ2 H2 p=>⟨items.length - (i+1),by omega,rfl,hlt,p⟩,λx H2 hy=>?_⟩;obtain ⟨xy,ry,rx⟩:=W.yld H' F' i x H2 items[i] G' e1 r' hh (by simp[hlt]) hy;refine ⟨ρ',F',G',items[i],eB.trans xy,he'.ext xy,ry,rx,dI (λρ1 z σ1 hσ1=>?_) t hl⟩;refine ⟨ρ1,F',G',eB.trans xy,hσ1,ry,dJ b (D:={ EnD X.K H F D with nx:=λρ' G'=>forLoop step g (items.drop (i+1)) ρ' G' (EnD X.K H F D).nx,ct:=λρ' G'=>forLoop step g (items.drop (i+1)) ρ' G' (EnD X.K H F D).nx,bk:=(EnD X.K H F D).nx }) ⟨λρ2 G2 z H3 F3 σ3 x3 he3 r3=>?_,λd G2 z=>PV.later z (x1.trans (e1.trans xy)),λρ2 G2 z H3 F3 σ3 x3=>z H3 F3 σ3 (x1.trans (e1.trans (xy.trans x3))),λρ2 G2 z H3 F3 σ3 x3 he3 r3=>?_⟩ z⟩
   ·exact ⟨ρ2,F3,G2,eB.trans (xy.trans x3),e1.trans (xy.trans x3),he3,r3,z⟩
   ·exact ⟨ρ2,F3,G2,eB.trans (xy.trans x3),e1.trans (xy.trans x3),he3,r3,z⟩
  ·have hi':i=items.length:=by omega
   subst hi';rw[eK]at hl;exact .inl ⟨W.stop H' F' G' e1 r' hl.1,hl.2 _ _ _ (x1.trans e1) he' r'⟩
theorem ad2(S:Stat Z CX k c E B X){t:Tx}{b:Sxs}(ihb:kE Z c E B X b){st:Stmt}(h:bD c (.whl t b) st=true):PS X st (tS X.K B (wpS Z (.whl t b) E)):=by
 replace h:=acQ h;obtain ⟨_,_,_,rfl,h⟩:=h
 ·simp only[ae]at h;obtain ⟨h1,h2⟩:=h;refine psI (Yq S.own (iQ t S h1) (ihb h2)) λD W H hq=>el hq λY F G e0 he r hw=>?_;rw[Gy]at hw;obtain ⟨n,hw⟩:=hw;let test:ak->DH->(Bool->DH->Prop)->Prop:=λρ' G' k=>wpT Z t E ρ' G' k
  let bd:ak->DH->(ak->DH->Prop)->Prop:=λρ' G' k=>au Z b E ρ' G' { EnD X.K H F D with nx:=k,ct:=k,bk:=(EnD X.K H F D).nx }
  let P:Nat->L2.St->Hp->Prop:=λm σ' H'=>∃ρ' F' G',Ext B.H B.F H' F'/\Ext H F H' F'/\EnvR X.K H' F' ρ' σ'/\R X.K H' F' G'/\whileLoop test bd m ρ' G' (EnD X.K H F D).nx
  refine ⟨P,⟨n,Y,F,G,e0,Ext.refl _ _,he,r,hw⟩,?_⟩;rintro m σ' H' ⟨ρ',F',G',eB,e1,he',r',hl⟩;cases m with
  |zero=>exact hl.elim
  |succ m=>
   refine jA eB he' r' hl λb' G1 H1 F1 q e2 x2 he2 r2=>?_;cases b' with
   |true=>
    rw[if_pos rfl];refine ⟨P m,λσ2 H2 p=>⟨m,gl _,p⟩,ρ',F1,G1,e2,he2,r2,dJ b (D:={ EnD X.K H F D with nx:=λρ' G'=>whileLoop test bd m ρ' G' (EnD X.K H F D).nx,ct:=λρ' G'=>whileLoop test bd m ρ' G' (EnD X.K H F D).nx,bk:=(EnD X.K H F D).nx }) ⟨λρ2 G2 z H3 F3 σ3 x3 he3 r3=>?_,λd G2 z=>PV.later z (e1.trans x2),λρ2 G2 z H3 F3 σ3 x3=>z H3 F3 σ3 (e1.trans (x2.trans x3)),λρ2 G2 z H3 F3 σ3 x3 he3 r3=>?_⟩ q⟩
    ·exact ⟨ρ2,F3,G2,e2.trans x3,e1.trans (x2.trans x3),he3,r3,z⟩
    ·exact ⟨ρ2,F3,G2,e2.trans x3,e1.trans (x2.trans x3),he3,r3,z⟩
   |false=>
    rw[if_neg a7];exact q _ _ _ (e1.trans x2) he2 r2
def tJ(K:PF)(B:Bs)(w:ak->DH->(DH->Prop)->Prop):TJ:=λX H Q=>∃Y F G,Ext B.H B.F H F/\EnvR K H F Y X/\R K H F G/\w Y G λG'=>∀H' F',Ext H F H' F'->R K H' F' G'->Q H'
theorem pjI{X:Cx}{ps:List Expr}{t t':TJ}{n:Nat}(h:PJ X ps t n)(i:∀Y H Q,t' Y H Q->t Y H Q):PJ X ps t' n:=λpins s Y H Q out I hl q=>h pins s Y H Q out I hl (i Y H Q q)
theorem zY{E:EK}{Y:ak}:∀(es:Exs){G:DH}{k k':DH->Prop},(∀G',k G'->k' G')->wpM Z es E Y G k->wpM Z es E Y G k'
 |.nil,G,k,k',h,q=>h G q
 |.cons e es,G,k,k',h,q=>by
  rw[uM]at q ⊢;exact aD e (λd G1 q=>⟨q.1,zY es h q.2⟩) q
theorem JD{p:Expr}(h:zL p=true):∃y k pos,p=.Constant (.str y) k pos/\y.length<=1000:=by obtain ⟨t,ht,h⟩:=aP h;obtain ⟨x,hx,h⟩:=aP h;exact ⟨x,_,_,by rw[ht,hx],eM h⟩
theorem zZ(S:Stat Z CX k c E B X):∀(ps:List Expr){es:Exs},mz c es ps=true->∃n,n<=1000 * ps.length/\PJ X ps (tJ X.K B (wpM Z es E)) n
 |[],es,h=>by
  cases es with
  |nil=>exact ⟨0,ef _,pjI aaI λW H Q hq=>el hq λY F G e0 he r hw=>hw H F (Ext.refl _ _) r⟩
  |cons _ _=>exact nZf h
 |p::ps,es,h=>by
  unfold mz at h;split at h
  ·rename_i hm;obtain ⟨y,kk,pos,rfl,hy⟩:=JD hm;obtain ⟨n,hn,hp⟩:=zZ S ps h;exact ⟨y.length+n,by rw[cS];omega,aaJ hp⟩
  ·split at h
   ·rename_i x rr;rw[ae]at h;obtain ⟨t,ht,h1⟩:=aP h.1;rw[ae,ae,eW,b6]at h1;obtain ⟨n,hn,hp⟩:=zZ S ps h.2;refine ⟨3+n,by rw[cS];omega,?_⟩;rw[ht,h1.1.1,h1.1.2];refine pjI (aaK (aB x S h1.2) hp) λW H Q hq=>el hq λY F G e0 he r hw=>?_;rw[uM]at hw;refine aN e0 he r hw λd G1 H1 F1 v q e1 x1 he1 r1 rv=>?_;obtain ⟨q1,q2⟩:=q;unfold yE at q1;split at q1
    ·rename_i i;rw[ae,b6,b6]at q1;have e2:v=.int i:=rv;refine ⟨⟨i.toNat,by rw[e2];congr 1;omega,by omega⟩,Y,F1,G1,e1,he1,r1,zY rr (λG' z H' F' x' r'=>z H' F' (x1.trans x') r') q2⟩
    ·cases q1
   ·cases h
theorem ad3(S:Stat Z CX k c E B X){C:String}{es:Exs}{st:Stmt}(h:bD c (.rse C es) st=true):PS X st (tS X.K B (wpS Z (.rse C es) E)):=by
 replace h:=acL h;obtain ⟨x,np,m,cpos,pos,rfl,h⟩:=h;simp only[ae,a9]at h;obtain ⟨⟨⟨e1,h1⟩,h2⟩,h3⟩:=h;subst e1;obtain ⟨g1,g2⟩:=dN h1;obtain ⟨a,hm,hb,hn⟩:=S.xcl C h2;obtain ⟨EX,_,hth,hEX⟩:=S.exc;unfold vD at h3;rw[dP]at h3;rcases h3 with h3 |h3
 ·cases es with
  |cons _ _=>cases h3
  |nil=>
   obtain ⟨y,kk,p,rfl,hy⟩:=JD h3;refine psI (FT S.calm (S.glo _ g1) hm hb hth (gK Dw jk rfl) (cT g2) rfl rfl) λD W H hq=>el hq λY F G e0 he r hw=>?_;rw[lQ,yQ]at hw;exact ⟨show 1<=sizeLine by decide,hEX ⟨C,.non⟩ G H F hw e0 r (.ref a) none ⟨a,rfl,hn,trivial⟩⟩
 ·obtain ⟨t,ht,h3⟩:=aP h3;rw[ae,ae,b6,b6]at h3;obtain ⟨n,hn',hp⟩:=zZ S t.1 h3.2;rcases hps:t.1 with _ |⟨v1,_ |⟨v2,r⟩⟩
  ·rw[hps]at h3;simp at h3
  ·rw[hps]at h3;simp at h3
  ·rw[hps]at hp;subst ht;rw[hps]at *;refine psI (FT S.calm (S.glo _ g1) hm hb hth (gK (aaL hp (by omega)) jk rfl) (cT g2) rfl rfl) λD W H hq=>el hq λY F G e0 he r hw=>?_;rw[lQ]at hw;refine ⟨Y,F,G,e0,he,r,zY es (λG1 q H1 F1 x1 r1 y=>⟨show 1<=sizeLine by decide,?_⟩) hw⟩;exact hEX ⟨C,.non⟩ G1 H1 F1 q (e0.trans x1) r1 (.ref a) none ⟨a,rfl,hn,trivial⟩
theorem ad4(S:Stat Z CX k c E B X){f:String}{es:Exs}{C:String}{i:Nat}{b:Bool}{st:Stmt}(h:bD c (.tryc f es C i b) st=true):PS X st (tS X.K B (wpS Z (.tryc f es C i b) E)):=nZf h
theorem ad5(S:Stat Z CX k c E B X){b:Tb}{C:String}{hd:Hd}{xs:List String}{st:Stmt}(h:bD c (.tryx b C hd xs) st=true):PS X st (tS X.K B (wpS Z (.tryx b C hd xs) E)):=nZf h
theorem ad6{st:List Stmt}(h:aC c .nil st=true):PSs X st (tS X.K B (au Z .nil E)):=by
 unfold aC at h;cases st with
 |nil=>exact Jy XC λD W H hq=>el hq λY F G e0 he r hw=>by rw[j4]at hw;exact hw _ _ _ (Ext.refl _ _) he r
 |cons _ _=>cases h
theorem ad7{x:Sx}{xs:Sxs}(ih:OkS Z c E B X x)(ihs:kE Z c E B X xs){st:List Stmt}(h:aC c (.cons x xs) st=true):PSs X st (tS X.K B (au Z (.cons x xs) E)):=by
 unfold aC at h;split at h
 ·rw[ae]at h;refine Jy (XD (ih h.1) (ihs h.2)) λD W H hq=>el hq λY F G e0 he r hw=>?_;rw[j5]at hw;refine ⟨Y,F,G,e0,he,r,wpS_mono x (D:={ EnD X.K H F D with nx:=λρ' G'=>au Z xs E ρ' G' (EnD X.K H F D) }) ⟨λρ1 G1 q H1 F1 σ1 x1 he1 r1=>?_,λ_ _ z=>z,λ_ _ z=>z,λ_ _ z=>z⟩ hw⟩;exact ⟨ρ1,F1,G1,e0.trans x1,he1,r1,dJ xs (EnD.later x1) q⟩
 ·cases h
end
mutual
theorem ad8{Z:aj}{CX:CXT}{k:Nat}{B:Bs}{c:CT}{E:EK}{X:Cx}(S:Stat Z CX k c E B X):∀(x:Sx),OkS Z c E B X x
 |.exp e=>λh=>adS S h
 |.asg (.nm i) e=>λh=>adT S h
 |.asg (.tp ts) e=>λh=>adU S h
 |.set o i e=>λh=>adV S h
 |.aug i op e=>λh=>adW S h
 |.augs o i op e=>λh=>adX S h
 |.ret e=>λh=>adY S h
 |.rtn=>λh=>adZ h
 |.ite t a b=>λh=>ad0 S (kI S a) (kI S b) h
 |.for_ t it b=>λh=>ad1 S (kI S b) h
 |.whl t b=>λh=>ad2 S (kI S b) h
 |.pas=>by
  intro h;obtain ⟨_,rfl,_⟩:=acR h;exact psI XJ λD W H hq=>el hq λY F G e0 he r hw=>by rw[uJ]at hw;exact hw _ _ _ (Ext.refl _ _) he r
 |.brk=>by
  intro h;obtain ⟨_,rfl,_⟩:=acS h;exact psI XM λD W H hq=>el hq λY F G e0 he r hw=>by rw[uK]at hw;exact hw _ _ _ (Ext.refl _ _) he r
 |.cnt=>by
  intro h;obtain ⟨_,rfl,_⟩:=acT h;exact psI XN λD W H hq=>el hq λY F G e0 he r hw=>by rw[uL]at hw;exact hw _ _ _ (Ext.refl _ _) he r
 |.rse C es=>λh=>ad3 S h
 |.tryc f es C i b=>λh=>ad4 S h
 |.tryx b C h xs=>by intro hh;exact ad5 S hh
 |.nev=>by
  intro h;exact psI X8 λD W H hq=>el hq λY F G e0 he r hw=>by rw[uN]at hw;exact hw.elim
theorem kI{Z:aj}{CX:CXT}{k:Nat}{B:Bs}{c:CT}{E:EK}{X:Cx}(S:Stat Z CX k c E B X):∀(x:Sxs),kE Z c E B X x
 |.nil=>λh=>ad6 h
 |.cons s r=>λh=>ad7 (ad8 S s) (kI S r) h
end
end RF
namespace L2
open PySem PySem.Spec PyProof.Rows
theorem Fun.okX{P:Program}{w:World}{K:PF}{mg:Str->Option Value}{base:Heap}{CX:CXT}{x qual:Str}{st:Stmt}{f:Addr}{fd:FuncData}{N ps:List Str}{k:Nat}{sp:Sp}(F:Fun K x qual st f fd)(S:FnScope N ps (aq st))(len:∀vs H Q E,sp vs H Q E->vs.length=ps.length)
  (hbody:∀(cdv:Value)(A:Around)(outer:List Env)(s:Shared)(H:Hp)(vs:List V)(Q:VK)(E:XK),Room k (A.deeper (envOfC qual (aq st) (~~~s) f cdv))->sp vs H Q E->
   ∃t,PSs (dX CX P w K mg base N qual (aq st) f cdv A outer s H E) (aF st) t/\t { nx:=λ_ H'=>Q .non H',rt:=Q } (start N vs) H):FnOk P w K mg base CX (k+1) f fd ps sp:=by
 obtain ⟨oc,od,kV,doc,pm,an,cdv,ct,osl,rfl,lk,hcd⟩:=F.ex;exact Zj lk hcd S len λA outer s H vs Q E hr hsp=>hbody cdv A outer s H vs Q E hr hsp
theorem FnOk.cx{P:Program}{w:World}{K:PF}{mg:Str->Option Value}{base:Heap}{k:Nat}{CX:CXT}{f:Addr}{fd:FuncData}{ps:List Str}{sp:Sp}(F:FnOk P w K mg base CX0 k f fd ps sp):FnOk P w K mg base CX k f fd ps sp:=
 ⟨F.len,λA outer s H args us vs Q E hr he hb hv hs=>codeAny_mono (F.run A outer s H args us vs Q E hr he hb hv hs) λr s' hq=>by
  cases r with
  |error e=>exact False.elim hq
  |ok fl=>cases fl <;> exact hq⟩
end L2
namespace RF
open PySem PySem.Spec PyProof.Rows L2
def fnB(N ps:List Str)(sc:Scope):Bool:=
 decide (sc.kind=.function)&&!sc.isCoroutine&&!sc.isGenerator&&dw N&&(N.take ps.length==ps)&&ps.all (λx=>sc.names.lookup x==some .local||sc.names.lookup x==some .cell)&&sc.names.all (λy=>y.2 != .free)
theorem JF{N ps:List Str}{sc:Scope}(h:fnB N ps sc=true):FnScope N ps sc:=by unfold fnB at h;simp only[ae,ga,b6,a9,cq,dP,bne_iff_ne]at h;obtain ⟨⟨⟨⟨⟨⟨h1,h2⟩,h3⟩,h4⟩,h5⟩,h6⟩,h7⟩:=h;exact ⟨h1,h2,h3,zW h4,h5,h6,λy hy=>h7 y hy⟩
structure Bse(Z:aj)(P:Program)(w:World)(K:PF)(mg:Str->Option Value)(base:Heap)(CX:CXT)(k:Nat)(fs:List (String×Nat))(bt:List String)(cn:List (String×D))(xs:List (String×Bool))(ot:OT):Prop where
 call:∀f n,(f,n)∈fs->∃fa fd ps,FnOk P w K mg base CX k fa fd ps (lift K n (Z f))/\PySem.W.keepIn K (.ref fa)=true/\Binds K fd ps []/\mg (Str.ofString f)=some (.ref fa)
 blt:∀f,f∈bt->mg (Str.ofString f)=none
 con:∀x d,(x,d)∈cn->∃u v,mg (Str.ofString x)=some u/\RelV v u/\∀H F,Rep K H F d v
 xcl:∀C,xs.contains (C,true)=true->∃a,mg (Str.ofString C)=some (.ref a)/\jm K a=true/\PySem.W.nsIn K mainGlobals (Str.ofString C)=some (some (.ref a))
 xis:∀C',xs.contains (C',false)=true->∃cv,CV K mg C' cv/\∀C,xs.contains (C,true)=true->XI K C C' cv
 mth:∀f C m n,(f,C,m,n)∈ot.ms->MthOk Z P w K mg base CX k f C m n
 mko:∀C n,(C,n)∈ot.ks->MkoOk Z P w K mg base CX k C n
 fld:∀C f,(C,f)∈ot.fl->Jb K C f
def aG(N:List Str)(sc:Scope)(fs:List (String×Nat))(bt:List String)(cn:List (String×D))(xs:List (String×Bool))(ot:OT):CT:={ N:=N,kd:=sc.names,fn:=true,fs:=fs,bt:=bt,cn:=cn,xs:=xs,ot:=ot }
section
variable {Z:aj} {P:Program} {w:World} {K:PF} {mg:Str->Option Value} {base:Heap} {k:Nat} {fs:List (String×Nat)} {bt:List String} {cn:List (String×D)} {xs:List (String×Bool)} {ot:OT}
theorem ad9{N ps:List Str}{sc:Scope}{qual:Str}{f:Addr}{cdv:Value}{A:Around}{outer:List Env}{s:Shared}{H:Hp}{EX:XK}{B:Bs}(T:Bse Z P w K mg base (CX1 P w) k fs bt cn xs ot)(hs:fnB N ps sc=true)
  (hr:Room k (A.deeper (envOfC qual sc (~~~s) f cdv))):Stat Z (CX1 P w) k (aG N sc fs bt cn xs ot) noE B (dX (CX1 P w) P w K mg base N qual sc f cdv A outer s H EX).nox where
 N:=rfl
 nd:=(JF hs).nd
 calm:=rfl
 own:=PassesOwn.never
 kd:=rfl
 vis:=λx h=>by
  have h:jx (sc.names.lookup x)=true:=h;show sc.names.lookup x=_\/sc.names.lookup x=_\/sc.names.lookup x=_;unfold jx at h;split at h <;> first | (cases h;done) |simp_all
 cel:=λx h=>h
 glo:=λx h=>h
 sto:=λx h=>by
  have h:(sc.names.lookup x==some .local||(true&&sc.names.lookup x==some .cell))=true:=h;rw[Bool.true_and,dP,a9,a9]at h;exact ⟨h,.inl rfl⟩
 room:=hr
 call:=T.call
 blt:=T.blt
 con:=T.con
 exc:=⟨_,Fw _,λ_ _ _ _ _ _ _ _ _ _ q=>q.elim,λ_ _ _ _ h=>h.elim⟩
 nox:=λY=>Fw Y
 xcl:=T.xcl
 loc:=λx h=>h
 xis:=T.xis
 mth:=T.mth
 mko:=T.mko
 fld:=T.fld
 trc:=λ_=>⟨rfl,rfl,rfl⟩
theorem aea{outer:List Env}{H:Hp}{s s':Shared}{e:Value}(h:CX1 P w outer H s (λ_ _ _=>False) e s'):False:=by obtain ⟨_,_,_,_,_,_,_,_,_,q⟩:=h;exact q
def ends(Q:D->DH->Prop):En:={ nx:=λ_ G=>Q .non G,rt:=Q,bk:=λ_ _=>False,ct:=λ_ _=>False }
def env0(ds:List D)(n:Nat):ak:=ds.map some++List.replicate n none
theorem mH{x qual:Str}{st:Stmt}{f:Addr}{fd:FuncData}(Fu:Fun K x qual st f fd)(T:Bse Z P w K mg base (CX1 P w) k fs bt cn xs ot){N ps:List Str}{body:Sxs}(S:RF.Spec)(n m:Nat)(hs:fnB N ps (aq st)=true)
  (hc:aC (aG N (aq st) fs bt cn xs ot) body (aF st)=true) (hn:ps.length=n) (hm:N.length=n+m)
  (hw:∀ds G a,ds.length=n->S.pre ds G a->au Z body noE (env0 ds m) G (ends (S.post a))):FnOk P w K mg base (CX1 P w) (k+1) f fd ps (lift K n S):=by
 refine Fu.okX (JF hs) (λvs H Q E h=>by rw[hn];exact h.1) λcdv A outer s H vs Q EX hr hsp=>?_;obtain ⟨hl,F,G,ds,r,rs,a,h1,h2,h3⟩:=hsp;have St:Stat Z (CX1 P w) k (aG N (aq st) fs bt cn xs ot) noE ⟨H,F⟩ (dX (CX1 P w) P w K mg base N qual (aq st) f cdv A outer s H EX).nox:=ad9 T hs hr;refine ⟨_,(kI St body hc).nox,?_⟩;refine ⟨env0 ds m,F,G,Ext.refl _ _,?_,r,dJ body (D:=ends (S.post a)) ⟨λY G' q=>?_,λd G' q=>h2 d G' q,λ_ _ q=>False.elim q,λ_ _ q=>False.elim q⟩ (hw ds G a (by rw[rs.length];exact hl) h1)⟩
 ·unfold L2.start;rw[show N.length - vs.length=m by omega];exact EnvR.start m rs
 ·intro H' F' σ' x1 _ r1;exact h2 .non G' q H' F' .non x1 r1 rfl
end
def bV(pre:List D->DH->Prop)(post:List D->DH->D->DH->Prop):RF.Spec where
 A:=List D×DH
 pre:=λds G a=>a=(ds,G)/\pre ds G
 post:=λa d G'=>post a.1 a.2 d G'
 exc:=λ_ _ _=>False
theorem cC{pre:List D->DH->Prop}{post:List D->DH->D->DH->Prop}{ds:List D}{G:DH}{k:D->DH->Prop}{E:EK}(h:pre ds G)(hk:∀d G',post ds G d G'->k d G'):(bV pre post).t ds G k E:=
 ⟨(ds,G),⟨rfl,h⟩,hk,λ_ _ z=>z.elim⟩
theorem cI{Z:aj}{body:Sxs}{m n:Nat}{pre:List D->DH->Prop}{post:List D->DH->D->DH->Prop}(h:∀ds G,pre ds G->au Z body noE (env0 ds m) G (ends (post ds G))):
  ∀ds G a,ds.length=n->(bV pre post).pre ds G a->au Z body noE (env0 ds m) G (ends ((bV pre post).post a)):=by
 rintro ds G a _ ⟨rfl,h1⟩;exact h ds G h1
def aH(f:List D->Option D):RF.Spec:=bV (λds _=>(f ds).isSome=true) (λds G d G'=>G'=G/\f ds=some d)
theorem cu{f:List D->Option D}{ds:List D}{d:D}{G:DH}{k:D->DH->Prop}{E:EK}(h:f ds=some d)(hk:k d G):(aH f).t ds G k E:=
 cC (by rw[h];rfl) λd' G' ⟨e1,e2⟩=>by rw[h]at e2;cases e2;rw[e1];exact hk
theorem gk{Z:aj}{body:Sxs}{m n:Nat}{f:List D->Option D}(h:∀ds G d,f ds=some d->au Z body noE (env0 ds m) G (ends λd' G'=>G'=G/\d'=d)):
  ∀ds G a,ds.length=n->(aH f).pre ds G a->au Z body noE (env0 ds m) G (ends ((aH f).post a)):=by
 refine cI λds G hf=>?_;obtain ⟨d,e⟩:=dv.mp hf;refine dJ body (D:=ends λd' G'=>G'=G/\d'=d) ⟨λY G' q=>?_,λd' G' q=>?_,λ_ _ q=>q,λ_ _ q=>q⟩ (h ds G d e)
 ·exact ⟨q.1,by rw[e];exact fE some q.2.symm⟩
 ·exact ⟨q.1,by rw[e];exact fE some q.2.symm⟩
theorem aeb{step:D->ak->DH->(ak->DH->Prop)->Prop}{g:Hld}{items:List D}{Y:ak}{G:DH}{k:ak->DH->Prop}(P:Nat->ak->DH->Prop)(h0:P 0 Y G)(hh:∀i Y G,P i Y G->held g G)
  (hs:∀i d Y G,items[i]?=some d->P i Y G->∀kk:ak->DH->Prop,(∀ρ' G',P (i+1) ρ' G'->kk ρ' G')->step d Y G kk) (he:∀Y G,P items.length Y G->k Y G):forLoop step g items Y G k:=by
 have go:∀(l:List D)(i:Nat)(Y:ak)(G:DH),items.drop i=l->i<=items.length->P i Y G->forLoop step g l Y G k:=by
  intro l;induction l with
  |nil=>
   intro i Y G e hi p;have:i=items.length:=by have:=fE List.length e;rw[cr]at this;simp at this;omega
   subst this;exact ⟨hh _ _ _ p,he _ _ p⟩
  |cons d l ih=>
   intro i Y G e hi p;have hl:i < items.length:=by
    by_cases h:i < items.length
    ·exact h
    ·rw[g7 (by omega)]at e;cases e
   rw[bo hl]at e;injection e with e1 e2;refine ⟨hh _ _ _ p,hs i d Y G (by rw[a8 hl,e1]) p _ λρ' G' p'=>ih (i+1) ρ' G' e2 hl p'⟩
 exact go _ 0 Y G (by simp) (ef _) h0
theorem JG{step:D->ak->DH->(Option D->ak->DH->Prop)->Prop}{g:Hld}{items acc:List D}{Y:ak}{G:DH}{k:List D->DH->Prop}(P:Nat->List D->ak->DH->Prop)(h0:P 0 acc Y G)(hh:∀i acc Y G,P i acc Y G->held g G)
  (hl:acc.length+items.length<=sz)
  (hs:∀i d acc Y G,items[i]?=some d->P i acc Y G->∀kk:Option D->ak->DH->Prop,(∀o ρ' G',P (i+1) (acc++o.toList) ρ' G'->kk o ρ' G')->step d Y G kk) (he:∀acc Y G,P items.length acc Y G->k acc G):compLoop step g items acc Y G k:=by
 have go:∀(l:List D)(i:Nat)(acc:List D)(Y:ak)(G:DH),items.drop i=l->i<=items.length->acc.length+l.length<=sz->P i acc Y G->compLoop step g l acc Y G k:=by
  intro l;induction l with
  |nil=>
   intro i acc Y G e hi ha p;have:i=items.length:=by have:=fE List.length e;rw[cr]at this;simp at this;omega
   subst this;exact ⟨hh _ _ _ _ p,by simpa using ha,he _ _ _ p⟩
  |cons d l ih=>
   intro i acc Y G e hi ha p;have hl:i < items.length:=by
    by_cases h:i < items.length
    ·exact h
    ·rw[g7 (by omega)]at e;cases e
   rw[bo hl]at e;injection e with e1 e2;have ha':acc.length+(l.length+1)<=sz:=ha;refine ⟨hh _ _ _ _ p,by omega,hs i d acc Y G (by rw[a8 hl,e1]) p _ λo ρ' G' p'=>?_⟩;cases o with
   |some y=>exact ih (i+1) (acc++[y]) ρ' G' e2 hl (by rw[aE];simp;omega) p'
   |none=>exact ih (i+1) acc ρ' G' e2 hl (by omega) (by simpa using p')
 exact go _ 0 acc Y G (by simp) (ef _) hl h0
theorem aec{step:D->ak->DH->(Option D->ak->DH->Prop)->Prop}{items:List D}{Y:ak}{G:DH}{k:List D->DH->Prop}(g:Hld)(f:D->Option D)(I:ak->Prop)(h0:I Y)(hg:held g G)(hl:items.length<=sz)
  (hs:∀d Y,d∈items->I Y->∀kk:Option D->ak->DH->Prop,(∀ρ',I ρ'->kk (f d) ρ' G)->step d Y G kk) (he:k (items.filterMap f) G):compLoop step g items [] Y G k:=by
 refine JG (λi acc ρ' G'=>I ρ'/\G'=G/\acc=(items.take i).filterMap f) ⟨h0,rfl,rfl⟩ (λi acc ρ' G' p=>by rw[p.2.1];exact hg) (by simpa using hl) ?_ ?_
 ·rintro i d acc ρ' G' hd ⟨p1,rfl,rfl⟩ kk hk;refine hs d ρ' (ba hd) p1 kk λρ2 i2=>hk _ _ _ ⟨i2,rfl,?_⟩;rw[cf,hd,List.filterMap_append];congr 1
 ·rintro acc ρ' G' ⟨_,rfl,rfl⟩;rw[ce];exact he
theorem aed{step:D->ak->DH->(Option D->ak->DH->Prop)->Prop}{items:List D}{Y:ak}{G:DH}{k:List D->DH->Prop}(g:Hld)(f:D->D)(I:ak->Prop)(h0:I Y)(hg:held g G)(hl:items.length<=sz)
  (hs:∀d Y,d∈items->I Y->∀kk:Option D->ak->DH->Prop,(∀ρ',I ρ'->kk (some (f d)) ρ' G)->step d Y G kk) (he:k (items.map f) G):compLoop step g items [] Y G k:=
 aec g (λd=>some (f d)) I h0 hg hl hs (by rw[<-List.filterMap_eq_map]at he;exact he)
theorem z6{α:Type}(f:α->Bool):∀l:List α,bools (l.map λx=>D.bl (f x))=some (l.map f)
 |[]=>rfl
 |x::l=>by simp[bools,z6 f l]
theorem strs_map{α:Type}(f:α->List Nat):∀l:List α,bJ (l.map λx=>D.str (f x))=some (l.map f)
 |[]=>rfl
 |x::l=>by simp[bJ,strs_map f l]
theorem JH:∀l:List (List Nat),fu [] l=l.flatten
 |[]=>rfl
 |[x]=>by simp[fu]
 |x::y::r=>by simp[fu,JH (y::r)]
def Sa(G G':DH):Prop:=∀b o,G b=some o->G' b=some o
def Sb(p:Addr)(G G':DH):Prop:=∀b o,G b=some o->b≠p->G' b=some o
theorem Sa.refl(G:DH):Sa G G:=λ_ _ h=>h
theorem Sb.refl(p:Addr)(G:DH):Sb p G G:=λ_ _ h _=>h
theorem Sa.trans{G G1 G2:DH}(a:Sa G G1)(b:Sa G1 G2):Sa G G2:=λc o h=>b c o (a c o h)
theorem Sb.trans{p:Addr}{G G1 G2:DH}(a:Sb p G G1)(b:Sb p G1 G2):Sb p G G2:=λc o h n=>b c o (a c o h n) n
theorem Sa.sb{p:Addr}{G G':DH}(a:Sa G G'):Sb p G G':=λc o h _=>a c o h
theorem Sa.new{G:DH}{p:Addr}{o:DO}(h:G p=none):Sa G (bx G p o):=λb u e=>by rw[cO (yj e h)];exact e
theorem Sb.upd{G:DH}{p:Addr}{o:DO}:Sb p G (bx G p o):=λb u e n=>by rw[cO n];exact e
theorem Sa.then{p:Addr}{G G1 G2:DH}(a:Sa G G1)(hp:G p=none)(b:Sb p G1 G2):Sa G G2:=λc o h=>b c o (a c o h) (yj h hp)
theorem JK{α:Type}{a:α}{l:List α}:atI (a::l) 0=some a:=bR (j:=0) rfl
theorem JL{α:Type}{a b:α}{l:List α}:atI (a::b::l) 1=some b:=bR (j:=1) rfl
theorem JM{α:Type}{a b c:α}{l:List α}:atI (a::b::c::l) 2=some c:=bR (j:=2) rfl
theorem JN{α:Type}{a b c d:α}{l:List α}:atI (a::b::c::d::l) 3=some d:=bR (j:=3) rfl
theorem JP{n j:Nat}(h:j < n):ixN n (j:Int)=some j:=by unfold ixN;rw[if_pos (by omega),if_pos (by omega)];simp
theorem JQ{n:Nat}:ixN (n+1) 0=some 0:=by unfold ixN;rw[if_pos (by omega),if_pos (by omega)];rfl
theorem JR{n:Nat}:ixN (n+2) 1=some 1:=by unfold ixN;rw[if_pos (by omega),if_pos (by omega)];rfl
theorem JS{n:Nat}:ixN (n+3) 2=some 2:=by unfold ixN;rw[if_pos (by omega),if_pos (by omega)];rfl
theorem aee{α:Type}{xs:List α}{i:Int}(h0:0<=i)(h1:i < xs.length):∃a,atI xs i=some a/\a∈xs:=by
 obtain ⟨n,rfl⟩:=dQ h0;have hn:n < xs.length:=by omega
 exact ⟨xs[n],bR (by simp[hn]),d4 _⟩
theorem JT{α:Type}(xs:List α)(lo hi:Option Int):(cut xs lo hi).length<=xs.length:=by unfold cut;rw[bX,cr];omega
theorem aef{l:List D}:b8 l []=l.isEmpty:=by cases l <;> rfl
theorem iR{α:Type}(l:List α)(n:Nat):cut l none (some (n:Int))=l.take n:=by
 unfold cut;rw[show HT.sIx l.length 0 none=0 from rfl,HT.Ei,gg,Nat.sub_zero];by_cases h:n<=l.length
 ·rw[Nat.min_eq_left h]
 ·rw[Nat.min_eq_right (by omega),eP (ay _),eP (by omega)]
theorem z7{α:Type}(l:List α)(n:Nat):cut l (some (n:Int)) none=l.drop n:=by
 unfold cut;rw[show HT.sIx l.length l.length none=l.length from rfl,HT.Ei];by_cases h:n<=l.length
 ·rw[Nat.min_eq_left h,eP (by rw[cr];exact ay _)]
 ·rw[Nat.min_eq_right (by omega),Nat.sub_self,List.take_zero,g7 (by omega)]
theorem vP{α:Type}(l:List α)(n:Nat):cut l (some ((n:Int)+1)) none=l.drop (n+1):=z7 l (n+1)
theorem vQ:∀{l:List D},(∀d∈l,nr d=true)->nrs l=true
 |[],_=>rfl
 |a::l,h=>by rw[nrs,h a aS,vQ λd hd=>h d (aI _ hd)];rfl
theorem vR{n:Nat}:∀{l:List D},(∀d∈l,dpt d<=n)->bj l<=n
 |[],_=>ef _
 |a::l,h=>by rw[bj];exact Nat.max_le.mpr ⟨h a aS,vR λd hd=>h d (aI _ hd)⟩
theorem JV{α:Type}{motive:List α->Prop}(l:List α)(nil:motive [])(snoc:∀(l:List α)(a:α),motive l->motive (l++[a])):motive l:=by
 have go:∀(n:Nat)(l:List α),l.length=n->motive l:=by
  intro n;induction n with
  |zero=>intro l h;rw[ee.mp h];exact nil
  |succ n ih=>
   intro l h;have hne:l≠[]:=by rintro rfl;simp at h
   rw[<-fN hne];exact snoc _ _ (ih _ (by rw[List.length_dropLast];omega))
 exact go _ l rfl
section
variable {G:DH} {k:D->DH->Prop} {fz:Bool} {kb:Bool->Prop} {kd:D->Prop} {p:Addr}
theorem JW{i j:Int}:cP .Add fz (.int i) (.int j) G k=k (.int (i+j)) G:=rfl
theorem JX{x y:List Nat}:cP .Add fz (.str x) (.str y) G k=(x.length+y.length<=sz/\k (.str (x++y)) G):=rfl
theorem JZ{x y:List D}:cP .Add fz (.lst x) (.lst y) G k=(x.length+y.length<=sz/\mk fz (x++y) G k):=rfl
theorem J0{x y:List D}:cP .Add fz (.tup x) (.tup y) G k=(x.length+y.length<=sz/\k (.tup (x++y)) G):=rfl
theorem J1{i j:Int}:cP .Sub fz (.int i) (.int j) G k=k (.int (i - j)) G:=rfl
theorem J2{i j:Int}:cP .Mult fz (.int i) (.int j) G k=(CMul i j/\k (.int (i * j)) G):=rfl
theorem J3{x:List D}{n:Int}:cP .Mult fz (.tup x) (.int n) G k=(2<=n/\n<=1000/\x≠[]/\x.length * n.toNat<=sz/\k (.tup (reps x n.toNat)) G):=rfl
theorem J4{x:List D}{n:Int}:cP .Mult fz (.lst x) (.int n) G k=(0<=n/\n<=1000/\x.length * n.toNat<=sz/\mk fz (reps x n.toNat) G k):=rfl
theorem J5{x:List Nat}{n:Int}:cP .Mult fz (.str x) (.int n) G k=(0<=n/\n<=1000/\x.length * n.toNat<=sz/\k (.str (reps x n.toNat)) G):=rfl
theorem J6{i j:Int}:cP .FloorDiv fz (.int i) (.int j) G k=((0 < j/\j < 1152921504606846976)/\k (.int (i / j)) G):=rfl
theorem J7{i j:Int}:cP .Mod fz (.int i) (.int j) G k=(0 < j/\k (.int (i % j)) G):=rfl
theorem J8{i j:Int}:cP .Pow fz (.int i) (.int j) G k=(sG i j/\k (.int (i ^ j.toNat)) G):=rfl
def gm:D->Bool
 |.non=>true
 |_=>false
theorem J9{a b:D}:bC .Eq a b kb=((nr a=true/\nr b=true/\min (dpt a) (dpt b)<=60)/\kb (deq a b)):=rfl
theorem Ka{a b:D}:bC .NotEq a b kb=((nr a=true/\nr b=true/\min (dpt a) (dpt b)<=60)/\kb (!deq a b)):=rfl
theorem Kc{i j:Int}:bC .Lt (.int i) (.int j) kb=kb (decide (i < j)):=rfl
theorem Kd{i j:Int}:bC .LtE (.int i) (.int j) kb=kb (decide (i<=j)):=rfl
theorem Ke{i j:Int}:bC .Gt (.int i) (.int j) kb=kb (decide (j < i)):=rfl
theorem Kf{i j:Int}:bC .GtE (.int i) (.int j) kb=kb (decide (j<=i)):=rfl
theorem Kg{i j:List Nat}:bC .Lt (.str i) (.str j) kb=kb (decide (i < j)):=rfl
theorem Kh{i j:List Nat}:bC .LtE (.str i) (.str j) kb=kb (!decide (j < i)):=rfl
theorem Kl{a:D}:bC .Is a .non kb=kb (gm a):=by cases a <;> rfl
theorem Km{a:D}:bC .IsNot a .non kb=kb (!gm a):=by cases a <;> rfl
theorem Ko{a b:Bool}:bC .Is (.bl a) (.bl b) kb=kb (a==b):=rfl
theorem Kp{a b:Bool}:bC .IsNot (.bl a) (.bl b) kb=kb (a != b):=rfl
theorem Kq{c:Nat}{l:List Nat}:bC .In (.str [c]) (.str l) kb=kb (l.contains c):=rfl
theorem Kr{c:Nat}{l:List Nat}:bC .NotIn (.str [c]) (.str l) kb=kb (!l.contains c):=rfl
theorem Ks{a:D}{l:List D}:bC .In a (.lst l) kb=((nr a=true/\nrs l=true/\bj l<=60)/\kb (isIn a l)):=rfl
theorem Ku{a:D}{l:List D}:bC .In a (.tup l) kb=((nr a=true/\nrs l=true/\bj l<=60)/\kb (isIn a l)):=rfl
theorem Kv{a:D}{l:List D}:bC .NotIn a (.lst l) kb=((nr a=true/\nrs l=true/\bj l<=60)/\kb (!isIn a l)):=rfl
theorem Kw{a:D}{l:List D}:bC .NotIn a (.tup l) kb=((nr a=true/\nrs l=true/\bj l<=60)/\kb (!isIn a l)):=rfl
theorem Ky{i:Int}:gm (.int i)=false:=rfl
theorem Kz{i:Bool}:gm (.bl i)=false:=rfl
theorem KC{i:List Nat}:gm (.str i)=false:=rfl
theorem KD{i:List D}:gm (.tup i)=false:=rfl
theorem KH{i:List D}:gm (.lst i)=false:=rfl
theorem KJ{i:Addr}:gm (.ref i)=false:=rfl
theorem KN:gm .non=true:=rfl
def bL{α:Type}(o:Option α)(k:α->Prop):Prop:=match o with |some a=>k a |none=>False
theorem KQ{α:Type}{a:α}{k:α->Prop}:bL (some a) k=k a:=rfl
theorem bw{α:Type}{o:Option α}{a:α}{k:α->Prop}(e:o=some a)(h:k a):bL o k:=by rw[e];exact h
theorem KR{α:Type}{xs:List α}{i:Int}{k:α->Prop}(h0:0<=i)(h1:i < xs.length)(h:∀a,a∈xs->k a):bL (atI xs i) k:=by obtain ⟨a,e,m⟩:=aee h0 h1;exact bw e (h a m)
theorem KY{ds:List D}{i:Int}:cG (.lst ds) (.int i) kd=bL (atI ds i) kd:=by unfold cG bL;(try dsimp only) <;> (cases atI ds i <;> rfl)
theorem KZ{ds:List D}{i:Int}:cG (.tup ds) (.int i) kd=bL (atI ds i) kd:=by unfold cG bL;(try dsimp only) <;> (cases atI ds i <;> rfl)
theorem K1{l:List Nat}{i:Int}:cG (.str l) (.int i) kd=bL (atI l i) (λc=>kd (.str [c])):=by unfold cG bL;(try dsimp only) <;> (cases atI l i <;> rfl)
theorem K3{ds:List D}{lo hi:Option Int}:eZ fz (.lst ds) lo hi G k=mk fz (cut ds lo hi) G k:=rfl
theorem aeg{ds:List D}{y:D}:iB fz (.tup ds) y G k=(y=.int (-1)/\k (.tup ds.reverse) G):=rfl
theorem K4{ds:List D}{y:D}:iB fz (.lst ds) y G k=(y=.int (-1)/\mk fz ds.reverse G k):=rfl
theorem K5{ds:List Int}{lo hi:Option Int}:eZ fz (.scr ds) lo hi G k=mk fz ((cut ds lo hi).map .int) G k:=rfl
theorem K6{ds:List D}{lo hi:Option Int}:eZ fz (.tup ds) lo hi G k=k (.tup (cut ds lo hi)) G:=rfl
theorem K7{ds:List Nat}{lo hi:Option Int}:eZ fz (.str ds) lo hi G k=k (.str (cut ds lo hi)) G:=rfl
theorem K8{ds:List D}:opB .len [.lst ds] kd=kd (.int ds.length):=rfl
theorem K9{ds:List D}:opB .len [.tup ds] kd=kd (.int ds.length):=rfl
theorem La{ds:List Nat}:opB .len [.str ds] kd=kd (.int ds.length):=rfl
theorem Lb{ds:List D}:opB .all [.lst ds] kd=bL (bools ds) (λbs=>kd (.bl (bs.all id))):=by unfold opB sU bL;(try dsimp only) <;> (cases bools ds <;> rfl)
theorem Ld{b:Bool}:opB .int [.bl b] kd=kd (.int (if b then 1 else 0)):=rfl
theorem Lg{b:Int}:opB .int [.int b] kd=kd (.int b):=rfl
theorem Lh{l:List Nat}:opB .int [.str l] kd=bL (PySem.intText? (tx l)) (λn=>l.length<=640/\kd (.int n)):=by unfold opB sV bL;(try dsimp only) <;> (cases PySem.intText? (tx l) <;> rfl)
theorem Li{ds:List D}:opB .sum [.lst ds] kd=bL (cB ds) (λns=>kd (.int ns.sum)):=by unfold opB sW bL;(try dsimp only) <;> (cases cB ds <;> rfl)
theorem Lj{a:Int}:opB .str [.int a] kd=((0<=a/\a < 100)/\kd (.str (iC a.toNat))):=rfl
theorem Lk{a:Int}:opB .abs [.int a] kd=kd (.int (if a < 0 then -a else a)):=rfl
theorem Ln{a b:Int}:opB .min2 [.int a,.int b] kd=kd (.int (if b < a then b else a)):=rfl
theorem Lp{a b:Int}:opB .max [.int a,.int b] kd=kd (.int (if b > a then b else a)):=rfl
theorem Lq{ds:List D}{kl:List D->Prop}:dg .sorted [.tup ds] kl=bL (cB ds) (λns=>ns.length < 64/\∀ns':List Int,ns'.Perm ns->ns'.Pairwise (·<=·)->kl (ns'.map D.int)):=by unfold dg sX bL;(try dsimp only) <;> (cases cB ds <;> rfl)
theorem Lr{ds:List D}{kl:List D->Prop}:dg .sorted [.lst ds] kl=bL (bJ ds) (λls=>ls.length < 64/\∀ls':List (List Nat),ls'.Perm ls->PyProof.Rows.sortedS (ls'.map tx)=true->kl (ls'.map D.str)):=by unfold dg sX bL;(try dsimp only) <;> (cases bJ ds <;> rfl)
theorem Ls{ds:List D}:opB .tuple [.lst ds] kd=kd (.tup ds):=rfl
theorem Lw{ds:List D}:opB .tuple [.tup ds] kd=kd (.tup ds):=rfl
theorem Lx{ds:List D}{kl:List D->Prop}:dg .list [.lst ds] kl=kl ds:=rfl
theorem Ly{ds:List D}{kl:List D->Prop}:dg .list [.tup ds] kl=kl ds:=rfl
theorem Lz{l:List Nat}{kl:List D->Prop}:dg .list [.str l] kl=kl (l.map λc=>.str [c]):=rfl
theorem LC{s:List Nat}{ds:List D}:opM .join (.str s) [.lst ds] G k=bL (bJ ds) (λls=>((ls.map (·.length)).sum+ls.length * s.length<=sz)/\k (.str (fu s ls)) G):=by unfold opM sY bL;(simp only[bp,d6,view]) <;> (cases bJ ds <;> rfl)
def trk(G:DH)(p:Addr)(k:List D->Prop):Prop:=match G p with |some (.lst ds)=>k ds |none=>False
theorem cU{ds:List D}{k:List D->Prop}(e:G p=some (.lst ds)):trk G p k=k ds:=by unfold trk;rw[e]
theorem LK{x:D}:opM .append (.ref p) [x] G k=trk G p (λds=>ds.length < sz/\k .non (bx G p (.lst (ds++[x])))):=by unfold opM sZ trk;(try dsimp only) <;> (cases G p <;> first |rfl | (rename_i o;cases o;rfl))
theorem LQ{x:D}{i:Int}:opM .insert (.ref p) [.int i,x] G k=trk G p (λds=>ds.length < sz/\0<=i/\i<=1000000/\k .non (bx G p (.lst (ds.take i.toNat++x::ds.drop i.toNat)))):=by unfold opM tu trk;(try dsimp only) <;> (cases G p <;> first |rfl | (rename_i o;cases o;rfl))
theorem LR:recv .insert (.ref p) G=trk G p (λ_=>True):=by unfold recv trk;(try dsimp only) <;> (cases G p <;> first |rfl | (rename_i o;cases o;rfl))
theorem Ma{xs:List D}:opM .extend (.ref p) [.lst xs] G k=trk G p (λds=>ds.length+xs.length < sz/\k .non (bx G p (.lst (ds++xs)))):=by unfold opM jZ trk;(simp only[bp,d6,view]) <;> (cases G p <;> first |rfl | (rename_i o;cases o;rfl))
theorem Mg{ds:List D}:opM .count (.lst ds) [.bl true] G k=bL (bools ds) (λbs=>k (.int (bs.count true:Nat)) G):=by unfold opM tB bL;(try dsimp only[view]) <;> (cases bools ds <;> rfl)
theorem Mh{ds:List D}:opM .index (.lst ds) [.bl true] G k=bL (bools ds) (λbs=>true∈bs/\k (.int (bs.idxOf true:Nat)) G):=by unfold opM tD bL;(try dsimp only[view]) <;> (cases bools ds <;> rfl)
theorem Mi{ds:List D}:recv .count (.lst ds) G=True:=rfl
theorem Mj{ds:List D}:recv .index (.lst ds) G=True:=rfl
theorem Ml{s:List Nat}:recv .join (.str s) G=True:=rfl
theorem Mm:recv .append (.ref p) G=trk G p (λ_=>True):=by unfold recv trk;(try dsimp only) <;> (cases G p <;> first |rfl | (rename_i o;cases o;rfl))
theorem Mp:recv .extend (.ref p) G=trk G p (λ_=>True):=by unfold recv trk;(try dsimp only) <;> (cases G p <;> first |rfl | (rename_i o;cases o;rfl))
theorem Mq{i:Int}{x:D}{kg:DH->Prop}:fB (.ref p) (.int i) x G kg=trk G p (λds=>bL (ixN ds.length i) (λj=>kg (bx G p (.lst (ds.set j x))))):=by
 unfold fB trk bL
 (try dsimp only) <;> (cases G p <;> first |rfl | (rename_i o;cases o;(try dsimp only) <;> (rename_i ds;cases ixN ds.length i <;> rfl)))
theorem Mr{i j:Int}:d7 .Add (.int i) (.int j) kd=kd (.int (i+j)):=rfl
theorem Ms{x y:List Nat}:d7 .Add (.str x) (.str y) kd=(x.length+y.length<=sz/\kd (.str (x++y))):=rfl
theorem Mt{i j:Int}:d7 .Sub (.int i) (.int j) kd=kd (.int (i - j)):=rfl
theorem Mu{xs:List D}:mk true xs G k=k (.lst xs) G:=rfl
theorem Mv{xs:List D}:mk false xs G k=∀p,G p=none->k (.ref p) (bx G p (.lst xs)):=rfl
theorem Mw:view G .non=.non:=rfl
theorem Mx{b:Bool}:view G (.bl b)=.bl b:=rfl
theorem My{b:Int}:view G (.int b)=.int b:=rfl
theorem Mz{b:List Nat}:view G (.str b)=.str b:=rfl
theorem MF{b:List D}:view G (.tup b)=.tup b:=rfl
theorem MJ{b:List D}:view G (.lst b)=.lst b:=rfl
theorem MK{C f:String}{q:Addr}:view G (.obj C f q)=.obj C f q:=rfl
theorem MN{b:String}:view G (.exn b)=.exn b:=rfl
theorem MP{b:List Int}:view G (.scr b)=.scr b:=rfl
theorem cY{ds:List D}(e:G p=some (.lst ds)):view G (.ref p)=.lst ds:=by unfold view;dsimp only;rw[e]
theorem MT:truth .non=some false:=rfl
theorem M3{b:Bool}:truth (.bl b)=some b:=rfl
theorem M4{i:Int}:truth (.int i)=some (i != 0):=rfl
theorem M5{l:List Nat}:truth (.str l)=some (!l.isEmpty):=rfl
theorem M6{l:List D}:truth (.tup l)=some (!l.isEmpty):=rfl
theorem M7{l:List D}:truth (.lst l)=some (!l.isEmpty):=rfl
theorem M8{l:List D}:itemsOf G (.lst l)=some (l,[]):=rfl
theorem M9{l:List D}:itemsOf G (.tup l)=some (l,[]):=rfl
theorem Nb{l:List Nat}:itemsOf G (.str l)=some (l.map λc=>.str [c],[]):=rfl
theorem Nf{t:String}:isT t .non=some false:=rfl
theorem Ng {t:String} {b:Bool}:isT t (.bl b)=some (t=="bool"||t=="int"):=rfl
theorem Nh {t:String} {b:Int}:isT t (.int b)=some (t=="int"):=rfl
theorem Ni {t:String} {b:List Nat}:isT t (.str b)=some (t=="str"):=rfl
theorem is_tup {t:String} {b:List D}:isT t (.tup b)=some (t=="tuple"):=rfl
theorem Nj {t:String} {b:List D}:isT t (.lst b)=some (t=="list"):=rfl
theorem Nk{i:Nat}{d:D}{Y:ak}{kr:ak->Prop}:aY (.nm i) d Y G kr=kr (Y.set i (some d)):=rfl
theorem Nm{ts:Tgs}{ds:List D}{Y:ak}{kr:ak->Prop}:aY (.tp ts) (.lst ds) Y G kr=cg ts ds Y G kr:=rfl
theorem Np{ts:Tgs}{ds:List D}{Y:ak}{kr:ak->Prop}:aY (.tp ts) (.tup ds) Y G kr=cg ts ds Y G kr:=rfl
theorem Nq{ρ:ak}{kr:ak->Prop}:cg .nil [] ρ G kr=kr ρ:=rfl
theorem Nr{t:Tg}{r:Tgs}{d:D}{ds:List D}{Y:ak}{kr:ak->Prop}:cg (.cons t r) (d::ds) Y G kr=aY t d Y G (λρ'=>cg r ds ρ' G kr):=rfl
theorem Nt:deq .non .non=true:=rfl
theorem Nu  {y:Bool}:deq .non (.bl y)=false:=rfl
theorem Nv  {y:Int}:deq .non (.int y)=false:=rfl
theorem Nx  {y:List Nat}:deq .non (.str y)=false:=rfl
theorem Ny  {y:List D}:deq .non (.tup y)=false:=rfl
theorem Nz  {y:List D}:deq .non (.lst y)=false:=rfl
theorem NB{x:Bool} :deq (.bl x) .non=false:=rfl
theorem NK{x:Bool}{y:Bool}:deq (.bl x) (.bl y)=(x==y):=by rw[deq]
theorem NP{x:Bool}{y:List Nat}:deq (.bl x) (.str y)=false:=rfl
theorem NQ{x:Bool}{y:List D}:deq (.bl x) (.tup y)=false:=rfl
theorem NT{x:Bool}{y:List D}:deq (.bl x) (.lst y)=false:=rfl
theorem NZ{x:Int} :deq (.int x) .non=false:=rfl
theorem N5{x:Int}{y:Int}:deq (.int x) (.int y)=(x==y):=by rw[deq]
theorem N6{x:Int}{y:List Nat}:deq (.int x) (.str y)=false:=rfl
theorem N7{x:Int}{y:List D}:deq (.int x) (.tup y)=false:=rfl
theorem N8{x:Int}{y:List D}:deq (.int x) (.lst y)=false:=rfl
theorem Oa{x:List Nat} :deq (.str x) .non=false:=rfl
theorem Ob{x:List Nat}{y:Bool}:deq (.str x) (.bl y)=false:=rfl
theorem Oc{x:List Nat}{y:Int}:deq (.str x) (.int y)=false:=rfl
theorem Od{x:List Nat}{y:List Nat}:deq (.str x) (.str y)=(x==y):=by rw[deq]
theorem Oe{x:List Nat}{y:List D}:deq (.str x) (.tup y)=false:=rfl
theorem Og{x:List Nat}{y:List D}:deq (.str x) (.lst y)=false:=rfl
theorem Oh{x:List D} :deq (.tup x) .non=false:=rfl
theorem Oi{x:List D}{y:Bool}:deq (.tup x) (.bl y)=false:=rfl
theorem Oj{x:List D}{y:Int}:deq (.tup x) (.int y)=false:=rfl
theorem Ol{x:List D}{y:List Nat}:deq (.tup x) (.str y)=false:=rfl
theorem Om{x:List D}{y:List D}:deq (.tup x) (.tup y)=b8 x y:=by rw[deq]
theorem Oo{x:List D}{y:List D}:deq (.tup x) (.lst y)=false:=rfl
theorem Oq{x:List D} :deq (.lst x) .non=false:=rfl
theorem Ot{x:List D}{y:Bool}:deq (.lst x) (.bl y)=false:=rfl
theorem Ou{x:List D}{y:Int}:deq (.lst x) (.int y)=false:=rfl
theorem Ov{x:List D}{y:List Nat}:deq (.lst x) (.str y)=false:=rfl
theorem Ow{x:List D}{y:List D}:deq (.lst x) (.tup y)=false:=rfl
theorem Oz{x:List D}{y:List D}:deq (.lst x) (.lst y)=b8 x y:=by rw[deq]
theorem OD:b8 [] []=true:=rfl
theorem OJ{a b:D}{as bs:List D}:b8 (a::as) (b::bs)=(deq a b&&b8 as bs):=by rw[b8]
theorem O1{b:D}{bs:List D}:b8 [] (b::bs)=false:=rfl
theorem O2{b:D}{bs:List D}:b8 (b::bs) []=false:=rfl
theorem O3 :nr .non=true:=rfl
theorem O4 :dpt .non=0:=rfl
theorem O5{x:Bool}:nr (.bl x)=true:=rfl
theorem O6{x:Bool}:dpt (.bl x)=0:=rfl
theorem O7{x:Int}:nr (.int x)=true:=rfl
theorem O8{x:Int}:dpt (.int x)=0:=rfl
theorem O9{x:List Nat}:nr (.str x)=true:=rfl
theorem Pa{x:List Nat}:dpt (.str x)=0:=rfl
theorem Pb{x:List D}:nr (.tup x)=nrs x:=by rw[nr]
theorem Pg{x:List D}:dpt (.tup x)=bj x+1:=by rw[dpt]
theorem Ph{x:List D}:nr (.lst x)=nrs x:=by rw[nr]
theorem Pj{x:List D}:dpt (.lst x)=bj x+1:=by rw[dpt]
theorem Pk:nrs []=true:=rfl
theorem Pn{a:D}{l:List D}:nrs (a::l)=(nr a&&nrs l):=by rw[nrs]
theorem Pq:bj []=0:=rfl
theorem Pr{a:D}{l:List D}:bj (a::l)=max (dpt a) (bj l):=by rw[bj]
end
theorem seq{Z:aj}{s:Sx}{r:Sxs}{E:EK}{Y:ak}{G:DH}{D:En}(h:∀M:ak->DH->Prop,(∀ρ' G',au Z r E ρ' G' D->M ρ' G')->wpS Z s E Y G { D with nx:=M }):au Z (.cons s r) E Y G D:=by rw[j5];exact h _ λ_ _ x=>x
theorem last{Z:aj}{s:Sx}{E:EK}{Y:ak}{G:DH}{D:En}(h:wpS Z s E Y G D):au Z (.cons s .nil) E Y G D:=by rw[j5];exact wpS_mono s (D:=D) (D':={ D with nx:=λρ' G'=>au Z .nil E ρ' G' D }) ⟨λρ' G' q=>(show au Z .nil E ρ' G' D from by rw[j4];exact q),λ_ _ q=>q,λ_ _ q=>q,λ_ _ q=>q⟩ h
theorem done{Z:aj}{E:EK}{Y:ak}{G:DH}{D:En}(h:D.nx Y G):au Z .nil E Y G D:=by rw[j4];exact h
section
variable {Z:aj} {E:EK} {ρ:ak} {G:DH}
def ForG(Z:aj)(t:Tg)(body:Sxs)(E:EK)(D:En)(items:List RF.D)(g:Hld)(ρ:ak)(G:DH):Prop:=
 forLoop (λd ρ' G' k=>aY t d ρ' G' λρ1=>au Z body E ρ1 G' { D with nx:=k,ct:=k,bk:=D.nx }) g items ρ G D.nx
theorem Pu{t:Tg}{it:It'}{body:Sxs}{D:En}:wpS Z (.for_ t it body) E ρ G D=wpI Z it E ρ G λitems g G1=>ForG Z t body E D items g ρ G1:=rfl
theorem ForG.inv{t:Tg}{body:Sxs}{D:En}{items:List RF.D}{g:Hld}(P:Nat->ak->DH->Prop)(h0:P 0 ρ G)(hh:∀i ρ G,P i ρ G->held g G)
  (hs:∀i d ρ G,items[i]?=some d->P i ρ G->∀kk:ak->DH->Prop,(∀ρ' G',P (i+1) ρ' G'->kk ρ' G')->aY t d ρ G λρ1=>au Z body E ρ1 G { D with nx:=kk,ct:=kk,bk:=D.nx })
  (he:∀ρ G,P items.length ρ G->D.nx ρ G):ForG Z t body E D items g ρ G:=aeb P h0 hh hs he
def CompG(Z:aj)(elt:Ex)(tg:Tg)(cond:Tx)(items:List D)(g:Hld)(ρ:ak)(G:DH)(k:List D->DH->Prop):Prop:=
 compLoop (λd ρ' G' k'=>aY tg d ρ' G' λρ1=>wpT Z cond noE ρ1 G' λb G2=>match b with |true=>wpE Z elt noE ρ1 G2 λy G3=>k' (some y) ρ1 G3 |false=>k' none ρ1 G2) g items [] ρ G k
def kJ(cap:List (Option Nat))(ρ:ak):ak:=cap.map λo=>match o with |none=>none |some j=>(ρ[j]?).join
theorem Px{ρ:ak}:kJ [] ρ=[]:=rfl
theorem Py{cap:List (Option Nat)}{ρ:ak}:kJ (none::cap) ρ=none::kJ cap ρ:=rfl
theorem Pz{cap:List (Option Nat)}{ρ:ak}{j:Nat}:kJ (some j::cap) ρ=(ρ[j]?).join::kJ cap ρ:=rfl
theorem PK{fz:Bool}{elt:Ex}{tg:Tg}{it:It'}{cond:Tx}{N:List String}{cap:List (Option Nat)}{k:D->DH->Prop}:
  wpE Z (.comp fz elt tg it cond N cap) E ρ G k=wpI Z it E ρ G λitems g G1=>CompG Z elt tg cond items g (kJ cap ρ) G1 λds G2=>mk fz ds G2 k:=rfl
theorem CompG.inv{elt:Ex}{tg:Tg}{cond:Tx}{items:List D}{g:Hld}{k:List D->DH->Prop}(P:Nat->List D->ak->DH->Prop)(h0:P 0 [] ρ G)(hh:∀i acc ρ G,P i acc ρ G->held g G)(hl:items.length<=sz)
  (hs:∀i d acc ρ G,items[i]?=some d->P i acc ρ G->∀kk:Option D->ak->DH->Prop,(∀o ρ' G',P (i+1) (acc++o.toList) ρ' G'->kk o ρ' G')->
   aY tg d ρ G λρ1=>wpT Z cond noE ρ1 G λb G2=>match b with |true=>wpE Z elt noE ρ1 G2 λy G3=>kk (some y) ρ1 G3 |false=>kk none ρ1 G2)
  (he:∀acc ρ G,P items.length acc ρ G->k acc G):CompG Z elt tg cond items g ρ G k:=JG P h0 hh (by simpa using hl) hs he
theorem CompG.map{elt:Ex}{tg:Tg}{cond:Tx}{items:List D}{g:Hld}{k:List D->DH->Prop}(f:D->D)(I:ak->Prop)(h0:I ρ)(hg:held g G)(hl:items.length<=sz)
  (hs:∀d ρ,d∈items->I ρ->∀kk:Option D->ak->DH->Prop,(∀ρ',I ρ'->kk (some (f d)) ρ' G)->aY tg d ρ G λρ1=>wpT Z cond noE ρ1 G λb G2=>match b with |true=>wpE Z elt noE ρ1 G2 λy G3=>kk (some y) ρ1 G3 |false=>kk none ρ1 G2)
  (he:k (items.map f) G):CompG Z elt tg cond items g ρ G k:=aed g f I h0 hg hl hs he
def WhlG(Z:aj)(c:Tx)(body:Sxs)(E:EK)(D:En)(n:Nat)(ρ:ak)(G:DH):Prop:=
 whileLoop (λρ' G' k=>wpT Z c E ρ' G' k) (λρ' G' k=>au Z body E ρ' G' { D with nx:=k,ct:=k,bk:=D.nx }) n ρ G D.nx
theorem z8{c:Tx}{body:Sxs}{D:En}:wpS Z (.whl c body) E ρ G D=∃n,WhlG Z c body E D n ρ G:=rfl
theorem WhlG.inv{c:Tx}{body:Sxs}{D:En}(P:Nat->ak->DH->Prop)(hs:∀n ρ G,P n ρ G->wpT Z c E ρ G λb G1=>match b with |true=>∀kk:ak->DH->Prop,(∀m ρ' G',m < n->P m ρ' G'->kk ρ' G')->au Z body E ρ G1 { D with nx:=kk,ct:=kk,bk:=D.nx } |false=>D.nx ρ G1):
  ∀n ρ G,P n ρ G->WhlG Z c body E D (n+1) ρ G:=by
 intro n;induction n using Nat.strongRecOn with
 |_ n ih=>
  intro ρ G p;refine dh c (λb G1 q=>?_) (hs n ρ G p);cases b with
  |false=>exact q
  |true=>
   refine q _ λm ρ' G' hm p'=>?_;have:=ih m hm ρ' G' p';have up:∀(i j:Nat)(ρ:ak)(G:DH),i<=j->WhlG Z c body E D i ρ G->WhlG Z c body E D j ρ G:=by
    intro i;induction i with
    |zero=>intro j ρ G _ h;exact h.elim
    |succ i ihi=>
     intro j ρ G hij h;cases j with
     |zero=>omega
     |succ j=>
      refine dh c (λb G1 q=>?_) h;cases b with
      |false=>exact q
      |true=>exact dJ body (D:={ D with nx:=λρ' G'=>WhlG Z c body E D i ρ' G',ct:=λρ' G'=>WhlG Z c body E D i ρ' G',bk:=D.nx }) ⟨λρ' G' z=>ihi j ρ' G' (by omega) z,λ_ _ z=>z,λ_ _ z=>z,λρ' G' z=>ihi j ρ' G' (by omega) z⟩ q
   exact up (m+1) n ρ' G' hm this
end
theorem len0{α:Type}{l:List α}(h:l.length=0):l=[]:=ee.mp h
theorem mJ{α:Type}{n:Nat}{l:List α}(h:l.length=n+1):∃a r,l=a::r/\r.length=n:=by
 cases l with
 |nil=>cases h
 |cons a r=>exact ⟨a,r,rfl,Nat.succ.inj h⟩
theorem cF{α:Type}{l:List α}(h:l.length=1):∃a,l=[a]:=by obtain ⟨a,r,rfl,h2⟩:=mJ h;cases len0 h2;exact ⟨a,rfl⟩
theorem bA{α:Type}{l:List α}(h:l.length=2):∃a b,l=[a,b]:=by obtain ⟨a,r,rfl,h2⟩:=mJ h;obtain ⟨b,rfl⟩:=cF h2;exact ⟨a,b,rfl⟩
theorem ie{α:Type}{l:List α}(h:l.length=3):∃a b c,l=[a,b,c]:=by obtain ⟨a,r,rfl,h2⟩:=mJ h;obtain ⟨b,c,rfl⟩:=bA h2;exact ⟨a,b,c,rfl⟩
theorem PL{α:Type}{l:List α}(h:l.length=4):∃a b c d,l=[a,b,c,d]:=by obtain ⟨a,r,rfl,h2⟩:=mJ h;obtain ⟨b,c,d,rfl⟩:=ie h2;exact ⟨a,b,c,d,rfl⟩
theorem aeh{α:Type}{l:List α}(h:l.length=5):∃a b c d e,l=[a,b,c,d,e]:=by obtain ⟨a,r,rfl,h2⟩:=mJ h;obtain ⟨b,c,d,e,rfl⟩:=PL h2;exact ⟨a,b,c,d,e,rfl⟩
structure Fo(Z:aj)(P:Program)(w:World)(K:PF)(mg:Str->Option Value)(base:Heap)(k:Nat)(f:String)(n:Nat):Prop where
 ex:∃fa fd ps,FnOk P w K mg base (CX1 P w) k fa fd ps (lift K n (Z f))/\PySem.W.keepIn K (.ref fa)=true/\Binds K fd ps []/\mg (Str.ofString f)=some (.ref fa)
section
variable {Z:aj} {P:Program} {w:World} {K:PF} {mg:Str->Option Value} {base:Heap} {k:Nat} {xs:List (String×Bool)} {ot:OT}
def AllF(Z:aj)(P:Program)(w:World)(K:PF)(mg:Str->Option Value)(base:Heap)(k:Nat):List (String×Nat)->Prop
 |[]=>True
 | (f,n)::r=>Fo Z P w K mg base k f n/\AllF Z P w K mg base k r
def AllB(mg:Str->Option Value):List String->Prop
 |[]=>True
 |f::r=>mg (Str.ofString f)=none/\AllB mg r
def AllC(K:PF)(mg:Str->Option Value):List (String×D)->Prop
 |[]=>True
 | (x,d)::r=>(∃u v,mg (Str.ofString x)=some u/\RelV v u/\∀H F,Rep K H F d v)/\AllC K mg r
theorem AllF.get:∀{fs:List (String×Nat)}{f:String}{n:Nat},AllF Z P w K mg base k fs->(f,n)∈fs->Fo Z P w K mg base k f n
 | (f',n')::r,f,n,h,m=>by
  rcases ci.mp m with e |m
  ·cases e;exact h.1
  ·exact AllF.get h.2 m
theorem AllB.get:∀{fs:List String}{f:String},AllB mg fs->f∈fs->mg (Str.ofString f)=none
 |f'::r,f,h,m=>by
  rcases ci.mp m with e |m
  ·cases e;exact h.1
  ·exact AllB.get h.2 m
theorem AllC.get:∀{fs:List (String×D)}{x:String}{d:D},AllC K mg fs->(x,d)∈fs->∃u v,mg (Str.ofString x)=some u/\RelV v u/\∀H F,Rep K H F d v
 | (f',n')::r,f,n,h,m=>by
  rcases ci.mp m with e |m
  ·cases e;exact h.1
  ·exact AllC.get h.2 m
def cvB(K:PF)(C':String):Option V:=match PySem.W.nsIn K mainGlobals (Str.ofString C') with
 |some (some (.ref a))=>if Ga K a then some (.ref a) else none
 |some none=>if C'=="ValueError" then some (.ty "ValueError") else none
 |_=>none
def xiB(K:PF)(C C':String)(cv:V):Bool:=match PySem.W.nsIn K mainGlobals (Str.ofString C) with
 |some (some (.ref c))=>FW K c&&PySem.W.mroIn K c (valOf cv)==some (iD C C')&&(iD C C'||!(Value.ref c==valOf cv))
 |_=>false
def z9(K:PF)(C:String):Bool:=match PySem.W.nsIn K mainGlobals (Str.ofString C) with
 |some (some (.ref c))=>jm K c
 |_=>false
def xsB(K:PF)(xs:List (String×Bool)):Bool:=xs.all λp=>match p.2 with
 |true=>z9 K p.1
 |false=>(cvB K p.1).any λcv=>xs.all λq=>!q.2||xiB K q.1 p.1 cv
theorem aei{h:Heap}(X:K.In h)(Gh:h.Ns mainGlobals mg){xs:List (String×Bool)}(e:xsB K xs=true)(C:String)(hC:xs.contains (C,true)=true):∃a,mg (Str.ofString C)=some (.ref a)/\jm K a=true/\PySem.W.nsIn K mainGlobals (Str.ofString C)=some (some (.ref a)):=by
 have e1:z9 K C=true:=cq.mp e _ (ca.mp hC);unfold z9 at e1;split at e1
 ·rename_i a hn;exact ⟨a,PySem.W.mg_of X Gh hn,e1,hn⟩
 ·cases e1
theorem aej{h:Heap}(X:K.In h)(Gh:h.Ns mainGlobals mg){xs:List (String×Bool)}(e:xsB K xs=true)(C':String)(hC:xs.contains (C',false)=true):∃cv,CV K mg C' cv/\∀C,xs.contains (C,true)=true->XI K C C' cv:=by
 have e1:((cvB K C').any λcv=>xs.all λq=>!q.2||xiB K q.1 C' cv)=true:=cq.mp e _ (ca.mp hC);obtain ⟨cv,hcv,h2⟩:=bu e1;refine ⟨cv,?_,λC hC=>?_⟩
 ·unfold cvB at hcv;split at hcv
  ·rename_i a hn;split at hcv
   ·rename_i hb;cases hcv;exact .inl ⟨a,rfl,PySem.W.mg_of X Gh hn,hb⟩
   ·cases hcv
  ·rename_i hn;split at hcv
   ·rename_i hb;cases hcv;exact .inr ⟨a9.mp hb,rfl,PySem.W.mg_none_of X Gh hn⟩
   ·cases hcv
  ·cases hcv
 ·have e3:(!true||xiB K C C' cv)=true:=cq.mp h2 _ (ca.mp hC);have e3:xiB K C C' cv=true:=e3;unfold xiB at e3;split at e3
  ·rename_i c hn;rw[ae,ae,a9]at e3;refine ⟨c,hn,e3.1.1,e3.1.2,λhs=>?_⟩;have:=e3.2;rw[hs,Bool.false_or,ga]at this;exact this
  ·cases e3
theorem bse{h:Heap}{fs:List (String×Nat)}{bt:List String}{cn:List (String×D)}(h1:AllF Z P w K mg base k fs)(h2:AllB mg bt)(h3:AllC K mg cn)(X:K.In h)(Gh:h.Ns mainGlobals mg)(e:xsB K xs=true):Bse Z P w K mg base (CX1 P w) k fs bt cn xs {}:=
 ⟨λ_ _ m=>(h1.get m).ex,λ_ m=>h2.get m,λ_ _ m=>h3.get m,aei X Gh e,aej X Gh e,(λ_ _ _ _ h=>(nomatch h)),(λ_ _ h=>(nomatch h)),(λ_ _ h=>(nomatch h))⟩
theorem Aa{x:String}{i:Int}{t:Tok}(h:mg (Str.ofString x)=some (.int i t)):∃u v,mg (Str.ofString x)=some u/\RelV v u/\∀H F,Rep K H F (.int i) v:=⟨_,.int i,h,⟨t,rfl⟩,λ_ _=>rfl⟩
theorem aek{x:String}{l:List Nat}{s:Str}{t:Tok}(h:mg (Str.ofString x)=some (.str s t))(e:s=tx l)(hl:l.length<=sz):∃u v,mg (Str.ofString x)=some u/\RelV v u/\∀H F,Rep K H F (.str l) v:=⟨_,.str s,h,⟨t,rfl⟩,λ_ _=>⟨by rw[e],hl⟩⟩
theorem Ab{n:Nat}{S:RF.Spec}{fa:Addr}{fd:FuncData}{ps:List Str}(h:∀ds G a,¬S.pre ds G a):FnOk P w K mg base (CX1 P w) k fa fd ps (lift K n S):=
 ⟨λ_ _ _ _ ⟨_,_,_,_,_,_,a,hp,_⟩=>absurd hp (h _ _ a),λ_ _ _ _ _ _ _ _ _ _ _ _ _ ⟨_,_,_,_,_,_,a,hp,_⟩=>absurd hp (h _ _ a)⟩
end
section
variable {Z:aj} {P:Program} {w:World} {K:PF} {mg:Str->Option Value} {base:Heap} {k j n:Nat} {fs:List (String×Nat)} {bt:List String} {cn:List (String×D)} {xs:List (String×Bool)} {ot:OT} {x:String} {S:RF.Spec} {fa:Addr} {fd:FuncData} {ps:List Str}
theorem MthOk.mono{f C m:String}(h:MthOk Z P w K mg base (CX1 P w) k f C m n)(hk:k<=j):MthOk Z P w K mg base (CX1 P w) j f C m n:=by obtain ⟨c,fa,fd,ps,h1,h2,h3,h4,h5⟩:=h;exact ⟨c,fa,fd,ps,h1,h2,h3,h4,h5.mono hk⟩
theorem MkoOk.mono{C:String}(h:MkoOk Z P w K mg base (CX1 P w) k C n)(hk:k<=j):MkoOk Z P w K mg base (CX1 P w) j C n:=by obtain ⟨c,fa,fd,ps,sp,i,h0,h⟩:=h;exact ⟨c,fa,fd,ps,sp,i,cp h0 hk,h⟩
theorem Bse.add(B:Bse Z P w K mg base (CX1 P w) k fs bt cn xs ot)(e:Z x=S)(o:FnOk P w K mg base (CX1 P w) (k+j) fa fd ps (lift K n S))(h2:PySem.W.keepIn K (.ref fa)=true)(h3:Binds K fd ps [])(h4:mg (Str.ofString x)=some (.ref fa)):Bse Z P w K mg base (CX1 P w) (k+j) ((x,n)::fs) bt cn xs ot:=by
 refine ⟨λf m hm=>?_,B.blt,B.con,B.xcl,B.xis,λf C m n h=>(B.mth f C m n h).mono (e7 _ _),λC n h=>(B.mko C n h).mono (e7 _ _),B.fld⟩;rcases ci.mp hm with e' |hm
 ·cases e';exact ⟨fa,fd,ps,by rw[e];exact o,h2,h3,h4⟩
 ·obtain ⟨fa,fd,ps,h1,h⟩:=B.call f m hm;exact ⟨fa,fd,ps,h1.mono (e7 _ _),h⟩
theorem Bse.step{qual:Str}{st:Stmt}{N:List Str}{body:Sxs}(B:Bse Z P w K mg base (CX1 P w) k fs bt cn xs ot)(F:Fun K (Str.ofString x) qual st fa fd)(h3:Binds K fd ps [])(h4:mg (Str.ofString x)=some (.ref fa))(e:Z x=S)(m:Nat)
  (hs:fnB N ps (aq st)=true) (hc:aC (aG N (aq st) fs bt cn xs ot) body (aF st)=true) (hn:ps.length=n) (hm:N.length=n+m)
  (hw:∀ds G a,ds.length=n->S.pre ds G a->au Z body noE (env0 ds m) G (ends (S.post a))):Bse Z P w K mg base (CX1 P w) (k+1) ((x,n)::fs) bt cn xs ot:=
 B.add e (mH F B S n m hs hc hn hm hw) F.kp h3 h4
def iT(Z:aj)(x:String)(S:RF.Spec):aj:=λf=>if f=x then S else Z f
theorem kO{y:String}(e:Z y=S){S':RF.Spec}(h:(y==x)=false):iT Z x S' y=S:=by unfold iT;rw[if_neg (by simpa using h)];exact e
theorem Bse.self(B:Bse Z P w K mg base (CX1 P w) k fs bt cn xs {})(hx:(fs.map (·.1)).contains x=false)(o:FnOk P w K mg base (CX1 P w) (k+j) fa fd ps (lift K n S))(h2:PySem.W.keepIn K (.ref fa)=true)(h3:Binds K fd ps [])(h4:mg (Str.ofString x)=some (.ref fa)):Bse (iT Z x S) P w K mg base (CX1 P w) (k+j) ((x,n)::fs) bt cn xs {}:=by
 refine ⟨λf m hm=>?_,B.blt,B.con,B.xcl,B.xis,(λ_ _ _ _ h=>(nomatch h)),(λ_ _ h=>(nomatch h)),(λ_ _ h=>(nomatch h))⟩;rcases ci.mp hm with e' |hm'
 ·cases e';exact ⟨fa,fd,ps,by unfold iT;rw[if_pos rfl];exact o,h2,h3,h4⟩
 ·obtain ⟨fa,fd,ps,h1,h⟩:=B.call f m hm';have hf:f≠x:=by
   rintro rfl;rw[<-gp,ca]at hx;exact hx (bb.mpr ⟨(f,m),hm',rfl⟩)
  exact ⟨fa,fd,ps,by unfold iT;rw[if_neg hf];exact h1.mono (e7 _ _),h⟩
end
theorem ael{S:RF.Spec}(hS:∀(ns:List Int)(G:DH),ns.length<=63->∃a,S.pre [.scr ns] G a/\(∀d G',S.post a d G'->d=.bl true)/\∀x G',¬S.exc a x G')(K:PF)(H:Hp)(a:Addr)(ns:List Int)(hl:ns.length<=63)(hO:Only H)(hs:SqL K H a (ns.map V.int)):
  lift K 1 S [.ref a] H (λv _=>v=.bl true) λ_ _ _=>False:=by
 obtain ⟨b,h1,h2,h3⟩:=hS ns (λ_=>none) hl;refine ⟨rfl,λ_=>False,λ_=>none,[.scr ns],⟨λ_ f=>f.elim,λ_ _ e=>by cases e⟩,⟨.ref a,[],rfl,⟨a,rfl,?_⟩,rfl⟩,b,h1,λd G' q H' F' v _ _ rv=>?_,λx G' q=>absurd q (h3 x G')⟩
 ·rcases hs with (h |h) |h
  ·exfalso;rcases hO a with z |⟨o,u,z⟩
   ·rw[z]at h;cases h
   ·rw[z]at h;cases h
  ·exact .inl h
  ·exact .inr h
 ·rw[h2 d G' q]at rv;exact rv
theorem aem{pre:List D->DH->Prop}(h:∀(ns:List Int)(G:DH),ns.length<=63->pre [.scr ns] G):∀(ns:List Int)(G:DH),ns.length<=63->∃a,(bV pre (λ_ _ d _=>d=.bl true)).pre [.scr ns] G a/\(∀d G',(bV pre (λ_ _ d _=>d=.bl true)).post a d G'->d=.bl true)/\∀x G',¬(bV pre (λ_ _ d _=>d=.bl true)).exc a x G':=
 λns G hl=>⟨([.scr ns],G),⟨rfl,h ns G hl⟩,λ_ _ q=>q,λ_ _ z=>z⟩
def ghS{A:Type}(pre:A->List D->DH->Prop)(post:A->DH->D->DH->Prop):RF.Spec where
 A:=A×DH
 pre:=λds G a=>a.2=G/\pre a.1 ds G
 post:=λa d G'=>post a.1 a.2 d G'
 exc:=λ_ _ _=>False
theorem gn{A:Type}{pre:A->List D->DH->Prop}{post:A->DH->D->DH->Prop}{ds:List D}{G:DH}{k:D->DH->Prop}{E:EK}(a:A)(h:pre a ds G)(hk:∀d G',post a G d G'->k d G'):(ghS pre post).t ds G k E:=
 ⟨(a,G),⟨rfl,h⟩,hk,λ_ _ z=>z.elim⟩
theorem gr{A:Type}{Z:aj}{body:Sxs}{m n:Nat}{pre:A->List D->DH->Prop}{post:A->DH->D->DH->Prop}(h:∀a ds G,pre a ds G->au Z body noE (env0 ds m) G (ends (post a G))):
  ∀ds G a,ds.length=n->(ghS pre post).pre ds G a->au Z body noE (env0 ds m) G (ends ((ghS pre post).post a)):=by
 rintro ds G ⟨a,G0⟩ _ ⟨rfl,h1⟩;exact h a ds _ h1
def bO{A:Type}(args:A->List D)(ok:A->Prop)(val:A->D):RF.Spec:=ghS (λa ds _=>ds=args a/\ok a) (λa G d G'=>G'=G/\d=val a)
theorem bQ{A:Type}{args:A->List D}{ok:A->Prop}{val:A->D}{ds:List D}{G:DH}{k:D->DH->Prop}{E:EK}(a:A)(e:ds=args a)(h:ok a)(hk:k (val a) G):(bO args ok val).t ds G k E:=
 gn a ⟨e,h⟩ λd G' ⟨e1,e2⟩=>by subst e1 e2;exact hk
theorem bY{A:Type}{Z:aj}{body:Sxs}{m n:Nat}{args:A->List D}{ok:A->Prop}{val:A->D}(h:∀a G,ok a->au Z body noE (env0 (args a) m) G (ends λd G'=>G'=G/\d=val a)):
  ∀ds G a,ds.length=n->(bO args ok val).pre ds G a->au Z body noE (env0 ds m) G (ends ((bO args ok val).post a)):=
 gr λa ds G ⟨e,h1⟩=>by subst e;exact h a G h1
theorem ai{a b:Prop}(x:a)(y:b):a/\b:=⟨x,y⟩
def PN:=ai @uC (ai @iH (ai @uD (ai @uE (ai @uF (ai @uG (ai @uH (ai @uI (ai @uJ (ai @uK (ai @uL (ai (ai @uN (ai @lQ (ai @yR (ai @yS (ai (ai @yX (ai @yU (ai @yV @yW))) (ai @yZ (ai @za (ai (ai @yG (ai (ai (ai @yI (ai @yJ (ai @yK @yL))) (ai @yH @yM)) (ai @yN (ai @yO @yP)))) (ai @yQ @uM))))))))) (ai @Pu (ai @z8 (ai (ai @ud (ai @tM (ai @tQ (ai @tR (ai @j0 (ai @jq (ai @iG (ai @tU (ai @lL (ai @tV (ai @lM (ai @tW (ai @tX (ai @tY (ai @tZ (ai @t6 (ai @t7 (ai @yF (ai @t8 @uc))))))))))))))))))) (ai @jr (ai @ue (ai @uf (ai @ug (ai @lN (ai @lO (ai @uh (ai @um (ai @uo (ai @uq (ai @ur (ai @ut (ai (ai @uw @uv) (ai @ux (ai @uy (ai @uz (ai @uA (ai @gb (ai @uB (ai @PK (ai @JW (ai @JX (ai @JZ (ai @J0 (ai @J1 (ai @J2 (ai (ai @J5 (ai @J4 @J3)) (ai @J6 (ai @J7 (ai @J8 (ai @J9 (ai @Ka (ai @Kc (ai @Kd (ai @Ke (ai @Kf (ai @Kg (ai @Kh (ai @Kl (ai @Km (ai @Ko (ai @Kp (ai @Kq (ai @Kr (ai @Ks (ai @Ku (ai @Kv (ai @Kw (ai @Ky (ai @Kz (ai @KC (ai @KD (ai @KH (ai @KJ (ai @KN (ai @KY (ai @KZ (ai @K1 (ai @K3 (ai (ai @K5 @K4) (ai @K6 (ai @K7 (ai @K8 (ai @K9 (ai @La (ai @Lb (ai @Ld (ai @Lg (ai @Lh (ai @Li (ai (ai @Lr @Lq) (ai (ai @Ls (ai (ai @Lp (ai @Lk @Ln)) @Lj)) (ai @Lw (ai @Lx (ai @Ly (ai @Lz (ai (ai @LC (ai @Mg (ai @Mh (ai @Mi (ai @Mj (ai @MN @MK)))))) (ai @LK (ai (ai @Ma (ai @LQ @LR)) (ai @Ml (ai @Mm (ai @Mp (ai @Mq (ai @Mr (ai @Ms (ai @Mt (ai @Mu (ai @Mv (ai @Mw (ai @Mx (ai @My (ai @Mz (ai @MF (ai @MJ (ai @MP (ai @MT (ai @M3 (ai @M4 (ai @M5 (ai @M6 (ai @M7 (ai @M8 (ai @M9 (ai @Nb (ai @Nf (ai @Ng (ai @Nh (ai @Ni (ai @is_tup (ai @Nj (ai @Nk (ai (ai @Np @Nm) (ai @Nq (ai @Nr (@KQ)))))))))))))))))))))))))))))))))))))))))))))))))))))))))))))))))))))))))))))))))))))))))))))))))))))))))))))))))))))))))))))))))
theorem aen:type_of% (ag @j4 @j5):=ag @j4 @j5
theorem PP:type_of% (ag @Px (ag @Py (ag @Pz (ag @Option.join_some.{0} (ag @bp.{0,0} (ag @d6.{0,0} (ag @List.cons_append.{0} (ag @fS.{0} (ag @de.{0} (ag @List.replicate_zero.{0} (ag @List.getElem?_cons_zero.{0} (ag @ic.{0} (ag @List.set_cons_zero.{0} (ag @List.set_cons_succ.{0} (ag @cS.{0} (ag @List.length_nil.{0} (ag @JK (ag @JL (ag @JM (ag @JN (ag @JQ (ag @JR (ag @JS (ag @true_and (ag @fF (ag @Nat.min_self (ag @Nat.zero_min (ag @Nat.min_zero (ag @ef (ag @Bool.or_false (ag @Bool.or_true (ag @Bool.false_or (ag @Bool.true_or (ag @Bool.not_true (ag @Bool.not_false (ag @Nt (ag @Nu (ag @Nv (ag @Nx (ag @Ny (ag @Nz (ag @NB (ag @NK (ag @NP (ag @NQ (ag @NT (ag @NZ (ag @N5 (ag @N6 (ag @N7 (ag @N8 (ag @Oa (ag @Ob (ag @Oc (ag @Od (ag @Oe (ag @Og (ag @Oh (ag @Oi (ag @Oj (ag @Ol (ag @Om (ag @Oo (ag @Oq (ag @Ot (ag @Ou (ag @Ov (ag @Ow (ag @Oz (ag @OD (ag @OJ (ag @O1 (ag @O2 (ag @O3 (ag @O4 (ag @O5 (ag @O6 (ag @O7 (ag @O8 (ag @O9 (ag @Pa (ag @Pb (ag @Pg (ag @Ph (ag @Pj (ag @Pk (ag @Pn (ag @Pq (@Pr))))))))))))))))))))))))))))))))))))))))))))))))))))))))))))))))))))))))))))))))))))))))):=ag @Px (ag @Py (ag @Pz (ag @Option.join_some.{0} (ag @bp.{0,0} (ag @d6.{0,0} (ag @List.cons_append.{0} (ag @fS.{0} (ag @de.{0} (ag @List.replicate_zero.{0} (ag @List.getElem?_cons_zero.{0} (ag @ic.{0} (ag @List.set_cons_zero.{0} (ag @List.set_cons_succ.{0} (ag @cS.{0} (ag @List.length_nil.{0} (ag @JK (ag @JL (ag @JM (ag @JN (ag @JQ (ag @JR (ag @JS (ag @true_and (ag @fF (ag @Nat.min_self (ag @Nat.zero_min (ag @Nat.min_zero (ag @ef (ag @Bool.or_false (ag @Bool.or_true (ag @Bool.false_or (ag @Bool.true_or (ag @Bool.not_true (ag @Bool.not_false (ag @Nt (ag @Nu (ag @Nv (ag @Nx (ag @Ny (ag @Nz (ag @NB (ag @NK (ag @NP (ag @NQ (ag @NT (ag @NZ (ag @N5 (ag @N6 (ag @N7 (ag @N8 (ag @Oa (ag @Ob (ag @Oc (ag @Od (ag @Oe (ag @Og (ag @Oh (ag @Oi (ag @Oj (ag @Ol (ag @Om (ag @Oo (ag @Oq (ag @Ot (ag @Ou (ag @Ov (ag @Ow (ag @Oz (ag @OD (ag @OJ (ag @O1 (ag @O2 (ag @O3 (ag @O4 (ag @O5 (ag @O6 (ag @O7 (ag @O8 (ag @O9 (ag @Pa (ag @Pb (ag @Pg (ag @Ph (ag @Pj (ag @Pk (ag @Pn (ag @Pq (@Pr))))))))))))))))))))))))))))))))))))))))))))))))))))))))))))))))))))))))))))))))))))))))
section
local macro_rules|`(#[])=>`(.nil)|`(#[$x])=>`(.cons $x .nil)|`(#[$x,$y,*])=>`(.cons $x #[$y,*])
local macro_rules|`(-$x)=>`(.var $x)
local macro_rules|`(¬$x)=>`(.cst (.int $x))
local macro_rules|`(!$x)=>`(.cst (.str $x))
local macro_rules|`($x<|$y)=>`(.call $x $y)
def Ac:Sxs:=#[.set (-0) (¬2) (¬0),.ret (-0)]
def mK:Sxs:=#[.asg (.nm 2) (![]),.for_ (.tp #[.nm 3,.nm 4]) (.zip (-0) (-1)) #[.ite (.val (.cmp .Eq (-3) (![42]))) #[.aug 2 .Add (-4)] #[.ite (.boo false (.val (.cmp .Eq (-4) (![42]))) #[.val (.cmp .Eq (-4) (-3))]) #[.aug 2 .Add (-3)] #[.ret (.cst .non)]]],.ret (-2)]
def mL:Sxs:=#[.ret (.bin .Add true (.bin .Add true (.slc true (-0) .no (.ob (-1))) (-2)) (.slc true (-0) (.ob (.bin .Add true (-1) (¬1))) .no))]
def mO:Sxs:=#[.ite (.val (.cmp .Is ("both"<|#[-0,-1]) (.cst .non))) #[.ret (.lst false #[-0])] #[],.asg (.nm 2) (.lst false #[]),.asg (.nm 3) (-0),.for_ (.tp #[.nm 4,.nm 5]) (.enm (-1)) #[.ite (.boo true (.val (.cmp .Eq (.idx (-0) (-4)) (![42]))) #[.val (.cmp .NotEq (-5) (![42]))]) #[.exp (.mth .append (-2) #["with_sign"<|#[-3,-4,.ife (.val (.cmp .Eq (-5) (![48]))) (![49]) (![48])]]),.asg (.nm 3) ("with_sign"<|#[-3,-4,-5])] #[]],.ret (-2)]
def Ad:Sxs:=#[.asg (.nm 2) (.lst true #[-0]),.for_ (.nm 3) (.seq (-1)) #[.asg (.nm 4) (.lst false #[]),.for_ (.nm 5) (.seq (-2)) #[.exp (.mth .extend (-4) #["rest"<|#[-5,-3]])],.asg (.nm 2) (.frz (-4))],.ret (-2)]
def Ae:Sxs:=#[.ite (.val (.cmp .GtE (-0) (.bin .Pow true (¬10) (¬18)))) #[.ret (-0)] #[],.asg (.nm 2) (.bin .Mod true (.bin .Add true (.bin .Add true (.bin .Mult true (.bin .Mod true (-0) (¬1000000007)) (¬69069)) (.bin .Mult true (-1) (¬40503))) (¬977)) (¬2147483629)),.asg (.nm 3) (.bin .Mod true (.bin .Add true (.bin .Add true (.bin .Mult true (-2) (-2)) (.bin .Mult true (-1) (¬7919))) (.bin .Mod true (-0) (¬65537))) (¬2147483587)),.asg (.nm 4) (.bin .Mod true (.bin .Add true (.bin .Add true (.bin .Mult true (-3) (-3)) (.bin .Mult true (-2) (¬31))) (¬5)) (¬2147483563)),.ret (.bin .Add true (.bin .Mult true (.bin .Add true (.bin .Mult true (-2) (¬2147483659)) (-3)) (¬2147483693)) (-4))]
def Af:Sxs:=#[.ite (.val (.cmp .Lt (.idx (-0) (¬2)) (-1))) #[.asg (.nm 2) (.idx (-0) (¬1)),.asg (.nm 3) (¬0),.ite (.val (.cmp .Lt (-2) (.bcl .len #[.idx (-0) (¬0)]))) #[.asg (.nm 3) (.idx (.idx (-0) (¬0)) (-2))] #[.ite (.val (.cmp .Gt (.bcl .len #[.idx (-0) (¬0)]) (¬0))) #[.asg (.nm 3) (.bin .Mod true (.idx (.idx (-0) (¬0)) (.bin .Mod true (.bin .Add true (.bin .Mult true (-2) (¬5)) (¬3)) (.bcl .len #[.idx (-0) (¬0)]))) (.bin .Add true (.bin .Pow true (¬10) (¬17)) (-2)))] #[]],.set (-0) (¬1) (.bin .Add true (-2) (¬1)),.set (-0) (¬2) ("_law_spread"<|#[-3,-2])] #[],.asg (.nm 4) (.bin .Mod true (.idx (-0) (¬2)) (-1)),.set (-0) (¬2) (.bin .FloorDiv true (.idx (-0) (¬2)) (-1)),.ret (-4)]
def Ag:Sxs:=#[.ret (.mth .join (![]) #[.comp true (.idx (-1) ("_law_take"<|#[-2,.bcl .len #[-1]])) (.nm 0) (.rng (-1)) .yes ["at","signs","pen"] [none,some 2,some 0]])]
def Ah:Sxs:=#[.asg (.nm 2) (.lst true #[![97],![103,111],![115,116,97,121],![97,98,99,100,101,102,103,104],![110,111,110,101],![121,101,115],![105,110],![111,117,116],![107,101,101,112],![119,111,114,100],![122,122]]),.asg (.nm 3) ("_law_take"<|#[-0,¬11]),.asg (.nm 4) (.comp true (.idx (-1) (.bin .Mod true (.bin .Add true (-2) (.bin .Mult true (¬3) (-0))) (¬11))) (.nm 0) (.rng (.bin .Add true (¬1) ("_law_take"<|#[-0,-1]))) .yes ["k","some","turn"] [none,some 2,some 3]),.ite (.val (.cmp .Eq ("_law_take"<|#[-0,¬3]) (¬0))) #[.asg (.nm 5) (![97,98,99,100,101,102,103,104,105,106,107,108,109,110,111,112,113,114,115,116,117,118,119,120,121,122]),.asg (.nm 4) (.comp true ("_law_signs"<|#[-1,.bin .Add true (¬1) ("_law_take"<|#[-1,¬8]),-2]) (.nm 0) (.seq (-4)) .yes ["one","pen","letters"] [none,some 0,some 5])] #[],.ret (-4)]
def Ai:Sxs:=#[.ret ("_law_signs"<|#[-0,-1,.idx (.lst true #[![48,49,42],![48,49,42,42],![48,49,42,42,42,42],![48,42],![48,49]]) ("_law_take"<|#[-0,¬5])])]
def Aj:Sxs:=#[.asg (.nm 2) (![]),.for_ (.nm 3) (.seq (-1)) #[.ite (.val (.cmp .Eq ("_law_take"<|#[-0,¬3]) (¬0))) #[.asg (.nm 3) (![42])] #[],.asg (.nm 2) (.bin .Add true (-2) (-3))],.ret (-2)]
def Ak:Sxs:=#[.asg (.nm 2) (![]),.for_ (.nm 3) (.seq (-1)) #[.ite (.boo true (.val (.cmp .Eq (-3) (![42]))) #[.val (.cmp .Eq ("_law_take"<|#[-0,¬2]) (¬0))]) #[.asg (.nm 3) (.idx (![48,49]) ("_law_take"<|#[-0,¬2]))] #[],.asg (.nm 2) (.bin .Add true (-2) (-3))],.ret (-2)]
def Al:Sxs:=#[.asg (.nm 3) ("_law_take"<|#[-0,¬7]),.ite (.boo false (.val (.cmp .Eq (-2) (.lst true #[]))) #[.val (.cmp .Lt (-3) (¬2))]) #[.ret ("_law_form"<|#[-0,-1])] #[],.asg (.nm 4) (.idx (-2) ("_law_take"<|#[-0,.bcl .len #[-2]])),.ite (.val (.cmp .Eq (-3) (¬2))) #[.ret (-4)] #[],.ite (.val (.cmp .Lt (-3) (¬5))) #[.asg (.nm 5) ("_law_take"<|#[-0,-1]),.ret (.bin .Add true (.bin .Add true (.slc true (-4) .no (.ob (-5))) (.idx (![48,49,42]) ("_law_take"<|#[-0,¬3]))) (.slc true (-4) (.ob (.bin .Add true (-5) (¬1))) .no))] #[],.ite (.val (.cmp .Eq (-3) (¬5))) #[.ret ("_law_within"<|#[-0,-4])] #[],.ret ("_law_wider"<|#[-0,-4])]
def Am:Sxs:=#[.asg (.nm 3) (.bin .Add true (¬1) ("_law_take"<|#[-0,-1])),.asg (.nm 4) ("_law_deeds_of"<|#[-0,¬3]),.asg (.nm 5) (.lst false #[]),.asg (.nm 6) (.lst false #[]),.for_ (.nm 7) (.rng ("_law_take"<|#[-0,.bin .Add true (-2) (¬1)])) #[.exp (.mth .append (-5) #["_law_form_like"<|#[-0,-3,-5]]),.exp (.mth .append (-6) #[.tup #[.idx (-5) (.neg (¬1)),.idx (-4) ("_law_take"<|#[-0,.bcl .len #[-4]])]])],.ret (.tup #[-3,.bcl .tuple #[-6]])]
def vU:Sxs:=#[.ite (.val (.cmp .NotEq (.idx (-1) (¬0)) (![115,112,108,105,116]))) #[.ret (.lst true #[.tup #[-0,-1]])] #[],.asg (.nm 2) (.idx (-1) (¬1)),.ite (.boo false (.val (.cmp .Lt (-2) (¬0))) #[.val (.cmp .GtE (-2) (.bcl .len #[-0])),.val (.cmp .NotEq (.idx (-0) (-2)) (![42]))]) #[.ret (.lst true #[.cst .non])] #[],.asg (.nm 3) ("_law_boxes"<|#[.bin .Add true (.bin .Add true (.slc true (-0) .no (.ob (-2))) (![48])) (.slc true (-0) (.ob (.bin .Add true (-2) (¬1))) .no),.idx (-1) (¬2)]),.ret (.bin .Add true (-3) ("_law_boxes"<|#[.bin .Add true (.bin .Add true (.slc true (-0) .no (.ob (-2))) (![49])) (.slc true (-0) (.ob (.bin .Add true (-2) (¬1))) .no),.idx (-1) (¬3)]))]
def mQ:Sxs:=#[.for_ (.tp #[.nm 2,.nm 3]) (.enm (-0)) #[.ite (.val (.cmp .IsNot ("both"<|#[.idx (-3) (¬0),-1]) (.cst .non))) #[.ret (-2)] #[]],.ret (.cst .non)]
def mR:Sxs:=#[.asg (.nm 2) ("first_touching"<|#[-0,-1]),.ite (.val (.cmp .Is (-2) (.cst .non))) #[.ret (.cst .non)] #[],.for_ (.tp #[.nm 3,.nm 4]) (.enm (.idx (.idx (-0) (-2)) (¬0))) #[.ite (.boo true (.val (.cmp .Eq (.idx (-1) (-3)) (![42]))) #[.val (.cmp .NotEq (-4) (![42]))]) #[.ret (-3)] #[]],.ret (.cst .non)]
def kW:Sxs:=#[.for_ (.nm 3) (.seq (-1)) #[.asg (.nm 4) ("splitting_place"<|#[-3,-2]),.ite (.val (.cmp .IsNot (-4) (.cst .non))) #[.asg (.nm 5) ("grown"<|#[-0,-1,"with_sign"<|#[-2,-4,![48]]]),.asg (.nm 6) ("grown"<|#[-0,-1,"with_sign"<|#[-2,-4,![49]]]),.ret (.tup #[![115,112,108,105,116],-4,-5,-6])] #[]],.ret (.bin .Add true (.tup #[-0]) (.bcl .tuple #[.comp true ("first_touching"<|#[-0,-1]) (.nm 0) (.seq (-1)) .yes ["rows","box"] [none,some 2]]))]
def mU:Sxs:=#[.ret (.boo true (.isi (-2) "tuple") #[.cmp .Eq (.bcl .len #[-2]) (.bin .Add true (-1) (¬1)),.cmp .Eq (.idx (-2) (¬0)) (-0)])]
def mV:Sxs:=#[.ret (.boo true (.isi (-0) "int") #[.not (.isi (-0) "bool")])]
def mW:Sxs:=#[.ret (.boo true ("is_whole"<|#[-1]) #[.chn .LtE .Lt (¬0) (-1) (-0)])]
def jC:Sxs:=#[.ite (.not (.val ("is_named"<|#[![115,112,108,105,116],¬3,-1]))) #[.ret (.lst true #[.tup #[-0,-1]])] #[],.asg (.nm 2) (.idx (-1) (¬1)),.ite (.boo false (.not (.val ("is_place"<|#[.bcl .len #[-0],-2]))) #[.val (.cmp .NotEq (.idx (-0) (-2)) (![42]))]) #[.ret (.cst .non)] #[],.asg (.nm 3) ("leaves"<|#["with_sign"<|#[-0,-2,![48]],.idx (-1) (¬2)]),.asg (.nm 4) ("leaves"<|#["with_sign"<|#[-0,-2,![49]],.idx (-1) (¬3)]),.ite (.boo false (.val (.cmp .Is (-3) (.cst .non))) #[.val (.cmp .Is (-4) (.cst .non))]) #[.ret (.cst .non)] #[],.ret (.bin .Add true (-3) (-4))]
def mX:Sxs:=#[.ite (.boo false (.not (.val (.isi (-0) "str"))) #[.not (.val (.chn .LtE .LtE (¬1) (.bcl .len #[-0]) (.glb "LONGEST_DEED" (.int 8))))]) #[.ret (.cst (.bl false))] #[],.ret (.bcl .all #[.comp true (.cmp .In (-0) (.glb "LETTERS" (.str [97,98,99,100,101,102,103,104,105,106,107,108,109,110,111,112,113,114,115,116,117,118,119,120,121,122]))) (.nm 0) (.seq (-0)) .yes ["sign"] [none]])]
def mY:Sxs:=#[.ite (.boo false (.not (.val (.isi (-2) "str"))) #[.val (.cmp .NotEq (.bcl .len #[-2]) (-1))]) #[.ret (.cst (.bl false))] #[],.ret (.bcl .all #[.comp true (.cmp .In (-0) (-1)) (.nm 0) (.seq (-2)) .yes ["sign","signs"] [none,some 0]])]
def mZ:Sxs:=#[.ret ("is_text_of"<|#[![48,49,42],-0,-1])]
def m5:Sxs:=#[.ite (.boo false (.not (.val (.isi (-1) "tuple"))) #[.val (.cmp .NotEq (.bcl .len #[-1]) (¬2))]) #[.ret (.cst (.bl false))] #[],.ret (.boo true ("is_form"<|#[-0,.idx (-1) (¬0)]) #["is_deed"<|#[.idx (-1) (¬1)]])]
def m6:Sxs:=#[.ret (.boo true ("is_whole"<|#[-0]) #[.chn .LtE .LtE (¬1) (-0) (.glb "WIDEST" (.int 6))])]
def m7:Sxs:=#[.ite (.boo false (.not (.val (.isi (-0) "tuple"))) #[.val (.cmp .NotEq (.bcl .len #[-0]) (¬2))]) #[.ret (.cst (.bl false))] #[],.asg (.tp #[.nm 1,.nm 2]) (-0),.ite (.boo false (.not (.val ("is_width"<|#[-1]))) #[.not (.val (.isi (-2) "tuple")),.val (.cmp .Gt (.bcl .len #[-2]) (.glb "MOST_ROWS" (.int 12)))]) #[.ret (.cst (.bl false))] #[],.ret (.bcl .all #[.comp true ("is_row"<|#[-1,-0]) (.nm 0) (.seq (-2)) .yes ["row","width"] [none,some 1]])]
def m8:Sxs:=#[.ite (.not (.val ("is_book"<|#[-0]))) #[.rse "NoBook" #[]] #[]]
def m9:Sxs:=#[.exp ("need_book"<|#[-0]),.exp ("need_book"<|#[-1]),.ite (.val (.cmp .NotEq (.idx (-0) (¬0)) (.idx (-1) (¬0)))) #[.rse "NoMatch" #[.idx (-0) (¬0),.idx (-1) (¬0)]] #[]]
def kY:Sxs:=#[.ite (.val (.cmp .Is (-1) (.cst .non))) #[.ret (.cst .non)] #[],.ret (.idx (.idx (.idx (-0) (¬1)) (-1)) (¬1))]
def ni:Sxs:=#[.ret (.cmp .Eq ("deed_of"<|#[-0,.idx (-2) (¬1)]) ("deed_of"<|#[-1,.idx (-2) (¬2)]))]
def nq:Sxs:=#[.ret (.bin .Mult true (![42]) (-0))]
def nu:Sxs:=#[.exp ("need_two_books"<|#[-0,-1]),.asg (.nm 2) ("stars"<|#[.idx (-0) (¬0)]),.asg (.nm 3) ("grown"<|#[![115,97,109,101],.lst true #[.idx (-0) (¬1),.idx (-1) (¬1)],-2]),.asg (.nm 4) (.comp true ("least"<|#[-0]) (.tp #[.nm 0,.nm 1]) (.seq ("leaves"<|#[-2,-3])) (.not (.val ("same_deeds"<|#[-2,-3,-1]))) ["part","leaf","one","other"] [none,none,some 0,some 1]),.ite (.val (-4)) #[.ret (.tup #[![112,97,114,116,101,100],.bcl .min #[-4]])] #[],.ret (.tup #[![97,108,105,107,101],-3])]
def nA:Sxs:=#[.asg (.nm 1) (¬1),.for_ (.nm 2) (.seq (-0)) #[.ite (.val (.cmp .Eq (-2) (![42]))) #[.asg (.nm 1) (.bin .Mult true (-1) (¬2))] #[]],.ret (-1)]
def nF:Sxs:=#[.exp ("need_book"<|#[-0]),.asg (.tp #[.nm 1,.nm 2]) (-0),.ret ("grown"<|#[![109,101,116],.lst true #[-2],"stars"<|#[-1]])]
def nG:Sxs:=#[.asg (.nm 1) ("laid"<|#[-0]),.asg (.tp #[.nm 2,.nm 3]) (-0),.asg (.nm 4) (.bin .Add false (.comp true (¬0) (.nm 0) (.seq (-3)) .yes ["row"] [none]) (.lst true #[¬0])),.for_ (.tp #[.nm 5,.nm 6]) (.seq ("leaves"<|#["stars"<|#[-2],-1])) #[.asg (.nm 7) (.ife (.val (.cmp .Is (.idx (-6) (¬1)) (.cst .non))) (.bcl .len #[-3]) (.idx (-6) (¬1))),.augs (-4) (-7) .Add ("how_many"<|#[-5])],.ret (-4)]
def nH:Sxs:=#[.exp ("need_book"<|#[-0]),.ite (.not (.val ("is_place"<|#[.bcl .len #[.idx (-0) (¬1)],-1]))) #[.rse "NoRow" #[.bcl .len #[.idx (-0) (¬1)]]] #[]]
def nJ:Sxs:=#[.exp ("need_row"<|#[-0,-1]),.asg (.nm 2) (.idx (-0) (¬1)),.asg (.nm 3) (.idx (.idx (-2) (-1)) (¬0)),.asg (.nm 4) ("grown"<|#[![117,110,100,101,114],.lst true #[.slc true (-2) .no (.ob (-1))],-3]),.asg (.nm 5) (.comp true ("least"<|#[-0]) (.tp #[.nm 0,.nm 1]) (.seq ("leaves"<|#[-3,-4])) (.val (.cmp .Is (.idx (-1) (¬1)) (.cst .non))) ["box","leaf"] [none,none]),.ite (.val (-5)) #[.ret (.tup #[![119,111,114,100],.bcl .min #[-5]])] #[],.ret (.tup #[![104,105,100,100,101,110],-4])]
def nM:Sxs:=#[.exp ("need_book"<|#[-0]),.ret (.comp false (-0) (.nm 0) (.rng (.bcl .len #[.idx (-0) (¬1)])) (.val (.cmp .Eq (.idx ("reach"<|#[-1,-0]) (¬0)) (![104,105,100,100,101,110]))) ["number","book"] [none,some 0])]
def nO:Sxs:=#[.exp ("need_row"<|#[-0,-1]),.asg (.tp #[.nm 2,.nm 3]) (-0),.ret (.tup #[-2,.bin .Add true (.slc true (-3) .no (.ob (-1))) (.slc true (-3) (.ob (.bin .Add true (-1) (¬1))) .no)])]
def nP:Sxs:=#[.asg (.tp #[.nm 2,.nm 3]) ("alike"<|#[-0,"without"<|#[-0,-1]]),.ret (.tup #[.ife (.val (.cmp .Eq (-2) (![97,108,105,107,101]))) (![110,101,101,100,108,101,115,115]) (![110,101,101,100,101,100]),-3])]
def nQ:Sxs:=#[.exp ("need_book"<|#[-0]),.asg (.nm 1) (-0),.for_ (.nm 2) (.rev (.bcl .len #[.idx (-0) (¬1)])) #[.ite (.val (.cmp .Eq (.idx ("needless"<|#[-1,-2]) (¬0)) (![110,101,101,100,108,101,115,115]))) #[.asg (.nm 1) ("without"<|#[-1,-2])] #[]],.ret (-1)]
def nR:Sxs:=#[.ret (.bin .Add true (.bin .Add true (.slc true (-0) .no (.ob (-1))) (.tup #[.idx (-0) (.bin .Add true (-1) (¬1)),.idx (-0) (-1)])) (.slc true (-0) (.ob (.bin .Add true (-1) (¬2))) .no))]
def nT:Sxs:=#[.asg (.tp #[.nm 2,.nm 3]) ("alike"<|#[-0,-1]),.ret (.ife (.val (.cmp .Eq (-2) (![112,97,114,116,101,100]))) (-3) (.cst .non))]
def nU:Sxs:=#[.exp ("need_book"<|#[-0]),.asg (.tp #[.nm 2,.nm 3]) (-0),.ite (.not (.val ("is_place"<|#[.bin .Sub true (.bcl .len #[-3]) (¬1),-1]))) #[.rse "NoRow" #[.bcl .len #[-3]]] #[],.ret (.cmp .Is ("parting_word"<|#[-0,.tup #[-2,"exchanged"<|#[-3,-1]]]) (.cst .non))]
def nW:Sxs:=#[.ite (.val (.cmp .NotEq (.bcl .len #[-0]) (.bcl .len #[-1]))) #[.ret (.cst (.bl false))] #[],.ret (.bcl .all #[.comp true (.boo false (.cmp .Eq (-0) (![42])) #[.cmp .Eq (-0) (-1)]) (.tp #[.nm 0,.nm 1]) (.zip (-0) (-1)) .yes ["sign","given"] [none,none]])]
def nY:Sxs:=#[.ret ("fits"<|#[-1,-0])]
def nZ:Sxs:=#[.ite (.val ("lies_in"<|#[-0,-1])) #[.ret (-1)] #[],.ite (.val ("lies_in"<|#[-1,-0])) #[.ret (-0)] #[],.asg (.nm 2) (.comp true (-0) (.tp #[.nm 0,.nm 1]) (.enm (-0)) (.val (.cmp .NotEq (-1) (.idx (-2) (-0)))) ["at","sign","other"] [none,none,some 1]),.ite (.val (.cmp .Eq (.bcl .len #[-2]) (¬1))) #[.ret ("with_sign"<|#[-0,.idx (-2) (¬0),![42]])] #[],.ret (.cst .non)]
def n6:Sxs:=#[.asg (.tp #[.nm 4,.nm 5]) (-0),.asg (.nm 6) ("joined"<|#[.idx (.idx (-5) (-1)) (¬0),.idx (.idx (-5) (-2)) (¬0)]),.ite (.boo false (.val (.cmp .Is (-6) (.cst .non))) #[.val (.cmp .NotEq (.idx (.idx (-5) (-1)) (¬1)) (.idx (.idx (-5) (-2)) (¬1)))]) #[.ret (.cst .non)] #[],.asg (.nm 7) (.tup #[-4,.bin .Add true (.bin .Add true (.slc true (-5) .no (.ob (-3))) (.tup #[.tup #[-6,.idx (.idx (-5) (-3)) (¬1)]])) (.slc true (-5) (.ob (.bin .Add true (-3) (¬1))) .no)]),.ret ("without"<|#[-7,.ife (.val (.cmp .Eq (-3) (-1))) (-2) (-1)])]
def n8:Sxs:=#[.asg (.nm 1) (.bcl .len #[.idx (-0) (¬1)]),.asg (.nm 2) (.cm3 (.tup #[-0,-1,-2]) (.nm 0) (.rng (-1)) (.nm 1) (.rng2 (.bin .Add true (-0) (¬1)) (-3)) (.nm 2) (.seq (.tup #[-0,-1])) ["one","other","at","many"] [none,none,none,some 1]),.asg (.nm 3) (.comp true (.tup #[-0,-1,-2,"joined_book"<|#[-3,-0,-1,-2]]) (.tp #[.nm 0,.nm 1,.nm 2]) (.seq (-2)) .yes ["one","other","at","book"] [none,none,none,some 0]),.ret (.comp true (-0) (.nm 0) (.seq (-3)) (.val (.cmp .IsNot (.idx (-0) (¬3)) (.cst .non))) ["candidate"] [none])]
def oh:Sxs:=#[.for_ (.tp #[.nm 1,.nm 2,.nm 3,.nm 4]) (.seq ("candidates"<|#[-0])) #[.ite (.val (.cmp .Is ("parting_word"<|#[-0,-4]) (.cst .non))) #[.ret (-4)] #[]],.ret (.cst .non)]
def ou:Sxs:=#[.asg (.nm 1) (-0),.asg (.nm 2) ("first_joined"<|#[-1]),.whl (.val (.cmp .IsNot (-2) (.cst .non))) #[.asg (.nm 1) (-2),.asg (.nm 2) ("first_joined"<|#[-1])],.ret (-1)]
def oA:Sxs:=#[.exp ("need_book"<|#[-0]),.asg (.nm 1) (-0),.asg (.nm 2) ("lean"<|#["all_joined"<|#[-1]]),.whl (.val (.cmp .NotEq (-2) (-1))) #[.asg (.nm 1) (-2),.asg (.nm 2) ("lean"<|#["all_joined"<|#[-1]])],.ret (-2)]
def An:Sxs:=#[.ite (.boo false (.not (.val ("is_book"<|#[-1]))) #[.val (.cmp .NotEq (.idx ("alike"<|#[-0,-1]) (¬0)) (![97,108,105,107,101])),.val (.cmp .NotEq ("hidden"<|#[-1]) (.lst true #[]))]) #[.ret (.cst (.bl false))] #[],.ite (.boo false (.val (.cmp .NotEq (.slc true ("counts"<|#[-1]) .no (.ob (.neg (¬1)))) (.comp true ("how_many"<|#[.idx (-0) (¬0)]) (.nm 0) (.seq (.idx (-1) (¬1))) .yes ["row"] [none]))) #[.val (.cmp .NotEq ("lean"<|#[-1]) (-1))]) #[.ret (.cst (.bl false))] #[],.ite (.val (.cmp .NotEq (.comp true (-0) (.nm 0) (.rng (.bin .Sub true (.bcl .len #[.idx (-1) (¬1)]) (¬1))) (.val (.cmp .IsNot ("may_swap"<|#[-1,-0]) (.cst (.bl true)))) ["k","flat"] [none,some 1]) (.lst true #[]))) #[.ret (.cst (.bl false))] #[],.asg (.nm 2) ("press"<|#[-1]),.ite (.val (.cmp .NotEq (.idx ("alike"<|#[-0,.tup #[.idx (-1) (¬0),.rvs true (.idx (-1) (¬1)) (.neg (¬1))]]) (¬0)) (![97,108,105,107,101]))) #[.ret (.cst (.bl false))] #[],.ret (.boo true (.cmp .Eq (.idx ("alike"<|#[-0,-2]) (¬0)) (![97,108,105,107,101])) #[.cmp .LtE (.bcl .len #[.idx (-2) (¬1)]) (.bcl .len #[.idx (-1) (¬1)])])]
def Ao:Sxs:=#[.ret (.comp true (.idx (-0) (¬0)) (.nm 0) (.seq (-0)) .yes ["row"] [none])]
def Aq:Sxs:=#[.asg (.nm 1) (.lcl false .list #[.slc true (-0) .no (.ob (¬12))]),.for_ (.tp #[.nm 2,.nm 3]) (.enm (.slc true (-0) (.ob (¬12)) (.ob (¬63)))) #[.set (-1) (.bin .Mod true (-2) (¬12)) (.bin .Add true (.idx (-1) (.bin .Mod true (-2) (¬12))) (-3))],.ret (.lst false #[.frz (-1),¬0,¬0])]
def oE:Sxs:=#[.ret ("is_text_of"<|#[![48,49],-0,-1])]
def oF:Sxs:=#[.exp ("need_book"<|#[-0]),.asg (.tp #[.nm 2,.nm 3]) (-0),.ite (.not (.val ("is_word"<|#[-2,-1]))) #[.rse "NoWord" #[-2]] #[],.for_ (.tp #[.nm 4,.nm 5]) (.enm (-3)) #[.ite (.val ("fits"<|#[.idx (-5) (¬0),-1])) #[.ret (-4)] #[]],.ret (.cst .non)]
def Ar:Sxs:=#[.ite (.boo false (.val (.cmp .NotEq (.bcl .sum #[.comp true ("how_many"<|#[-0]) (.nm 0) (.seq (-2)) .yes ["piece"] [none]]) (.idx (-3) (-1)))) #[.val (.cmp .NotEq (.cmp .Eq (-2) (.lst true #[])) (.cmp .In (-1) (-4)))]) #[.ret (.cst (.bl false))] #[],.ite (.val (.cmp .NotEq (.comp true (-0) (.nm 0) (.seq (-2)) (.val (.cmp .NotEq ("both"<|#[-0,.idx (.idx (.idx (-2) (¬1)) (-1)) (¬0)]) (-0))) ["piece","number","book"] [none,some 1,some 0]) (.lst true #[]))) #[.ret (.cst (.bl false))] #[],.asg (.tp #[.nm 5,.nm 6]) ("reach"<|#[-0,-1]),.ite (.val (.cmp .Eq (-2) (.lst true #[]))) #[.ret (.cmp .Eq (-5) (![104,105,100,100,101,110]))] #[],.asg (.nm 7) (.bcl .min #[.comp true ("least"<|#[-0]) (.nm 0) (.seq (-2)) .yes ["piece"] [none]]),.ret (.boo true (.cmp .Eq (-5) (![119,111,114,100])) #[.cmp .Eq (-6) (-7),.cmp .Eq ("met"<|#[-0,-7]) (-1)])]
def Av:Sxs:=#[.asg (.nm 1) ("_law_open"<|#[-0]),.for_ (.nm 2) (.rng (¬3)) #[.asg (.nm 3) ("_law_book"<|#["_law_anew"<|#[-1],.idx (.lst true #[¬3,¬6,¬5]) (-2),.idx (.lst true #[¬8,¬10,¬12]) (-2)]),.asg (.nm 4) ("_law_forms"<|#[.idx (-3) (¬1)]),.asg (.nm 5) ("counts"<|#[-3]),.asg (.nm 6) ("hidden"<|#[-3]),.asg (.nm 7) (.lst false #[]),.for_ (.nm 8) (.rng (.bcl .len #[-4])) #[.asg (.nm 9) ("_law_apart"<|#[.idx (-4) (-8),.slc true (-4) .no (.ob (-8))]),.ite (.not (.val ("_law_row_right"<|#[-3,-8,-9,-5,-6]))) #[.ret (.cst (.bl false))] #[],.exp (.mth .extend (-7) #[.comp true (.tup #[-0,.idx (.idx (.idx (-2) (¬1)) (-1)) (¬1)]) (.nm 0) (.seq (-9)) .yes ["piece","number","book"] [none,some 8,some 3]])],.ite (.val (.cmp .NotEq (.bcl .sum #[.comp true ("how_many"<|#[-0]) (.nm 0) (.seq ("_law_apart"<|#[.bin .Mult true (![42]) (.idx (-3) (¬0)),-4])) .yes ["piece"] [none]]) (.idx (-5) (.neg (¬1))))) #[.ret (.cst (.bl false))] #[],.ite (.val (.cmp .Eq (-2) (¬0))) #[.asg (.nm 10) (.comp true (.tup #[-0,.idx (-1) (¬1)]) (.tp #[.nm 0,.nm 1]) (.seq ("_law_boxes"<|#[.slc true (![42,42,42]) .no (.ob (.idx (-3) (¬0))),"laid"<|#[-3]])) (.val (.cmp .IsNot (.idx (-1) (¬1)) (.cst .non))) ["box","leaf"] [none,none]),.asg (.nm 11) (.bcl .tuple #[.comp true (.tup #[-0,.idx (.idx (.idx (-2) (¬1)) (-1)) (¬1)]) (.tp #[.nm 0,.nm 1]) (.seq (-10)) .yes ["box","k","book"] [none,none,some 3]]),.ite (.boo false (.not (.val ("_law_flat_right"<|#[-3,.tup #[.idx (-3) (¬0),.bcl .tuple #[-7]]]))) #[.not (.val ("_law_flat_right"<|#[-3,.tup #[.idx (-3) (¬0),-11]]))]) #[.ret (.cst (.bl false))] #[]] #[]],.ret (.cst (.bl true))]
end
end RF
local macro_rules | `(tactic| simp_arith [$l,*] $[$c:location]?) => `(tactic| simp -implicitDefEqProofs only [↓RF.aen, ↓RF.PN, RF.PP, RF.env0, RF.ends, String.reduceBEq, $l,*] $[$c:location]?)
local macro_rules | `(tactic| simp_arith! [$l,*] $[$c:location]?) => `(tactic| simp -implicitDefEqProofs only [↓RF.PN, RF.PP, RF.env0, RF.ends, String.reduceBEq, $l,*] $[$c:location]?)
local macro_rules | `(tactic| simp_all_arith [$l,*]) => `(tactic| simp -implicitDefEqProofs only [RF.env0, RF.ends, List.map_cons, List.map_nil, List.cons_append, List.nil_append, List.replicate_succ, List.replicate_zero, $l,*])
local macro_rules|`(tactic|bv_omega)=>`(tactic|(have hsz:RF.sz=1000000:=rfl;omega))
local macro_rules|`(tactic|symm)=>do let M:=Lean.mkIdent `M;let h:=Lean.mkIdent `hM;`(tactic|refine $h _ _ (RF.seq fun $M $h=>?_))
local macro_rules|`(tactic|nofun)=>do let M:=Lean.mkIdent `M;let h:=Lean.mkIdent `hM;`(tactic|refine RF.seq fun $M $h=>?_)
local macro_rules|`(tactic|ac_nf0)=>do let h:=Lean.mkIdent `hM;`(tactic|refine $h _ _ (RF.last ?_))
local macro_rules|`(tactic|erw[$[$x:term],*]$[$c:location]?)=>`(tactic|simp_arith[$[$x:term],*]$[$c:location]?)
namespace RF
open PySem L2
theorem iU{i j:Int}(h:-(2 ^ 64) < j/\j < 2 ^ 64):CMul i j:=.inr h
theorem Aw{i j:Int}(h:-(2 ^ 64) < i/\i < 2 ^ 64):CMul i j:=.inl h
theorem PQ{j:Int}(h:0<=j/\j<=1000):sG 10 j:=⟨h.1,by omega,by decide⟩
def vV:RF.Spec:=bV (λds _=>∃c k:Int,ds=[.int c,.int k]/\0<=k) (λ_ G d G'=>G'=G/\∃r:Int,d=.int r/\0<=r)
theorem aeo(Z:aj)(ds:List D)(G:DH)(h:∃c k:Int,ds=[.int c,.int k]/\0<=k):au Z Ae noE (env0 ds 3) G (ends λd G'=>G'=G/\∃r:Int,d=.int r/\0<=r):=by
 obtain ⟨c,k,rfl,hk⟩:=h;erw[Ae];refine ⟨PQ (by decide),?_⟩;cases hc:decide (10 ^ Int.toNat 18<=c) with
 |true=>
  refine ⟨c,rfl,?_⟩;have:=eM hc;have h2:(0:Int)<=(10:Int) ^ (18:Int).toNat:=by decide
  exact Int.le_trans h2 this
 |false=>
  generalize hone:(c % 1000000007 * 69069+k * 40503+977) % 2147483629=one;have o1:0<=one:=by rw[<-hone];exact fR _ (by decide)
  have o2:one < 2147483629:=by rw[<-hone];exact fy _ (by decide)
  generalize htwo:(one * one+k * 7919+c % 65537) % 2147483587=two;have t1:0<=two:=by rw[<-htwo];exact fR _ (by decide)
  have t2:two < 2147483587:=by rw[<-htwo];exact fy _ (by decide)
  generalize hthree:(two * two+one * 31+5) % 2147483563=three;have h1:0<=three:=by rw[<-hthree];exact fR _ (by decide)
  clear hone htwo hthree;refine ⟨by decide,iU (by decide),iU (by decide),by decide,Aw (by omega),iU (by decide),by decide,by decide,Aw (by omega),iU (by decide),by decide,iU (by decide),iU (by decide),_,rfl,?_⟩;omega
def Pen(G:DH)(p:Addr):Prop:=∃(ns:List Int)(k st:Int),G p=some (.lst [.lst (ns.map D.int),.int k,.int st])/\0<=k/\0<=st
theorem Pen.sa{G G':DH}{p:Addr}(h:Pen G p)(s:Sa G G'):Pen G' p:=by obtain ⟨ns,k,st,e,h1⟩:=h;exact ⟨ns,k,st,s _ _ e,h1⟩
theorem Pen.ne{G:DH}{p q:Addr}(h:Pen G p)(e:G q=none):p≠q:=by obtain ⟨ns,k,st,e1,h1⟩:=h;exact yj e1 e
theorem Pen.sb{G G':DH}{p q:Addr}(h:Pen G p)(s:Sb q G G')(n:p≠q):Pen G' p:=by obtain ⟨ns,k,st,e,h1⟩:=h;exact ⟨ns,k,st,s _ _ e n,h1⟩
def vW:RF.Spec:=bV (λds G=>∃p,ds=[.ref p]/\Pen G p) (λds G d G'=>∃p,ds=[.ref p]/\d=.ref p/\Pen G' p/\Sb p G G')
theorem aep(Z:aj)(ds:List D)(G:DH)(h:∃p,ds=[.ref p]/\Pen G p):au Z Ac noE (env0 ds 0) G (ends λd G'=>∃p,ds=[.ref p]/\d=.ref p/\Pen G' p/\Sb p G G'):=by obtain ⟨p,rfl,ns,k,st,e,h1,h2⟩:=h;erw[Ac,cU e];exact ⟨p,rfl,rfl,⟨ns,k,0,bI,h1,by decide⟩,Sb.upd⟩
def gw:RF.Spec:=bV (λds G=>∃p,∃m:Int,ds=[.ref p,.int m]/\Pen G p/\0 < m/\m < 1152921504606846976) (λds G d G'=>∃p,∃m r:Int,ds=[.ref p,.int m]/\d=.int r/\0<=r/\r < m/\Pen G' p/\Sb p G G')
theorem aeq (Z:aj) (hΦ:Z "_law_spread"=vV) (ds:List D) (G:DH) (h:∃p,∃m:Int,ds=[.ref p,.int m]/\Pen G p/\0 < m/\m < 1152921504606846976):
  au Z Af noE (env0 ds 3) G (ends λd G'=>∃p,∃m r:Int,ds=[.ref p,.int m]/\d=.int r/\0<=r/\r < m/\Pen G' p/\Sb p G G'):=by
 obtain ⟨p,m,rfl,⟨ns,k,st,e,h1,h2⟩,h3,h4⟩:=h;simp_all_arith[Af];nofun;have fin:∀(ρ2 ρ3 ρ4:Option D)(G1:DH)(k1 s1:Int),0<=k1->0<=s1->G1 p=some (.lst [.lst (ns.map D.int),.int k1,.int s1])->Sb p G G1->M [some (.ref p),some (.int m),ρ2,ρ3,ρ4] G1:=by intro ρ2 ρ3 ρ4 G1 k1 s1 q1 q2 e1 sb;refine hM _ _ ?_;erw[cY e1,cU e1];refine ⟨h3,⟨h3,h4⟩,p,m,_,rfl,rfl,fR _ (by omega),fy _ h3,⟨ns,k1,_,bI,q1,?_⟩,sb.trans Sb.upd⟩;exact Int.ediv_nonneg q2 (by omega)
 erw[cY e,cU e,hΦ];have draw:∀c:Int,vV.t [.int c,.int k] (bx G p (.lst [.lst (ns.map D.int),.int (k+1),.int st])) (λx G1=>trk G1 p λds=>bL (ixN ds.length 2) λj=>M [some (.ref p),some (.int m),some (.int k),some (.int c),none] (bx G1 p (.lst (ds.set j x)))) noE:=by intro c;refine cC ⟨c,k,rfl,h1⟩ λd G' hx=>?_;obtain ⟨e1,r,e2,hr⟩:=hx;subst e1 e2;erw[cU bI];refine fin _ _ _ _ (k+1) r (by omega) hr bI (Sb.trans Sb.upd Sb.upd)
 cases hc:decide (st < m) with
 |false=>exact fin _ _ _ _ k st h1 h2 e (Sb.refl _ _)
 |true=>
  cases hk:decide (k < ((ns.map D.int).length:Int)) with
  |true=>
   have hk:=eM hk;rw[af]at hk;refine bw (a:=.int ns[k.toNat]) ?_ ?_
   ·obtain ⟨n,rfl⟩:=dQ h1;exact bR (by simp at hk ⊢)
   ·exact draw _
  |false=>
   cases hz:decide (0 < ((ns.map D.int).length:Int)) with
   |false=>exact draw 0
   |true=>
    have hz:=eM hz;have j1:0<=(k * 5+3) % ((ns.map D.int).length:Int):=fR _ (by omega);have j2:(k * 5+3) % ((ns.map D.int).length:Int) < ((ns.map D.int).length:Int):=fy _ hz;obtain ⟨j,hj⟩:=dQ j1;rw[hj]at j2;have j3:j < ns.length:=by rw[af]at j2;omega
    refine ⟨iU (by decide),hz,bw (a:=.int ns[j]) ?_ ⟨PQ (by decide),?_⟩⟩
    ·rw[hj];exact bR (by simp[j3])
    ·erw[cU e];refine ⟨?_,draw _⟩;have:(0:Int) < 10 ^ Int.toNat 17:=by decide
     omega
def oG:RF.Spec:=bV (λds G=>∃p,∃n:Nat,∃cs:List Nat,ds=[.ref p,.int n,.str cs]/\Pen G p/\n<=1000/\cs≠[]/\cs.length<=1000)
 (λds G d G'=>∃p,∃n:Nat,∃cs l:List Nat,ds=[.ref p,.int n,.str cs]/\d=.str l/\l.length=n/\(∀c∈l,c∈cs)/\Pen G' p/\Sb p G G')
theorem aer(l:List Nat):((l.map λc=>[c]).map (·.length)).sum=l.length:=by
 induction l with
 |nil=>rfl
 |cons a l ih=>simp at ih ⊢;omega
theorem aes(l:List Nat):(l.map λc=>[c]).flatten=l:=by
 induction l with
 |nil=>rfl
 |cons a l ih=>simp at ih ⊢;exact ih
theorem aet (Z:aj) (hΦ:Z "_law_take"=gw) (ds:List D) (G:DH) (h:∃p,∃n:Nat,∃cs:List Nat,ds=[.ref p,.int n,.str cs]/\Pen G p/\n<=1000/\cs≠[]/\cs.length<=1000):
  au Z Ag noE (env0 ds 0) G (ends λd G'=>∃p,∃n:Nat,∃cs l:List Nat,ds=[.ref p,.int n,.str cs]/\d=.str l/\l.length=n/\(∀c∈l,c∈cs)/\Pen G' p/\Sb p G G'):=by
 obtain ⟨p,n,cs,rfl,hp,hn,hc,hl⟩:=h;have hc1:0 < cs.length:=gt.mpr hc;erw[Ag,hΦ];refine ⟨by omega,CompG.inv (P:=λi acc Y G'=>(∃o,Y=[o,some (.str cs),some (.ref p)])/\Pen G' p/\Sb p G G'/\∃l:List Nat,acc=l.map (λc=>D.str [c])/\l.length=i/\∀c∈l,c∈cs) (h0:=⟨⟨_,rfl⟩,hp,Sb.refl _ _,[],rfl,rfl,by simp⟩) (hh:=λ_ _ _ _ _=>trivial) (hl:=by simp[aW];bv_omega) (hs:=?_) (he:=?_)⟩
 ·rintro i d acc Y G' hd ⟨⟨o,rfl⟩,hp',sb,l,rfl,hl',hm⟩ kk hk;erw[hΦ];refine cC ⟨p,_,rfl,hp',by omega,by omega⟩ λd' G2 hx=>?_;obtain ⟨p2,m2,r,e1,e2,r0,r1,pp2,sb2⟩:=hx;cases e1;subst e2;obtain ⟨j,rfl⟩:=dQ r0;have hj:j < cs.length:=by omega
  erw[ends];refine bw (a:=cs[j]) (bR (by simp[hj])) (hk _ _ _ ⟨⟨_,rfl⟩,pp2,sb.trans sb2,l++[cs[j]],by simp,by simp[hl'],?_⟩);intro c hc;rcases bP.mp hc with h |h
  ·exact hm c h
  ·rw[bq.mp h];exact d4 _
 ·rintro acc Y G' ⟨_,hp',sb,l,rfl,hl',hm⟩;erw[strs_map];have hl2:l.length=n:=by rw[hl'];simp[aW]
  refine ⟨?_,p,n,cs,l,rfl,?_,hl2,hm,hp',sb⟩
  ·rw[aer];simp;bv_omega
  ·rw[JH,aes]
def isF(c:Nat):Prop:=c=48\/c=49\/c=42
def Ax:RF.Spec:=bV (λds G=>∃p,∃n:Nat,ds=[.ref p,.int n]/\Pen G p/\n<=1000) (λds G d G'=>∃p,∃n:Nat,∃l:List Nat,ds=[.ref p,.int n]/\d=.str l/\l.length=n/\(∀c∈l,isF c)/\Pen G' p/\Sb p G G')
theorem aeu (Z:aj) (h1:Z "_law_take"=gw) (h2:Z "_law_signs"=oG) (ds:List D) (G:DH) (h:∃p,∃n:Nat,ds=[.ref p,.int n]/\Pen G p/\n<=1000):
  au Z Ai noE (env0 ds 0) G (ends λd G'=>∃p,∃n:Nat,∃l:List Nat,ds=[.ref p,.int n]/\d=.str l/\l.length=n/\(∀c∈l,isF c)/\Pen G' p/\Sb p G G'):=by
 obtain ⟨p,n,rfl,hp,hn⟩:=h;erw[Ai,h1,h2];refine ⟨by decide,cC ⟨p,_,rfl,hp,by decide,by decide⟩ λd' G2 ⟨p2,m2,r,e1,e2,r0,r1,pp2,sb2⟩=>?_⟩;cases e1;subst e2;obtain ⟨j,rfl⟩:=dQ r0;erw[ends];have:∃cs:List Nat,atI [D.str [48,49,42],D.str [48,49,42,42],D.str [48,49,42,42,42,42],D.str [48,42],D.str [48,49]] ((j:Nat):Int)=some (.str cs)/\cs≠[]/\cs.length<=1000/\∀c∈cs,isF c:=by
  have hj:j=0\/j=1\/j=2\/j=3\/j=4:=by omega
  rcases hj with rfl |rfl |rfl |rfl |rfl <;> exact ⟨_,rfl,by decide,by decide,by simp[isF]⟩
 obtain ⟨cs,e,c1,c2,c3⟩:=this;refine bw e (cC ⟨p,n,cs,rfl,pp2,hn,c1,c2⟩ λd G3 ⟨p3,n3,cs3,l,e1,e2,q1,q2,q3,q4⟩=>?_);cases e1;exact ⟨p,n,l,rfl,e2,q1,λc hc=>c3 c (q2 c hc),q3,sb2.trans q4⟩
def Ay:RF.Spec:=bV (λds _=>∃ns:List Int,ds=[.scr ns]/\ns.length<=63) (λ_ G d G'=>∃p,d=.ref p/\G p=none/\Pen G' p/\Sa G G')
theorem aev(Z:aj)(ds:List D)(G:DH)(h:∃ns:List Int,ds=[.scr ns]/\ns.length<=63):au Z Aq noE (env0 ds 3) G (ends λd G'=>∃p,d=.ref p/\G p=none/\Pen G' p/\Sa G G'):=by
 obtain ⟨ns,rfl,hl⟩:=h;simp_all_arith[Aq];nofun;erw[ends];intro c hc;refine hM _ _ ?_;nofun;erw[ends];refine ForG.inv (λi Y G'=>∃(o2 o3:Option D)(xs:List Int),Y=[some (.scr ns),some (.ref c),o2,o3]/\G'=bx G c (.lst (xs.map D.int))/\(12<=xs.length\/cut ns (some 12) (some 63)=[])) ⟨_,_,cut ns none (some 12),rfl,rfl,?_⟩ (λ_ _ _ _=>trivial) ?_ ?_
 ·by_cases h12:12<=ns.length
  ·left;simp[cut,HT.sIx];omega
  ·right;simp[cut,HT.sIx];omega
 ·rintro i d Y G' hd ⟨o2,o3,xs,rfl,rfl,hx⟩ kk hk;rw[iM]at hd;obtain ⟨d',hd',e3⟩:=ar.mp hd;subst e3;rw[ax]at hd';obtain ⟨x,hx',e4⟩:=ar.mp hd';subst e4;have h12:12<=xs.length:=by
   rcases hx with h |h
   ·exact h
   ·rw[h]at hx';simp at hx'
  obtain ⟨j,hj⟩:=dQ (fR ((0+i:Nat):Int) (by decide:(12:Int)≠0));have hj12:j < 12:=by have:=fy ((0+i:Nat):Int) (by decide:(0:Int) < 12);omega
  have hjx:j < xs.length:=by omega
  erw[hj,cY bI,cU bI];refine ⟨by decide,bw (a:=.int xs[j]) (bR (by simp[hjx])) ?_⟩;erw[hj,cY bI,cU bI,af,JP hjx];refine ⟨by decide,hk _ _ ⟨_,_,xs.set j (xs[j]+x),rfl,?_,by simp[h12]⟩⟩;rw[abh,List.map_set]
 ·rintro Y G' ⟨o2,o3,xs,rfl,rfl,hx⟩;refine hM _ _ ?_;erw[bI];refine ⟨by bv_omega,λp hp=>⟨p,rfl,?_,⟨xs,0,0,bI,by decide,by decide⟩,?_⟩⟩
  ·rw[Gq hc]at hp;exact hp
  ·rw[Gq hc]at hp ⊢;exact Sa.new hp
def oH:RF.Spec:=bV (λds _=>∃ns:List Int,ds=[.scr ns]/\ns.length<=63) (λ_ _ d _=>d=.bl true)
def whole:D->Bool
 |.int _=>true
 |_=>false
def jD:List D->Option D
 |[x]=>if nr x then some (.bl (whole x)) else none
 |_=>none
theorem aew(Z:aj)(ds:List D)(G:DH)(d:D)(h:jD ds=some d):au Z mV noE (env0 ds 0) G (ends λd' G'=>G'=G/\d'=d):=by
 unfold jD at h;split at h
 ·rename_i x;split at h
  ·rename_i hx;cases h;cases x <;> first | (simp[nr]at hx;done) | (erw[mV,whole];try simp)
  ·cases h
 ·cases h
theorem P0{x:D}{G:DH}(h1:nr x=true):view G x=x:=by cases x <;> first |rfl | (simp[nr]at h1)
def okF(w:Nat)(l:List Nat):Prop:=l.length=w/\∀c∈l,isF c
theorem okF.app{w v:Nat}{l m:List Nat}(h:okF w l)(h':okF v m):okF (w+v) (l++m):=⟨by rw[aE,h.1,h'.1],λc hc=>(bP.mp hc).elim (h.2 c) (h'.2 c)⟩
theorem okF.one{c:Nat}(h:isF c):okF 1 [c]:=⟨rfl,λd hd=>by rw[bq.mp hd];exact h⟩
theorem dz{p:Addr}{m:Int}{G:DH}{k:D->DH->Prop}{E:EK}(hp:Pen G p)(h1:0 < m)(h2:m < 1152921504606846976)(hk:∀(r:Nat)(G':DH),(r:Int) < m->Pen G' p->Sb p G G'->k (.int r) G'):gw.t [.ref p,.int m] G k E:=by refine cC ⟨p,m,rfl,hp,h1,h2⟩ λd G' hx=>?_;obtain ⟨p2,m2,r,e1,e2,r0,r1,hp',sb⟩:=hx;cases e1;subst e2;obtain ⟨n,rfl⟩:=dQ r0;exact hk n G' r1 hp' sb
theorem aex{n:Nat}(h:(n:Int) < 2):∃c,atI [48,49] (n:Int)=some c/\isF c:=by
 have:n=0\/n=1:=by omega
 rcases this with rfl |rfl
 ·exact ⟨48,rfl,.inl rfl⟩
 ·exact ⟨49,rfl,.inr (.inl rfl)⟩
theorem aey{n:Nat}(h:(n:Int) < 3):∃c,atI [48,49,42] (n:Int)=some c/\isF c:=by
 have:n=0\/n=1\/n=2:=by omega
 rcases this with rfl |rfl |rfl
 ·exact ⟨48,rfl,.inl rfl⟩
 ·exact ⟨49,rfl,.inr (.inl rfl)⟩
 ·exact ⟨42,rfl,.inr (.inr rfl)⟩
def Az(ds:List D)(G:DH):Prop:=∃p l,ds=[.ref p,.str l]/\Pen G p/\(∀c∈l,isF c)/\l.length<=1000
def Ba(ds:List D)(G:DH)(d:D)(G':DH):Prop:=∃p l m,ds=[.ref p,.str l]/\d=.str m/\okF l.length m/\Pen G' p/\Sb p G G'
def jE:RF.Spec:=bV Az Ba
theorem Qa{p:Addr}{l:List Nat}{G:DH}{k:D->DH->Prop}{E:EK}(hp:Pen G p)(hl:∀c∈l,isF c)(h2:l.length<=1000)(hk:∀(m:List Nat)(G':DH),okF l.length m->Pen G' p->Sb p G G'->k (.str m) G'):jE.t [.ref p,.str l] G k E:=by refine cC ⟨p,l,rfl,hp,hl,h2⟩ λd G' hx=>?_;obtain ⟨p2,l2,m,e1,e2,h,hp',sb⟩:=hx;cases e1;subst e2;exact hk m G' h hp' sb
theorem aez (Z:aj) (h1:Z "_law_take"=gw) (ds:List D) (G:DH) (h:Az ds G):au Z Ak noE (env0 ds 2) G (ends (Ba ds G)):=by
 obtain ⟨p,l,rfl,hp,hl,hl2⟩:=h;simp_all_arith[Ak];nofun;erw[ends];symm;simp_arith![ends];refine ForG.inv (P:=λi Y G'=>(∃o m,Y=[some (.ref p),some (.str l),some (.str m),o]/\okF i m)/\Pen G' p/\Sb p G G') ⟨⟨_,_,rfl,rfl,by simp⟩,hp,Sb.refl _ _⟩ (λ_ _ _ _=>trivial) ?_ ?_
 ·rintro i d Y G2 hd ⟨⟨o,m,rfl,hm⟩,hp2,sb2⟩ kk hk;rw[ax]at hd;obtain ⟨c,hc,rfl⟩:=ar.mp hd;have hi:i < l.length:=(am.mp hc).1;have fc:=hl c (ba hc);have l1:=hm.1;simp_arith![ends];nofun;have fin:∀(c:Nat)(G3:DH),isF c->Pen G3 p->Sb p G2 G3->M [some (.ref p),some (.str l),some (.str m),some (.str [c])] G3:=by
   intro c G3 fc hp3 sb3;ac_nf0;erw[ends];exact ⟨by bv_omega,hk _ _ ⟨⟨_,_,rfl,hm.app (okF.one fc)⟩,hp3,sb2.trans sb3⟩⟩
  erw[h1];cases ht:([c]==[42]) with
  |false=>exact fin c G2 fc hp2 (Sb.refl _ _)
  |true=>
   refine dz hp2 (by decide) (by decide) λr G3 hr hp3 sb3=>?_;erw[ends];cases hr0:((r:Int)==0) with
   |false=>exact fin c G3 fc hp3 sb3
   |true=>
    refine dz hp3 (by decide) (by decide) λr' G4 hr' hp4 sb4=>?_;obtain ⟨c',e,fc'⟩:=aex hr';erw[e];exact fin c' G4 fc' hp4 (sb3.trans sb4)
 ·rintro Y G2 ⟨⟨o,m,rfl,hm⟩,hp2,sb2⟩;refine hM _ _ ?_;erw[ends];exact ⟨p,l,m,rfl,rfl,by simpa using hm,hp2,sb2⟩
theorem aeA (Z:aj) (h1:Z "_law_take"=gw) (ds:List D) (G:DH) (h:Az ds G):au Z Aj noE (env0 ds 2) G (ends (Ba ds G)):=by
 obtain ⟨p,l,rfl,hp,hl,hl2⟩:=h;simp_all_arith[Aj];nofun;erw[ends];symm;simp_arith![ends];refine ForG.inv (P:=λi Y G'=>(∃o m,Y=[some (.ref p),some (.str l),some (.str m),o]/\okF i m)/\Pen G' p/\Sb p G G') ⟨⟨_,_,rfl,rfl,by simp⟩,hp,Sb.refl _ _⟩ (λ_ _ _ _=>trivial) ?_ ?_
 ·rintro i d Y G2 hd ⟨⟨o,m,rfl,hm⟩,hp2,sb2⟩ kk hk;rw[ax]at hd;obtain ⟨c,hc,rfl⟩:=ar.mp hd;have hi:i < l.length:=(am.mp hc).1;have fc:=hl c (ba hc);have l1:=hm.1;simp_arith![ends];nofun;have fin:∀(c:Nat)(G3:DH),isF c->Pen G3 p->Sb p G2 G3->M [some (.ref p),some (.str l),some (.str m),some (.str [c])] G3:=by
   intro c G3 fc hp3 sb3;ac_nf0;erw[ends];exact ⟨by bv_omega,hk _ _ ⟨⟨_,_,rfl,hm.app (okF.one fc)⟩,hp3,sb2.trans sb3⟩⟩
  erw[h1];refine dz hp2 (by decide) (by decide) λr G3 hr hp3 sb3=>?_;erw[ends];cases hr0:((r:Int)==0) with
  |false=>exact fin c G3 fc hp3 sb3
  |true=>exact fin 42 G3 (.inr (.inr rfl)) hp3 sb3
 ·rintro Y G2 ⟨⟨o,m,rfl,hm⟩,hp2,sb2⟩;refine hM _ _ ?_;erw[ends];exact ⟨p,l,m,rfl,rfl,by simpa using hm,hp2,sb2⟩
theorem Qc{G G':DH}{p:Addr}{x:D}{fs:List (List Nat)}(hv:view G x=.lst (fs.map D.str))(hp:Pen G p)(sb:Sb p G G'):view G' x=.lst (fs.map D.str):=by
 cases x with
 |ref q=>
  unfold view at hv;dsimp only at hv;cases g:G q with
  |none=>rw[g]at hv;cases hv
  |some o=>
   cases o with
   |lst ds=>
    rw[g]at hv;have e:ds=fs.map D.str:=by simpa using hv
    have hn:q≠p:=by
     rintro rfl;obtain ⟨ns,k,st,e1,_⟩:=hp;rw[g,e]at e1;cases fs with
     |nil=>simp at e1
     |cons a r=>simp at e1
    rw[cY (sb q _ g hn),e]
 |lst l=>exact hv
 |_=>cases hv
def Qd(ds:List D)(G:DH):Prop:=∃p,∃w:Nat,∃x,∃fs:List (List Nat),ds=[.ref p,.int w,x]/\Pen G p/\0 < w/\w<=1000/\view G x=.lst (fs.map D.str)/\fs.length<=1000/\∀f∈fs,okF w f
def Bb(ds:List D)(G:DH)(d:D)(G':DH):Prop:=∃p,∃w:Nat,∃x m,ds=[.ref p,.int w,x]/\d=.str m/\okF w m/\Pen G' p/\Sb p G G'
def vX:RF.Spec:=bV Qd Bb
theorem aeB{p:Addr}{w:Nat}{x:D}{fs:List (List Nat)}{G:DH}{k:D->DH->Prop}{E:EK}(hp:Pen G p)(h1:0 < w)(h2:w<=1000)(hv:view G x=.lst (fs.map D.str))(h3:fs.length<=1000)(h4:∀f∈fs,okF w f)
  (hk:∀(m:List Nat)(G':DH),okF w m->Pen G' p->Sb p G G'->k (.str m) G'):vX.t [.ref p,.int w,x] G k E:=by
 refine cC ⟨p,w,x,fs,rfl,hp,h1,h2,hv,h3,h4⟩ λd G' hx=>?_;obtain ⟨p2,w2,x2,m,e1,e2,h,hp',sb⟩:=hx;simp only[dL,D.ref.injEq,D.int.injEq,Int.ofNat_inj,fF]at e1;obtain ⟨rfl,rfl,rfl⟩:=e1;subst e2;exact hk m G' h hp' sb
theorem aeC(fs:List (List Nat)):nrs (fs.map D.str)=true:=by
 induction fs with
 |nil=>rfl
 |cons a l ih=>rw[bp,nrs,ih];rfl
theorem aeD(fs:List (List Nat)):bj (fs.map D.str)=0:=by
 induction fs with
 |nil=>rfl
 |cons a l ih=>rw[bp,bj,ih];rfl
theorem aeE{w n:Nat}{l:List Nat}{c:Nat}(h:okF w l)(hn:n < w)(fc:isF c):okF w (cut l none (some (n:Int))++[c]++cut l (some ((n:Int)+1)) none):=by
 have h1:=h.1;rw[iR,vP];refine ⟨?_,λd hd=>?_⟩
 ·simp;omega
 ·rcases bP.mp hd with hd |hd
  ·rcases bP.mp hd with hd |hd
   ·exact h.2 d (cK hd)
   ·rw[bq.mp hd];exact fc
  ·exact h.2 d (List.mem_of_mem_drop hd)
theorem aeF (Z:aj) (h1:Z "_law_take"=gw) (h2:Z "_law_form"=Ax) (h3:Z "_law_within"=jE) (h4:Z "_law_wider"=jE) (ds:List D) (G:DH) (h:Qd ds G):au Z Al noE (env0 ds 3) G (ends (Bb ds G)):=by
 obtain ⟨p,w,x,fs,rfl,hp,w1,w2,hv,hf,hfs⟩:=h;simp_all_arith[Al];nofun;erw[h1];refine dz hp (by decide) (by decide) λkd G2 hkd hp2 sb2=>?_;have hv2:=Qc hv hp sb2;symm;have drawn:∀(Y:ak) (G3:DH),Pen G3 p->Sb p G G3->au Z (.cons (.ret (.call "_law_form" (.cons (.var 0) (.cons (.var 1) .nil)))) .nil) noE (some (.ref p)::some (.int w)::Y) G3 { nx:=M,rt:=Bb [.ref p,.int w,x] G,bk:=λ_ _=>False,ct:=λ_ _=>False }:=by intro Y G3 hp3 sb3;erw[h2];refine cC ⟨p,w,rfl,hp3,w2⟩ λd G4 hx=>?_;obtain ⟨p4,n4,l,e1,e2,l1,l2,hp4,sb4⟩:=hx;simp only[dL,D.ref.injEq,D.int.injEq,Int.ofNat_inj,fF]at e1;obtain ⟨rfl,rfl⟩:=e1;exact ⟨p,w,x,l,rfl,e2,⟨l1,l2⟩,hp4,sb3.trans sb4⟩
 simp_arith![hv2,aef,aeD,aeC];refine ⟨by decide,?_⟩;cases he:(fs.map D.str).isEmpty with
 |true=>exact drawn _ _ hp2 sb2
 |false=>
  have hlen:0 < fs.length:=by
   cases fs with
   |nil=>simp at he
   |cons a r=>simp
  simp_arith![ends];cases hk2:decide ((kd:Int) < 2) with
  |true=>exact drawn _ _ hp2 sb2
  |false=>
   erw[ends];symm;erw[h1,hv2,af];refine dz hp2 (by omega) (by omega) λr G3 hr hp3 sb3=>?_;have hv3:=Qc hv2 hp2 sb3;erw[hv3];have hr':r < fs.length:=by omega
   refine bw (a:=.str fs[r]) (bR (by simp[hr'])) ?_;have fok:=hfs fs[r] (d4 _);generalize fs[r]=f at fok;symm;have sb':=sb2.trans sb3;erw[ends];cases hk3:((kd:Int)==2) with
   |true=>exact ⟨p,w,x,f,rfl,rfl,fok,hp3,sb'⟩
   |false=>
    symm;simp_arith![ends];cases hk5:decide ((kd:Int) < 5) with
    |true=>
     erw[h1];refine dz hp3 (by omega) (by omega) λat' G4 hat hp4 sb4=>?_;refine dz hp4 (by decide) (by decide) λs G5 hs hp5 sb5=>?_;obtain ⟨c,e,fc⟩:=aey hs;have c1:=JT f none (some (at':Int));have c2:=JT f (some ((at':Int)+1)) none;have f1:=fok.1;erw[e,aE];exact ⟨by bv_omega,by bv_omega,p,w,x,_,rfl,rfl,aeE fok (by omega) fc,hp5,sb'.trans (sb4.trans sb5)⟩
    |false=>
     erw[ends];symm;have f1:=fok.1;erw[h3];cases hk6:((kd:Int)==5) with
     |true=>
      refine Qa hp3 fok.2 (by omega) λm G4 hm hp4 sb4=>?_;rw[f1]at hm;exact ⟨p,w,x,m,rfl,rfl,hm,hp4,sb'.trans sb4⟩
     |false=>
      refine hM _ _ ?_;erw[h4];refine Qa hp3 fok.2 (by omega) λm G4 hm hp4 sb4=>?_;rw[f1]at hm;exact ⟨p,w,x,m,rfl,rfl,hm,hp4,sb'.trans sb4⟩
def okD(l:List Nat):Prop:=1<=l.length/\l.length<=8/\∀c∈l,97<=c/\c<=122
theorem aeG{p:Addr}{n:Nat}{cs:List Nat}{G:DH}{k:D->DH->Prop}{E:EK}(hp:Pen G p)(hn:n<=1000)(h1:cs≠[])(h2:cs.length<=1000)(hk:∀(l:List Nat)(G':DH),l.length=n->(∀c∈l,c∈cs)->Pen G' p->Sb p G G'->k (.str l) G'):oG.t [.ref p,.int n,.str cs] G k E:=by refine cC ⟨p,n,cs,rfl,hp,hn,h1,h2⟩ λd G' hx=>?_;obtain ⟨p2,n2,cs2,l,e1,e2,l1,l2,hp',sb⟩:=hx;simp only[dL,D.ref.injEq,D.int.injEq,D.str.injEq,Int.ofNat_inj,fF]at e1;obtain ⟨rfl,rfl,rfl⟩:=e1;subst e2;exact hk l G' l1 l2 hp' sb
def Qe(ds:List D)(G:DH):Prop:=∃p,∃m:Int,ds=[.ref p,.int m]/\Pen G p/\0 < m/\m<=100
def Qf(ds:List D)(G:DH)(d:D)(G':DH):Prop:=∃p,∃m:Int,∃xs:List (List Nat),ds=[.ref p,.int m]/\d=.lst (xs.map D.str)/\0 < xs.length/\xs.length<=100/\(∀x∈xs,okD x)/\Pen G' p/\Sb p G G'
def vY:RF.Spec:=bV Qe Qf
def Bc:List (List Nat):=[[97],[103,111],[115,116,97,121],[97,98,99,100,101,102,103,104],[110,111,110,101],[121,101,115],[105,110],[111,117,116],[107,101,101,112],[119,111,114,100],[122,122]]
theorem aeH:∀x∈Bc,okD x:=by
 have h:∀x∈Bc,1<=x.length/\x.length<=8/\∀c∈x,97<=c/\c<=122:=by decide
 exact h
theorem Qg{c:Nat}(h:c∈[97,98,99,100,101,102,103,104,105,106,107,108,109,110,111,112,113,114,115,116,117,118,119,120,121,122]):97<=c/\c<=122:=by
 have:∀c∈[97,98,99,100,101,102,103,104,105,106,107,108,109,110,111,112,113,114,115,116,117,118,119,120,121,122],97<=c/\c<=122:=by decide
 exact this c h
theorem aeI (Z:aj) (h1:Z "_law_take"=gw) (h2:Z "_law_signs"=oG) (ds:List D) (G:DH) (h:Qe ds G):au Z Ah noE (env0 ds 4) G (ends (Qf ds G)):=by
 obtain ⟨p,m,rfl,hp,m1,m2⟩:=h;simp_all_arith[Ah];nofun;erw[ends];refine ⟨by decide,hM _ _ ?_⟩;refine (λtail=>tail Bc rfl aeH) (?_:∀xs:List (List Nat),xs.length=11->(∀x∈xs,okD x)->au Z _ noE [some (.ref p),some (.int m),some (.lst (xs.map D.str)),none,none,none] G _);intro xs x1 x2;nofun;erw[h1];refine dz hp (by decide) (by decide) λt G2 ht hp2 sb2=>?_;symm;erw[h1];refine dz hp2 (by omega) (by omega) λr G3 hr hp3 sb3=>?_;erw[ends];refine ⟨by omega,?_⟩;refine CompG.inv (P:=λi acc Y G'=>(∃o,Y=[o,some (.lst (xs.map D.str)),some (.int t)])/\G'=G3/\∃ys:List (List Nat),acc=ys.map D.str/\ys.length=i/\∀y∈ys,okD y) ⟨⟨_,rfl⟩,rfl,[],rfl,rfl,by simp⟩ (λ_ _ _ _ _=>trivial) (by simp[aW];bv_omega) ?_ ?_
 ·rintro i d acc Y G' hd ⟨⟨o,rfl⟩,rfl,ys,rfl,y1,y2⟩ kk hk;unfold aW at hd;rw[ax]at hd;obtain ⟨j,hj,rfl⟩:=ar.mp hd;erw[ends];have q0:0<=((t:Int)+3 * (0+(j:Int))) % 11:=fR _ (by decide);have q1:((t:Int)+3 * (0+(j:Int))) % 11 < 11:=fy _ (by decide);refine ⟨Aw (by decide),by decide,KR q0 (by rw[af,x1];exact q1) λa ha=>?_⟩;obtain ⟨x,hx,rfl⟩:=bb.mp ha;refine hk _ _ _ ⟨⟨_,rfl⟩,rfl,ys++[x],by simp,by simp[y1],λy hy=>?_⟩;rcases bP.mp hy with h |h
  ·exact y2 y h
  ·rw[bq.mp h];exact x2 x hx
 ·rintro acc Y G' ⟨_,rfl,ys,rfl,y1,y2⟩;have hy:ys.length=r+1:=by rw[y1];simp[aW];omega
  symm;erw[h1];refine dz hp3 (by decide) (by decide) λq G4 hq hp4 sb4=>?_;have sb':=sb2.trans (sb3.trans sb4);erw[ends];cases hq0:((q:Int)==0) with
  |false=>
   refine hM _ _ ?_;erw[ends];exact ⟨p,m,ys,rfl,rfl,by omega,by omega,y2,hp4,sb'⟩
  |true=>
   erw[ends];refine CompG.inv (P:=λi acc Y G'=>(∃o,Y=[o,some (.ref p),some (.str [97,98,99,100,101,102,103,104,105,106,107,108,109,110,111,112,113,114,115,116,117,118,119,120,121,122])])/\Pen G' p/\Sb p G G'/\∃zs:List (List Nat),acc=zs.map D.str/\zs.length=i/\∀z∈zs,okD z) ⟨⟨_,rfl⟩,hp4,sb',[],rfl,rfl,by simp⟩ (λ_ _ _ _ _=>trivial) (by simp;bv_omega) ?_ ?_
   ·rintro i d acc Y G' hd ⟨⟨o,rfl⟩,hp5,sb5,zs,rfl,z1,z2⟩ kk hk;erw[h1,h2];refine dz hp5 (by decide) (by decide) λn G6 hn hp6 sb6=>?_;erw[ends];rw[show (1:Int)+(n:Int)=((n+1:Nat):Int) by omega];refine aeG hp6 (by omega) (by simp) (by simp) λl G7 l1 l2 hp7 sb7=>?_;refine hk _ _ _ ⟨⟨_,rfl⟩,hp7,sb5.trans (sb6.trans sb7),zs++[l],by simp,by simp[z1],λz hz=>?_⟩;rcases bP.mp hz with h |h
    ·exact z2 z h
    ·rw[bq.mp h];exact ⟨by omega,by omega,λc hc=>Qg (l2 c hc)⟩
   ·rintro acc Y G' ⟨_,hp5,sb5,zs,rfl,z1,z2⟩;rw[af]at z1;refine hM _ _ ?_;erw[ends];exact ⟨p,m,zs,rfl,rfl,by omega,by omega,z2,hp5,sb5⟩
abbrev Row:=List Nat×List Nat
def az(r:Row):D:=.tup [.str r.1,.str r.2]
def ao(w:Nat)(rs:List Row):D:=.tup [.int w,.tup (rs.map az)]
structure okB(w:Nat)(rs:List Row):Prop where
 w1:1<=w
 w6:w<=6
 len:rs.length<=12
 form:∀r∈rs,okF w r.1
 deed:∀r∈rs,okD r.2
def Qh(ds:List D)(G:DH):Prop:=∃p,∃w m:Nat,ds=[.ref p,.int w,.int m]/\Pen G p/\1<=w/\w<=6/\m<=12
def Qi(ds:List D)(G:DH)(d:D)(G':DH):Prop:=∃p,∃w m v:Nat,∃rs:List Row,ds=[.ref p,.int w,.int m]/\d=ao v rs/\okB v rs/\v<=w/\rs.length<=m/\Pen G' p/\Sb p G G'
def vZ:RF.Spec:=bV Qh Qi
theorem aeJ{p:Addr}{w m:Nat}{G:DH}{k:D->DH->Prop}{E:EK}(hp:Pen G p)(h1:1<=w)(h2:w<=6)(h3:m<=12)(hk:∀(v:Nat)(rs:List Row)(G':DH),okB v rs->v<=w->rs.length<=m->Pen G' p->Sb p G G'->k (ao v rs) G'):vZ.t [.ref p,.int w,.int m] G k E:=by refine cC ⟨p,w,m,rfl,hp,h1,h2,h3⟩ λd G' hx=>?_;obtain ⟨p2,w2,m2,v,rs,e1,e2,o,q1,q2,hp',sb⟩:=hx;simp only[dL,D.ref.injEq,D.int.injEq,Int.ofNat_inj,fF]at e1;obtain ⟨rfl,rfl,rfl⟩:=e1;subst e2;exact hk v rs G' o q1 q2 hp' sb
theorem aeK{p:Addr}{m:Int}{G:DH}{k:D->DH->Prop}{E:EK}(hp:Pen G p)(h1:0 < m)(h2:m<=100)(hk:∀(xs:List (List Nat))(G':DH),0 < xs.length->xs.length<=100->(∀x∈xs,okD x)->Pen G' p->Sb p G G'->k (.lst (xs.map D.str)) G'):vY.t [.ref p,.int m] G k E:=by refine cC ⟨p,m,rfl,hp,h1,h2⟩ λd G' hx=>?_;obtain ⟨p2,m2,xs,e1,e2,q1,q2,q3,hp',sb⟩:=hx;cases e1;subst e2;exact hk xs G' q1 q2 q3 hp' sb
theorem xR{α:Type}{l:List α}{a:α}:atI (l++[a]) (-1)=some a:=by unfold atI ixN;rw[if_neg (by decide),if_pos (by simp;omega),aE,gX,show (-1+((l.length+1:Nat):Int)).toNat=l.length by omega];simp
theorem aeL (Z:aj) (h1:Z "_law_take"=gw) (h2:Z "_law_deeds_of"=vY) (h3:Z "_law_form_like"=vX) (ds:List D) (G:DH) (h:Qh ds G):au Z Am noE (env0 ds 5) G (ends (Qi ds G)):=by
 obtain ⟨p,w,m,rfl,hp,w1,w2,m1⟩:=h;simp_all_arith[Am];nofun;erw[h1];refine dz hp (by omega) (by omega) λn G2 hn hp2 sb2=>?_;erw[ends];rw[show (1:Int)+(n:Int)=((n+1:Nat):Int) by omega];symm;erw[h2];refine aeK hp2 (by decide) (by decide) λxs G3 x1 x2 x3 hp3 sb3=>?_;symm;erw[ends];refine λq hq=>hM _ _ (seq λM hM=>?_);erw[ends];refine λs hs=>hM _ _ (seq λM hM=>?_);have hqs:q≠s:=by rintro rfl;rw[bI]at hs;cases hs
 have hs3:G3 s=none:=by rw[cO (Ne.symm hqs)]at hs;exact hs
 have npq:p≠q:=hp3.ne hq;have nps:p≠s:=hp3.ne hs3;have sa4:Sa G3 (bx (bx G3 q (.lst [])) s (.lst [])):=(Sa.new hq).trans (Sa.new hs);have hp4:=hp3.sa sa4;simp_arith![h1];refine dz hp4 (by omega) (by omega) λr G5 hr hp5 sb5=>?_;simp_arith![ends];refine ⟨by omega,?_⟩;refine ForG.inv (P:=λi Y G'=>(∃o,Y=[some (.ref p),some (.int w),some (.int m),some (.int ((n+1:Nat):Int)),some (.lst (xs.map D.str)),some (.ref q),some (.ref s),o])/\Pen G' p/\Sb p G G'/\
   ∃rs:List Row,G' q=some (.lst ((rs.map (·.1)).map D.str))/\G' s=some (.lst (rs.map az))/\rs.length=i/\(∀r∈rs,okF (n+1) r.1)/\∀r∈rs,okD r.2) ⟨⟨_,rfl⟩,hp5,sb2.trans (sb3.trans (sa4.sb.trans sb5)),[],?_,?_,rfl,by simp,by simp⟩ (λ_ _ _ _=>trivial) ?_ ?_
 ·exact sb5 q _ (by rw[cO hqs];exact bI) (Ne.symm npq)
 ·exact sb5 s _ bI (Ne.symm nps)
 ·rintro i d Y G' hd ⟨⟨o,rfl⟩,hp6,sb6,rs,g1,g2,r1,r2,r3⟩ kk hk;have hi:i < r:=by
   have:=(am.mp hd).1;simpa [aW] using this
  simp_arith![ends];nofun;erw[h3,cU g1];refine aeB (fs:=rs.map (·.1)) hp6 (by omega) (by omega) (cY g1) (by simp;omega) (λf hf=>?_) λf G7 hf hp7 sb7=>?_
  ·obtain ⟨r',hr',rfl⟩:=bb.mp hf;exact r2 r' hr'
  have g1':=sb7 q _ g1 (Ne.symm npq);have g2':=sb7 s _ g2 (Ne.symm nps);erw[cU g1'];refine ⟨by simp;bv_omega,hM _ _ (last ?_)⟩;have e2:bx G7 q (.lst ((rs.map (·.1)).map D.str++[.str f])) s=some (.lst (rs.map az)):=by rw[cO (Ne.symm hqs)];exact g2'
  have hp8:Pen (bx G7 q (.lst ((rs.map (·.1)).map D.str++[.str f]))) p:=hp7.sb Sb.upd npq;erw[h1,cU e2,cY bI,xR,af];refine dz hp8 (by omega) (by omega) λt G9 ht hp9 sb9=>?_;have e1':=sb9 q _ bI (Ne.symm npq);have e2':=sb9 s _ e2 (Ne.symm nps);erw[cU e2'];refine KR (by omega) (by simp;omega) λx hx=>?_;obtain ⟨dd,hdd,rfl⟩:=bb.mp hx;refine ⟨by decide,by simp;bv_omega,hk _ _ ⟨⟨_,rfl⟩,hp9.sb Sb.upd nps,?_,rs++[(f,dd)],?_,?_,by simp[r1],?_,?_⟩⟩
  ·intro b ob hb nb;by_cases hbs:b=s
   ·subst hbs;exfalso;have z:=sb2 b _ hb nb;have z:=sb3 b _ z nb;rw[hs3]at z;cases z
   ·by_cases hbq:b=q
    ·subst hbq;exfalso;have z:=sb2 b _ hb nb;have z:=sb3 b _ z nb;rw[hq]at z;cases z
    ·rw[cO hbs];exact sb9 b _ (by rw[cO hbq];exact sb7 b _ (sb6 b _ hb nb) nb) nb
  ·rw[cO hqs,e1'];simp
  ·rw[bI];simp[az]
  ·intro r' hr';rcases bP.mp hr' with h |h
   ·exact r2 r' h
   ·rw[bq.mp h];exact hf
  ·intro r' hr';rcases bP.mp hr' with h |h
   ·exact r3 r' h
   ·rw[bq.mp h];exact x3 dd hdd
 ·rintro Y G' ⟨⟨o,rfl⟩,hp6,sb6,rs,g1,g2,r1,r2,r3⟩;have hl:rs.length=r:=by rw[r1];simp[aW]
  refine hM _ _ ?_;erw[cY g2];exact ⟨by decide,p,w,m,n+1,rs,rfl,rfl,⟨by omega,by omega,by omega,r2,r3⟩,by omega,by omega,hp6,sb6⟩
def alt(c:Nat):List Nat:=if c=42 then [48,49] else [c]
def step1(acc:List (List Nat))(c:Nat):List (List Nat):=acc.flatMap λt=>(alt c).map λs=>t++[s]
def aJ(f:List Nat):List (List Nat):=f.foldl step1 [[]]
def Fits(f w:List Nat):Prop:=f.length=w.length/\∀(i c s:Nat),f[i]?=some c->w[i]?=some s->s∈alt c
theorem Qj(f:List Nat)(c:Nat):aJ (f++[c])=step1 (aJ f) c:=by unfold aJ;rw[List.foldl_append];rfl
theorem aeM{acc:List (List Nat)}{c:Nat}{w:List Nat}:w∈step1 acc c↔∃t s,t∈acc/\s∈alt c/\w=t++[s]:=by
 unfold step1;rw[eh];constructor
 ·rintro ⟨t,ht,h⟩;obtain ⟨s,hs,rfl⟩:=bb.mp h;exact ⟨t,s,ht,hs,rfl⟩
 ·rintro ⟨t,s,ht,hs,rfl⟩;exact ⟨t,ht,bb.mpr ⟨s,hs,rfl⟩⟩
theorem Bd{f w:List Nat}{c s:Nat}:Fits (f++[c]) (w++[s])↔Fits f w/\s∈alt c:=by
 constructor
 ·rintro ⟨h1,h2⟩;have hl:f.length=w.length:=by simpa using h1
  refine ⟨⟨hl,λi c' s' hc hs=>?_⟩,?_⟩
  ·have i1:=(am.mp hc).1;exact h2 i c' s' (by rw[e6 i1];exact hc) (by rw[e6 (by omega)];exact hs)
  ·exact h2 f.length c s (by simp) (by rw[hl];simp)
 ·rintro ⟨⟨h1,h2⟩,h3⟩;refine ⟨by simp[h1],λi c' s' hc hs=>?_⟩;by_cases hi:i < f.length
  ·rw[e6 hi]at hc;rw[e6 (by omega)]at hs;exact h2 i c' s' hc hs
  ·have i2:=(am.mp hc).1;simp at i2;have e:i=f.length:=by omega
   subst e;simp at hc;rw[h1]at hs;simp at hs;subst hc hs;exact h3
theorem bG{f w:List Nat}:w∈aJ f↔Fits f w:=by
 induction f using JV generalizing w with
 |nil=>
  simp[aJ,Fits];constructor
  ·rintro rfl;simp
  ·intro h;exact ee.mp h.symm
 |snoc f c ih=>
  rw[Qj,aeM];constructor
  ·rintro ⟨t,s,ht,hs,rfl⟩;exact Bd.mpr ⟨ih.mp ht,hs⟩
  ·intro h;have hl:=h.1;simp at hl;have hne:w≠[]:=by rintro rfl;simp at hl
   refine ⟨w.dropLast,w.getLast hne,?_,?_,(fN hne).symm⟩
   ·rw[<-fN hne]at h;exact ih.mpr (Bd.mp h).1
   ·rw[<-fN hne]at h;exact (Bd.mp h).2
theorem aeN{acc:List (List Nat)}{c:Nat}:(step1 acc c).length<=2 * acc.length:=by
 unfold step1;induction acc with
 |nil=>simp
 |cons a r ih=>
  rw[ck,aE,af,cS];have:(alt c).length<=2:=by unfold alt;split <;> simp
  omega
theorem Qk(f:List Nat):(aJ f).length<=2 ^ f.length:=by
 induction f using JV with
 |nil=>simp[aJ]
 |snoc f c ih=>
  rw[Qj,aE,gX,hX];have:=@aeN (aJ f) c;omega
def letters:List Nat:=[97,98,99,100,101,102,103,104,105,106,107,108,109,110,111,112,113,114,115,116,117,118,119,120,121,122]
theorem aeO:∀c:Fin 123,97<=c.1->letters.contains c.1=true:=by decide
theorem aeP{c:Nat}:letters.contains c=true↔97<=c/\c<=122:=
 ⟨λh=>Qg (ca.mp h),λ⟨h1,h2⟩=>aeO ⟨c,Nat.lt_succ_of_le h2⟩ h1⟩
def okW(w:Nat)(l:List Nat):Prop:=l.length=w/\∀c∈l,c=48\/c=49
theorem Be{α:Type}(l:List α):bools (l.map λ_=>D.bl true)=some (l.map λ_=>true):=z6 _ l
theorem Bg{α:Type}(l:List α):(l.map λ_=>true).all id=true:=cq.mpr λx hx=>by obtain ⟨_,_,rfl⟩:=bb.mp hx;rfl
def v6:RF.Spec:=bO (λa:List Nat×List Nat=>[.str a.1,.int a.2.length,.str a.2]) (λa=>a.2.length<=1000/\∀c∈a.2,a.1.contains c=true) (λ_=>.bl true)
theorem aeQ(Z:aj)(a:List Nat×List Nat)(G:DH)(h:a.2.length<=1000/\∀c∈a.2,a.1.contains c=true):au Z mY noE (env0 [.str a.1,.int a.2.length,.str a.2] 0) G (ends λd G'=>G'=G/\d=.bl true):=by
 obtain ⟨s,l⟩:=a;obtain ⟨h1,h2⟩:=h;dsimp only at h1 h2;erw[mY,BEq.rfl];refine CompG.map (f:=λ_=>.bl true) (I:=λY=>∃o,Y=[o,some (.str s)]) ⟨_,rfl⟩ trivial (by simp;bv_omega) ?_ ?_
 ·rintro d Y hd ⟨o,rfl⟩ kk hk;obtain ⟨c,hc,rfl⟩:=bb.mp hd;erw[h2 c hc];exact hk _ ⟨_,rfl⟩
 ·erw[Be,Bg]
def v7:RF.Spec:=bO (λl:List Nat=>[.int l.length,.str l]) (λl=>l.length<=1000/\∀c∈l,c=48\/c=49) (λ_=>.bl true)
theorem aeR (Z:aj) (h1:Z "is_text_of"=v6) (l:List Nat) (G:DH) (h:l.length<=1000/\∀c∈l,c=48\/c=49):au Z oE noE (env0 [.int l.length,.str l] 0) G (ends λd G'=>G'=G/\d=.bl true):=by erw[oE,h1];exact bQ ([48,49],l) rfl ⟨h.1,λc hc=>by rcases h.2 c hc with rfl |rfl <;> rfl⟩ ⟨rfl,rfl⟩
theorem aeS{w:Nat}{l:List Nat}{G:DH}{k:D->DH->Prop}{E:EK}(h:okW w l)(hw:w<=1000)(hk:k (.bl true) G):v7.t [.int w,.str l] G k E:=
 bQ l (by rw[h.1]) ⟨by rw[h.1];exact hw,h.2⟩ hk
def Bh:RF.Spec:=bO (λl:List Nat=>[.int l.length,.str l]) (λl=>l.length<=1000/\∀c∈l,isF c) (λ_=>.bl true)
theorem aeT (Z:aj) (h1:Z "is_text_of"=v6) (l:List Nat) (G:DH) (h:l.length<=1000/\∀c∈l,isF c):au Z mZ noE (env0 [.int l.length,.str l] 0) G (ends λd G'=>G'=G/\d=.bl true):=by erw[mZ,h1];exact bQ ([48,49,42],l) rfl ⟨h.1,λc hc=>by rcases h.2 c hc with rfl |rfl |rfl <;> rfl⟩ ⟨rfl,rfl⟩
def Bj:RF.Spec:=bO (λl:List Nat=>[.str l]) okD (λ_=>.bl true)
theorem aeU(Z:aj)(l:List Nat)(G:DH)(h:okD l):au Z mX noE (env0 [.str l] 0) G (ends λd G'=>G'=G/\d=.bl true):=by
 obtain ⟨h1,h2,h3⟩:=h;have b1:decide ((1:Int)<=(l.length:Int))=true:=cb (by omega);have b2:decide ((l.length:Int)<=8)=true:=cb (by omega);erw[mX,b1,b2];refine CompG.map (f:=λ_=>.bl true) (I:=λY=>∃o,Y=[o]) ⟨_,rfl⟩ trivial (by simp;bv_omega) ?_ ?_
 ·rintro d Y hd ⟨o,rfl⟩ kk hk;obtain ⟨c,hc,rfl⟩:=bb.mp hd;have hcl:[97,98,99,100,101,102,103,104,105,106,107,108,109,110,111,112,113,114,115,116,117,118,119,120,121,122].contains c=true:=aeP.mpr (h3 c hc);erw[hcl];exact hk _ ⟨_,rfl⟩
 ·erw[Be,Bg]
def Bk:RF.Spec:=bO (λa:Nat×Row=>[.int a.1,az a.2]) (λa=>a.1<=6/\okF a.1 a.2.1/\okD a.2.2) (λ_=>.bl true)
theorem aeV (Z:aj) (h1:Z "is_form"=Bh) (h2:Z "is_deed"=Bj) (a:Nat×Row) (G:DH) (h:a.1<=6/\okF a.1 a.2.1/\okD a.2.2):au Z m5 noE (env0 [.int a.1,az a.2] 0) G (ends λd G'=>G'=G/\d=.bl true):=by obtain ⟨w,f,d⟩:=a;obtain ⟨hw,hf,hd⟩:=h;dsimp only at hw hf hd;erw[m5,az,h1,h2];erw[show ((0+1+1:Nat):Int)=2 from rfl,BEq.rfl];refine bQ f (by rw[hf.1]) ⟨by rw[hf.1];omega,hf.2⟩ ?_;erw[ends];exact bQ d rfl hd ⟨rfl,rfl⟩
def Bl:RF.Spec:=bO (λw:Nat=>[.int w]) (λw=>1<=w/\w<=6) (λ_=>.bl true)
theorem aeW (Z:aj) (h1:Z "is_whole"=aH jD) (w:Nat) (G:DH) (h:1<=w/\w<=6):au Z m6 noE (env0 [.int w] 0) G (ends λd G'=>G'=G/\d=.bl true):=by have b1:decide ((1:Int)<=(w:Int))=true:=cb (by omega);have b2:decide ((w:Int)<=6)=true:=cb (by omega);erw[m6,h1];refine cu (d:=.bl true) rfl ?_;erw[b1,b2]
def v8:RF.Spec:=bO (λa:Nat×List Row=>[ao a.1 a.2]) (λa=>okB a.1 a.2) (λ_=>.bl true)
theorem aeX (Z:aj) (h1:Z "is_width"=Bl) (h2:Z "is_row"=Bk) (a:Nat×List Row) (G:DH) (h:okB a.1 a.2):au Z m7 noE (env0 [ao a.1 a.2] 2) G (ends λd G'=>G'=G/\d=.bl true):=by
 obtain ⟨w,rs⟩:=a;dsimp only at h ⊢;have hlen:=h.len;simp_all_arith[m7,ao];nofun;erw[ends];erw[show ((0+1+1:Nat):Int)=2 from rfl,BEq.rfl];symm;erw[ends];symm;erw[h1];refine bQ w rfl ⟨h.w1,h.w6⟩ ?_;have hd:decide ((12:Int) < ((rs.map az).length:Int))=false:=cy (by rw[af];omega);erw[hd];refine hM _ _ ?_;erw[ends];refine CompG.map (f:=λ_=>.bl true) (I:=λY=>∃o,Y=[o,some (.int w)]) ⟨_,rfl⟩ trivial (by rw[af];bv_omega) ?_ ?_
 ·rintro d Y hd ⟨o,rfl⟩ kk hk;obtain ⟨r,hr,rfl⟩:=bb.mp hd;erw[h2];exact bQ (w,r) rfl ⟨h.w6,h.form r hr,h.deed r hr⟩ (hk _ ⟨_,rfl⟩)
 ·erw[Be,Bg]
def fM:RF.Spec:=bO (λa:Nat×List Row=>[ao a.1 a.2]) (λa=>okB a.1 a.2) (λ_=>.non)
theorem ig{w:Nat}{rs:List Row}{G:DH}{k:D->DH->Prop}{E:EK}(h:okB w rs)(hk:k .non G):fM.t [ao w rs] G k E:=bQ (w,rs) rfl h hk
theorem aeY (Z:aj) (h1:Z "is_book"=v8) (a:Nat×List Row) (G:DH) (h:okB a.1 a.2):au Z m8 noE (env0 [ao a.1 a.2] 0) G (ends λd G'=>G'=G/\d=.non):=by erw[m8,h1];refine bQ a rfl h ?_;erw[ends]
def cV(c s:Nat):Bool:=c==42||c==s
def bB:List Nat->List Nat->Bool
 |c::f,s::w=>cV c s&&bB f w
 |_,_=>true
def aL(f w:List Nat):Bool:=decide (f.length=w.length)&&bB f w
def kZ:List D->Option D
 |[.str f,.str w]=>if decide (f.length<=100000) then some (.bl (aL f w)) else none
 |_=>none
theorem Bm:∀(f w:List Nat),cH (f.map λc=>D.str [c]) (w.map λc=>D.str [c])=(f.zip w).map λp=>D.tup [.str [p.1],.str [p.2]]
 |[],w=>by simp[cH]
 |c::f,[]=>by simp[cH]
 |c::f,s::w=>by simp[cH,Bm f w]
theorem Ql:∀(f w:List Nat),((f.zip w).map λp=>cV p.1 p.2).all id=bB f w
 |[],w=>by simp[bB]
 |c::f,[]=>by simp[bB]
 |c::f,s::w=>by simp[bB,Ql f w]
theorem eE{c s:Nat}:(([c]==[s]):Bool)=(c==s):=by
 by_cases h:c=s
 ·subst h;simp
 ·rw[eS.mpr h,eS.mpr (by simp[h])]
theorem aeZ{a b:Nat}:((((a:Nat):Int)==((b:Nat):Int)):Bool)=decide (a=b):=by
 by_cases h:a=b
 ·subst h;simp
 ·rw[cy h,eS];omega
theorem ae0(Z:aj)(ds:List D)(G:DH)(d:D)(h:kZ ds=some d):au Z nW noE (env0 ds 0) G (ends λd' G'=>G'=G/\d'=d):=by
 unfold kZ at h;split at h
 ·rename_i f w;split at h
  ·rename_i hl;have hl:=eM hl;cases h;erw[nW,aeZ,aL];cases he:decide (f.length=w.length) with
   |false=>erw[g9]
   |true=>
    erw[Bm,Bool.true_and];refine CompG.map (f:=λd=>match d with |.tup [.str [c],.str [s]]=>.bl (cV c s) |_=>.non) (I:=λY=>∃o o',Y=[o,o']) ⟨_,_,rfl⟩ trivial (by simp;bv_omega) ?_ ?_
    ·rintro d Y hd ⟨o,o',rfl⟩ kk hk;obtain ⟨⟨c,s⟩,_,rfl⟩:=bb.mp hd;erw[eE];have:=hk [some (.str [c]),some (.str [s])] ⟨_,_,rfl⟩;unfold cV at this;cases hc:(c==42) with
     |true=>erw[hc]at this ⊢;exact this
     |false=>erw[hc]at this ⊢;exact this
    ·rw[ek];erw[Function.comp_def,z6,Ql,and_self]
  ·cases h
 ·cases h
theorem Bo{c s:Nat}(hs:s=48\/s=49):cV c s=true↔s∈alt c:=by
 unfold cV alt;by_cases h:c=42
 ·subst h;simp;rcases hs with rfl |rfl <;> simp
 ·simp[h];exact eq_comm
theorem Bp:∀{f w:List Nat},f.length=w.length->(∀s∈w,s=48\/s=49)->(bB f w=true↔∀(i c s:Nat),f[i]?=some c->w[i]?=some s->s∈alt c)
 |[],[],_,_=>by simp[bB]
 |[],s::w,h,_=>by simp at h
 |c::f,[],h,_=>by simp at h
 |c::f,s::w,h,hw=>by
  rw[bB,ae,Bp (by simpa using h) λs hs=>hw s (aI _ hs),Bo (hw s aS)];constructor
  ·rintro ⟨h1,h2⟩ i c' s' hc hs;cases i with
   |zero=>simp at hc hs;subst hc hs;exact h1
   |succ i=>exact h2 i c' s' (by simpa using hc) (by simpa using hs)
  ·intro h;exact ⟨h 0 c s rfl rfl,λi c' s' hc hs=>h (i+1) c' s' (by simpa using hc) (by simpa using hs)⟩
theorem iV{f w:List Nat}(hw:∀s∈w,s=48\/s=49):aL f w=true↔Fits f w:=by
 unfold aL Fits;rw[ae,b6];constructor
 ·rintro ⟨h1,h2⟩;exact ⟨h1,(Bp h1 hw).mp h2⟩
 ·rintro ⟨h1,h2⟩;exact ⟨h1,(Bp h1 hw).mpr h2⟩
def aK(rs:List Row)(w:List Nat):Option Nat:=rs.findIdx? λr=>aL r.1 w
def aU:Option Nat->D
 |some n=>.int n
 |none=>.non
def v9:RF.Spec:=bV (λds _=>∃w rs l,ds=[ao w rs,.str l]/\okB w rs/\okW w l) (λds G d G'=>G'=G/\∃w rs l,ds=[ao w rs,.str l]/\d=aU (aK rs l))
theorem wg{w v:Nat}{rs ss:List Row}(h:ao w rs=ao v ss):w=v/\rs=ss:=by
 unfold ao at h;simp only[D.tup.injEq,dL,D.int.injEq,Int.ofNat_inj,fF]at h;refine ⟨h.1,?_⟩;have h2:=h.2;clear h;induction rs generalizing ss with
 |nil=>cases ss with
  |nil=>rfl
  |cons _ _=>simp at h2
 |cons r rs ih=>cases ss with
  |nil=>simp at h2
  |cons s ss=>
   simp only[bp,dL]at h2;have e:r=s:=by have:=h2.1;unfold az at this;simp only[D.tup.injEq,dL,D.str.injEq,fF]at this;exact Prod.ext this.1 this.2
   rw[e,ih h2.2]
theorem ae1{w:Nat}{rs:List Row}{l:List Nat}{G:DH}{k:D->DH->Prop}{E:EK}(h:okB w rs)(hl:okW w l)(hk:k (aU (aK rs l)) G):v9.t [ao w rs,.str l] G k E:=by refine cC ⟨w,rs,l,rfl,h,hl⟩ λd G' hx=>?_;obtain ⟨e1,w2,rs2,l2,e2,e3⟩:=hx;simp only[dL,D.str.injEq,fF]at e2;obtain ⟨e2,rfl⟩:=e2;obtain ⟨rfl,rfl⟩:=wg e2;subst e1 e3;exact hk
theorem wj{rs:List Row}{l:List Nat}{i:Nat}{r:Row}(h:rs[i]?=some r):aK (rs.drop i) l=if aL r.1 l then some 0 else (aK (rs.drop (i+1)) l).map (·+1):=by
 have hi:=(am.mp h).1;have e:rs.drop i=r::rs.drop (i+1):=by rw[bo hi];rw[(am.mp h).2]
 rw[e];unfold aK;rw[gL]
theorem ae2 (Z:aj) (h1:Z "need_book"=fM) (h2:Z "is_word"=v7) (h3:Z "fits"=aH kZ) (ds:List D) (G:DH) (h:∃w rs l,ds=[ao w rs,.str l]/\okB w rs/\okW w l):
  au Z oF noE (env0 ds 4) G (ends λd G'=>G'=G/\∃w rs l,ds=[ao w rs,.str l]/\d=aU (aK rs l)):=by
 obtain ⟨w,rs,l,rfl,hb,hl⟩:=h;have hl1:=hl.1;have hw6:=hb.w6;simp_all_arith[oF];nofun;erw[h1];refine ig hb (hM _ _ (seq λM hM=>?_));conv=>enter [4,1,1];rw[ao]
 erw[ends];symm;erw[h2];refine aeS hl (by omega) ?_;erw[ends];symm;simp_arith![ends];refine ForG.inv (P:=λi Y G'=>(∃o4 o5,Y=[some (.tup [.int w,.tup (rs.map az)]),some (.str l),some (.int w),some (.tup (rs.map az)),o4,o5])/\G'=G/\aK rs l=(aK (rs.drop i) l).map (·+i)) ⟨⟨_,_,rfl⟩,rfl,by simp⟩ (λ_ _ _ _=>trivial) ?_ ?_
 ·rintro i d Y G' hd ⟨⟨o4,o5,rfl⟩,rfl,hmet⟩ kk hk;rw[iM]at hd;obtain ⟨d',hd',rfl⟩:=ar.mp hd;rw[ax]at hd';obtain ⟨r,hr,rfl⟩:=ar.mp hd';have hrf:=(hb.form r (ba hr)).1;rw[wj hr]at hmet;simp_arith![ends];refine last ?_;erw[h3,az];refine cu (d:=.bl (aL r.1 l)) (if_pos (cb (by omega))) ?_;erw[ends];cases hf:aL r.1 l with
  |true=>
   rw[hf,if_pos rfl]at hmet;exact ⟨w,rs,l,rfl,by rw[hmet];simp[aU]⟩
  |false=>
   rw[hf,if_neg a7]at hmet;refine hk _ _ ⟨⟨_,_,rfl⟩,rfl,?_⟩;rw[hmet,g0];congr 1;funext n;simp;omega
 ·rintro Y G' ⟨⟨o4,o5,rfl⟩,rfl,hmet⟩;rw[gY,af,eK]at hmet;refine hM _ _ ?_;erw[ends];exact ⟨w,rs,l,rfl,by rw[hmet];rfl⟩
def lg(rs:List Row):Option Nat->D
 |some n=>match rs[n]? with |some r=>.str r.2 |none=>.non
 |none=>.non
theorem oJ{rs:List Row}{l:List Nat}{n:Nat}(h:aK rs l=some n):n < rs.length:=by unfold aK at h;exact (List.findIdx?_eq_some_iff_findIdx_eq.mp h).1
def wk:RF.Spec:=bV (λds _=>∃w rs o,ds=[ao w rs,aU o]/\∀n,o=some n->n < rs.length) (λds G d G'=>G'=G/\∃w rs o,ds=[ao w rs,aU o]/\d=lg rs o)
theorem ae3{a b:Option Nat}(h:aU a=aU b):a=b:=by cases a <;> cases b <;> simp[aU]at h ⊢ <;> omega
theorem Qm{w:Nat}{rs:List Row}{o:Option Nat}{G:DH}{k:D->DH->Prop}{E:EK}(h:∀n,o=some n->n < rs.length)(hk:k (lg rs o) G):wk.t [ao w rs,aU o] G k E:=by refine cC ⟨w,rs,o,rfl,h⟩ λd G' hx=>?_;obtain ⟨e1,w2,rs2,o2,e2,e3⟩:=hx;simp only[dL,fF]at e2;obtain ⟨e2,e4⟩:=e2;obtain ⟨rfl,rfl⟩:=wg e2;cases ae3 e4;subst e1 e3;exact hk
theorem ae4(Z:aj)(ds:List D)(G:DH)(h:∃w rs o,ds=[ao w rs,aU o]/\∀n,o=some n->n < rs.length):au Z kY noE (env0 ds 0) G (ends λd G'=>G'=G/\∃w rs o,ds=[ao w rs,aU o]/\d=lg rs o):=by
 obtain ⟨w,rs,o,rfl,ho⟩:=h;cases o with
 |none=>
  erw[kY,aU];exact ⟨w,rs,none,rfl,rfl⟩
 |some n=>
  have hn:=ho n rfl;erw[kY,aU,ao];refine bw (a:=az rs[n]) (bR (by simp[hn])) ?_;erw[az];exact ⟨w,rs,some n,rfl,by simp[lg,hn]⟩
theorem Bq{α β:Type}(f:α->β)(l:List α)(n:Nat):cut (l.map f) none (some (n:Int))=(l.take n).map f:=by rw[iR,List.map_take]
theorem ae5{α β:Type}(f:α->β)(l:List α)(n:Nat):cut (l.map f) (some (n:Int)) none=(l.drop n).map f:=by rw[z7,List.map_drop]
theorem okB.sub{w:Nat}{rs ss:List Row}(h:okB w rs)(hl:ss.length<=rs.length)(hs:∀r∈ss,r∈rs):okB w ss:=
 ⟨h.w1,h.w6,cp hl h.len,λr hr=>h.form r (hs r hr),λr hr=>h.deed r (hs r hr)⟩
theorem Qn(a b:List Row)(l:List Nat):aK (a++b) l=match aK a l with |some n=>some n |none=>(aK b l).map (a.length + ·):=by
 unfold aK;rw[List.findIdx?_append];cases List.findIdx? (λr=>aL r.1 l) a with
 |some n=>rfl
 |none=>
  cases List.findIdx? (λr=>aL r.1 l) b with
  |none=>rfl
  |some n=>simp[Nat.add_comm]
theorem Qo(c:Nat)(n:Nat):reps [c] n=List.replicate n c:=by
 unfold reps;induction n with
 |zero=>rfl
 |succ n ih=>rw[de,fw,ih,de];rfl
theorem Qp(w:Nat):okF w (List.replicate w 42):=⟨bS,λc hc=>.inr (.inr (gx hc))⟩
theorem lq{w:Nat}{l:List Nat}:Fits (List.replicate w 42) l↔okW w l:=by
 constructor
 ·rintro ⟨h1,h2⟩;rw[bS]at h1;refine ⟨h1.symm,λc hc=>?_⟩;obtain ⟨i,hi,rfl⟩:=List.getElem_of_mem hc;have:=h2 i 42 l[i] (by rw[List.getElem?_replicate];rw[if_pos (by omega)]) (by simp[hi]);simpa [alt] using this
 ·rintro ⟨h1,h2⟩;refine ⟨by rw[bS,h1],λi c s hc hs=>?_⟩;rw[List.getElem?_replicate]at hc;split at hc
  ·cases hc;have:=h2 s (ba hs);simpa [alt] using this
  ·cases hc
theorem ae6{p:Addr}{G:DH}{k:D->DH->Prop}{E:EK}(hp:Pen G p)(hk:∀G',Pen G' p->Sb p G G'->k (.ref p) G'):vW.t [.ref p] G k E:=
 cC ⟨p,rfl,hp⟩ λd G' hx=>by obtain ⟨p2,e1,e2,hp',sb⟩:=hx;cases e1;subst e2;exact hk G' hp' sb
def bZ(a b:Nat):Option Nat:=if a=42 then some b else if b=42\/b=a then some a else none
def aQ:List Nat->List Nat->Option (List Nat)
 |a::f,b::g=>match bZ a b with |some c=>(aQ f g).map (c::·) |none=>none
 |_,_=>some []
def bM:Option (List Nat)->D
 |some l=>.str l
 |none=>.non
def iW:List D->Option D
 |[.str f,.str g]=>if decide (f.length<=100000) then some (bM (aQ f g)) else none
 |_=>none
theorem ae7{f g:List Nat}{i a b:Nat}(h:(f.zip g)[i]?=some (a,b)):aQ (f.drop i) (g.drop i)=match bZ a b with |some c=>(aQ (f.drop (i+1)) (g.drop (i+1))).map (c::·) |none=>none:=by
 have hz:=am.mp h;obtain ⟨hl,he⟩:=hz;rw[List.length_zip]at hl;have h1:i < f.length:=by omega
 have h2:i < g.length:=by omega
 rw[List.getElem_zip]at he;rw[bo h1,bo h2];simp only[Prod.mk.injEq]at he;rw[he.1,he.2];rfl
theorem ae8{f g:List Nat}:aQ (f.drop (f.zip g).length) (g.drop (f.zip g).length)=some []:=by
 rw[List.length_zip];by_cases h:f.length<=g.length
 ·rw[Nat.min_eq_left h,eK];cases g.drop f.length <;> rfl
 ·rw[Nat.min_eq_right (by omega),eK];cases f.drop g.length <;> rfl
theorem ae9(Z:aj)(ds:List D)(G:DH)(d:D)(h:iW ds=some d):au Z mK noE (env0 ds 3) G (ends λd' G'=>G'=G/\d'=d):=by
 unfold iW at h;split at h
 ·rename_i f g;split at h
  ·rename_i hl;have hl:=eM hl;cases h;simp_all_arith[mK];nofun;erw[ends];symm;simp_arith![Bm];refine ForG.inv (P:=λi Y G'=>(∃o3 o4 m,Y=[some (.str f),some (.str g),some (.str m),o3,o4]/\m.length=i/\aQ f g=(aQ (f.drop i) (g.drop i)).map (m ++ ·))/\G'=G) ⟨⟨_,_,[],rfl,rfl,by simp⟩,rfl⟩ (λ_ _ _ _=>trivial) ?_ ?_
   ·rintro i d Y G' hd ⟨⟨o3,o4,m,rfl,hm,hb⟩,rfl⟩ kk hk;rw[ax]at hd;obtain ⟨⟨a,b⟩,hab,rfl⟩:=ar.mp hd;have hi:=(am.mp hab).1;rw[List.length_zip]at hi;rw[ae7 hab]at hb;simp_arith![ends];refine last ?_;have put:∀(c:Nat)(o3 o4:Option D),bZ a b=some c->m.length+1<=sz/\kk [some (.str f),some (.str g),some (.str (m++[c])),o3,o4] G':=by
     intro c o3 o4 hc;rw[hc]at hb;refine ⟨by bv_omega,hk _ _ ⟨⟨_,_,_,rfl,by simp[hm],?_⟩,rfl⟩⟩;rw[hb,g0];congr 1;funext x;simp
    erw[eE];by_cases h42:a=42
    ·have:((a==42):Bool)=true:=by simp[h42]
     erw[this];exact put b _ _ (if_pos h42)
    ·have h0:((a==42):Bool)=false:=by simp[h42]
     erw[h0,eE];by_cases hb42:b=42
     ·have:((b==42):Bool)=true:=by simp[hb42]
      erw[this];exact put a _ _ (by unfold bZ;rw[if_neg h42,if_pos (.inl hb42)])
     ·have h1:((b==42):Bool)=false:=by simp[hb42]
      erw[h1,eE];by_cases hba:b=a
      ·have:((b==a):Bool)=true:=by simp[hba]
       erw[this];exact put a _ _ (by unfold bZ;rw[if_neg h42,if_pos (.inr hba)])
      ·have:((b==a):Bool)=false:=by simp[hba]
       erw[this];have hn:bZ a b=none:=by unfold bZ;rw[if_neg h42,if_neg (by rintro (h |h);exact hb42 h;exact hba h)]
       rw[hn]at hb;rw[hb];rfl
   ·rintro Y G' ⟨⟨o3,o4,m,rfl,hm,hb⟩,rfl⟩;rw[af,ae8]at hb;refine hM _ _ ?_;erw[ends];rw[hb];simp[bM]
  ·cases h
 ·cases h
def fO:List D->Option D
 |[.str f,.int n,.str [c]]=>if decide (0<=n)&&decide (n < f.length)&&decide (f.length<=1000) then some (.str (f.set n.toNat c)) else none
 |_=>none
theorem Br{l:List Nat}{n c:Nat}(h:n < l.length):l.take n++[c]++l.drop (n+1)=l.set n c:=by rw[gT,if_pos h];simp
theorem afa(Z:aj)(ds:List D)(G:DH)(d:D)(h:fO ds=some d):au Z mL noE (env0 ds 0) G (ends λd' G'=>G'=G/\d'=d):=by
 unfold fO at h;split at h
 ·rename_i f n c;split at h
  ·rename_i hl;simp only[ae,b6]at hl;obtain ⟨⟨h0,h1⟩,h2⟩:=hl;cases h;obtain ⟨k,rfl⟩:=dQ h0;erw[mL,iR,vP,aE,bX,cr,dr,Br (show k < f.length by omega)];exact ⟨by bv_omega,by bv_omega⟩
  ·cases h
 ·cases h
def fP:List D->Option D
 |[.int n]=>if decide (0<=n)&&decide (n<=1000) then some (.str (List.replicate n.toNat 42)) else none
 |_=>none
theorem afb(Z:aj)(ds:List D)(G:DH)(d:D)(h:fP ds=some d):au Z nq noE (env0 ds 0) G (ends λd' G'=>G'=G/\d'=d):=by
 unfold fP at h;split at h
 ·rename_i n;split at h
  ·rename_i hl;simp only[ae,b6]at hl;cases h;erw[nq,Qo];exact ⟨hl.1,hl.2,by bv_omega⟩
  ·cases h
 ·cases h
def aM(rs:List Row)(b:List Nat):Option Nat:=rs.findIdx? λr=>(aQ r.1 b).isSome
def Qq(ds:List D)(_:DH):Prop:=∃(rs:List Row)(b:List Nat),ds=[.tup (rs.map az),.str b]/\∀r∈rs,r.1.length<=1000
def Qs(ds:List D)(G:DH)(d:D)(G':DH):Prop:=G'=G/\∃(rs:List Row)(b:List Nat),ds=[.tup (rs.map az),.str b]/\d=aU (aM rs b)
def oK:RF.Spec:=bV Qq Qs
theorem Bt{rs ss:List Row}(h:rs.map az=ss.map az):rs=ss:=(wg (w:=0) (v:=0) (by unfold ao;rw[h])).2
theorem Qt{rs:List Row}{b:List Nat}{G:DH}{k:D->DH->Prop}{E:EK}(h:∀r∈rs,r.1.length<=1000)(hk:k (aU (aM rs b)) G):oK.t [.tup (rs.map az),.str b] G k E:=by refine cC ⟨rs,b,rfl,h⟩ λd G' hx=>?_;obtain ⟨e1,rs2,b2,e2,e3⟩:=hx;simp only[dL,D.str.injEq,D.tup.injEq,fF]at e2;obtain ⟨e2,rfl⟩:=e2;cases Bt e2;subst e1 e3;exact hk
theorem afc{o:Option (List Nat)}:gm (bM o)=!o.isSome:=by cases o <;> rfl
theorem afd{G:DH}{o:Option (List Nat)}:view G (bM o)=bM o:=by cases o <;> rfl
theorem afe{rs:List Row}{b:List Nat}{i:Nat}{r:Row}(h:rs[i]?=some r):aM (rs.drop i) b=if (aQ r.1 b).isSome then some 0 else (aM (rs.drop (i+1)) b).map (·+1):=by
 have hi:=(am.mp h).1;have e:rs.drop i=r::rs.drop (i+1):=by rw[bo hi];rw[(am.mp h).2]
 rw[e];unfold aM;rw[gL]
theorem afg (Z:aj) (h1:Z "both"=aH iW) (ds:List D) (G:DH) (h:Qq ds G):au Z mQ noE (env0 ds 2) G (ends (Qs ds G)):=by
 obtain ⟨rs,b,rfl,hb⟩:=h;simp_all_arith[mQ];nofun;simp_arith![ends];refine ForG.inv (P:=λi Y G'=>(∃o2 o3,Y=[some (.tup (rs.map az)),some (.str b),o2,o3])/\G'=G/\aM rs b=(aM (rs.drop i) b).map (·+i)) ⟨⟨_,_,rfl⟩,rfl,by simp⟩ (λ_ _ _ _=>trivial) ?_ ?_
 ·rintro i d Y G' hd ⟨⟨o2,o3,rfl⟩,rfl,hmet⟩ kk hk;rw[iM]at hd;obtain ⟨d',hd',rfl⟩:=ar.mp hd;rw[ax]at hd';obtain ⟨r,hr,rfl⟩:=ar.mp hd';have hrl:=hb r (ba hr);rw[afe hr]at hmet;simp_arith![ends];refine last ?_;erw[h1,az];refine cu (d:=bM (aQ r.1 b)) (if_pos (cb (by omega))) ?_;erw[afd,afc];cases hf:(aQ r.1 b).isSome with
  |true=>
   rw[hf,if_pos rfl]at hmet;exact ⟨rfl,rs,b,rfl,by rw[hmet];simp[aU]⟩
  |false=>
   rw[hf,if_neg a7]at hmet;refine hk _ _ ⟨⟨_,_,rfl⟩,rfl,?_⟩;rw[hmet,g0];congr 1;funext n;simp;omega
 ·rintro Y G' ⟨⟨o2,o3,rfl⟩,rfl,hmet⟩;rw[gY,af,eK]at hmet;refine hM _ _ ?_;erw[ends];exact ⟨rfl,rs,b,rfl,by rw[hmet];rfl⟩
def dq(f b:List Nat):Option Nat:=(f.zip b).findIdx? λp=>p.2==42&&!(p.1==42)
def dB(rs:List Row)(b:List Nat):Option Nat:=match aM rs b with |some n=>(match rs[n]? with |some r=>dq r.1 b |none=>none) |none=>none
def Qu(ds:List D)(_:DH):Prop:=∃(rs:List Row)(b:List Nat),ds=[.tup (rs.map az),.str b]/\(∀r∈rs,r.1.length=b.length)/\b.length<=1000
def Qv(ds:List D)(G:DH)(d:D)(G':DH):Prop:=G'=G/\∃(rs:List Row)(b:List Nat),ds=[.tup (rs.map az),.str b]/\d=aU (dB rs b)
def wu:RF.Spec:=bV Qu Qv
theorem afh{rs:List Row}{b:List Nat}{G:DH}{k:D->DH->Prop}{E:EK}(h:∀r∈rs,r.1.length=b.length)(hl:b.length<=1000)(hk:k (aU (dB rs b)) G):wu.t [.tup (rs.map az),.str b] G k E:=by refine cC ⟨rs,b,rfl,h,hl⟩ λd G' hx=>?_;obtain ⟨e1,rs2,b2,e2,e3⟩:=hx;simp only[dL,D.str.injEq,D.tup.injEq,fF]at e2;obtain ⟨e2,rfl⟩:=e2;cases Bt e2;subst e1 e3;exact hk
theorem lr{rs:List Row}{b:List Nat}{n:Nat}(h:aM rs b=some n):n < rs.length:=(List.findIdx?_eq_some_iff_findIdx_eq.mp h).1
theorem afi{f b:List Nat}{i s c:Nat}(hs:f[i]?=some s)(hc:b[i]?=some c):dq (f.drop i) (b.drop i)=if (c==42&&!(s==42))=true then some 0 else (dq (f.drop (i+1)) (b.drop (i+1))).map (·+1):=by have h1:=am.mp hs;have h2:=am.mp hc;rw[bo h1.1,bo h2.1,h1.2,h2.2];unfold dq;rw[List.zip_cons_cons,gL]
theorem afj (Z:aj) (h1:Z "first_touching"=oK) (ds:List D) (G:DH) (h:Qu ds G):au Z mR noE (env0 ds 3) G (ends (Qv ds G)):=by
 obtain ⟨rs,b,rfl,hb,hbl⟩:=h;simp_all_arith[mR];nofun;erw[h1];refine Qt (λr hr=>by rw[hb r hr];exact hbl) (hM _ _ (seq λM hM=>?_));cases ht:aM rs b with
 |none=>
  erw[aU];exact ⟨rfl,rs,b,rfl,by unfold dB;rw[ht];rfl⟩
 |some n=>
  have hn:=lr ht;have hlen:=hb rs[n] (d4 _);have hsp:dB rs b=dq rs[n].1 b:=by unfold dB;rw[ht];simp[hn]
  erw[aU];symm;simp_arith![ends];refine bw (a:=az rs[n]) (bR (by simp[hn])) ?_;simp_arith![az];generalize rs[n].1=f at hlen hsp;refine ForG.inv (P:=λi Y G'=>(∃o3 o4,Y=[some (.tup (rs.map az)),some (.str b),some (.int (n:Int)),o3,o4])/\G'=G/\dq f b=(dq (f.drop i) (b.drop i)).map (·+i)) ⟨⟨_,_,rfl⟩,rfl,by simp⟩ (λ_ _ _ _=>trivial) ?_ ?_
  ·rintro i d Y G' hd ⟨⟨o3,o4,rfl⟩,rfl,hs⟩ kk hk;rw[iM]at hd;obtain ⟨d',hd',rfl⟩:=ar.mp hd;rw[ax]at hd';obtain ⟨s,hsi,rfl⟩:=ar.mp hd';have hi:=(am.mp hsi).1;have hib:i < b.length:=by omega
   have hbi:b[i]?=some b[i]:=by simp[hib]
   rw[afi hsi hbi]at hs;simp_arith![ends];refine last ?_;erw[ends];refine bw (a:=b[i]) (by rw[gi];exact bR hbi) ?_;erw[eE];cases h42:(b[i]==42) with
   |false=>
    simp only[h42,g9,if_neg a7]at hs;erw[ends];refine hk _ _ ⟨⟨_,_,rfl⟩,rfl,?_⟩;rw[hs,g0];congr 1;funext n;simp;omega
   |true=>
    erw[eE];cases hs42:(s==42) with
    |true=>
     simp only[h42,hs42,Bool.not_true,hJ,if_neg a7]at hs;erw[ends];refine hk _ _ ⟨⟨_,_,rfl⟩,rfl,?_⟩;rw[hs,g0];congr 1;funext n;simp;omega
    |false=>
     simp only[h42,hs42,Bool.not_false,gz,if_pos]at hs;erw[ends];exact ⟨rfl,rs,b,rfl,by rw[hsp,hs];simp[aU]⟩
  ·rintro Y G' ⟨⟨o3,o4,rfl⟩,rfl,hs⟩;rw[gY,af,eK]at hs;refine hM _ _ ?_;erw[ends];exact ⟨rfl,rs,b,rfl,by rw[hsp,hs];simp[dq,aU]⟩
def fQ:List Nat:=[115,112,108,105,116]
def stc(b:List Nat):Nat:=b.countP (·==42)
theorem iY{b:List Nat}{n c:Nat}(h:b[n]?=some 42)(hc:c≠42):stc (b.set n c)+1=stc b:=by
 obtain ⟨hl,he⟩:=am.mp h;have e1:b=b.take n++42::b.drop (n+1):=by rw[<-he,<-bo hl,hR]
 have e2:b.set n c=b.take n++c::b.drop (n+1):=by rw[gT,if_pos hl]
 unfold stc;rw[e2];conv=>rhs;rw[e1]
 rw[gN,gN,List.countP_cons_of_neg (by simp[hc]),List.countP_cons_of_pos (by simp)];omega
theorem oM{w n c:Nat}{b:List Nat}(h:okF w b)(hc:isF c):okF w (b.set n c):=⟨by rw[cw];exact h.1,λd hd=>by
 rcases List.mem_or_eq_of_mem_set hd with h' |h'
 ·exact h.2 d h'
 ·rw[h'];exact hc⟩
theorem Bu:isF 48:=.inl rfl
theorem Bv:isF 49:=.inr (.inl rfl)
inductive Gr (name:List Nat) (rss:List (List Row)):List Nat->D->Prop
 |leaf (b:List Nat) (h:∀rs∈rss,dB rs b=none):Gr name rss b (.tup (.str name::rss.map λrs=>aU (aM rs b)))
 |node (b:List Nat) (n:Nat) (z o:D) (h:b[n]?=some 42) (hz:Gr name rss (b.set n 48) z) (ho:Gr name rss (b.set n 49) o):Gr name rss b (.tup [.str fQ,.int n,z,o])
def dO(rss:List (List Row)):List D:=rss.map λrs=>.tup (rs.map az)
structure okG(w:Nat)(name:List Nat)(rss:List (List Row)):Prop where
 len:rss.length<=100
 nl:name.length<=100
 form:∀rs∈rss,∀r∈rs,r.1.length=w
 w1000:w<=1000
def Qw(n:Nat)(ds:List D)(_:DH):Prop:=∃(w:Nat)(name:List Nat)(rss:List (List Row))(b:List Nat),ds=[.str name,.lst (dO rss),.str b]/\okG w name rss/\b.length=w/\stc b < n
def Qx(ds:List D)(G:DH)(d:D)(G':DH):Prop:=G'=G/\∃(name:List Nat)(rss:List (List Row))(b:List Nat),ds=[.str name,.lst (dO rss),.str b]/\Gr name rss b d
def eF(n:Nat):RF.Spec:=bV (Qw n) Qx
theorem afk{a b:List (List Row)}(h:dO a=dO b):a=b:=by
 unfold dO at h;induction a generalizing b with
 |nil=>cases b with
  |nil=>rfl
  |cons _ _=>simp at h
 |cons x a ih=>cases b with
  |nil=>simp at h
  |cons y b=>
   simp only[bp,dL,D.tup.injEq]at h;rw[Bt h.1,ih h.2]
theorem oN{n w:Nat}{name:List Nat}{rss:List (List Row)}{b:List Nat}{G:DH}{k:D->DH->Prop}{E:EK}(h:okG w name rss)(hb:b.length=w)(hs:stc b < n)(hk:∀d,Gr name rss b d->k d G):(eF n).t [.str name,.lst (dO rss),.str b] G k E:=by refine cC ⟨w,name,rss,b,rfl,h,hb,hs⟩ λd G' hx=>?_;obtain ⟨e1,name2,rss2,b2,e2,e3⟩:=hx;simp only[dL,D.str.injEq,D.lst.injEq,fF]at e2;obtain ⟨rfl,e2,rfl⟩:=e2;cases afk e2;subst e1;exact hk d e3
theorem afl{f b:List Nat}{n:Nat}(h:dq f b=some n):b[n]?=some 42:=by unfold dq at h;have h2:=gV.mp h;obtain ⟨hl,hp,_⟩:=h2;rw[List.length_zip]at hl;rw[List.getElem_zip]at hp;simp only[ae,a9]at hp;rw[a8 (by omega),hp.1]
theorem afm{rs:List Row}{b:List Nat}{n:Nat}(h:dB rs b=some n):b[n]?=some 42:=by
 unfold dB at h;split at h
 ·split at h
  ·exact afl h
  ·cases h
 ·cases h
theorem jF{b:List Nat}{n c:Nat}{G:DH}{k:D->DH->Prop}{E:EK}(h:n < b.length)(hl:b.length<=1000)(hk:k (.str (b.set n c)) G):(aH fO).t [.str b,.int n,.str [c]] G k E:=
 cu (by
  unfold fO;dsimp only;rw[if_pos (by simp only[ae,b6];omega),dr]) hk
theorem afn (Z:aj) (n:Nat) (h0:Z "grown"=eF n) (h1:Z "first_touching"=oK) (h2:Z "splitting_place"=wu) (h3:Z "with_sign"=aH fO) (ds:List D) (G:DH) (h:Qw (n+1) ds G):au Z kW noE (env0 ds 4) G (ends (Qx ds G)):=by
 obtain ⟨w,name,rss,b,rfl,hg,hb,hs⟩:=h;have hw:=hg.w1000;simp_all_arith[kW];nofun;simp_arith![ends];refine ForG.inv (P:=λi Y G'=>(∃o3 o4 o5 o6,Y=[some (.str name),some (.lst (dO rss)),some (.str b),o3,o4,o5,o6])/\G'=G/\∀rs∈rss.take i,dB rs b=none) ⟨⟨_,_,_,_,rfl⟩,rfl,by simp⟩ (λ_ _ _ _=>trivial) ?_ ?_
 ·rintro i d Y G' hd ⟨⟨o3,o4,o5,o6,rfl⟩,rfl,hall⟩ kk hk;unfold dO at hd;rw[ax]at hd;obtain ⟨rs,hrs,rfl⟩:=ar.mp hd;simp_arith![ends];nofun;erw[h2];refine afh (λr hr=>by rw[hg.form rs (ba hrs) r hr,hb]) (by omega) (hM _ _ (last ?_));cases hsp:dB rs b with
  |none=>
   erw[aU];refine hk _ _ ⟨⟨_,_,_,_,rfl⟩,rfl,λrs' hrs'=>?_⟩;rw[cf,hrs]at hrs';rcases bP.mp hrs' with h |h
   ·exact hall rs' h
   ·have:rs'=rs:=by simpa using h
    rw[this];exact hsp
  |some at'=>
   have hst:=afm hsp;have hat:=(am.mp hst).1;simp_arith![aU];nofun;erw[h0,h3];refine jF hat (by omega) (oN hg (by rw[cw];exact hb) (by have:=iY hst (show 48≠42 by decide);omega) λz hz=>hM _ _ (seq λM hM=>?_));erw[h0,h3];refine jF hat (by omega) (oN hg (by rw[cw];exact hb) (by have:=iY hst (show 49≠42 by decide);omega) λo ho=>hM _ _ (last ?_));erw[ends];exact ⟨by decide,rfl,name,rss,b,rfl,.node b at' z o hst hz ho⟩
 ·rintro Y G' ⟨⟨o3,o4,o5,o6,rfl⟩,rfl,hall⟩;have hlen:(dO rss).length=rss.length:=af _;rw[hlen,ce]at hall;have hrl:=hg.len;refine hM _ _ ?_;erw[h1];refine ⟨by decide,CompG.inv (P:=λi acc Y G''=>(∃o,Y=[o,some (.str b)])/\G''=G'/\acc=(rss.take i).map λrs=>aU (aM rs b)) ⟨⟨_,rfl⟩,rfl,rfl⟩ (λ_ _ _ _ _=>trivial) (by rw[hlen];bv_omega) ?_ ?_⟩
  ·rintro i d acc Y G'' hd ⟨⟨o,rfl⟩,rfl,rfl⟩ kk hk;unfold dO at hd;rw[ax]at hd;obtain ⟨rs,hrs,rfl⟩:=ar.mp hd;erw[h1];refine Qt (λr hr=>by rw[hg.form rs (ba hrs) r hr];omega) (hk _ _ _ ⟨⟨_,rfl⟩,rfl,?_⟩);rw[cf,hrs];simp
  ·rintro acc Y G'' ⟨_,rfl,rfl⟩;rw[hlen,ce];erw[af];exact ⟨by bv_omega,rfl,name,rss,b,rfl,.leaf b hall⟩
theorem afo(ds:List D)(G:DH)(a:(eF 0).A):¬(eF 0).pre ds G a:=λ⟨_,_,_,_,_,_,_,_,h⟩=>by omega
def oO:List Nat:=[109,101,116]
def oR:RF.Spec:=bV (λds _=>∃w rs,ds=[ao w rs]/\okB w rs) (λds G d G'=>G'=G/\∃w rs,ds=[ao w rs]/\Gr oO [rs] (List.replicate w 42) d)
theorem Qy{w:Nat}{rs:List Row}{G:DH}{k:D->DH->Prop}{E:EK}(h:okB w rs)(hk:∀d,Gr oO [rs] (List.replicate w 42) d->k d G):oR.t [ao w rs] G k E:=by refine cC ⟨w,rs,rfl,h⟩ λd G' hx=>?_;obtain ⟨e1,w2,rs2,e2,e3⟩:=hx;simp only[dL,fF]at e2;obtain ⟨rfl,rfl⟩:=wg e2;subst e1;exact hk d e3
theorem ww(w:Nat):stc (List.replicate w 42)<=w:=by have:=List.countP_le_length (p:=(·==42)) (l:=List.replicate w 42);rw[bS]at this;exact this
theorem afp{w:Nat}{rs:List Row}(h:okB w rs):okG w oO [rs]:=⟨by simp,by decide,λrs' hrs' r hr=>by rw[bq.mp hrs']at hr;exact (h.form r hr).1,by have:=h.w6;omega⟩
theorem afq (Z:aj) (h1:Z "need_book"=fM) (h2:Z "grown"=eF 9) (h3:Z "stars"=aH fP) (ds:List D) (G:DH) (h:∃w rs,ds=[ao w rs]/\okB w rs):
  au Z nF noE (env0 ds 2) G (ends λd G'=>G'=G/\∃w rs,ds=[ao w rs]/\Gr oO [rs] (List.replicate w 42) d):=by
 obtain ⟨w,rs,rfl,hb⟩:=h;have hw6:=hb.w6;simp_all_arith[nF];nofun;erw[h1];refine ig hb (hM _ _ (seq λM hM=>?_));erw[ao];refine hM _ _ ?_;erw[h2,h3];refine ⟨by decide,cu (d:=.str (List.replicate w 42)) (by unfold fP;dsimp only;rw[if_pos (by simp only[ae,b6];omega),dr]) ?_⟩;have e:[D.tup (rs.map az)]=dO [rs]:=rfl;rw[e];refine oN (afp hb) bS (by have:=ww w;omega) λd hd=>?_;exact ⟨rfl,w,rs,rfl,hd⟩
theorem Bw:∀{f b w:List Nat},aQ f b=none->(∀s∈w,s=48\/s=49)->Fits b w->bB f w=true->False
 |[],b,w,h,_,_,_=>by cases b <;> cases h
 |a::f,[],w,h,_,_,_=>by cases h
 |a::f,c::b,[],h,_,hf,_=>by have:=hf.1;simp at this
 |a::f,c::b,s::w,h,hw,hf,hz=>by
  rw[bB,ae]at hz;have hs:=hf.2 0 c s rfl rfl;have hf':Fits b w:=⟨by have:=hf.1;simpa using this,λi c' s' h1 h2=>hf.2 (i+1) c' s' (by simpa using h1) (by simpa using h2)⟩;unfold aQ at h;cases h1:bZ a c with
  |some x=>
   rw[h1]at h;simp only[Option.map_eq_none_iff]at h;exact Bw h (λs hs=>hw s (aI _ hs)) hf' hz.2
  |none=>
   unfold bZ at h1;split at h1
   ·cases h1
   ·split at h1
    ·cases h1
    ·rename_i ha hc;have h2:=(Bo (hw s aS)).mp hz.1;unfold alt at hs h2;rw[if_neg ha]at h2;have es:s=a:=by simpa using h2
     split at hs
     ·rename_i e;exact hc (.inl e)
     ·have:s=c:=by simpa using hs
      exact hc (.inr (by omega))
theorem Qz:∀{f b w:List Nat},f.length=b.length->(aQ f b).isSome=true->dq f b=none->(∀s∈w,s=48\/s=49)->Fits b w->bB f w=true
 |[],b,w,_,_,_,_,_=>rfl
 |a::f,[],w,h,_,_,_,_=>by simp at h
 |a::f,c::b,[],_,_,_,_,hf=>rfl
 |a::f,c::b,s::w,hl,hb,hs,hw,hf=>by
  have hs0:=hf.2 0 c s rfl rfl;have hf':Fits b w:=⟨by have:=hf.1;simpa using this,λi c' s' h1 h2=>hf.2 (i+1) c' s' (by simpa using h1) (by simpa using h2)⟩;unfold dq at hs;rw[List.zip_cons_cons,gL]at hs;split at hs
  ·cases hs
  ·rename_i hne;have hs':dq f b=none:=by unfold dq;simpa using hs
   unfold aQ at hb;cases h1:bZ a c with
   |none=>rw[h1]at hb;cases hb
   |some x=>
    rw[h1]at hb;have hb':(aQ f b).isSome=true:=by simpa using hb
    rw[bB,ae];refine ⟨?_,Qz (by simpa using hl) hb' hs' (λs hs=>hw s (aI _ hs)) hf'⟩;rw[Bo (hw s aS)];by_cases ha:a=42
    ·unfold alt;rw[if_pos ha];rcases hw s aS with e |e <;> simp[e]
    ·have hc:c≠42:=by
      rintro rfl;exact hne (by simp[ha])
     unfold alt at hs0 ⊢;rw[if_neg hc]at hs0;rw[if_neg ha];unfold bZ at h1;rw[if_neg ha]at h1;split at h1
     ·rename_i h2;rcases h2 with h2 |h2
      ·exact absurd h2 hc
      ·rw[<-h2];exact hs0
     ·cases h1
theorem wy{rs:List Row}{b l:List Nat}(hf:∀r∈rs,r.1.length=b.length)(hs:dB rs b=none)(hl:∀s∈l,s=48\/s=49)(hb:Fits b l):aK rs l=aM rs b:=by
 have no:∀r∈rs,(aQ r.1 b).isSome=false->aL r.1 l=false:=by
  intro r hr h;cases e:aL r.1 l with
  |false=>rfl
  |true=>
   unfold aL at e;rw[ae]at e;exact (Bw (by simpa using h) hl hb e.2).elim
 cases ht:aM rs b with
 |none=>
  unfold aM at ht;unfold aK;rw[List.findIdx?_eq_none_iff]at ht ⊢;exact λr hr=>no r hr (by simpa using ht r hr)
 |some n=>
  have hn:=lr ht;have ht':=gV.mp ht;obtain ⟨_,t1,t2⟩:=ht';unfold aK;rw[gV];refine ⟨hn,?_,λj hj=>?_⟩
  ·have hsf:dq rs[n].1 b=none:=by
    unfold dB at hs;rw[ht]at hs;simpa [hn] using hs
   have hlen:=hf rs[n] (d4 _);unfold aL;rw[ae];exact ⟨cb (by rw[hlen,hb.1]),Qz hlen t1 hsf hl hb⟩
  ·have:=no rs[j] (d4 _) (by simpa using t2 j hj);simp[this]
theorem QB{f l:List Nat}(h:f.length=l.length):aL f l=bB f l:=by unfold aL;rw[cb h];rfl
def iZ(name:List Nat)(rss:List (List Row))(b:List Nat):D:=.tup (.str name::rss.map λrs=>aU (aM rs b))
def gA(name:List Nat)(rss:List (List Row))(b:List Nat):D:=.tup [.str b,iZ name rss b]
inductive Lv (name:List Nat) (rss:List (List Row)):List Nat->D->List (List Nat)->Prop
 |leaf (b:List Nat) (h:∀rs∈rss,dB rs b=none):Lv name rss b (iZ name rss b) [b]
 |node (b:List Nat) (n:Nat) (z o:D) (l m:List (List Nat)) (h:b[n]?=some 42) (hz:Lv name rss (b.set n 48) z l) (ho:Lv name rss (b.set n 49) o m):Lv name rss b (.tup [.str fQ,.int n,z,o]) (l++m)
theorem Gr.lv{name:List Nat}{rss:List (List Row)}{b:List Nat}{d:D}(h:Gr name rss b d):∃bs,Lv name rss b d bs:=by
 induction h with
 |leaf b h=>exact ⟨_,.leaf b h⟩
 |node b n z o h _ _ hz ho=>
  obtain ⟨l,hl⟩:=hz;obtain ⟨m,hm⟩:=ho;exact ⟨_,.node b n z o l m h hl hm⟩
theorem Lv.len{name:List Nat}{rss:List (List Row)}{b:List Nat}{d:D}{bs:List (List Nat)}(h:Lv name rss b d bs):bs.length<=2 ^ stc b:=by
 induction h with
 |leaf b h=>exact Nat.one_le_two_pow
 |node b n z o l m h _ _ hz ho=>
  have e1:=iY h (show 48≠42 by decide);have e2:=iY h (show 49≠42 by decide);rw[<-e1,hX,aE];have e3:stc (b.set n 49)=stc (b.set n 48):=by omega
  rw[e3]at ho;omega
theorem Lv.len'{name:List Nat}{rss:List (List Row)}{b:List Nat}{d:D}{bs:List (List Nat)}(h:Lv name rss b d bs)(hb:b.length<=12):bs.length<=4096:=by
 have h1:=h.len;have h2:stc b<=12:=cp (List.countP_le_length) hb;have h3:=fv (show 0 < 2 by decide) h2;have h4:2 ^ 12=4096:=by decide
 omega
theorem Lv.box{name:List Nat}{rss:List (List Row)}{b:List Nat}{d:D}{bs:List (List Nat)}(h:Lv name rss b d bs):∀c∈bs,c.length=b.length/\∀rs∈rss,dB rs c=none:=by
 induction h with
 |leaf b h=>intro c hc;rw[bq.mp hc];exact ⟨rfl,h⟩
 |node b n z o l m h _ _ hz ho=>
  intro c hc;rcases bP.mp hc with hc |hc
  ·have:=hz c hc;rw[cw]at this;exact this
  ·have:=ho c hc;rw[cw]at this;exact this
theorem Lv.okf{w:Nat}{name:List Nat}{rss:List (List Row)}{b:List Nat}{d:D}{bs:List (List Nat)}(h:Lv name rss b d bs):okF w b->∀c∈bs,okF w c:=by
 induction h with
 |leaf b h=>intro hb c hc;rw[bq.mp hc];exact hb
 |node b n z o l m h _ _ hz ho=>
  intro hb c hc;rcases bP.mp hc with hc |hc
  ·exact hz (oM hb Bu) c hc
  ·exact ho (oM hb Bv) c hc
theorem eG{w:Nat}{f l:List Nat}(h:okF w f)(hf:Fits f l):∀s∈l,s=48\/s=49:=by
 intro s hs;obtain ⟨i,hi,rfl⟩:=List.getElem_of_mem hs;have hif:i < f.length:=by rw[hf.1];exact hi
 have:=hf.2 i f[i] l[i] (by simp[hif]) (by simp[hi]);rcases h.2 f[i] (d4 _) with e |e |e <;> rw[e]at this <;> simp[alt]at this <;> omega
structure LvA where
 name:List Nat
 rss:List (List Row)
 b:List Nat
 d:D
 bs:List (List Nat)
def okL(n:Nat)(a:LvA):Prop:=Lv a.name a.rss a.b a.d a.bs/\a.name≠fQ/\a.b.length<=12/\stc a.b < n
def lvD(a:LvA):D:=.lst (a.bs.map (gA a.name a.rss))
def gB(n:Nat):RF.Spec:=bO (λa:LvA=>[.str a.b,a.d]) (okL n) lvD
theorem Bx{n:Nat}{name:List Nat}{rss:List (List Row)}{b:List Nat}{d:D}{bs:List (List Nat)}{G:DH}{k:D->DH->Prop}{E:EK}(h:Lv name rss b d bs)(h1:name≠fQ)(h2:b.length<=12)(h3:stc b < n)(hk:k (.lst (bs.map (gA name rss))) G):(gB n).t [.str b,d] G k E:=
 bQ ⟨name,rss,b,d,bs⟩ rfl ⟨h,h1,h2,h3⟩ hk
theorem afr (Z:aj) (n:Nat) (h0:Z "_law_boxes"=gB n) (a:LvA) (G:DH) (h:okL (n+1) a):au Z vU noE (env0 [.str a.b,a.d] 2) G (ends λd G'=>G'=G/\d=lvD a):=by
 obtain ⟨name,rss,b,d,bs⟩:=a;obtain ⟨hL,hne,hbl,hs⟩:=h;dsimp only at hL hne hbl hs;unfold lvD;dsimp only;have hnb:((name==fQ):Bool)=false:=by simp[hne]
 cases hL with
 |leaf _ hsp=>
  simp_all_arith[vU];nofun;erw[iZ];unfold fQ at hnb;erw[hnb];exact ⟨by decide,by decide,rfl⟩
 |node _ m z o l1 l2 hst hz ho=>
  have hm:=(am.mp hst).1;have hl1:=hz.len' (by rw[cw];exact hbl);have hl2:=ho.len' (by rw[cw];exact hbl);have s1:=iY hst (show 48≠42 by decide);have s2:=iY hst (show 49≠42 by decide);simp_all_arith[vU];nofun;erw[fQ,BEq.rfl];symm;erw[ends];symm;have d1:decide ((m:Int) < 0)=false:=cy (by omega);have d2:decide ((b.length:Int)<=(m:Int))=false:=cy (by omega);erw[d1,d2];refine bw (a:=42) (bR hst) ?_;erw[BEq.rfl];symm;erw[h0,iR,vP,aE,bX,cr,Br hm];refine ⟨by bv_omega,by bv_omega,Bx hz hne (by rw[cw];exact hbl) (by omega) (hM _ _ (last ?_))⟩;erw[h0,iR,vP,aE,bX,cr,Br hm];refine ⟨by bv_omega,by bv_omega,Bx ho hne (by rw[cw];exact hbl) (by omega) ?_⟩;erw[af,br];bv_omega
theorem afs(ds:List D)(G:DH)(a:(gB 0).A):¬(gB 0).pre ds G a:=λ⟨_,_,_,_,_,h⟩=>by omega
def isPlace(m:Int):D->Bool
 |.int i=>decide (0<=i)&&decide (i < m)
 |_=>false
def gC:List D->Option D
 |[.int m,x]=>if nr x then some (.bl (isPlace m x)) else none
 |_=>none
theorem aft (Z:aj) (h1:Z "is_whole"=aH jD) (ds:List D) (G:DH) (d:D) (h:gC ds=some d):au Z mW noE (env0 ds 0) G (ends λd' G'=>G'=G/\d'=d):=by
 unfold gC at h;split at h
 ·rename_i m x;split at h
  ·rename_i hx;cases h;have hf:jD [x]=some (.bl (whole x)):=if_pos hx;erw[mW,h1];refine cu hf ?_;cases x <;> first | (simp[nr]at hx;done) | (erw[whole,isPlace];first | (simp;done) |skip)
   rename_i i;cases hi:decide (0<=i) with
   |true=>simp
   |false=>simp
  ·cases h
 ·cases h
theorem afu{m i:Nat}{G:DH}{k:D->DH->Prop}{E:EK}(h:i < m)(hk:k (.bl true) G):(aH gC).t [.int m,.int i] G k E:=
 cu (by unfold gC;simp only[nr,if_true,isPlace];rw[cb (by omega),cb (by omega)];rfl) hk
def ik:List D->Option D
 |[.str name,.int many,.tup (.str s::r)]=>some (.bl ((((r.length+1:Nat):Int)==many+1)&&(s==name)))
 |_=>none
theorem afv(Z:aj)(ds:List D)(G:DH)(d:D)(h:ik ds=some d):au Z mU noE (env0 ds 0) G (ends λd' G'=>G'=G/\d'=d):=by
 unfold ik at h;split at h
 ·rename_i name many s r;cases h;erw[mU];cases he:(((r.length+1:Nat):Int)==many+1) with
  |false=>erw[g9]
  |true=>erw[Bool.true_and]
 ·cases h
theorem afw{name s:List Nat}{m:Int}{r:List D}{G:DH}{k:D->DH->Prop}{E:EK}(h:s≠name)(hk:k (.bl false) G):(aH ik).t [.str name,.int m,.tup (.str s::r)] G k E:=
 cu (by unfold ik;dsimp only;rw[eS.mpr h,hJ]) hk
theorem afx{name:List Nat}{m:Int}{r:List D}{G:DH}{k:D->DH->Prop}{E:EK}(h:(r.length:Int)=m)(hk:k (.bl true) G):(aH ik).t [.str name,.int m,.tup (.str name::r)] G k E:=
 cu (by unfold ik;dsimp only;rw[BEq.rfl,gz,a9.mpr (by omega)]) hk
theorem afy{f:List Nat}{i c:Nat}(h:f[i]?=some c):stc (f.take (i+1))=stc (f.take i)+(if (c==42)=true then 1 else 0):=by unfold stc;rw[cf,h,gN];cases hc:(c==42) <;> simp[hc]
def jb:List D->Option D
 |[.str f]=>some (.int ((2 ^ stc f:Nat):Int))
 |_=>none
theorem afz(Z:aj)(ds:List D)(G:DH)(d:D)(h:jb ds=some d):au Z nA noE (env0 ds 2) G (ends λd' G'=>G'=G/\d'=d):=by
 unfold jb at h;split at h
 ·rename_i f;cases h;simp_all_arith[nA];nofun;erw[ends];symm;simp_arith![ends];refine ForG.inv (P:=λi Y G'=>(∃o2,Y=[some (.str f),some (.int ((2 ^ stc (f.take i):Nat):Int)),o2])/\G'=G) ⟨⟨_,rfl⟩,rfl⟩ (λ_ _ _ _=>trivial) ?_ ?_
  ·rintro i d Y G' hd ⟨⟨o2,rfl⟩,rfl⟩ kk hk;rw[ax]at hd;obtain ⟨c,hc,rfl⟩:=ar.mp hd;have ht:=afy hc;simp_arith![ends];refine last ?_;erw[eE];cases h42:(c==42) with
   |true=>
    rw[h42,if_pos rfl]at ht;erw[ends];refine ⟨iU (by decide),hk _ _ ⟨⟨some (.str [c]),?_⟩,rfl⟩⟩;rw[ht,hX,Int.natCast_mul];rfl
   |false=>
    rw[h42,if_neg a7]at ht;erw[ends];refine hk _ _ ⟨⟨some (.str [c]),?_⟩,rfl⟩;rw[ht];rfl
  ·rintro Y G' ⟨⟨o2,rfl⟩,rfl⟩;rw[af,ce];refine hM _ _ ?_;erw[ends]
 ·cases h
def oI:Option Int->D
 |some i=>.int i
 |none=>.non
inductive T where
 |lf (r:List (Option Int))
 |sp (i:Int) (z o:T)
def T.d(name:List Nat):T->D
 |.lf r=>.tup (.str name::r.map oI)
 |.sp i z o=>.tup [.str fQ,.int i,z.d name,o.d name]
def T.dep:T->Nat
 |.lf _=>0
 |.sp _ z o=>max z.dep o.dep+1
def jG(b:List Nat)(i:Int):Bool:=decide (0<=i)&&b[i.toNat]?==some 42
def T.lvs:T->List Nat->Option (List (List Nat×List (Option Int)))
 |.lf r,b=>some [(b,r)]
 |.sp i z o,b=>match jG b i with
  |true=>(match z.lvs (b.set i.toNat 48),o.lvs (b.set i.toNat 49) with |some l,some m=>some (l++m) |_,_=>none)
  |false=>none
def oU(name:List Nat)(x:List Nat×List (Option Int)):D:=.tup [.str x.1,.tup (.str name::x.2.map oI)]
def fU(name:List Nat):Option (List (List Nat×List (Option Int)))->D
 |none=>.non
 |some l=>.lst (l.map (oU name))
theorem T.lvs_len:∀(t:T){b:List Nat}{l:List (List Nat×List (Option Int))},t.lvs b=some l->l.length<=2 ^ t.dep
 |.lf r,b,l,h=>by cases h;exact Nat.one_le_two_pow
 |.sp i z o,b,l,h=>by
  rw[T.lvs]at h;split at h
  ·split at h
   ·rename_i l1 l2 h1 h2;cases h;have e1:=z.lvs_len h1;have e2:=o.lvs_len h2;have e3:=fv (show 0 < 2 by decide) (Nat.le_max_left z.dep o.dep);have e4:=fv (show 0 < 2 by decide) (Nat.le_max_right z.dep o.dep);rw[aE,T.dep,hX];omega
   ·cases h
  ·cases h
theorem T.lvs_len'{n:Nat}{t:T}{b:List Nat}{l:List (List Nat×List (Option Int))}(h:t.lvs b=some l)(hn:t.dep < n)(hn':n<=12):l.length<=4096:=by
 have h1:=t.lvs_len h;have h3:=fv (show 0 < 2 by decide) (show t.dep<=12 by omega);have h4:2 ^ 12=4096:=by decide
 omega
structure TA where
 name:List Nat
 b:List Nat
 t:T
def QC(n:Nat)(a:TA):Prop:=a.name≠fQ/\a.b.length<=12/\a.t.dep < n/\n<=12
def dR(n:Nat):RF.Spec:=bO (λa:TA=>[.str a.b,a.t.d a.name]) (QC n) (λa=>fU a.name (a.t.lvs a.b))
theorem By{n:Nat}{name b:List Nat}{t:T}{G:DH}{k:D->DH->Prop}{E:EK}(h1:name≠fQ)(h2:b.length<=12)(h3:t.dep < n)(h4:n<=12)(hk:k (fU name (t.lvs b)) G):(dR n).t [.str b,t.d name] G k E:=bQ ⟨name,b,t⟩ rfl ⟨h1,h2,h3,h4⟩ hk
theorem afA(ds:List D)(G:DH)(a:(dR 0).A):¬(dR 0).pre ds G a:=λ⟨_,_,_,_,h,_⟩=>by omega
theorem afB{b:List Nat}{i:Int}(h:jG b i=true):0<=i/\∃n:Nat,i=n/\n < b.length/\b[n]?=some 42:=by
 unfold jG at h;rw[ae]at h;have h1:=eM h.1;have h2:b[i.toNat]?=some 42:=by simpa using h.2
 exact ⟨h1,i.toNat,by omega,(am.mp h2).1,h2⟩
theorem afC (Z:aj) (n:Nat) (h0:Z "leaves"=dR n) (h1:Z "is_named"=aH ik) (h2:Z "is_place"=aH gC) (h3:Z "with_sign"=aH fO) (a:TA) (G:DH) (h:QC (n+1) a):au Z jC noE (env0 [.str a.b,a.t.d a.name] 3) G (ends λd G'=>G'=G/\d=fU a.name (a.t.lvs a.b)):=by
 obtain ⟨name,b,t⟩:=a;obtain ⟨hne,hbl,hd,hn⟩:=h;dsimp only at hne hbl hd ⊢;cases t with
 |lf r=>
  simp_all_arith[jC];nofun;erw[h1,T.d];refine afw hne ?_;erw[T.lvs,fU,bp,d6,oU];exact ⟨by decide,by decide⟩
 |sp i z o=>
  rw[T.dep]at hd;simp_all_arith[jC];nofun;erw[h1,T.d];refine afx rfl ?_;erw[ends];symm;erw[ends];symm;erw[h2];refine cu (d:=.bl (isPlace b.length (.int i))) rfl ?_;cases hst:jG b i with
  |false=>
   rw[T.lvs,hst];cases hp:isPlace b.length (.int i) with
   |false=>erw[fU]
   |true=>
    unfold isPlace at hp;rw[ae]at hp;have p1:=eM hp.1;have p2:=eM hp.2;obtain ⟨m,rfl⟩:∃m:Nat,i=m:=⟨i.toNat,by omega⟩;have hm:m < b.length:=by omega
    have hc:b[m]?=some b[m]:=a8 hm;have hne42:((b[m]==42):Bool)=false:=by unfold jG at hst;rw[cb (by omega),Bool.true_and,dr,hc]at hst;simpa using hst
    erw[ends];refine bw (a:=b[m]) (bR hc) ?_;erw[eE,hne42,fU]
  |true=>
   obtain ⟨_,m,rfl,hm,hc⟩:=afB hst;have hp:isPlace b.length (.int (m:Int))=true:=by show (decide (0<=(m:Int))&&decide ((m:Int) < b.length))=true;rw[cb (by omega),cb (by omega)];rfl
   have hl:(T.sp (m:Int) z o).lvs b=match z.lvs (b.set m 48),o.lvs (b.set m 49) with |some l,some m=>some (l++m) |_,_=>none:=by rw[T.lvs,hst,dr]
   rw[hp];erw[ends];refine bw (a:=42) (bR hc) ?_;erw[BEq.rfl];symm;erw[h0,h3];refine jF hm (by omega) (By hne (by rw[cw];exact hbl) (by omega) (by omega) (hM _ _ (seq λM hM=>?_)));erw[h0,h3];refine jF hm (by omega) (By hne (by rw[cw];exact hbl) (by omega) (by omega) (hM _ _ (seq λM hM=>?_)));cases e1:z.lvs (b.set m 48) with
   |none=>
    rw[e1]at hl;erw[hl,fU]
   |some l1=>
    cases e2:o.lvs (b.set m 49) with
    |none=>
     rw[e1,e2]at hl;erw[hl,fU]
    |some l2=>
     rw[e1,e2]at hl;have q1:=T.lvs_len' e1 (n:=n) (by omega) (by omega);have q2:=T.lvs_len' e2 (n:=n) (by omega) (by omega);erw[fU];ac_nf0;erw[af,br,hl,fU];bv_omega
theorem afD(o:Option Nat):aU o=oI (o.map λn=>(n:Int)):=by cases o <;> rfl
def lu(rss:List (List Row))(c:List Nat):List (Option Int):=rss.map λrs=>(aM rs c).map λn=>(n:Int)
theorem QD{rss:List (List Row)}{c:List Nat}:(lu rss c).map oI=rss.map λrs=>aU (aM rs c):=by unfold lu;rw[ek];exact List.map_congr_left λrs _=>(afD _).symm
theorem Lv.tree{name:List Nat}{rss:List (List Row)}{b:List Nat}{d:D}{bs:List (List Nat)}(h:Lv name rss b d bs):∃t:T,d=t.d name/\t.dep<=stc b/\t.lvs b=some (bs.map λc=>(c,lu rss c)):=by
 induction h with
 |leaf b h=>exact ⟨.lf (lu rss b),by rw[T.d,QD];rfl,ef _,rfl⟩
 |node b n z o l m h _ _ hz ho=>
  obtain ⟨tz,rfl,d1,e1⟩:=hz;obtain ⟨tO,rfl,d2,e2⟩:=ho;have s1:=iY h (show 48≠42 by decide);have s2:=iY h (show 49≠42 by decide);refine ⟨.sp n tz tO,rfl,?_,?_⟩
  ·rw[T.dep];have:=Nat.max_le.mpr ⟨show tz.dep<=stc (b.set n 48) from d1,show tO.dep<=stc (b.set n 48) by omega⟩;omega
  ·have hs:jG b (n:Int)=true:=by unfold jG;rw[cb (by omega),dr,h];rfl
   rw[T.lvs,hs,dr,e1,e2];simp
theorem afE{name:List Nat}{rss:List (List Row)}{c:List Nat}:oU name (c,lu rss c)=gA name rss c:=by unfold oU gA iZ;rw[QD]
theorem BJ{n:Nat}{name:List Nat}{rss:List (List Row)}{b:List Nat}{d:D}{bs:List (List Nat)}{G:DH}{k:D->DH->Prop}{E:EK}(h:Lv name rss b d bs)(h1:name≠fQ)(h2:b.length<=12)(h3:stc b < n)(hk:k (.lst (bs.map (gA name rss))) G)(h4:n<=12:=by decide):(dR n).t [.str b,d] G k E:=by
 obtain ⟨t,rfl,e1,e2⟩:=h.tree;refine By h1 h2 (by omega) h4 ?_;rw[e2,fU,ek];have:(oU name∘λc=>(c,lu rss c))=gA name rss:=by funext c;exact afE
 rw[this];exact hk
theorem BK:∀f:List Nat,bB f f=true
 |[]=>rfl
 |c::f=>by rw[bB,BK f,gz];unfold cV;simp
theorem QF(f:List Nat):aL f f=true:=by unfold aL;rw[BK,cb rfl];rfl
theorem oV{c s:Nat}:cV c s=true↔c=42\/c=s:=by unfold cV;simp
theorem afF{a b c:Nat}(h1:cV b a=true)(h2:cV c b=true):cV c a=true:=by
 rw[oV]at h1 h2 ⊢;rcases h2 with h |h
 ·exact .inl h
 ·rcases h1 with h' |h'
  ·exact .inl (h.trans h')
  ·exact .inr (h.trans h')
theorem QG:∀{f g h:List Nat},f.length=g.length->g.length=h.length->bB g f=true->bB h g=true->bB h f=true
 |[],g,h,_,_,_,_=>by cases h <;> rfl
 |a::f,[],h,e,_,_,_=>by simp at e
 |a::f,b::g,[],_,e,_,_=>by simp at e
 |a::f,b::g,c::h,e1,e2,h1,h2=>by
  rw[bB,ae]at h1 h2 ⊢;exact ⟨afF h1.1 h2.1,QG (by simpa using e1) (by simpa using e2) h1.2 h2.2⟩
theorem afG(a b:Nat):bZ a b=bZ b a:=by
 unfold bZ;by_cases h1:a=42
 ·by_cases h2:b=42
  ·rw[if_pos h1,if_pos h2,h1,h2]
  ·rw[if_pos h1,if_neg h2,if_pos (.inl h1)]
 ·by_cases h2:b=42
  ·rw[if_neg h1,if_pos h2,if_pos (.inl h2)]
  ·rw[if_neg h1,if_neg h2];by_cases h3:b=a
   ·rw[if_pos (.inr h3),if_pos (.inr h3.symm),h3]
   ·rw[if_neg (by rintro (h |h);exact h2 h;exact h3 h),if_neg (by rintro (h |h);exact h1 h;exact h3 h.symm)]
theorem QH:∀f g:List Nat,aQ f g=aQ g f
 |[],[]=>rfl
 |[],_::_=>rfl
 |_::_,[]=>rfl
 |a::f,b::g=>by rw[aQ,aQ,afG,QH f g]
theorem QJ{a b:Nat}:bZ a b=some a↔cV b a=true:=by
 rw[oV];unfold bZ;split
 ·rename_i h;constructor
  ·intro e;cases e;exact .inl h
  ·rintro (e |e)
   ·rw[e,h]
   ·rw[e]
 ·split
  ·rename_i h2;exact ⟨λ_=>h2,λ_=>rfl⟩
  ·rename_i h2;exact ⟨λe=>(by cases e),λe=>absurd e h2⟩
theorem QK:∀{f g:List Nat},f.length=g.length->(aQ f g=some f↔bB g f=true)
 |[],[],_=>by simp[aQ,bB]
 |[],b::g,e=>by simp at e
 |a::f,[],e=>by simp at e
 |a::f,b::g,e=>by
  have ih:=QK (f:=f) (g:=g) (by simpa using e);rw[aQ,bB,ae];constructor
  ·intro h;cases h1:bZ a b with
   |none=>rw[h1]at h;cases h
   |some x=>
    rw[h1]at h;obtain ⟨y,hy,e2⟩:=ar.mp h;cases e2;exact ⟨QJ.mp h1,ih.mp hy⟩
  ·rintro ⟨h1,h2⟩;rw[QJ.mpr h1,ih.mpr h2];rfl
def mrg(a b:Nat):Nat:=if a=42/\b≠42 then b else a
def opp(b:Nat):Nat:=if b=48 then 49 else 48
def cZ:List Nat->List Nat->List Nat
 |a::f,b::g=>mrg a b::cZ f g
 |_,_=>[]
def bH:List Nat->List Nat->List (List Nat)
 |a::f,b::g=>(if a=42/\b≠42 then [opp b::f] else [])++(bH f g).map (mrg a b::·)
 |_,_=>[]
theorem QL:∀{f g:List Nat},f.length=g.length->(cZ f g).length=f.length
 |[],[],_=>rfl
 |[],b::g,e=>by simp at e
 |a::f,[],e=>by simp at e
 |a::f,b::g,e=>by simp[cZ,QL (f:=f) (g:=g) (by simpa using e)]
theorem QM{a b:Nat}:∀{f g:List Nat},f.length=g.length->cZ (f++[a]) (g++[b])=cZ f g++[mrg a b]
 |[],[],_=>rfl
 |[],b::g,e=>by simp at e
 |a::f,[],e=>by simp at e
 |x::f,y::g,e=>by simp[cZ,QM (f:=f) (g:=g) (by simpa using e)]
theorem QQ{a b:Nat}:∀{f g:List Nat},f.length=g.length->bH (f++[a]) (g++[b])=(bH f g).map (·++[a])++(if a=42/\b≠42 then [cZ f g++[opp b]] else [])
 |[],[],_=>by simp[bH,cZ]
 |[],b::g,e=>by simp at e
 |a::f,[],e=>by simp at e
 |x::f,y::g,e=>by
  have ih:=QQ (a:=a) (b:=b) (f:=f) (g:=g) (by simpa using e);rw[List.cons_append,List.cons_append,bH,ih,bH,cZ];by_cases h1:x=42/\y≠42
  ·by_cases h2:a=42/\b≠42
   ·rw[if_pos h1,if_pos h1,if_pos h2,if_pos h2];simp
   ·rw[if_pos h1,if_pos h1,if_neg h2,if_neg h2];simp
  ·by_cases h2:a=42/\b≠42
   ·rw[if_neg h1,if_neg h1,if_pos h2,if_pos h2];simp
   ·rw[if_neg h1,if_neg h1,if_neg h2,if_neg h2];simp
def cJ(f g:List Nat):List (List Nat):=match aQ f g with |none=>[f] |some _=>bH f g
theorem wz:∀{f g:List Nat},(bH f g).length<=f.length
 |[],g=>by cases g <;> simp[bH]
 |a::f,[]=>by simp[bH]
 |a::f,b::g=>by
  have:=@wz f g;rw[bH,aE,af,cS];split <;> simp <;> omega
theorem QR(b:Nat):opp b≠42:=by unfold opp;split <;> decide
theorem afH(b:Nat):isF (opp b):=by unfold opp;split;exact Bv;exact Bu
theorem QS{b:Nat}(h:isF b)(hb:b≠42):bZ (opp b) b=none:=by
 rcases h with rfl |rfl |rfl
 ·rfl
 ·rfl
 ·exact absurd rfl hb
theorem afI(a b:Nat):cV a (mrg a b)=true:=by
 unfold mrg;rw[oV];split
 ·rename_i h;exact .inl h.1
 ·exact .inr rfl
theorem afJ{a b:Nat}(ha:isF a)(hb:isF b):isF (mrg a b):=by unfold mrg;split <;> assumption
theorem QT:∀{f g p:List Nat},f.length=g.length->(∀x∈f,isF x)->(∀x∈g,isF x)->p∈bH f g->p.length=f.length/\bB f p=true/\aQ p g=none/\∀x∈p,isF x
 |[],[],p,_,_,_,h=>by simp[bH]at h
 |[],b::g,p,e,_,_,_=>by simp at e
 |a::f,[],p,e,_,_,_=>by simp at e
 |a::f,b::g,p,e,hf,hg,h=>by
  rw[bH]at h;rcases bP.mp h with h |h
  ·split at h
   ·rename_i hab;rw[bq.mp h];have hb:=hg b aS;refine ⟨rfl,by rw[bB,BK,gz,oV];exact .inl hab.1,by rw[aQ,QS hb hab.2],λx hx=>?_⟩;rcases ci.mp hx with e |hx
    ·rw[e];exact afH b
    ·exact hf x (aI _ hx)
   ·cases h
  ·obtain ⟨q,hq,rfl⟩:=bb.mp h;obtain ⟨i1,i2,i3,i4⟩:=QT (by simpa using e) (λx hx=>hf x (aI _ hx)) (λx hx=>hg x (aI _ hx)) hq;refine ⟨by simp[i1],by rw[bB,afI,i2];rfl,?_,λx hx=>?_⟩
   ·rw[aQ,i3];cases bZ (mrg a b) b <;> rfl
   ·rcases ci.mp hx with e |hx
    ·rw[e];exact afJ (hf a aS) (hg b aS)
    ·exact i4 x hx
theorem afK{m:Nat}{p q:List Nat}(h:aQ p q=none):aQ (m::p) (m::q)=none:=by rw[aQ,h];cases bZ m m <;> rfl
theorem QV:∀{f g:List Nat},(∀x∈g,isF x)->(bH f g).Pairwise λp q=>aQ p q=none
 |[],g,_=>by cases g <;> exact List.Pairwise.nil
 |a::f,[],_=>List.Pairwise.nil
 |a::f,b::g,hg=>by
  have ih:=@QV f g λx hx=>hg x (aI _ hx);rw[bH];have hm:((bH f g).map (mrg a b::·)).Pairwise λp q=>aQ p q=none:=by rw[List.pairwise_map];exact ih.imp λh=>afK h
  split
  ·rename_i hab;refine List.Pairwise.cons (λq hq=>?_) hm;obtain ⟨r,_,rfl⟩:=bb.mp hq;have e:mrg a b=b:=by unfold mrg;rw[if_pos hab]
   rw[aQ,e,QS (hg b aS) hab.2]
  ·exact hm
theorem QW(c:Nat)(f:List Nat):stc (c::f)=stc f+(if c=42 then 1 else 0):=by
 unfold stc;rw[List.countP_cons];by_cases h:c=42
 ·simp[h]
 ·simp[h]
theorem oW{c:Nat}{f:List Nat}(h:c≠42):stc (c::f)=stc f:=by rw[QW,if_neg h,Nat.add_zero]
theorem wA{f:List Nat}:stc (42::f)=stc f+1:=by rw[QW,if_pos rfl]
def pows(ls:List (List Nat)):Nat:=(ls.map λp=>2 ^ stc p).sum
theorem QX{c:Nat}(h:c≠42)(ls:List (List Nat)):pows (ls.map (c::·))=pows ls:=by unfold pows;rw[ek];congr 1;exact List.map_congr_left λp _=>by simp[oW h]
theorem QZ:∀(ls:List (List Nat)),pows (ls.map (42::·))=2 * pows ls
 |[]=>rfl
 |p::ls=>by
  have ih:=QZ ls;unfold pows at ih ⊢;rw[bp,bp,hZ,bp,hZ,ih,wA,hX];omega
theorem Q0:∀{f g c:List Nat},f.length=g.length->aQ f g=some c->pows (bH f g)+2 ^ stc c=2 ^ stc f
 |[],[],c,_,h=>by cases h;rfl
 |[],b::g,c,e,_=>by simp at e
 |a::f,[],c,e,_=>by simp at e
 |a::f,b::g,c,e,h=>by
  rw[aQ]at h;cases h1:bZ a b with
  |none=>rw[h1]at h;cases h
  |some y=>
   rw[h1]at h;obtain ⟨z,hz,rfl⟩:=ar.mp h;have ih:=Q0 (by simpa using e) hz;rw[bH];unfold bZ at h1;by_cases ha:a=42
   ·rw[if_pos ha]at h1;cases h1;by_cases hb:b=42
    ·rw[if_neg (by rintro ⟨_,h⟩;exact h hb),fS];have em:mrg a b=42:=by unfold mrg;rw[if_neg (by rintro ⟨_,h⟩;exact h hb),ha]
     rw[em,QZ,ha,hb,wA,wA,hX,hX];omega
    ·rw[if_pos ⟨ha,hb⟩];have em:mrg a b=b:=by unfold mrg;rw[if_pos ⟨ha,hb⟩]
     have ep:pows ([opp b::f]++(bH f g).map (b::·))=2 ^ stc f+pows (bH f g):=by have:=QX hb (bH f g);unfold pows at this ⊢;rw[List.singleton_append,bp,hZ,this,oW (QR b)]
     rw[em,ep,ha,wA,oW hb,hX];omega
   ·rw[if_neg ha]at h1;have hna:¬(a=42/\b≠42):=λh=>ha h.1;split at h1
    ·cases h1;have em:mrg a b=a:=by unfold mrg;rw[if_neg hna]
     rw[if_neg hna,fS,em,QX ha,oW ha,oW ha];exact ih
    ·cases h1
theorem Q3{f g:List Nat}(h:aL f g=true):f.length=g.length:=by unfold aL at h;rw[ae,b6]at h;exact h.1
theorem BL{f g:List Nat}(h:aL f g=true):bB f g=true:=by unfold aL at h;rw[ae]at h;exact h.2
theorem Q4{f g:List Nat}(hl:f.length=g.length)(h:bB f g=true):aL f g=true:=by rw[QB hl];exact h
def cm:Option (List Nat)->Nat
 |some c=>2 ^ stc c
 |none=>0
theorem afL{f g:List Nat}(hl:f.length=g.length)(hf:∀x∈f,isF x)(hg:∀x∈g,isF x):(∀p∈cJ f g,p.length=f.length/\aL f p=true/\aQ p g=none/\∀x∈p,isF x)/\(cJ f g).Pairwise (λp q=>aQ p q=none)/\pows (cJ f g)+cm (aQ f g)=2 ^ stc f/\(cJ f g).length<=f.length+1:=by
 unfold cJ;cases hb:aQ f g with
 |none=>
  refine ⟨λp hp=>?_,List.pairwise_singleton _ _,by unfold pows cm;simp,by simp⟩;rw[bq.mp hp];exact ⟨rfl,QF f,hb,hf⟩
 |some c=>
  refine ⟨λp hp=>?_,QV hg,Q0 hl hb,cp wz (gS _)⟩;obtain ⟨h1,h2,h3,h4⟩:=QT hl hf hg hp;exact ⟨h1,Q4 h1.symm h2,h3,h4⟩
def lw:List D->Option D
 |[.str f,.str g]=>if decide (g.length<=100000) then some (.bl (aL g f)) else none
 |_=>none
theorem afM (Z:aj) (h1:Z "fits"=aH kZ) (ds:List D) (G:DH) (d:D) (h:lw ds=some d):au Z nY noE (env0 ds 0) G (ends λd' G'=>G'=G/\d'=d):=by
 unfold lw at h;split at h
 ·rename_i f g;split at h
  ·rename_i hl;cases h;erw[nY,h1];exact cu (d:=.bl (aL g f)) (if_pos hl) ⟨rfl,rfl⟩
  ·cases h
 ·cases h
theorem Q5{f g:List Nat}{G:DH}{k:D->DH->Prop}{E:EK}(h:g.length<=1000)(hk:k (.bl (aL g f)) G):(aH lw).t [.str f,.str g] G k E:=cu (if_pos (cb (by omega))) hk
theorem Q6{f g:List Nat}{G:DH}{k:D->DH->Prop}{E:EK}(h:f.length<=1000)(hk:k (bM (aQ f g)) G):(aH iW).t [.str f,.str g] G k E:=cu (if_pos (cb (by omega))) hk
theorem Q7{m r:List Nat}{n b:Nat}(h:m.length=n):(m++r).set n b=m++r.set 0 b:=by rw[List.set_append_right _ _ (by omega),h,Nat.sub_self]
def wB:RF.Spec:=ghS (A:=List Nat×List Nat) (λa ds _=>ds=[.str a.1,.str a.2]/\a.1.length=a.2.length/\a.1.length<=1000/\∀x∈a.2,isF x) (λa G d G'=>∃q,d=.ref q/\G q=none/\G' q=some (.lst ((cJ a.1 a.2).map D.str))/\Sa G G')
theorem afN{f g:List Nat}{G:DH}{k:D->DH->Prop}{E:EK}(h1:f.length=g.length)(h2:f.length<=1000)(h3:∀x∈g,isF x)(hk:∀q G',G q=none->G' q=some (.lst ((cJ f g).map D.str))->Sa G G'->k (.ref q) G'):wB.t [.str f,.str g] G k E:=
 gn (f,g) ⟨rfl,h1,h2,h3⟩ λd G' ⟨q,e1,e2,e3,e4⟩=>by subst e1;exact hk q G' e2 e3 e4
theorem afO (Z:aj) (h1:Z "both"=aH iW) (h2:Z "with_sign"=aH fO) (a:List Nat×List Nat) (ds:List D) (G:DH) (h:ds=[.str a.1,.str a.2]/\a.1.length=a.2.length/\a.1.length<=1000/\∀x∈a.2,isF x):
  au Z mO noE (env0 ds 4) G (ends λd G'=>∃q,d=.ref q/\G q=none/\G' q=some (.lst ((cJ a.1 a.2).map D.str))/\Sa G G'):=by
 obtain ⟨f,g⟩:=a;obtain ⟨rfl,hl,hz,hg⟩:=h;dsimp only at hl hz hg ⊢;simp_all_arith[mO];nofun;erw[h1];refine Q6 hz ?_;cases hb:aQ f g with
 |none=>
  have er:cJ f g=[f]:=by unfold cJ;rw[hb]
  erw[bM,er];exact ⟨by decide,λq hq=>⟨q,rfl,hq,bI,Sa.new hq⟩⟩
 |some c=>
  have er:cJ f g=bH f g:=by unfold cJ;rw[hb]
  erw[bM,er];symm;erw[ends];refine λq hq=>hM _ _ (seq λM hM=>?_);erw[ends];symm;simp_arith![ends];refine ForG.inv (P:=λi Y G'=>(∃o4 o5,Y=[some (.str f),some (.str g),some (.ref q),some (.str (cZ (f.take i) (g.take i)++f.drop i)),o4,o5])/\G' q=some (.lst (((bH (f.take i) (g.take i)).map (·++f.drop i)).map D.str))/\Sa G G') ⟨⟨_,_,rfl⟩,bI,Sa.new hq⟩ (λ_ _ _ _=>trivial) ?_ ?_
  ·rintro i d Y G' hd ⟨⟨o4,o5,rfl⟩,g1,sa⟩ kk hk;rw[iM]at hd;obtain ⟨d',hd',rfl⟩:=ar.mp hd;rw[ax]at hd';obtain ⟨y,hy,rfl⟩:=ar.mp hd';have hi:=(am.mp hy).1;have hif:i < f.length:=by omega
   have hx:f[i]?=some f[i]:=by simp[hif]
   generalize f[i]=x at hx;have hyF:=hg y (ba hy);have tf:f.take (i+1)=f.take i++[x]:=by rw[cf,hx];rfl
   have tg:g.take (i+1)=g.take i++[y]:=by rw[cf,hy];rfl
   have ln:(f.take i).length=(g.take i).length:=by rw[bX,bX];omega
   have df:f.drop i=x::f.drop (i+1):=by rw[bo hif,(am.mp hx).2]
   have ml:(cZ (f.take i) (g.take i)).length=i:=by rw[QL ln,bX];omega
   have rs:=QQ (a:=x) (b:=y) ln;have ms:=QM (a:=x) (b:=y) ln;rw[<-tf,<-tg]at rs ms;have rl:=@wz (f.take i) (g.take i);rw[bX]at rl;have keep:(bH (f.take i) (g.take i)).map (·++f.drop i)=((bH (f.take i) (g.take i)).map (·++[x])).map (·++f.drop (i+1)):=by rw[ek];congr 1;funext p;simp[df]
   simp_arith![ends];refine last ?_;simp_arith![ends];refine bw (a:=x) (by rw[gi];exact bR hx) ?_;simp_arith![eE];have no:∀o4 o5,¬(x=42/\y≠42)->kk [some (.str f),some (.str g),some (.ref q),some (.str (cZ (f.take i) (g.take i)++f.drop i)),o4,o5] G':=by
    intro o4 o5 hn;rw[if_neg hn,eg]at rs;have em:mrg x y=x:=by unfold mrg;rw[if_neg hn]
    refine hk _ _ ⟨⟨o4,o5,?_⟩,?_,sa⟩
    ·rw[ms,em,df];simp
    ·rw[g1,rs,keep]
   cases h42:(x==42) with
   |false=>
    erw[ends];exact no _ _ (by rintro ⟨h,_⟩;rw[h]at h42;cases h42)
   |true=>
    have hx42:x=42:=by simpa using h42
    simp_arith![eE];cases hy42:(y==42) with
    |true=>
     erw[ends];exact no _ _ (by rintro ⟨_,h⟩;exact h (by simpa using hy42))
    |false=>
     have hyn:y≠42:=by simpa using hy42
     rw[if_pos ⟨hx42,hyn⟩]at rs;have em:mrg x y=y:=by unfold mrg;rw[if_pos ⟨hx42,hyn⟩]
     simp_arith![ends];nofun;erw[cU g1,h2,eE];have lb:(cZ (f.take i) (g.take i)++f.drop i).length<=1000:=by rw[aE,ml,cr];omega
     have li:0+i < (cZ (f.take i) (g.take i)++f.drop i).length:=by rw[aE,ml,cr];omega
     have put:∀c:Nat,c=opp y->(aH fO).t [.str (cZ (f.take i) (g.take i)++f.drop i),.int ((0+i:Nat):Int),.str [c]] G' (λd G1=>trk G1 q λds=>ds.length < sz/\M [some (.str f),some (.str g),some (.ref q),some (.str (cZ (f.take i) (g.take i)++f.drop i)),some (.int ((0+i:Nat):Int)),some (.str [y])] (bx G1 q (.lst (ds++[d])))) noE:=by
      rintro c rfl;refine jF li lb ?_;rw[cU g1];refine ⟨by rw[af,af];bv_omega,hM _ _ (last ?_)⟩;erw[h2];refine jF li lb (hk _ _ ⟨⟨some (.int ((0+i:Nat):Int)),some (.str [y]),?_⟩,?_,sa.then hq Sb.upd⟩)
      ·rw[gi,Q7 ml,df,ms,em];simp
      ·rw[bI,rs,keep,gi,Q7 ml,df];simp
     cases h48:(y==48) with
     |true=>erw[ends];exact put 49 (by unfold opp;rw[if_pos (by simpa using h48)])
     |false=>erw[ends];exact put 48 (by unfold opp;rw[if_neg (by simpa using h48)])
  ·rintro Y G' ⟨⟨o4,o5,rfl⟩,g1,sa⟩;rw[gY,af,<-hl,ce,hl,ce,<-hl,eK]at g1;refine hM _ _ ?_;erw[ends];exact ⟨q,rfl,hq,by rw[g1,er];simp,sa⟩
def aZ:List Nat->List (List Nat)
 |[]=>[[]]
 |c::f=>(alt c).flatMap λs=>(aZ f).map (s::·)
theorem Q8:∀(f:List Nat)(acc:List (List Nat)),f.foldl step1 acc=acc.flatMap λt=>(aZ f).map (t ++ ·)
 |[],acc=>by simp[aZ]
 |c::f,acc=>by
  rw[List.foldl_cons,Q8 f,step1,List.flatMap_assoc];congr 1;funext t;rw[aZ,hW,List.map_flatMap];congr 1;funext s;rw[ek];congr 1;funext x;simp
theorem cM(f:List Nat):aJ f=aZ f:=by unfold aJ;rw[Q8];simp
theorem wC:∀(b:List Nat),(aZ b).length=2 ^ stc b
 |[]=>rfl
 |c::b=>by
  have ih:=wC b;rw[aZ];unfold alt stc;unfold stc at ih;split
  ·rename_i h;subst h;simp[ih,hX];omega
  ·rename_i h;simp[ih,h]
theorem BP:∀(b:List Nat)(n:Nat)(p:List Nat->Bool),b[n]?=some 42->(aZ b).countP p=(aZ (b.set n 48)).countP p+(aZ (b.set n 49)).countP p
 |[],n,p,h=>by simp at h
 |c::b,0,p,h=>by
  have:c=42:=by simpa using h
  subst this;simp[aZ,alt,gN]
 |c::b,n+1,p,h=>by
  have h':b[n]?=some 42:=by simpa using h
  have ih:=λq=>BP b n q h';rw[List.set_cons_succ,List.set_cons_succ,aZ,aZ,aZ];unfold alt;split
  ·simp only[ck,fm,eg,gN,List.countP_map,ih];omega
  ·simp only[ck,fm,eg,List.countP_map,ih]
def atN(rs:List Row):Option Nat->Nat
 |some n=>n
 |none=>rs.length
def eH(rs:List Row)(bs:List (List Nat))(k:Nat):Nat:=(bs.map λb=>if atN rs (aM rs b)=k then 2 ^ stc b else 0).sum
theorem afP{w:Nat}{name:List Nat}{rs:List Row}{b:List Nat}{d:D}{bs:List (List Nat)}{k:Nat}(h:Lv name [rs] b d bs):okF w b->(∀r∈rs,r.1.length=w)->eH rs bs k=(aJ b).countP λl=>atN rs (aK rs l)==k:=by
 induction h with
 |leaf b h=>
  intro hb hf;have hm:∀l∈aJ b,aK rs l=aM rs b:=λl hl=>wy (λr hr=>by rw[hf r hr,hb.1]) (h rs (by simp)) (eG hb (bG.mp hl)) (bG.mp hl);have e:(aJ b).countP (λl=>atN rs (aK rs l)==k)=(aJ b).countP (λ_=>atN rs (aM rs b)==k):=List.countP_congr λl hl=>by rw[hm l hl]
  rw[e];unfold eH;rw[bp,d6,hZ,List.sum_nil,Nat.add_zero];by_cases hk:atN rs (aM rs b)=k
  ·rw[if_pos hk,a9.mpr hk,List.countP_true,cM,wC]
  ·rw[if_neg hk,eS.mpr hk];simp
 |node b n z o l m h _ _ hz ho=>
  intro hb hf;have e1:=hz (oM hb Bu) hf;have e2:=ho (oM hb Bv) hf;have e3:eH rs (l++m) k=eH rs l k+eH rs m k:=by unfold eH;rw[br,List.sum_append]
  rw[e3,e1,e2,cM,cM,cM];exact (BP b n _ h).symm
def tell(n:Nat)(f:Nat->Nat):List D:=(List.range n).map λk=>D.int (f k:Int)
theorem wD{n:Nat}{f:Nat->Nat}:(tell n f).length=n:=by simp[tell]
theorem afQ{α:Type}(l:List α):l.map (λ_=>D.int 0)++[D.int 0]=tell (l.length+1) λ_=>0:=by unfold tell;rw[fI,br];congr 1;rw[List.eq_replicate_of_mem (a:=D.int 0) (l:=l.map λ_=>D.int 0) (λx hx=>by obtain ⟨_,_,rfl⟩:=bb.mp hx;rfl)];rw[af];exact (List.eq_replicate_iff.mpr ⟨by simp,λx hx=>by obtain ⟨_,_,rfl⟩:=bb.mp hx;rfl⟩).symm
theorem oX{n a:Nat}{f:Nat->Nat}(h:a < n):(tell n f)[a]?=some (.int (f a:Int)):=by unfold tell;rw[ax,ez h];rfl
theorem afR{n a v:Nat}{f g:Nat->Nat}(h:a < n)(hg:∀k,g k=f k+if a=k then v else 0):(tell n f).set a (.int ((f a:Int)+(v:Int)))=tell n g:=by
 apply List.ext_getElem?;intro j;rw[List.getElem?_set,wD];by_cases hj:a=j
 ·subst hj;rw[if_pos rfl,if_pos h,oX h,hg,if_pos rfl];simp
 ·rw[if_neg hj];by_cases hjn:j < n
  ·rw[oX hjn,oX hjn,hg,if_neg hj];simp
  ·rw[fo (by rw[wD];omega),fo (by rw[wD];omega)]
theorem afS{rs:List Row}{o:Option Nat}(h:∀n,o=some n->n < rs.length):atN rs o < rs.length+1:=by
 cases o with
 |none=>exact gl _
 |some n=>have:=h n rfl;show n < _;omega
theorem afT{rs:List Row}{bs:List (List Nat)}{b:List Nat}{k:Nat}:eH rs (bs++[b]) k=eH rs bs k+if atN rs (aM rs b)=k then 2 ^ stc b else 0:=by unfold eH;rw[br,List.sum_append];simp
def eN(w:Nat)(rs:List Row):List D:=tell (rs.length+1) λk=>(aJ (List.replicate w 42)).countP λl=>atN rs (aK rs l)==k
def oY:RF.Spec:=ghS (A:=Nat×List Row) (λa ds _=>ds=[ao a.1 a.2]/\okB a.1 a.2) (λa G d G'=>∃q,d=.ref q/\G q=none/\G' q=some (.lst (eN a.1 a.2))/\Sa G G')
theorem Q9{w:Nat}{rs:List Row}{G:DH}{k:D->DH->Prop}{E:EK}(h:okB w rs)(hk:∀q G',G q=none->G' q=some (.lst (eN w rs))->Sa G G'->k (.ref q) G'):oY.t [ao w rs] G k E:=
 gn (w,rs) ⟨rfl,h⟩ λd G' ⟨q,e1,e2,e3,e4⟩=>by subst e1;exact hk q G' e2 e3 e4
theorem afU (Z:aj) (h1:Z "laid"=oR) (h2:Z "leaves"=dR 9) (h3:Z "stars"=aH fP) (h4:Z "how_many"=aH jb) (a:Nat×List Row) (ds:List D) (G:DH) (h:ds=[ao a.1 a.2]/\okB a.1 a.2):
  au Z nG noE (env0 ds 7) G (ends λd G'=>∃q,d=.ref q/\G q=none/\G' q=some (.lst (eN a.1 a.2))/\Sa G G'):=by
 obtain ⟨w,rs⟩:=a;obtain ⟨rfl,hb⟩:=h;dsimp only at hb ⊢;have hw6:=hb.w6;have hlen:=hb.len;have hst:=ww w;simp_all_arith[nG];nofun;erw[h1];refine Qy hb λt ht=>hM _ _ (seq λM hM=>?_);obtain ⟨bs,hL⟩:=ht.lv;erw[ao];symm;erw[ends];refine CompG.map (f:=λ_=>.int 0) (I:=λY=>∃o,Y=[o]) ⟨_,rfl⟩ trivial (by simp;bv_omega) ?_ ?_
 ·rintro d Y hd ⟨o,rfl⟩ kk hk;erw[ends];exact hk _ ⟨_,rfl⟩
 rw[ek];erw[Function.comp_def,af];refine ⟨by bv_omega,by bv_omega,?_⟩;intro q hq;rw[afQ];symm;simp_arith![h2,h3];refine cu (d:=.str (List.replicate w 42)) (by unfold fP;dsimp only;rw[if_pos (by simp only[ae,b6];omega),dr]) ?_;refine BJ hL (by decide) (by rw[bS];omega) (by omega) ?_;simp_arith![ends];refine ForG.inv (P:=λi Y G'=>(∃o5 o6 o7,Y=[some (.tup [.int w,.tup (rs.map az)]),some t,some (.int w),some (.tup (rs.map az)),some (.ref q),o5,o6,o7])/\G' q=some (.lst (tell (rs.length+1) (eH rs (bs.take i))))/\Sa G G') ⟨⟨_,_,_,rfl⟩,bI,Sa.new hq⟩ (λ_ _ _ _=>trivial) ?_ ?_
 ·rintro i d Y G' hd ⟨⟨o5,o6,o7,rfl⟩,g1,sa⟩ kk hk;rw[ax]at hd;obtain ⟨b,hbb,rfl⟩:=ar.mp hd;have hat:atN rs (aM rs b) < rs.length+1:=afS λn hn=>lr hn;have htk:bs.take (i+1)=bs.take i++[b]:=by rw[cf,hbb];rfl
  simp_arith![gA,iZ];nofun;have step:∀(R:D->DH->Prop) (B C:ak->DH->Prop) o6,au Z (.cons (.augs (.var 4) (.var 7) .Add (.call "how_many" (.cons (.var 5) .nil))) .nil) noE [some (.tup [.int w,.tup (rs.map az)]),some t,some (.int w),some (.tup (rs.map az)),some (.ref q),some (.str b),o6,some (.int (atN rs (aM rs b):Nat))] G' ⟨kk,R,B,C⟩:=by intro R B C o6;refine last ?_;erw[h4,cY g1];refine bw (a:=.int (eH rs (bs.take i) (atN rs (aM rs b)):Nat)) (bR (oX hat)) ?_;refine cu (d:=.int ((2 ^ stc b:Nat):Int)) rfl ?_;erw[cU g1,wD,JP hat];refine hk _ _ ⟨⟨_,_,_,rfl⟩,?_,sa.then hq Sb.upd⟩;rw[bI,htk,afR hat λk=>afT]
  cases ht:aM rs b with
  |none=>
   rw[ht]at step;erw[aU,af];exact hM _ _ (step _ _ _ _)
  |some n=>
   rw[ht]at step;erw[aU];exact hM _ _ (step _ _ _ _)
 ·rintro Y G' ⟨⟨o5,o6,o7,rfl⟩,g1,sa⟩;rw[af,ce]at g1;refine hM _ _ ?_;erw[ends];refine ⟨q,rfl,hq,?_,sa⟩;rw[g1];unfold eN;have:eH rs bs=λk=>(aJ (List.replicate w 42)).countP λl=>atN rs (aK rs l)==k:=by
   funext k;exact afP hL (Qp w) λr hr=>(hb.form r hr).1
  rw[this]
theorem afV{w:Nat}{G:DH}{k:D->DH->Prop}{E:EK}(h:w<=1000)(hk:k (.str (List.replicate w 42)) G):(aH fP).t [.int w] G k E:=
 cu (d:=.str (List.replicate w 42)) (by unfold fP;dsimp only;rw[if_pos (by simp only[ae,b6];omega),dr]) hk
def bf(l:List Nat):List Nat:=l.map λa=>if a=42 then 48 else a
def jc:List D->Option D
 |[.str l]=>if decide (l.length<=1000) then some (.str (bf l)) else none
 |_=>none
theorem BR{l:List Nat}{G:DH}{k:D->DH->Prop}{E:EK}(h:l.length<=1000)(hk:k (.str (bf l)) G):(aH jc).t [.str l] G k E:=cu (if_pos (cb h)) hk
theorem afW{b l:List Nat}{n:Nat}(h:Fits b l)(hn:b[n]?=some 42):Fits (b.set n 48) l\/Fits (b.set n 49) l:=by
 obtain ⟨hl,he⟩:=am.mp hn;have hnl:n < l.length:=by rw[<-h.1];exact hl
 have hs:=h.2 n 42 l[n] hn (a8 hnl);have put:∀c,l[n]=c->c≠42->Fits (b.set n c) l:=by
  intro c hc hc42;refine ⟨by rw[cw];exact h.1,λi x y hx hy=>?_⟩;rw[List.getElem?_set]at hx;by_cases hi:n=i
  ·subst hi;rw[if_pos rfl,if_pos hl]at hx;rw[a8 hnl]at hy;cases hx;cases hy;unfold alt;rw[if_neg hc42,hc];simp
  ·rw[if_neg hi]at hx;exact h.2 i x y hx hy
 unfold alt at hs;rw[if_pos rfl]at hs;have:l[n]=48\/l[n]=49:=by simpa using hs
 rcases this with e |e
 ·exact .inl (put 48 e (by decide))
 ·exact .inr (put 49 e (by decide))
theorem Ra{b l:List Nat}{n c:Nat}(h:Fits (b.set n c) l)(hn:b[n]?=some 42)(hc:c=48\/c=49):Fits b l:=by
 have hl:=(am.mp hn).1;refine ⟨by have:=h.1;rwa [cw]at this,λi x y hx hy=>?_⟩;by_cases hi:n=i
 ·subst hi;rw[hn]at hx;cases hx;have:=h.2 n c y (by rw[List.getElem?_set,if_pos rfl,if_pos hl]) hy;unfold alt at this ⊢;rw[if_neg (by omega)]at this;rw[if_pos rfl];have e:y=c:=by simpa using this
  rw[e];simpa using hc
 ·exact h.2 i x y (by rw[List.getElem?_set,if_neg hi];exact hx) hy
theorem Lv.cover{name:List Nat}{rss:List (List Row)}{b:List Nat}{d:D}{bs:List (List Nat)}(h:Lv name rss b d bs):∀l,Fits b l->∃c∈bs,Fits c l:=by
 induction h with
 |leaf b h=>exact λl hl=>⟨b,by simp,hl⟩
 |node b n z o l m h _ _ hz ho=>
  intro w hw;rcases afW hw h with e |e
  ·obtain ⟨c,hc,hf⟩:=hz w e;exact ⟨c,bP.mpr (.inl hc),hf⟩
  ·obtain ⟨c,hc,hf⟩:=ho w e;exact ⟨c,bP.mpr (.inr hc),hf⟩
theorem Lv.within{name:List Nat}{rss:List (List Row)}{b:List Nat}{d:D}{bs:List (List Nat)}(h:Lv name rss b d bs):∀c∈bs,∀l,Fits c l->Fits b l:=by
 induction h with
 |leaf b h=>intro c hc l hl;rw[bq.mp hc]at hl;exact hl
 |node b n z o l m h _ _ hz ho=>
  intro c hc w hw;rcases bP.mp hc with hc |hc
  ·exact Ra (hz c hc w hw) h (.inl rfl)
  ·exact Ra (ho c hc w hw) h (.inr rfl)
theorem afX{a s:Nat}{f l:List Nat}(h:Fits (a::f) (s::l)):s∈alt a/\Fits f l:=
 ⟨h.2 0 a s rfl rfl,by have:=h.1;simpa using this,λi c t h1 h2=>h.2 (i+1) c t (by simpa using h1) (by simpa using h2)⟩
theorem afY{a s:Nat}{f l:List Nat}(h1:s∈alt a)(h2:Fits f l):Fits (a::f) (s::l):=⟨by simp[h2.1],λi c t hc ht=>by
 cases i with
 |zero=>simp at hc ht;rw[<-hc,<-ht];exact h1
 |succ i=>exact h2.2 i c t (by simpa using hc) (by simpa using ht)⟩
theorem il:∀c:List Nat,Fits c (bf c)
 |[]=>⟨rfl,λi c s h=>by simp at h⟩
 |a::c=>by
  show Fits (a::c) ((if a=42 then 48 else a)::bf c);refine afY ?_ (il c);unfold alt;split <;> simp
theorem wF:∀{c l:List Nat},Fits c l->¬l < bf c
 |[],l,h=>by
  have:l=[]:=ee.mp h.1.symm;subst this;exact ge _
 |a::c,[],h=>by have:=h.1;simp at this
 |a::c,s::l,h=>by
  obtain ⟨h1,h2⟩:=afX h;show ¬(s::l) < ((if a=42 then 48 else a)::bf c);rw[hU];have ih:=wF h2;unfold alt at h1;split at h1
  ·rename_i e;rw[if_pos e];have:s=48\/s=49:=by simpa using h1
   rintro (q |q)
   ·omega
   ·exact ih q.2
  ·rename_i e;rw[if_neg e];have:s=a:=by simpa using h1
   rintro (q |q)
   ·omega
   ·exact ih q.2
theorem wG:∀{x m a:List Nat},x < m->¬a < m->x < a
 |x,[],a,h,_=>absurd h (by simp)
 |x,b::m,[],_,h=>absurd (by simp) h
 |[],b::m,y::a,_,_=>by simp
 |c::x,b::m,y::a,h,g=>by
  rw[hU]at h g ⊢;have g1:¬y < b:=λe=>g (.inl e);rcases h with h |⟨h1,h2⟩
  ·exact .inl (by omega)
  ·by_cases e:y=b
   ·exact .inr ⟨by omega,wG h2 λz=>g (.inr ⟨e,z⟩)⟩
   ·exact .inl (by omega)
theorem jd:∀f:List Nat,(aZ f).Pairwise (· < ·)
 |[]=>by simp[aZ]
 |c::f=>by
  have ih:=jd f;have one:∀s:Nat,((aZ f).map (s::·)).Pairwise (· < ·):=λs=>List.pairwise_map.mpr (ih.imp λh=>hU.mpr (.inr ⟨rfl,h⟩));rw[aZ];unfold alt;split
  ·rw[ck,ck,fm,eg,List.pairwise_append];refine ⟨one 48,one 49,λa ha b hb=>?_⟩;obtain ⟨x,_,rfl⟩:=bb.mp ha;obtain ⟨y,_,rfl⟩:=bb.mp hb;exact hU.mpr (.inl (by decide))
  ·rw[ck,fm,eg];exact one c
theorem BV{u:List (List Nat)}{m:List Nat}(h:u.Pairwise (· < ·))(hm:m∈u)(hl:∀x∈u,¬x < m):u.head?=some m:=by
 cases u with
 |nil=>cases hm
 |cons a u=>
  rcases ci.mp hm with e |hm
  ·rw[e];rfl
  ·exact absurd ((List.pairwise_cons.mp h).1 m hm) (hl a aS)
theorem BW{ds:List D}{ls:List (List Nat)}{k:D->Prop}(h0:cB ds=none)(h:bJ ds=some ls)(hk:∀m,m∈ls->(∀a,a∈ls->¬a < m)->k (.str m)):opB .min [.lst ds] k:=by show lK [.lst ds] k;unfold lK;dsimp only;rw[h0,h];exact hk
def Rb:List Nat:=[117,110,100,101,114]
def BX:List Nat:=[119,111,114,100]
def dF:List Nat:=[104,105,100,100,101,110]
def bh(rs:List Row)(n:Nat)(f:List Nat):List (List Nat):=(aJ f).filter λl=>(aK (rs.take n) l).isNone
def oZ:RF.Spec:=bO (λa:Nat×List Row×Nat=>[ao a.1 a.2.1,.int a.2.2]) (λa=>okB a.1 a.2.1/\a.2.2 < a.2.1.length) (λ_=>.non)
theorem Rc{w n:Nat}{rs:List Row}{G:DH}{k:D->DH->Prop}{E:EK}(h:okB w rs)(hn:n < rs.length)(hk:k .non G):oZ.t [ao w rs,.int n] G k E:=bQ (w,rs,n) rfl ⟨h,hn⟩ hk
theorem afZ (Z:aj) (h1:Z "need_book"=fM) (h2:Z "is_place"=aH gC) (a:Nat×List Row×Nat) (G:DH) (h:okB a.1 a.2.1/\a.2.2 < a.2.1.length):au Z nH noE (env0 [ao a.1 a.2.1,.int a.2.2] 0) G (ends λd G'=>G'=G/\d=.non):=by obtain ⟨w,rs,n⟩:=a;obtain ⟨hb,hn⟩:=h;dsimp only at hb hn ⊢;simp_all_arith[nH];nofun;erw[h1];refine ig hb (hM _ _ (last ?_));erw[ao,h2,af];refine afu hn ?_;erw[and_self]
def BZ(rs:List Row)(n:Nat)(f:List Nat)(d:D):Prop:=
 (∃m,(bh rs n f).head?=some m/\d=.tup [.str BX,.str m])\/(bh rs n f=[]/\∃t bs,d=.tup [.str dF,t]/\Lv Rb [rs.take n] f t bs/\∀c∈bs,(aM (rs.take n) c).isSome=true)
def ph:RF.Spec:=ghS (A:=Nat×List Row×Nat) (λa ds _=>ds=[ao a.1 a.2.1,.int a.2.2]/\okB a.1 a.2.1/\a.2.2 < a.2.1.length) (λa G d G'=>G'=G/\∃r,a.2.1[a.2.2]?=some r/\BZ a.2.1 a.2.2 r.1 d)
theorem Rf{w n:Nat}{rs:List Row}{r:Row}{G:DH}{k:D->DH->Prop}{E:EK}(h:okB w rs)(hn:rs[n]?=some r)(hk:∀d,BZ rs n r.1 d->k d G):ph.t [ao w rs,.int n] G k E:=
 gn (w,rs,n) ⟨rfl,h,(am.mp hn).1⟩ λd G' hx=>by
  obtain ⟨e,r',er,q⟩:=hx;subst e;have er:rs[n]?=some r':=er;rw[hn]at er;cases er;exact hk d q
theorem af0{l:List D}{n:Nat}:cut l none (some (n:Int))=l.take n:=iR l n
theorem af1 (Z:aj) (h1:Z "need_row"=oZ) (h2:Z "grown"=eF 9) (h3:Z "leaves"=dR 9) (h4:Z "least"=aH jc) (a:Nat×List Row×Nat) (ds:List D) (G:DH) (h:ds=[ao a.1 a.2.1,.int a.2.2]/\okB a.1 a.2.1/\a.2.2 < a.2.1.length):
  au Z nJ noE (env0 ds 4) G (ends λd G'=>G'=G/\∃r,a.2.1[a.2.2]?=some r/\BZ a.2.1 a.2.2 r.1 d):=by
 obtain ⟨w,rs,n⟩:=a;obtain ⟨rfl,hb,hn⟩:=h;dsimp only at hb hn ⊢;have hw6:=hb.w6;have hc:rs[n]?=some rs[n]:=a8 hn;have hf:=hb.form rs[n] (d4 hn);have hfl:=hf.1;have hrt:∀r∈rs.take n,okF w r.1:=λr hr=>hb.form r (cK hr);simp_all_arith[nJ];nofun;erw[h1];refine Rc hb hn (hM _ _ (seq λM hM=>?_));erw[ao];symm;erw[ends];refine bw (a:=az rs[n]) (bR (by rw[ax,hc];rfl)) ?_;erw[az];symm;erw[h2,af0];have er:[D.tup (List.take n (rs.map az))]=dO [rs.take n]:=by rw[<-List.map_take];rfl
 have hst:stc rs[n].1<=6:=cp List.countP_le_length (by omega);rw[er];refine ⟨by decide,oN (name:=Rb) ⟨by simp,by decide,λrs' hrs' r hr=>by rw[bq.mp hrs']at hr;exact (hrt r hr).1,by omega⟩ hfl (by omega) λt ht=>hM _ _ (seq λM hM=>?_)⟩;obtain ⟨bs,hL⟩:=ht.lv;have hlen:=hL.len' (by omega);erw[h3];refine BJ hL (by decide) (by omega) (by omega) ?_;erw[ends];refine CompG.inv (P:=λi acc Y G'=>(∃o1 o2,Y=[o1,o2])/\G'=G/\acc=((bs.take i).filter λc=>(aM (rs.take n) c).isNone).map λc=>D.str (bf c)) ⟨⟨_,_,rfl⟩,rfl,rfl⟩ (λ_ _ _ _ _=>trivial) (by rw[af];bv_omega) ?_ ?_
 ·rintro i d acc Y G' hd ⟨⟨o1,o2,rfl⟩,rfl,rfl⟩ kk hk;rw[ax]at hd;obtain ⟨c,hcb,rfl⟩:=ar.mp hd;have hcl:=(hL.box c (ba hcb)).1;have htk:bs.take (i+1)=bs.take i++[c]:=by rw[cf,hcb];rfl
  erw[gA,iZ,bp,d6];cases htc:aM (rs.take n) c with
  |some j=>
   erw[aU];exact hk _ _ _ ⟨⟨_,_,rfl⟩,rfl,by rw[htk,eJ];simp[htc]⟩
  |none=>
   erw[aU,h4];refine BR (by omega) (hk _ _ _ ⟨⟨_,_,rfl⟩,rfl,by rw[htk,eJ];simp[htc]⟩)
 ·rintro acc Y G' ⟨_,rfl,rfl⟩;rw[af,ce];symm;have meet:∀c∈bs,∀l,Fits c l->aK (rs.take n) l=aM (rs.take n) c:=by
   intro c hc l hl;obtain ⟨e1,e2⟩:=hL.box c hc;have okc:=hL.okf hf c hc;exact wy (λr hr=>by rw[(hrt r hr).1,e1,hfl]) (e2 _ (by simp)) (eG okc hl) hl
  cases hfr:bs.filter λc=>(aM (rs.take n) c).isNone with
  |nil=>
   have hall:∀c∈bs,(aM (rs.take n) c).isSome=true:=by
    intro c hc;have:=en.mp hfr c hc;cases h:aM (rs.take n) c with
    |none=>rw[h]at this;exact absurd rfl this
    |some _=>rfl
   erw[d6];ac_nf0;erw[ends];refine ⟨by decide,rs[n],hc,.inr ⟨?_,t,bs,rfl,hL,hall⟩⟩;unfold bh;rw[en];intro l hl;obtain ⟨c,hc',hfc⟩:=hL.cover l (bG.mp hl);rw[meet c hc' l hfc];have:=hall c hc';cases h:aM (rs.take n) c with
   |none=>rw[h]at this;cases this
   |some _=>simp
  |cons c0 cs=>
   have hne:(!(List.isEmpty (D.str (bf c0)::cs.map λc=>D.str (bf c))))=true:=rfl;erw[bp,hne];rw[<-bp (f:=λc=>D.str (bf c)),<-hfr];have es:bJ ((bs.filter λc=>(aM (rs.take n) c).isNone).map λc=>D.str (bf c))=some ((bs.filter λc=>(aM (rs.take n) c).isNone).map bf):=strs_map _ _;have ei:cB ((bs.filter λc=>(aM (rs.take n) c).isNone).map λc=>D.str (bf c))=none:=by rw[hfr];rfl
   refine BW ei es λm hm hlow=>?_;obtain ⟨c,hcm,rfl⟩:=bb.mp hm;obtain ⟨hcb,hcn⟩:=dk.mp hcm;have htn:aM (rs.take n) c=none:=by simpa using hcn
   refine ⟨by decide,rs[n],hc,.inl ⟨bf c,?_,rfl⟩⟩;refine BV ?_ ?_ ?_
   ·unfold bh;rw[cM];exact (jd _).filter _
   ·unfold bh;rw[dk];refine ⟨bG.mpr (hL.within c hcb _ (il c)),?_⟩;rw[meet c hcb _ (il c),htn];rfl
   ·intro x hx hlt;unfold bh at hx;obtain ⟨hx1,hx2⟩:=dk.mp hx;obtain ⟨c',hc',hfc⟩:=hL.cover x (bG.mp hx1);rw[meet c' hc' x hfc]at hx2;have hlow':=hlow (bf c') (bb.mpr ⟨c',dk.mpr ⟨hc',hx2⟩,rfl⟩);exact wF hfc (wG hlt hlow')
theorem Rg(rs:List Row):nrs (rs.map az)=true:=by
 induction rs with
 |nil=>rfl
 |cons r rs ih=>rw[bp,nrs,ih];rfl
def nI(n:Nat):D:=.int (n:Int)
def eO(rs:List Row):List Nat:=(List.range rs.length).filter λn=>match rs[n]? with |some r=>(bh rs n r.1).isEmpty |none=>false
theorem af2{rs:List Row}{i:Nat}{r:Row}(h:rs[i]?=some r):((List.range (i+1)).filter λn=>match rs[n]? with |some r=>(bh rs n r.1).isEmpty |none=>false)=((List.range i).filter λn=>match rs[n]? with |some r=>(bh rs n r.1).isEmpty |none=>false)++(if (bh rs i r.1).isEmpty then [i] else []):=by rw[fI,eJ];congr 1;rw[List.filter_cons,h];cases hf:(bh rs i r.1).isEmpty <;> simp only[hf] <;> rfl
def pq:RF.Spec:=ghS (A:=Nat×List Row) (λa ds _=>ds=[ao a.1 a.2]/\okB a.1 a.2) (λa G d G'=>∃q,d=.ref q/\G q=none/\G' q=some (.lst ((eO a.2).map nI))/\Sa G G')
theorem Rh{w:Nat}{rs:List Row}{G:DH}{k:D->DH->Prop}{E:EK}(h:okB w rs)(hk:∀q G',G q=none->G' q=some (.lst ((eO rs).map nI))->Sa G G'->k (.ref q) G'):pq.t [ao w rs] G k E:=
 gn (w,rs) ⟨rfl,h⟩ λd G' ⟨q,e1,e2,e3,e4⟩=>by subst e1;exact hk q G' e2 e3 e4
theorem af3 (Z:aj) (h1:Z "need_book"=fM) (h2:Z "reach"=ph) (a:Nat×List Row) (ds:List D) (G:DH) (h:ds=[ao a.1 a.2]/\okB a.1 a.2):
  au Z nM noE (env0 ds 0) G (ends λd G'=>∃q,d=.ref q/\G q=none/\G' q=some (.lst ((eO a.2).map nI))/\Sa G G'):=by
 obtain ⟨w,rs⟩:=a;obtain ⟨rfl,hb⟩:=h;dsimp only at hb ⊢;have hlen:=hb.len;simp_all_arith[nM];nofun;erw[h1];refine ig hb (hM _ _ (last ?_));have e0:ao w rs=.tup [.int w,.tup (rs.map az)]:=rfl;erw[e0,af];refine ⟨by omega,CompG.inv (P:=λi acc Y G'=>(∃o,Y=[o,some (.tup [.int w,.tup (rs.map az)])])/\G'=G/\acc=((List.range i).filter λn=>match rs[n]? with |some r=>(bh rs n r.1).isEmpty |none=>false).map nI) ⟨⟨_,rfl⟩,rfl,rfl⟩ (λ_ _ _ _ _=>trivial) (by simp[aW];bv_omega) ?_ ?_⟩
 ·rintro i d acc Y G' hd ⟨⟨o,rfl⟩,rfl,rfl⟩ kk hk;have hi:i < rs.length:=by
   have:=(am.mp hd).1;simpa [aW] using this
  have hdi:d=.int (i:Int):=by unfold aW at hd;rw[ax,ez (by simpa using hi)]at hd;simpa using hd.symm
  subst hdi;have hc:rs[i]?=some rs[i]:=a8 hi;have ht:=af2 hc;erw[h2];rw[<-e0];refine Rf hb hc λd' hq=>?_;rcases hq with ⟨m,hm,rfl⟩ |⟨hn,t,bs,rfl,hL,hall⟩
  ·have hne:(bh rs i rs[i].1).isEmpty=false:=by
    cases h:bh rs i rs[i].1 with
    |nil=>rw[h]at hm;cases hm
    |cons _ _=>rfl
   have eb:(([119,111,114,100]==[104,105,100,100,101,110]):Bool)=false:=by decide
   erw[BX,eb];exact hk _ _ _ ⟨⟨_,rfl⟩,rfl,by rw[ht,hne];simp[nI]⟩
  ·have hne:(bh rs i rs[i].1).isEmpty=true:=by rw[hn];rfl
   erw[dF,BEq.rfl];exact hk _ _ _ ⟨⟨_,rfl⟩,rfl,by rw[ht,hne];simp[nI]⟩
 ·rintro acc Y G' ⟨_,rfl,rfl⟩;intro q hq;exact ⟨q,rfl,hq,by rw[bI];simp[aW,eO],Sa.new hq⟩
theorem af4(l:List Nat):nrs (l.map nI)=true:=vQ λd hd=>by obtain ⟨_,_,rfl⟩:=bb.mp hd;rfl
theorem af5(l:List Nat):bj (l.map nI)=0:=Nat.le_zero.mp (vR λd hd=>by obtain ⟨_,_,rfl⟩:=bb.mp hd;exact ay _)
def Ca:List Nat:=[115,97,109,101]
def Cd:List Nat:=[112,97,114,116,101,100]
def jH:List Nat:=[97,108,105,107,101]
def wH:RF.Spec:=bO (λa:Nat×List Row×List Row=>[ao a.1 a.2.1,ao a.1 a.2.2]) (λa=>okB a.1 a.2.1/\okB a.1 a.2.2) (λ_=>.non)
theorem af6{w:Nat}{rs ss:List Row}{G:DH}{k:D->DH->Prop}{E:EK}(h:okB w rs)(h':okB w ss)(hk:k .non G):wH.t [ao w rs,ao w ss] G k E:=bQ (w,rs,ss) rfl ⟨h,h'⟩ hk
theorem af7 (Z:aj) (h1:Z "need_book"=fM) (a:Nat×List Row×List Row) (G:DH) (h:okB a.1 a.2.1/\okB a.1 a.2.2):au Z m9 noE (env0 [ao a.1 a.2.1,ao a.1 a.2.2] 0) G (ends λd G'=>G'=G/\d=.non):=by obtain ⟨w,rs,ss⟩:=a;obtain ⟨hb,hc⟩:=h;dsimp only at hb hc ⊢;simp_all_arith[m9];nofun;erw[h1];refine ig hb (hM _ _ (seq λM hM=>?_));erw[h1];refine ig hc (hM _ _ (last ?_));erw[ao,BEq.rfl,and_self]
def cz(rs:List Row)(o:Option Nat):Option (List Nat):=o.bind λn=>rs[n]?.map (·.2)
theorem Ri{rs:List Row}{o:Option Nat}:lg rs o=bM (cz rs o):=by
 cases o with
 |none=>rfl
 |some n=>
  unfold lg cz;dsimp only[Option.bind];cases rs[n]? <;> rfl
structure SD where
 w:Nat
 rs:List Row
 ss:List Row
 name:List Nat
 o:Option Nat
 p:Option Nat
def sSD:RF.Spec:=bO (λa:SD=>[ao a.w a.rs,ao a.w a.ss,.tup [.str a.name,aU a.o,aU a.p]]) (λa=>(∀n,a.o=some n->n < a.rs.length)/\∀n,a.p=some n->n < a.ss.length) (λa=>.bl (cz a.rs a.o==cz a.ss a.p))
theorem af8{w:Nat}{rs ss:List Row}{name:List Nat}{o p:Option Nat}{G:DH}{k:D->DH->Prop}{E:EK}(h1:∀n,o=some n->n < rs.length)(h2:∀n,p=some n->n < ss.length)(hk:k (.bl (cz rs o==cz ss p)) G):sSD.t [ao w rs,ao w ss,.tup [.str name,aU o,aU p]] G k E:=bQ ⟨w,rs,ss,name,o,p⟩ rfl ⟨h1,h2⟩ hk
theorem af9 (Z:aj) (h1:Z "deed_of"=wk) (a:SD) (G:DH) (h:(∀n,a.o=some n->n < a.rs.length)/\∀n,a.p=some n->n < a.ss.length):au Z ni noE (env0 [ao a.w a.rs,ao a.w a.ss,.tup [.str a.name,aU a.o,aU a.p]] 0) G (ends λd G'=>G'=G/\d=.bl (cz a.rs a.o==cz a.ss a.p)):=by obtain ⟨w,rs,ss,name,o,p⟩:=a;obtain ⟨ho,hp⟩:=h;dsimp only at ho hp ⊢;erw[ni,h1];refine Qm ho (Qm hp ?_);rw[Ri,Ri];cases cz rs o <;> cases cz ss p <;> erw[bM] <;> first |done | (simp;done) | (refine ⟨by decide,?_⟩;simp;done)
def aV(w:Nat)(rs ss:List Row):List (List Nat):=(aJ (List.replicate w 42)).filter λl=>!(cz rs (aK rs l)==cz ss (aK ss l))
def eQ(rs ss:List Row)(c:List Nat):Bool:=cz rs (aM rs c)==cz ss (aM ss c)
def wI(w:Nat)(rs ss:List Row)(d:D):Prop:=
 (∃m,(aV w rs ss).head?=some m/\d=.tup [.str Cd,.str m])\/(aV w rs ss=[]/\∃t bs,d=.tup [.str jH,t]/\Lv Ca [rs,ss] (List.replicate w 42) t bs/\∀c∈bs,eQ rs ss c=true)
def lz:RF.Spec:=ghS (A:=Nat×List Row×List Row) (λa ds _=>ds=[ao a.1 a.2.1,ao a.1 a.2.2]/\okB a.1 a.2.1/\okB a.1 a.2.2) (λa G d G'=>G'=G/\wI a.1 a.2.1 a.2.2 d)
theorem pA{w:Nat}{rs ss:List Row}{G:DH}{k:D->DH->Prop}{E:EK}(h:okB w rs)(h':okB w ss)(hk:∀d,wI w rs ss d->k d G):lz.t [ao w rs,ao w ss] G k E:=
 gn (w,rs,ss) ⟨rfl,h,h'⟩ λd G' hx=>by
  obtain ⟨e,q⟩:=hx;subst e;exact hk d q
theorem aga (Z:aj) (h1:Z "need_two_books"=wH) (h2:Z "grown"=eF 9) (h3:Z "leaves"=dR 9) (h4:Z "least"=aH jc) (h5:Z "stars"=aH fP) (h6:Z "same_deeds"=sSD) (a:Nat×List Row×List Row) (ds:List D) (G:DH) (h:ds=[ao a.1 a.2.1,ao a.1 a.2.2]/\okB a.1 a.2.1/\okB a.1 a.2.2):
  au Z nu noE (env0 ds 3) G (ends λd G'=>G'=G/\wI a.1 a.2.1 a.2.2 d):=by
 obtain ⟨w,rs,ss⟩:=a;obtain ⟨rfl,hb,hb'⟩:=h;dsimp only at hb hb' ⊢;have hw6:=hb.w6;have hst:=ww w;have hrl:∀r∈rs,r.1.length=w:=λr hr=>(hb.form r hr).1;have hsl:∀r∈ss,r.1.length=w:=λr hr=>(hb'.form r hr).1;have e0:∀xs:List Row,D.tup [.int w,.tup (xs.map az)]=ao w xs:=λ_=>rfl;simp_all_arith[nu];nofun;erw[h1];refine af6 hb hb' (hM _ _ (seq λM hM=>?_));erw[ao,h5];refine afV (by omega) (hM _ _ (seq λM hM=>?_));erw[h2];have er:[D.tup (rs.map az),.tup (ss.map az)]=dO [rs,ss]:=rfl;rw[er];refine ⟨by decide,oN (name:=Ca) ⟨by simp,by decide,λxs hxs r hr=>?_,by omega⟩ bS (by omega) λt ht=>hM _ _ (seq λM hM=>?_)⟩
 ·rcases ci.mp hxs with e |hxs
  ·rw[e]at hr;exact hrl r hr
  ·rw[bq.mp hxs]at hr;exact hsl r hr
 obtain ⟨bs,hL⟩:=ht.lv;have hlen:=hL.len' (by rw[bS];omega);erw[h3];refine BJ hL (by decide) (by rw[bS];omega) (by omega) ?_;erw[ends];refine CompG.inv (P:=λi acc Y G'=>(∃o1 o2,Y=[o1,o2,some (.tup [.int w,.tup (rs.map az)]),some (.tup [.int w,.tup (ss.map az)])])/\G'=G/\acc=((bs.take i).filter λc=>!eQ rs ss c).map λc=>D.str (bf c)) ⟨⟨_,_,rfl⟩,rfl,rfl⟩ (λ_ _ _ _ _=>trivial) (by rw[af];bv_omega) ?_ ?_
 ·rintro i d acc Y G' hd ⟨⟨o1,o2,rfl⟩,rfl,rfl⟩ kk hk;rw[ax]at hd;obtain ⟨c,hcb,rfl⟩:=ar.mp hd;have hcl:=(hL.box c (ba hcb)).1;rw[bS]at hcl;have htk:bs.take (i+1)=bs.take i++[c]:=by rw[cf,hcb];rfl
  erw[gA,iZ,bp,d6,h6];rw[e0,e0];refine af8 (λn hn=>lr hn) (λn hn=>lr hn) ?_;have es:(cz rs (aM rs c)==cz ss (aM ss c))=eQ rs ss c:=rfl;rw[es];cases hsb:eQ rs ss c with
  |true=>
   erw[ends];exact hk _ _ _ ⟨⟨_,_,rfl⟩,rfl,by rw[htk,eJ];simp[hsb]⟩
  |false=>
   erw[h4];refine BR (by omega) (hk _ _ _ ⟨⟨_,_,rfl⟩,rfl,by rw[htk,eJ];simp[hsb]⟩)
 ·rintro acc Y G' ⟨_,rfl,rfl⟩;rw[af,ce];symm;have meet:∀xs∈[rs,ss],∀c∈bs,∀l,Fits c l->aK xs l=aM xs c:=by
   intro xs hxs c hc l hl;obtain ⟨e1,e2⟩:=hL.box c hc;rw[bS]at e1;have okc:=hL.okf (Qp w) c hc;refine wy (λr hr=>?_) (e2 _ hxs) (eG okc hl) hl;rcases ci.mp hxs with e |hxs
   ·rw[e]at hr;rw[hrl r hr,e1]
   ·rw[bq.mp hxs]at hr;rw[hsl r hr,e1]
  have both:∀c∈bs,∀l,Fits c l->(cz rs (aK rs l)==cz ss (aK ss l))=eQ rs ss c:=by intro c hc l hl;rw[meet rs (by simp) c hc l hl,meet ss (by simp) c hc l hl];rfl
  cases hfr:bs.filter λc=>!eQ rs ss c with
  |nil=>
   have hall:∀c∈bs,eQ rs ss c=true:=by
    intro c hc;have:=en.mp hfr c hc;cases h:eQ rs ss c with
    |false=>rw[h]at this;exact absurd rfl this
    |true=>rfl
   erw[d6];ac_nf0;erw[ends];refine ⟨by decide,.inr ⟨?_,t,bs,rfl,hL,hall⟩⟩;unfold aV;rw[en];intro l hl;obtain ⟨c,hc',hfc⟩:=hL.cover l (bG.mp hl);rw[both c hc' l hfc,hall c hc'];simp
  |cons c0 cs=>
   have hne:(!(List.isEmpty (D.str (bf c0)::cs.map λc=>D.str (bf c))))=true:=rfl;erw[bp,hne];rw[<-bp (f:=λc=>D.str (bf c)),<-hfr];have es:bJ ((bs.filter λc=>!eQ rs ss c).map λc=>D.str (bf c))=some ((bs.filter λc=>!eQ rs ss c).map bf):=strs_map _ _;have ei:cB ((bs.filter λc=>!eQ rs ss c).map λc=>D.str (bf c))=none:=by rw[hfr];rfl
   refine BW ei es λm hm hlow=>?_;obtain ⟨c,hcm,rfl⟩:=bb.mp hm;obtain ⟨hcb,hcn⟩:=dk.mp hcm;refine ⟨by decide,.inl ⟨bf c,?_,rfl⟩⟩;refine BV ?_ ?_ ?_
   ·unfold aV;rw[cM];exact (jd _).filter _
   ·unfold aV;rw[dk];refine ⟨bG.mpr (hL.within c hcb _ (il c)),?_⟩;rw[both c hcb _ (il c)];exact hcn
   ·intro x hx hlt;unfold aV at hx;obtain ⟨hx1,hx2⟩:=dk.mp hx;obtain ⟨c',hc',hfc⟩:=hL.cover x (bG.mp hx1);rw[both c' hc' x hfc]at hx2;have hlow':=hlow (bf c') (bb.mpr ⟨c',dk.mpr ⟨hc',hx2⟩,rfl⟩);exact wF hfc (wG hlt hlow')
theorem Rj{rs:List Row}{n:Nat}{r:Row}(h:rs[n]?=some r)(l:List Nat):aK rs l=match aK (rs.take n) l with |some m=>some m |none=>if aL r.1 l then some n else (aK (rs.drop (n+1)) l).map (n+1 + ·):=by
 have hn:=(am.mp h).1;have e:=Qn (rs.take n) (rs.drop n) l;rw[hR,wj h,bX,Nat.min_eq_left (by omega)]at e;rw[e];cases aK (rs.take n) l with
 |some m=>rfl
 |none=>
  dsimp only;split
  ·simp
  ·rw[g0];congr 1;funext x;simp;omega
theorem pB{rs:List Row}{n:Nat}{r:Row}(h:rs[n]?=some r){l:List Nat}:aK rs l=some n↔aK (rs.take n) l=none/\aL r.1 l=true:=by
 have hn:=(am.mp h).1;have e:=Rj h l;cases ht:aK (rs.take n) l with
 |some m=>
  rw[ht]at e;have:=oJ ht;rw[bX]at this;constructor
  ·intro h';rw[e]at h';have:m=n:=by simpa using h'
   omega
  ·rintro ⟨h',_⟩;cases h'
 |none=>
  rw[ht]at e;dsimp only at e;cases hf:aL r.1 l with
  |true=>rw[hf,if_pos rfl]at e;simp[e]
  |false=>
   rw[hf,if_neg a7]at e;constructor
   ·intro h';rw[e]at h';obtain ⟨x,_,hx⟩:=ar.mp h';omega
   ·rintro ⟨_,h'⟩;cases h'
theorem agb{w n:Nat}{rs:List Row}{r:Row}(hb:okB w rs)(h:rs[n]?=some r):bh rs n r.1=[]↔∀l,okW w l->aK rs l≠some n:=by
 have hf:=hb.form r (ba h);unfold bh;rw[en];constructor
 ·intro q l hl e;obtain ⟨e1,e2⟩:=(pB h).mp e;exact q l (bG.mpr ((iV hl.2).mp e2)) (by rw[e1];rfl)
 ·intro q l hl e;have hfit:=bG.mp hl;have hw:okW w l:=⟨by rw[<-hfit.1,hf.1],eG hf hfit⟩;exact q l hw ((pB h).mpr ⟨by simpa using e,(iV hw.2).mpr hfit⟩)
theorem agc{rs:List Row}{n:Nat}(hn:n < rs.length){o:Option Nat}:(atN rs o==n)=true↔o=some n:=by
 cases o with
 |none=>simp[atN];omega
 |some m=>simp[atN]
def ir(w:Nat)(rs:List Row)(k:Nat):Nat:=(aJ (List.replicate w 42)).countP λl=>atN rs (aK rs l)==k
def wo(rs:List Row)(n:Nat):List Row:=rs.take n++rs.drop (n+1)
def dn(n a:Nat):Nat:=if a < n then a else a - 1
theorem pC{rs:List Row}{n:Nat}(hn:n < rs.length):(wo rs n).length+1=rs.length:=by unfold wo;rw[aE,bX,cr];omega
theorem Ce{w n:Nat}{rs:List Row}(hb:okB w rs)(hn:n < rs.length):okB w (wo rs n):=hb.sub (by have:=pC hn;omega) λr hr=>by
 rcases bP.mp hr with h |h
 ·exact cK h
 ·exact List.mem_of_mem_drop h
theorem agd{n:Nat}{rs:List Row}{r:Row}(h:rs[n]?=some r){l:List Nat}(hl:aK rs l≠some n):atN (wo rs n) (aK (wo rs n) l)=dn n (atN rs (aK rs l))/\atN rs (aK rs l)≠n/\cz (wo rs n) (aK (wo rs n) l)=cz rs (aK rs l):=by
 have hn:=(am.mp h).1;have hwl:=pC hn;have e:=Rj h l;have e':aK (wo rs n) l=_:=Qn (rs.take n) (rs.drop (n+1)) l;have tl:(rs.take n).length=n:=by rw[bX];omega
 rw[tl]at e';cases ht:aK (rs.take n) l with
 |some m=>
  have hm:=oJ ht;rw[tl]at hm;rw[ht]at e e';dsimp only at e e';rw[e,e'];refine ⟨?_,?_,?_⟩
  ·show m=dn n m;unfold dn;rw[if_pos hm]
  ·show m≠n;omega
  ·unfold cz wo;dsimp only[Option.bind];rw[e6 (by omega),List.getElem?_take,if_pos hm]
 |none=>
  rw[ht]at e e';dsimp only at e e';cases hf:aL r.1 l with
  |true=>rw[hf,if_pos rfl]at e;exact absurd e hl
  |false=>
   rw[hf,if_neg a7]at e;cases hd:aK (rs.drop (n+1)) l with
   |none=>
    rw[hd]at e e';rw[e,e'];refine ⟨?_,?_,rfl⟩
    ·show (wo rs n).length=dn n rs.length;unfold dn;rw[if_neg (by omega)];omega
    ·show rs.length≠n;omega
   |some x=>
    rw[hd]at e e';rw[e,e'];refine ⟨?_,?_,?_⟩
    ·show n+x=dn n (n+1+x);unfold dn;rw[if_neg (by omega)];omega
    ·show n+1+x≠n;omega
    ·show ((wo rs n)[n+x]?).map (·.2)=(rs[n+1+x]?).map (·.2);unfold wo;rw[List.getElem?_append_right (by omega),tl,List.getElem?_drop];congr 2;omega
theorem age{w n:Nat}{rs:List Row}{r:Row}(hb:okB w rs)(h:rs[n]?=some r)(hf:bh rs n r.1=[]):aV w rs (wo rs n)=[]:=by have hfree:=(agb hb h).mp hf;unfold aV;rw[en];intro l hl;obtain ⟨_,_,e⟩:=agd h (hfree l (lq.mp (bG.mp hl)));rw[e];simp
theorem agf{w n:Nat}{rs:List Row}{r:Row}{m:List Nat}(hb:okB w rs)(h:rs[n]?=some r)(hm:(bh rs n r.1).head?=some m):okW w m/\aK rs m=some n/\Fits r.1 m/\aK (rs.take n) m=none:=by
 have hf:=hb.form r (ba h);have hmem:=List.mem_of_mem_head? (Option.mem_def.mpr hm);unfold bh at hmem;obtain ⟨m1,m2⟩:=dk.mp hmem;have hfit:=bG.mp m1;have hw:okW w m:=⟨by rw[<-hfit.1,hf.1],eG hf hfit⟩;have hnn:aK (rs.take n) m=none:=by simpa using m2
 exact ⟨hw,(pB h).mpr ⟨hnn,(iV hw.2).mpr hfit⟩,hfit,hnn⟩
def sWo:RF.Spec:=bO (λa:Nat×List Row×Nat=>[ao a.1 a.2.1,.int a.2.2]) (λa=>okB a.1 a.2.1/\a.2.2 < a.2.1.length) (λa=>ao a.1 (wo a.2.1 a.2.2))
theorem wJ{w n:Nat}{rs:List Row}{G:DH}{k:D->DH->Prop}{E:EK}(h:okB w rs)(hn:n < rs.length)(hk:k (ao w (wo rs n)) G):sWo.t [ao w rs,.int n] G k E:=bQ (w,rs,n) rfl ⟨h,hn⟩ hk
theorem Rk{α β:Type}(f:α->β)(l:List α)(n:Nat):cut (l.map f) (some ((n:Int)+1)) none=(l.drop (n+1)).map f:=ae5 f l (n+1)
theorem agg (Z:aj) (h1:Z "need_row"=oZ) (a:Nat×List Row×Nat) (G:DH) (h:okB a.1 a.2.1/\a.2.2 < a.2.1.length):au Z nO noE (env0 [ao a.1 a.2.1,.int a.2.2] 2) G (ends λd G'=>G'=G/\d=ao a.1 (wo a.2.1 a.2.2)):=by obtain ⟨w,rs,n⟩:=a;obtain ⟨hb,hn⟩:=h;dsimp only at hb hn ⊢;have hlen:=hb.len;simp_all_arith[nO];nofun;erw[h1];refine Rc hb hn (hM _ _ (seq λM hM=>?_));erw[ao];ac_nf0;erw[Bq,Rk,af,bX,cr];refine ⟨by bv_omega,by decide,?_⟩;unfold wo ao;rw[br]
theorem agh{n:Nat}{rs:List Row}{r:Row}(h:rs[n]?=some r):(eO rs).contains n=(bh rs n r.1).isEmpty:=by have hn:=(am.mp h).1;rw[ff,ca];unfold eO;rw[dk,h];simp[hn]
theorem Cg{α:Type}(f:α->Int):∀l:List α,cB (l.map λx=>D.int (f x))=some (l.map f)
 |[]=>rfl
 |x::l=>by rw[bp,cB,Cg f l];rfl
def ndT:List Nat:=[110,101,101,100,108,101,115,115]
def Rm:List Nat:=[110,101,101,100,101,100]
def ndQ(w n:Nat)(rs:List Row)(d:D):Prop:=
 (∃m,(aV w rs (wo rs n)).head?=some m/\d=.tup [.str Rm,.str m])\/(aV w rs (wo rs n)=[]/\∃t bs,d=.tup [.str ndT,t]/\Lv Ca [rs,wo rs n] (List.replicate w 42) t bs/\∀c∈bs,eQ rs (wo rs n) c=true)
def wK:RF.Spec:=ghS (A:=Nat×List Row×Nat) (λa ds _=>ds=[ao a.1 a.2.1,.int a.2.2]/\okB a.1 a.2.1/\a.2.2 < a.2.1.length) (λa G d G'=>G'=G/\ndQ a.1 a.2.2 a.2.1 d)
theorem agi{w n:Nat}{rs:List Row}{G:DH}{k:D->DH->Prop}{E:EK}(h:okB w rs)(hn:n < rs.length)(hk:∀d,ndQ w n rs d->k d G):wK.t [ao w rs,.int n] G k E:=
 gn (w,rs,n) ⟨rfl,h,hn⟩ λd G' hx=>by
  obtain ⟨e,q⟩:=hx;subst e;exact hk d q
theorem agj (Z:aj) (h1:Z "alike"=lz) (h2:Z "without"=sWo) (a:Nat×List Row×Nat) (ds:List D) (G:DH) (h:ds=[ao a.1 a.2.1,.int a.2.2]/\okB a.1 a.2.1/\a.2.2 < a.2.1.length):au Z nP noE (env0 ds 2) G (ends λd G'=>G'=G/\ndQ a.1 a.2.2 a.2.1 d):=by
 obtain ⟨w,rs,n⟩:=a;obtain ⟨rfl,hb,hn⟩:=h;dsimp only at hb hn ⊢;simp_all_arith[nP];nofun;erw[h1,h2];refine wJ hb hn (pA hb (Ce hb hn) λd hq=>?_);rcases hq with ⟨m,hm,rfl⟩ |⟨hnil,t,bs,rfl,hL,hall⟩
 ·have eb:(([112,97,114,116,101,100]==[97,108,105,107,101]):Bool)=false:=by decide
  erw[Cd];ac_nf0;erw[eb];exact ⟨by decide,.inl ⟨m,hm,rfl⟩⟩
 ·erw[jH];ac_nf0;erw[BEq.rfl];exact ⟨by decide,.inr ⟨hnil,t,bs,rfl,hL,hall⟩⟩
def lnS(w:Nat)(rs:List Row)(n:Nat):List Row:=if (aV w rs (wo rs n)).isEmpty then wo rs n else rs
def lnR(w:Nat):Nat->List Row->List Row
 |0,rs=>rs
 |k+1,rs=>lnR w k (lnS w rs k)
theorem Rn{w n:Nat}{rs:List Row}(hb:okB w rs)(hn:n < rs.length):okB w (lnS w rs n)/\n<=(lnS w rs n).length:=by
 unfold lnS;split
 ·exact ⟨Ce hb hn,by have:=pC hn;omega⟩
 ·exact ⟨hb,by omega⟩
theorem Ro{w:Nat}:∀(k:Nat){rs:List Row},okB w rs->k<=rs.length->okB w (lnR w k rs)
 |0,rs,hb,_=>hb
 |k+1,rs,hb,hk=>by
  obtain ⟨h1,h2⟩:=Rn hb (show k < rs.length by omega);exact Ro k h1 h2
def pF:RF.Spec:=bO (λa:Nat×List Row=>[ao a.1 a.2]) (λa=>okB a.1 a.2) (λa=>ao a.1 (lnR a.1 a.2.length a.2))
theorem Ci{w:Nat}{rs:List Row}{G:DH}{k:D->DH->Prop}{E:EK}(h:okB w rs)(hk:k (ao w (lnR w rs.length rs)) G):pF.t [ao w rs] G k E:=bQ (w,rs) rfl h hk
theorem agk (Z:aj) (h1:Z "need_book"=fM) (h2:Z "needless"=wK) (h3:Z "without"=sWo) (a:Nat×List Row) (G:DH) (h:okB a.1 a.2):au Z nQ noE (env0 [ao a.1 a.2] 2) G (ends λd G'=>G'=G/\d=ao a.1 (lnR a.1 a.2.length a.2)):=by
 obtain ⟨w,rs⟩:=a;dsimp only at h ⊢;have hlen:=h.len;have e0:∀xs:List Row,D.tup [.int w,.tup (xs.map az)]=ao w xs:=λ_=>rfl;simp_all_arith[nQ];nofun;erw[h1];refine ig h (hM _ _ (seq λM hM=>?_));erw[ends];symm;have ed:ao w rs=.tup [.int w,.tup (rs.map az)]:=rfl;simp_arith![ed,af,dr];refine ⟨by omega,ForG.inv (P:=λi Y G'=>∃(xs:List Row)(o2:Option D),Y=[some (.tup [.int w,.tup (rs.map az)]),some (.tup [.int w,.tup (xs.map az)]),o2]/\G'=G/\okB w xs/\rs.length - i<=xs.length/\lnR w (rs.length - i) xs=lnR w rs.length rs) ⟨rs,_,rfl,rfl,h,ay _,rfl⟩ (λ_ _ _ _=>trivial) ?_ ?_⟩
 ·rintro i d Y G' hd ⟨xs,o2,rfl,rfl,hb,hl,hr⟩ kk hk;have hi:i < rs.length:=by
   have:=(am.mp hd).1;simpa [dH] using this
  obtain ⟨m,hm⟩:∃m:Nat,rs.length - i=m+1:=⟨rs.length - i - 1,by omega⟩;have hdi:d=.int (m:Int):=by
   unfold dH at hd;rw[ax,ez hi]at hd;have:D.int ((rs.length:Int) - 1 - (i:Int))=d:=by simpa using hd
   rw[<-this];congr 1;omega
  subst hdi;rw[hm]at hl hr;rw[lnR]at hr;have hmx:m < xs.length:=by omega
  obtain ⟨k1,k2⟩:=Rn hb hmx;have em:rs.length - (i+1)=m:=by omega
  simp_arith![ends];refine last ?_;erw[h2];rw[e0];refine agi hb hmx λd hq=>?_;rcases hq with ⟨l,hl',rfl⟩ |⟨hnil,t,bs,rfl,_,_⟩
  ·have eb:(([110,101,101,100,101,100]==[110,101,101,100,108,101,115,115]):Bool)=false:=by decide
   have es:lnS w xs m=xs:=by
    unfold lnS;cases hp:aV w xs (wo xs m) with
    |nil=>rw[hp]at hl';cases hl'
    |cons _ _=>rfl
   rw[es]at hr;erw[Rm,eb];exact hk _ _ ⟨xs,_,rfl,rfl,hb,by omega,by rw[em];exact hr⟩
  ·have es:lnS w xs m=wo xs m:=by unfold lnS;rw[hnil];rfl
   rw[es]at hr k1 k2;erw[ndT,BEq.rfl,h3];refine wJ hb hmx ?_;exact hk _ _ ⟨wo xs m,_,rfl,rfl,k1,by omega,by rw[em];exact hr⟩
 ·rintro Y G' ⟨xs,o2,rfl,rfl,hb,hl,hr⟩;have e1:rs.length - (dH ((rs.length:Int) - 1) rs.length).length=0:=by simp[dH]
  rw[e1]at hr;ac_nf0;erw[ends];rw[e0,<-hr];rfl
def ddF(rs:List Row)(l:List Nat):Option (List Nat):=(rs.find? λr=>aL r.1 l).map (·.2)
theorem Cj(r:Row)(rs:List Row)(l:List Nat):ddF (r::rs) l=if aL r.1 l then some r.2 else ddF rs l:=by unfold ddF;rw[List.find?_cons];cases aL r.1 l <;> rfl
theorem jJ(l:List Nat):∀rs:List Row,cz rs (aK rs l)=ddF rs l
 |[]=>rfl
 |r::rs=>by
  have ih:=jJ l rs;have e:=wj (rs:=r::rs) (i:=0) (l:=l) (r:=r) rfl;rw[gg,gi,List.drop_succ_cons,gg]at e;rw[e,Cj,<-ih];cases aL r.1 l with
  |true=>rfl
  |false=>cases aK rs l <;> rfl
theorem pG{w:Nat}{rs ss:List Row}:aV w rs ss=[]↔∀l,okW w l->ddF rs l=ddF ss l:=by
 unfold aV;rw[en];constructor
 ·intro h l hl;have:=h l (bG.mpr (lq.mpr hl));rw[jJ,jJ]at this;simpa using this
 ·intro h l hl;rw[jJ,jJ,h l (lq.mp (bG.mp hl))];simp
theorem lA{w:Nat}{rs ss ts:List Row}(h1:aV w rs ss=[])(h2:aV w ss ts=[]):aV w rs ts=[]:=by rw[pG]at h1 h2 ⊢;intro l hl;rw[h1 l hl,h2 l hl]
theorem pH{w:Nat}(rs:List Row):aV w rs rs=[]:=pG.mpr λ_ _=>rfl
theorem agl(A R:List Row)(x:Row):wo (A++x::R) A.length=A++R:=by unfold wo;rw[List.take_left' rfl,List.drop_append,g7 (by omega),show A.length+1 - A.length=1 by omega];rfl
def Ck(w k:Nat)(rs:List Row):Prop:=∀n,k<=n->n < rs.length->aV w rs (wo rs n)≠[]
theorem Rp{w:Nat}{rs:List Row}(h:Ck w 0 rs):∀k,k<=rs.length->lnR w k rs=rs
 |0,_=>rfl
 |k+1,hk=>by
  rw[lnR];have e:lnS w rs k=rs:=by
   unfold lnS;cases hp:aV w rs (wo rs k) with
   |nil=>exact absurd hp (h k (ef _) (by omega))
   |cons _ _=>rfl
  rw[e];exact Rp h k (by omega)
theorem Rq{w:Nat}:∀(k:Nat)(rs:List Row),aV w rs (lnR w k rs)=[]
 |0,rs=>pH rs
 |k+1,rs=>by
  rw[lnR];refine lA ?_ (Rq k _);unfold lnS;cases hp:aV w rs (wo rs k) with
  |nil=>exact hp
  |cons _ _=>exact pH rs
theorem agm{w:Nat}{rs:List Row}(hb:okB w rs)(h:Ck w 0 rs):eO rs=[]:=by
 unfold eO;rw[en];intro n hn;have hn':n < rs.length:=by simpa using hn
 have hc:rs[n]?=some rs[n]:=a8 hn';rw[hc];dsimp only;intro e;exact h n (ef _) hn' (age hb hc (e8.mp e))
def pI:RF.Spec:=bO (λa:Nat×List Row×List Row=>[ao a.1 a.2.1,ao a.1 a.2.2]) (λa=>okB a.1 a.2.1/\okB a.1 a.2.2) (λa=>bM (aV a.1 a.2.1 a.2.2).head?)
theorem Rt{w:Nat}{rs ss:List Row}{G:DH}{k:D->DH->Prop}{E:EK}(h:okB w rs)(h':okB w ss)(hk:k (bM (aV w rs ss).head?) G):pI.t [ao w rs,ao w ss] G k E:=bQ (w,rs,ss) rfl ⟨h,h'⟩ hk
theorem agn (Z:aj) (h1:Z "alike"=lz) (a:Nat×List Row×List Row) (G:DH) (h:okB a.1 a.2.1/\okB a.1 a.2.2):au Z nT noE (env0 [ao a.1 a.2.1,ao a.1 a.2.2] 2) G (ends λd G'=>G'=G/\d=bM (aV a.1 a.2.1 a.2.2).head?):=by
 obtain ⟨w,rs,ss⟩:=a;obtain ⟨hb,hb'⟩:=h;dsimp only at hb hb' ⊢;have eb:(([97,108,105,107,101]==[112,97,114,116,101,100]):Bool)=false:=by decide
 simp_all_arith[nT];nofun;erw[h1];refine pA hb hb' λd hq=>?_;rcases hq with ⟨m,hm,rfl⟩ |⟨hnil,t,bs,rfl,_,_⟩
 ·erw[Cd];ac_nf0;erw[BEq.rfl,hm,bM,and_self]
 ·erw[jH];ac_nf0;erw[eb,hnil,List.head?_nil,bM,and_self]
def swp(rs:List Row)(n:Nat):List Row:=rs.take n++[rs.getD (n+1) ([],[]),rs.getD n ([],[])]++rs.drop (n+2)
theorem ago{w n:Nat}{rs:List Row}(hb:okB w rs)(hn:n+1 < rs.length):okB w (swp rs n):=by
 refine hb.sub ?_ λr hr=>?_
 ·unfold swp;rw[aE,aE,bX,cr];simp only[cS,List.length_nil];have:=hb.len;omega
 ·unfold swp at hr;rcases bP.mp hr with h |h
  ·rcases bP.mp h with h |h
   ·exact cK h
   ·simp only[ci,List.not_mem_nil,or_false]at h;rcases h with e |e
    ·rw[e,dc,a8 hn];exact d4 hn
    ·rw[e,dc,a8 (by omega)];exact d4 _
  ·exact List.mem_of_mem_drop h
theorem agp{α:Type}(l:List α)(n:Nat):cut l (some ((n:Int)+2)) none=l.drop (n+2):=z7 l (n+2)
theorem Ru{rs:List Row}{n:Nat}(h:n < rs.length):(rs.map az)[n]?=some (az (rs.getD n ([],[]))):=by rw[ax,dc,a8 h];rfl
theorem agq{rs:List Row}{n:Nat}:(rs.take n).map az++[az (rs.getD (n+1) ([],[])),az (rs.getD n ([],[]))]++(rs.drop (n+2)).map az=(swp rs n).map az:=by unfold swp;rw[br,br];rfl
def sEx:RF.Spec:=bO (λa:List Row×Nat=>[.tup (a.1.map az),.int (a.2:Nat)]) (λa=>a.2+1 < a.1.length/\a.1.length<=12) (λa=>.tup ((swp a.1 a.2).map az))
theorem agr{rs:List Row}{n:Nat}{G:DH}{k:D->DH->Prop}{E:EK}(h1:n+1 < rs.length)(h2:rs.length<=12)(hk:k (.tup ((swp rs n).map az)) G):sEx.t [.tup (rs.map az),.int (n:Nat)] G k E:=bQ (rs,n) rfl ⟨h1,h2⟩ hk
theorem ags(Z:aj)(a:List Row×Nat)(G:DH)(h:a.2+1 < a.1.length/\a.1.length<=12):au Z nR noE (env0 [.tup (a.1.map az),.int (a.2:Nat)] 0) G (ends λd G'=>G'=G/\d=.tup ((swp a.1 a.2).map az)):=by obtain ⟨rs,n⟩:=a;obtain ⟨h1,h2⟩:=h;dsimp only at h1 h2 ⊢;simp_all_arith[nR];refine last ?_;simp_arith[Bq,agp,<-List.map_drop,af];refine bw (a:=az (rs.getD (n+1) ([],[]))) (bR (j:=n+1) (Ru h1)) (bw (a:=az (rs.getD n ([],[]))) (bR (Ru (by omega))) ?_);exact ⟨by decide,by rw[bX];bv_omega,by simp only[aE,af,bX,cr,cS,List.length_nil];bv_omega,by rw[agq]⟩
def unl(f g:List Nat)(n:Nat):List Nat:=(List.range n).filter λi=>f[i]? != g[i]?
def dU(f g:List Nat):Option (List Nat):=if aL g f=true then some g else if aL f g=true then some f else match unl f g f.length with |[i]=>some (f.set i 42) |_=>none
def lB:List D->Option D
 |[.str f,.str g]=>if decide (f.length=g.length)&&decide (f.length<=1000) then some (bM (dU f g)) else none
 |_=>none
theorem agt{f g:List Nat}{G:DH}{k:D->DH->Prop}{E:EK}(hl:f.length=g.length)(h:f.length<=1000)(hk:k (bM (dU f g)) G):(aH lB).t [.str f,.str g] G k E:=cu (if_pos (by rw[cb hl,cb h];rfl)) hk
theorem agu{f g:List Nat}{n:Nat}:unl f g (n+1)=unl f g n++(if (f[n]? != g[n]?)=true then [n] else []):=by unfold unl;rw[fI,eJ];congr 1;rw[List.filter_cons,List.filter_nil]
theorem agv{f g:List Nat}{n:Nat}:(unl f g n).length<=n:=by unfold unl;exact cp (List.length_filter_le _ _) (by simp)
theorem agw{f g:List Nat}{i:Nat}(hl:f.length=g.length)(h:unl f g f.length=[i]):i < f.length/\f[i]?≠g[i]?/\∀j,j≠i->f[j]?=g[j]?:=by
 have hm:∀j,j∈unl f g f.length↔j < f.length/\f[j]?≠g[j]?:=λj=>by unfold unl;simp
 have h1:=(hm i).mp (by rw[h];simp);refine ⟨h1.1,h1.2,λj hj=>?_⟩;by_cases hlt:j < f.length
 ·apply Classical.byContradiction;intro hne;have:=(hm j).mpr ⟨hlt,hne⟩;rw[h]at this;exact hj (bq.mp this)
 ·rw[fo (by omega),fo (by omega)]
theorem agx (Z:aj) (h1:Z "lies_in"=aH lw) (h2:Z "with_sign"=aH fO) (ds:List D) (G:DH) (d:D) (h:lB ds=some d):au Z nZ noE (env0 ds 1) G (ends λd' G'=>G'=G/\d'=d):=by
 unfold lB at h;split at h
 ·rename_i f g;split at h
  ·rename_i hh;rw[ae,b6,b6]at hh;obtain ⟨hl,hz⟩:=hh;cases h;simp_all_arith[nZ];nofun;erw[h1];refine Q5 (by omega) ?_;cases q1:aL g f with
   |true=>
    have ej:dU f g=some g:=by unfold dU;rw[if_pos q1]
    erw[ej,bM]
   |false=>
    erw[ends];symm;erw[h1];refine Q5 (by omega) ?_;cases q2:aL f g with
    |true=>
     have ej:dU f g=some f:=by unfold dU;rw[if_neg (by rw[q1];decide),if_pos q2]
     erw[ej,bM]
    |false=>
     have ej:dU f g=match unl f g f.length with |[i]=>some (f.set i 42) |_=>none:=by unfold dU;rw[if_neg (by rw[q1];decide),if_neg (by rw[q2];decide)]
     erw[ends];symm;erw[ends];refine CompG.inv (P:=λi acc Y G'=>(∃o0 o1,Y=[o0,o1,some (.str g)])/\G'=G/\acc=(unl f g i).map λj:Nat=>D.int (j:Int)) ⟨⟨_,_,rfl⟩,rfl,rfl⟩ (λ_ _ _ _ _=>trivial) (by rw[gY,af];bv_omega) ?_ ?_
     ·rintro i d acc Y G' hd ⟨⟨o0,o1,rfl⟩,rfl,rfl⟩ kk hk;rw[iM]at hd;obtain ⟨d',hd',rfl⟩:=ar.mp hd;rw[ax]at hd';obtain ⟨x,hx,rfl⟩:=ar.mp hd';have hi:=(am.mp hx).1;have hy:g[i]?=some (g[i]'(by omega)):=by simp[show i < g.length by omega]
      generalize (g[i]'(by omega))=y at hy;have us:=@agu f g i;simp_arith![ends];refine bw (a:=y) (by rw[gi];exact bR hy) ?_;erw[eE];cases hxy:(x==y) with
      |true=>
       have e:x=y:=by simpa using hxy
       erw[ends];refine hk none _ _ ⟨⟨some (.int ((0+i:Nat):Int)),some (.str [x]),rfl⟩,rfl,?_⟩;rw[us,hx,hy,e];simp
      |false=>
       have e:x≠y:=by simpa using hxy
       erw[ends];refine hk (some (.int ((0+i:Nat):Int))) _ _ ⟨⟨some (.int ((0+i:Nat):Int)),some (.str [x]),rfl⟩,rfl,?_⟩;rw[us,hx,hy];simp[e]
     ·rintro acc Y G' ⟨_,rfl,rfl⟩;rw[gY,af];have ul:=@agv f g f.length;symm;cases hu:unl f g f.length with
      |nil=>
       rw[hu]at ej;erw[ends];refine hM _ _ ?_;erw[ej,bM]
      |cons i r=>
       cases r with
       |nil=>
        rw[hu]at ej;have:=(agw hl hu).1;erw[h2];exact jF this hz ⟨rfl,by rw[ej];rfl⟩
       |cons j r=>
        have e:((((List.map (λj:Nat=>D.int (j:Int)) (i::j::r)).length:Nat):Int)==1)=false:=by rw[eS,af,cS,cS];omega
        rw[hu]at ej;simp_arith![e];refine hM _ _ ?_;erw[ej,bM]
  ·cases h
 ·cases h
theorem Rv{w:Nat}{f g h:List Nat}(hf:okF w f)(hg:okF w g)(e:dU f g=some h):okF w h:=by
 unfold dU at e;split at e
 ·cases e;exact hg
 ·split at e
  ·cases e;exact hf
  ·split at e
   ·cases e;exact oM hf (.inr (.inr rfl))
   ·cases e
def rw0(rs:List Row)(i:Nat):Row:=rs.getD i ([],[])
def jbR(rs:List Row)(i j a:Nat):Option (List Row):=
 match dU (rw0 rs i).1 (rw0 rs j).1 with
 |none=>none
 |some f=>if (rw0 rs i).2=(rw0 rs j).2 then some (wo (rs.set a (f,(rw0 rs a).2)) (if a=i then j else i)) else none
def dD(w:Nat):Option (List Row)->D
 |none=>.non
 |some rs=>ao w rs
structure JB where
 w:Nat
 rs:List Row
 i:Nat
 j:Nat
 a:Nat
def wL(a:JB):Prop:=okB a.w a.rs/\a.i < a.j/\a.j < a.rs.length/\(a.a=a.i\/a.a=a.j)
def sJB:RF.Spec:=bO (λa:JB=>[ao a.w a.rs,.int (a.i:Nat),.int (a.j:Nat),.int (a.a:Nat)]) wL (λa=>dD a.w (jbR a.rs a.i a.j a.a))
theorem je{rs:List Row}{i:Nat}(h:i < rs.length):rs[i]?=some (rw0 rs i):=by unfold rw0;rw[dc,a8 h];rfl
theorem eU{rs:List Row}{i:Nat}(h:i < rs.length):rw0 rs i∈rs:=ba (je h)
theorem jf{rs:List Row}{i:Nat}(h:i < rs.length):atI (rs.map az) (i:Int)=some (az (rw0 rs i)):=bR (by rw[ax,je h];rfl)
theorem Rw{w p:Nat}{rs:List Row}{f:List Nat}(hb:okB w rs)(hp:p < rs.length)(hf:okF w f):okB w (rs.set p (f,(rw0 rs p).2)):=by
 have hm:∀x∈rs.set p (f,(rw0 rs p).2),x∈rs\/x=(f,(rw0 rs p).2):=λx hx=>List.mem_or_eq_of_mem_set hx;refine ⟨hb.w1,hb.w6,by rw[cw];exact hb.len,λr hr=>?_,λr hr=>?_⟩
 ·rcases hm r hr with h |rfl
  ·exact hb.form r h
  ·exact hf
 ·rcases hm r hr with h |rfl
  ·exact hb.deed r h
  ·exact show okD (rw0 rs p).2 from hb.deed _ (eU hp)
theorem Rx{a:JB}(h:wL a){ss:List Row}(e:jbR a.rs a.i a.j a.a=some ss):okB a.w ss/\ss.length+1=a.rs.length:=by
 obtain ⟨w,rs,i,j,p⟩:=a;obtain ⟨hb,h1,h2,h3⟩:=h;dsimp only at hb h1 h2 h3 e ⊢;unfold jbR at e;cases hj:dU (rw0 rs i).1 (rw0 rs j).1 with
 |none=>rw[hj]at e;cases e
 |some f=>
  rw[hj]at e;dsimp only at e;split at e
  ·cases e;have hf:=Rv (hb.form _ (eU (show i < rs.length by omega))) (hb.form _ (eU h2)) hj;have hp:p < rs.length:=by omega
   have hs:okB w (rs.set p (f,(rw0 rs p).2)):=Rw hb hp hf;have hk:(if p=i then j else i) < (rs.set p (f,(rw0 rs p).2)).length:=by rw[cw];split <;> omega
   refine ⟨Ce hs hk,?_⟩;have:=pC hk;rw[cw]at this hk;omega
  ·cases e
theorem agy{α:Type}{l:List α}{n:Nat}{x:α}(h:n < l.length):l.take n++[x]++l.drop (n+1)=l.set n x:=by rw[gT,if_pos h,eR];rfl
theorem agz (Z:aj) (h1:Z "joined"=aH lB) (h2:Z "without"=sWo) (a:JB) (G:DH) (h:wL a):au Z n6 noE (env0 [ao a.w a.rs,.int (a.i:Nat),.int (a.j:Nat),.int (a.a:Nat)] 4) G (ends λd G'=>G'=G/\d=dD a.w (jbR a.rs a.i a.j a.a)):=by
 have hall:=h;obtain ⟨w,rs,i,j,p⟩:=a;obtain ⟨hb,hij,hj,hp⟩:=h;dsimp only at hb hij hj hp ⊢;have hw6:=hb.w6;have hlen:=hb.len;have hi:i < rs.length:=by omega
 have hpl:p < rs.length:=by omega
 have fi:=hb.form _ (eU hi);have fj:=hb.form _ (eU hj);have fi1:=fi.1;have fj1:=fj.1;simp_all_arith[n6,ao];nofun;erw[ends];symm;erw[h1];refine bw (jf hi) ?_;erw[az];refine bw (jf hj) ?_;erw[az];refine agt (by omega) (by omega) (hM _ _ (seq λM hM=>?_));cases hjn:dU (rw0 rs i).1 (rw0 rs j).1 with
 |none=>
  have e:jbR rs i j p=none:=by unfold jbR;rw[hjn]
  erw[bM,e,dD]
 |some f=>
  have hf:=Rv fi fj hjn;have hfl:=hf.1;erw[bM];refine bw (jf hi) ?_;erw[az];refine bw (jf hj) ?_;erw[az];by_cases hd:(rw0 rs i).2=(rw0 rs j).2
  ·have e:jbR rs i j p=some (wo (rs.set p (f,(rw0 rs p).2)) (if p=i then j else i)):=by unfold jbR;rw[hjn];exact if_pos hd
   have hsb:=(Rx hall e).1;rw[hd];erw[BEq.rfl];symm;erw[Bq,Rk,af,bX,cr];refine bw (jf hpl) ?_;erw[az];have em:(rs.take p).map az++[D.tup [.str f,.str (rw0 rs p).2]]++(rs.drop (p+1)).map az=(rs.set p (f,(rw0 rs p).2)).map az:=by rw[<-agy hpl,br,br];rfl
   refine ⟨by decide,by decide,by bv_omega,by rw[aE,af,bX,gX];bv_omega,by decide,hM _ _ (last ?_)⟩;have hsl:(rs.set p (f,(rw0 rs p).2)).length=rs.length:=cw;have e0:D.tup [.int w,.tup ((rs.set p (f,(rw0 rs p).2)).map az)]=ao w (rs.set p (f,(rw0 rs p).2)):=rfl;rw[em,e0];have hset:okB w (rs.set p (f,(rw0 rs p).2)):=Rw hb hpl hf;by_cases hpi:p=i
   ·subst hpi;rw[if_pos rfl]at e;erw[BEq.rfl,h2];refine wJ hset (by omega) ⟨rfl,?_⟩;rw[e];rfl
   ·have hne:((p:Int)==(i:Int))=false:=by simpa using (λh=>hpi (by omega))
    rw[if_neg hpi]at e;erw[hne,h2];refine wJ hset (by omega) ⟨rfl,?_⟩;rw[e];rfl
  ·have e:jbR rs i j p=none:=by unfold jbR;rw[hjn];exact if_neg hd
   have hne:((rw0 rs i).2==(rw0 rs j).2)=false:=by simpa using hd
   erw[hne,e,dD]
theorem Cm{step:D->List D->ak->DH->(List D->ak->DH->Prop)->Prop}{g:Hld}{k:List D->ak->DH->Prop}:∀{items:List D}{acc:List D}{Y:ak}{G:DH}(P:Nat->List D->ak->DH->Prop)(_:P 0 acc Y G)(_:∀i a Y G,P i a Y G->held g G)
  (_:∀i d a Y G,items[i]?=some d->P i a Y G->∀kk:List D->ak->DH->Prop,(∀a' ρ' G',P (i+1) a' ρ' G'->kk a' ρ' G')->step d a Y G kk) (_:∀a Y G,P items.length a Y G->k a Y G),dG step g items acc Y G k
 |[],acc,Y,G,P,h0,hh,_,he=>⟨hh _ _ _ _ h0,he _ _ _ h0⟩
 |d::ds,acc,Y,G,P,h0,hh,hs,he=>⟨hh _ _ _ _ h0,hs 0 d acc Y G rfl h0 _ λa' ρ' G' p=>Cm (λi=>P (i+1)) p (λi=>hh (i+1)) (λi d a Y G e=>hs (i+1) d a Y G (by rw[ic];exact e)) he⟩
def pJ(i j:Nat):List (Nat×Nat×Nat):=[(i,j,i),(i,j,j)]
def jK(n i:Nat):List (Nat×Nat×Nat):=(List.range (n - (i+1))).flatMap λj=>pJ i (i+1+j)
def gD(n:Nat):List (Nat×Nat×Nat):=(List.range n).flatMap (jK n)
def dT3(t:Nat×Nat×Nat):D:=.tup [.int (t.1:Nat),.int (t.2.1:Nat),.int (t.2.2:Nat)]
theorem Cp{α:Type}(f:Nat->List α)(i:Nat):(List.range (i+1)).flatMap f=(List.range i).flatMap f++f i:=by rw[fI,gu,ck,fm,eg]
theorem pK{α:Type}(f:Nat->List α)(m:Nat):∀i:Nat,(∀j,j < i->(f j).length<=m)->((List.range i).flatMap f).length<=i * m
 |0,_=>Nat.le_of_eq (by simp)
 |i+1,h=>by
  rw[Cp,aE,Nat.succ_mul];exact Nat.add_le_add (pK f m i λj hj=>h j (by omega)) (h i (by omega))
theorem Ry{n i:Nat}(hn:n<=12):(jK n i).length<=24:=cp (pK _ 2 _ λ_ _=>ay _) (by omega)
theorem Rz{n:Nat}(hn:n<=12):(gD n).length<=288:=cp (pK _ 24 _ λ_ _=>Ry hn) (by omega)
theorem RB{n i j a:Nat}(h:(i,j,a)∈gD n):i < j/\j < n/\(a=i\/a=j):=by unfold gD at h;obtain ⟨x,hx,h⟩:=eh.mp h;unfold jK at h;obtain ⟨y,hy,h⟩:=eh.mp h;rw[eA]at hx hy;simp only[pJ,ci,List.not_mem_nil,or_false,Prod.mk.injEq]at h;omega
theorem agA{Z:aj}{n:Nat}{b:D}{o2 o3:Option D}{G:DH}{k:D->DH->Prop}(hn:n<=12)(hk:k (.lst ((gD n).map dT3)) G):
  wpE Z (.cm3 (.tup (.cons (.var 0) (.cons (.var 1) (.cons (.var 2) .nil)))) (.nm 0) (.rng (.var 1)) (.nm 1) (.rng2 (.bin .Add true (.var 0) (.cst (.int 1))) (.var 3)) (.nm 2) (.seq (.tup (.cons (.var 0) (.cons (.var 1) .nil)))) ["one","other","at","many"] [none,none,none,some 1]) noE [some b,some (.int (n:Int)),o2,o3] G k:=by
 rw[zc];erw[ends];refine ⟨by omega,Cm (P:=λi acc Y G'=>(∃o0 o1 o2,Y=[o0,o1,o2,some (.int (n:Int))])/\G'=G/\i<=n/\acc=((List.range i).flatMap (jK n)).map dT3) ⟨⟨_,_,_,rfl⟩,rfl,ef _,rfl⟩ (λ_ _ _ _ _=>trivial) ?_ ?_⟩
 ·rintro i d acc Y G' hd ⟨⟨o0,o1,o2,rfl⟩,rfl,hin,rfl⟩ kk hkk;have hi:i < n:=by
   have:=(am.mp hd).1;simpa [aW] using this
  have hdi:d=.int (i:Int):=by unfold aW at hd;rw[ax,ez (by simpa using hi)]at hd;simpa using hd.symm
  subst hdi;erw[ends];refine ⟨by omega,Cm (P:=λj acc Y G''=>(∃o1 o2,Y=[some (.int (i:Int)),o1,o2,some (.int (n:Int))])/\G''=G'/\j<=n - (i+1)/\acc=(((List.range i).flatMap (jK n))++(List.range j).flatMap λj=>pJ i (i+1+j)).map dT3) ⟨⟨_,_,rfl⟩,rfl,ef _,by simp⟩ (λ_ _ _ _ _=>trivial) ?_ ?_⟩
  ·rintro j d acc Y G'' hd ⟨⟨o1,o2,rfl⟩,rfl,hjn,rfl⟩ kk2 hkk2;have hj:j < n - (i+1):=by
    have:=(am.mp hd).1;unfold aW at this;rw[af,fT]at this;omega
   have hdj:d=.int ((i+1+j:Nat):Int):=by unfold aW at hd;rw[ax,ez (by omega)]at hd;rw[<-dE hd];congr 1
   subst hdj;have l1:=pK (jK n) 24 i λ_ _=>Ry hn;have l2:=pK (λj=>pJ i (i+1+j)) 2 j λ_ _=>ay _;have hl:((((List.range i).flatMap (jK n))++(List.range j).flatMap λj=>pJ i (i+1+j)).map dT3).length<=400:=by rw[af,aE];omega
   erw[ends];refine ⟨by decide,trivial,by bv_omega,by decide,trivial,?_⟩;refine ⟨by rw[aE,gX];bv_omega,?_⟩;erw[ends];refine ⟨by decide,trivial,hkk2 _ _ _ ⟨⟨_,_,rfl⟩,rfl,by omega,?_⟩⟩;rw[Cp,<-eR,br (l₁:=_++_),eR];rfl
  ·rintro acc Y G'' ⟨⟨o1,o2,rfl⟩,rfl,_,rfl⟩;refine hkk _ _ _ ⟨⟨_,_,_,rfl⟩,rfl,hi,?_⟩;have el:(aW ((i:Int)+1) ((n:Int) - ((i:Int)+1)).toNat).length=n - (i+1):=by unfold aW;rw[af,fT];omega
   rw[el,Cp];rfl
 ·rintro acc Y G' ⟨_,rfl,_,rfl⟩;have el:(aW 0 (n:Int).toNat).length=n:=by simp[aW]
  rw[el];have:=Rz hn;exact ⟨by rw[af];unfold gD at this;bv_omega,hk⟩
def fV(rs:List Row)(t:Nat×Nat×Nat):Option ((Nat×Nat×Nat)×List Row):=(jbR rs t.1 t.2.1 t.2.2).map λss=>(t,ss)
def cnd(rs:List Row):List ((Nat×Nat×Nat)×List Row):=(gD rs.length).filterMap (fV rs)
def dC(w:Nat)(c:(Nat×Nat×Nat)×List Row):D:=.tup [.int (c.1.1:Nat),.int (c.1.2.1:Nat),.int (c.1.2.2:Nat),ao w c.2]
def mk3(w:Nat)(rs:List Row)(t:Nat×Nat×Nat):D:=.tup [.int (t.1:Nat),.int (t.2.1:Nat),.int (t.2.2:Nat),dD w (jbR rs t.1 t.2.1 t.2.2)]
theorem RC{w:Nat}{rs:List Row}(hb:okB w rs){c:(Nat×Nat×Nat)×List Row}(h:c∈cnd rs):okB w c.2/\c.2.length+1=rs.length:=by obtain ⟨t,ht,e⟩:=gI.mp h;unfold fV at e;obtain ⟨ss,hs,rfl⟩:=ar.mp e;obtain ⟨h1,h2,h3⟩:=RB (i:=t.1) (j:=t.2.1) (a:=t.2.2) ht;exact Rx (a:=⟨w,rs,t.1,t.2.1,t.2.2⟩) ⟨hb,h1,h2,h3⟩ hs
def wM:RF.Spec:=bO (λa:Nat×List Row=>[ao a.1 a.2]) (λa=>okB a.1 a.2) (λa=>.lst ((cnd a.2).map (dC a.1)))
theorem agB{w:Nat}{rs:List Row}{G:DH}{k:D->DH->Prop}{E:EK}(h:okB w rs)(hk:k (.lst ((cnd rs).map (dC w))) G):wM.t [ao w rs] G k E:=bQ (w,rs) rfl h hk
theorem agC{w i j a:Nat}{rs:List Row}{G:DH}{k:D->DH->Prop}{E:EK}(h:wL ⟨w,rs,i,j,a⟩)(hk:k (dD w (jbR rs i j a)) G):sJB.t [ao w rs,.int (i:Int),.int (j:Int),.int (a:Int)] G k E:=bQ (⟨w,rs,i,j,a⟩:JB) rfl h hk
theorem agD (Z:aj) (h1:Z "joined_book"=sJB) (a:Nat×List Row) (G:DH) (h:okB a.1 a.2):au Z n8 noE (env0 [ao a.1 a.2] 3) G (ends λd G'=>G'=G/\d=.lst ((cnd a.2).map (dC a.1))):=by
 obtain ⟨w,rs⟩:=a;have hb:okB w rs:=h;dsimp only;have hlen:=hb.len;have htl:=Rz hlen;have e0:ao w rs=.tup [.int w,.tup (rs.map az)]:=rfl;simp_all_arith[n8];nofun;conv=>enter [4,1,1];rw[e0]
 erw[af];symm;rw[iH];refine agA hlen ?_;erw[ends];symm;erw[ends];refine CompG.inv (P:=λi acc Y G'=>(∃o0 o1 o2,Y=[o0,o1,o2,some (ao w rs)])/\G'=G/\acc=((gD rs.length).take i).map (mk3 w rs)) ⟨⟨_,_,_,rfl⟩,rfl,rfl⟩ (λ_ _ _ _ _=>trivial) (by rw[af];bv_omega) ?_ ?_
 ·rintro i d acc Y G' hd ⟨⟨o0,o1,o2,rfl⟩,rfl,rfl⟩ kk hk;rw[ax]at hd;obtain ⟨⟨x,y,z⟩,ht,rfl⟩:=ar.mp hd;obtain ⟨m1,m2,m3⟩:=RB (ba ht);erw[dT3,h1];refine agC ⟨hb,m1,m2,m3⟩ ⟨by decide,hk _ _ _ ⟨⟨_,_,_,rfl⟩,rfl,?_⟩⟩;rw[cf,ht,br];rfl
 ·rintro acc Y G' ⟨_,rfl,rfl⟩;rw[af,ce];ac_nf0;erw[ends];refine CompG.inv (P:=λi acc Y G''=>(∃o0,Y=[o0])/\G''=G'/\acc=(((gD rs.length).take i).filterMap (fV rs)).map (dC w)) ⟨⟨_,rfl⟩,rfl,rfl⟩ (λ_ _ _ _ _=>trivial) (by rw[af];bv_omega) ?_ ?_
  ·rintro i d acc Y G'' hd ⟨⟨o0,rfl⟩,rfl,rfl⟩ kk hk;rw[ax]at hd;obtain ⟨⟨x,y,z⟩,ht,rfl⟩:=ar.mp hd;have et:((gD rs.length).take (i+1)).filterMap (fV rs)=((gD rs.length).take i).filterMap (fV rs)++(fV rs (x,y,z)).toList:=by
    rw[cf,ht,List.filterMap_append];cases hc:fV rs (x,y,z) with
    |none=>rw[Option.toList_some,List.filterMap_cons_none hc];rfl
    |some c=>rw[Option.toList_some,List.filterMap_cons_some hc];rfl
   cases hj:jbR rs x y z with
   |none=>
    have hc:fV rs (x,y,z)=none:=by unfold fV;rw[hj];rfl
    erw[mk3,hj,dD,fZ];refine hk none _ _ ⟨⟨_,rfl⟩,rfl,?_⟩;rw[et,hc,br];rfl
   |some ss=>
    have hc:fV rs (x,y,z)=some ((x,y,z),ss):=by unfold fV;rw[hj];rfl
    erw[mk3,hj,dD,ao,fZ];refine hk (some _) _ _ ⟨⟨_,rfl⟩,rfl,?_⟩;rw[et,hc,br];rfl
  ·rintro acc Y G'' ⟨_,rfl,rfl⟩;rw[af,ce];exact ⟨rfl,rfl⟩
theorem jg(w:Nat)(rs:List Row):nr (ao w rs)=true:=by unfold ao;simp only[nr,nrs,Rg,gz]
theorem RD{α:Type}(l:List α):l.isEmpty=l.head?.isNone:=by cases l <;> rfl
def fjO(w:Nat)(rs:List Row):Option (List Row):=((cnd rs).find? λc=>(aV w rs c.2).isEmpty).map (·.2)
def sFJ:RF.Spec:=bO (λa:Nat×List Row=>[ao a.1 a.2]) (λa=>okB a.1 a.2) (λa=>dD a.1 (fjO a.1 a.2))
theorem RG{w:Nat}{rs:List Row}{G:DH}{k:D->DH->Prop}{E:EK}(h:okB w rs)(hk:k (dD w (fjO w rs)) G):sFJ.t [ao w rs] G k E:=bQ (w,rs) rfl h hk
theorem Cq{w:Nat}{rs ss:List Row}(hb:okB w rs)(h:fjO w rs=some ss):okB w ss/\ss.length+1=rs.length/\aV w rs ss=[]:=by unfold fjO at h;obtain ⟨c,hc,rfl⟩:=ar.mp h;obtain ⟨h1,h2⟩:=RC hb (List.mem_of_find?_eq_some hc);exact ⟨h1,h2,e8.mp (List.find?_some (p:=λc:(Nat×Nat×Nat)×List Row=>(aV w rs c.2).isEmpty) hc)⟩
theorem agE (Z:aj) (h2:Z "candidates"=wM) (h3:Z "parting_word"=pI) (a:Nat×List Row) (G:DH) (h:okB a.1 a.2):au Z oh noE (env0 [ao a.1 a.2] 4) G (ends λd G'=>G'=G/\d=dD a.1 (fjO a.1 a.2)):=by
 obtain ⟨w,rs⟩:=a;have hb:okB w rs:=h;dsimp only;simp_all_arith[oh];nofun;simp_arith![h2];refine agB hb ?_;simp_arith![ends];refine ForG.inv (P:=λi Y G'=>(∃o1 o2 o3 o4,Y=[some (ao w rs),o1,o2,o3,o4])/\G'=G/\fjO w rs=(((cnd rs).drop i).find? λc=>(aV w rs c.2).isEmpty).map (·.2)) ⟨⟨_,_,_,_,rfl⟩,rfl,rfl⟩ (λ_ _ _ _=>trivial) ?_ ?_
 ·rintro i d Y G' hd ⟨⟨o1,o2,o3,o4,rfl⟩,rfl,hf⟩ kk hk;rw[ax]at hd;obtain ⟨⟨⟨x,y,z⟩,ss⟩,ht,rfl⟩:=ar.mp hd;have hs:=(RC hb (ba ht)).1;have hlt:=(am.mp ht).1;have hdr:(cnd rs).drop i=((x,y,z),ss)::(cnd rs).drop (i+1):=by
   rw[bo hlt,(am.mp ht).2]
  rw[hdr]at hf;simp_arith![dC];refine last ?_;erw[h3];refine Rt hb hs ?_;cases hh:(aV w rs ss).head? with
  |none=>
   rw[List.find?_cons_of_pos (by rw[RD,hh];rfl)]at hf;erw[bM,hf];rfl
  |some m=>
   rw[List.find?_cons_of_neg (by rw[RD,hh];exact a7)]at hf;erw[bM];exact hk _ _ ⟨⟨_,_,_,_,rfl⟩,rfl,hf⟩
 ·rintro Y G' ⟨⟨o1,o2,o3,o4,rfl⟩,rfl,hf⟩;rw[af,eK]at hf;ac_nf0;erw[hf];rfl
def ajR(w:Nat):Nat->List Row->List Row
 |0,rs=>rs
 |n+1,rs=>match fjO w rs with |none=>rs |some ss=>ajR w n ss
theorem Cr{w:Nat}{rs:List Row}(h:fjO w rs=none)(n:Nat):ajR w n rs=rs:=by
 cases n with
 |zero=>rfl
 |succ n=>rw[ajR,h]
theorem Cu{w n:Nat}{rs ss:List Row}(h:fjO w rs=some ss):ajR w (n+1) rs=ajR w n ss:=by rw[ajR,h]
theorem wN{w:Nat}:∀(n:Nat){rs:List Row},okB w rs->okB w (ajR w n rs)/\(ajR w n rs=rs\/(ajR w n rs).length < rs.length)
 |0,rs,hb=>⟨hb,.inl rfl⟩
 |n+1,rs,hb=>by
  cases hf:fjO w rs with
  |none=>rw[Cr hf];exact ⟨hb,.inl rfl⟩
  |some ss=>
   rw[Cu hf];obtain ⟨h1,h2,_⟩:=Cq hb hf;obtain ⟨q1,q2⟩:=wN n h1;refine ⟨q1,.inr ?_⟩;rcases q2 with e |e
   ·rw[e];omega
   ·omega
def sAJ:RF.Spec:=bO (λa:Nat×List Row=>[ao a.1 a.2]) (λa=>okB a.1 a.2) (λa=>ao a.1 (ajR a.1 a.2.length a.2))
theorem RJ{w:Nat}{rs:List Row}{G:DH}{k:D->DH->Prop}{E:EK}(h:okB w rs)(hk:k (ao w (ajR w rs.length rs)) G):sAJ.t [ao w rs] G k E:=bQ (w,rs) rfl h hk
theorem agF (Z:aj) (h1:Z "first_joined"=sFJ) (a:Nat×List Row) (G:DH) (h:okB a.1 a.2):au Z ou noE (env0 [ao a.1 a.2] 2) G (ends λd G'=>G'=G/\d=ao a.1 (ajR a.1 a.2.length a.2)):=by
 obtain ⟨w,rs⟩:=a;have hb:okB w rs:=h;dsimp only;simp_all_arith[ou];nofun;erw[ends];symm;erw[h1];refine RG hb (hM _ _ (seq λM hM=>?_));simp_arith![ends];refine ⟨rs.length+1,WhlG.inv (P:=λn Y G'=>∃cur,Y=[some (ao w rs),some (ao w cur),some (dD w (fjO w cur))]/\G'=G/\okB w cur/\cur.length=n/\ajR w cur.length cur=ajR w rs.length rs) ?_ rs.length _ _ ⟨rs,rfl,rfl,hb,rfl,rfl⟩⟩;rintro n Y G' ⟨cur,rfl,rfl,hc,rfl,he⟩;cases hf:fjO w cur with
 |none=>
  rw[Cr hf]at he;erw[dD,fZ];ac_nf0;erw[he]
 |some ss=>
  obtain ⟨q1,q2,_⟩:=Cq hc hf;rw[<-q2,Cu hf]at he;simp_arith![dD,ao,fZ];intro kk hk;nofun;erw[ends];ac_nf0;erw[h1];exact RG q1 (hk ss.length _ _ (by omega) ⟨ss,rfl,rfl,q1,rfl,he⟩)
def prS(w:Nat)(rs:List Row):List Row:=lnR w (ajR w rs.length rs).length (ajR w rs.length rs)
theorem RK{w:Nat}:∀(k:Nat){rs:List Row},k<=rs.length->lnR w k rs=rs\/(lnR w k rs).length < rs.length:=by
 intro k;induction k with
 |zero=>exact λ{_} _=>.inl rfl
 |succ k ih=>
  intro rs hk;rw[lnR];by_cases h:(aV w rs (wo rs k)).isEmpty=true
  ·have hl:=pC (show k < rs.length by omega);have e:lnS w rs k=wo rs k:=if_pos h;rw[e];rcases ih (rs:=wo rs k) (by omega) with q |q
   ·rw[q];exact .inr (by omega)
   ·exact .inr (by omega)
  ·have e:lnS w rs k=rs:=if_neg h;rw[e];exact ih (by omega)
theorem Cv{w:Nat}{rs:List Row}(hb:okB w rs):okB w (prS w rs)/\(prS w rs=rs\/(prS w rs).length < rs.length):=by
 obtain ⟨h1,h2⟩:=wN rs.length hb;refine ⟨Ro _ h1 (ay _),?_⟩;unfold prS;rcases h2 with e |e
 ·rw[e];exact RK _ (ay _)
 ·rcases RK (w:=w) (ajR w rs.length rs).length (ay (ajR w rs.length rs).length) with q |q
  ·rw[q];exact .inr e
  ·exact .inr (by omega)
def bkE(w:Nat)(rs ss:List Row):Bool:=deq (ao w rs) (ao w ss)
def prR(w:Nat):Nat->List Row->List Row
 |0,rs=>prS w rs
 |n+1,rs=>if bkE w (prS w rs) rs=true then prS w rs else prR w n (prS w rs)
def agG:RF.Spec:=bO (λa:Nat×List Row=>[ao a.1 a.2]) (λa=>okB a.1 a.2) (λa=>ao a.1 (prR a.1 (a.2.length+1) a.2))
def wO:RF.Spec:=agG
theorem RL{w:Nat}{rs ss:List Row}:nr (ao w rs)=true/\nr (ao w ss)=true/\min (dpt (ao w rs)) (dpt (ao w ss))<=60:=by
 have h:∀l:List Row,bj (l.map az)<=1:=λl=>vR λd hd=>by obtain ⟨_,_,rfl⟩:=bb.mp hd;exact ay _
 refine ⟨jg w rs,jg w ss,cp (Nat.min_le_left _ _) ?_⟩;have:=h rs;unfold ao;simp only[dpt,bj];omega
theorem agH (Z:aj) (h1:Z "need_book"=fM) (h2:Z "all_joined"=sAJ) (h3:Z "lean"=pF) (a:Nat×List Row) (G:DH) (h:okB a.1 a.2):au Z oA noE (env0 [ao a.1 a.2] 2) G (ends λd G'=>G'=G/\d=ao a.1 (prR a.1 (a.2.length+1) a.2)):=by
 obtain ⟨w,rs⟩:=a;have hb:okB w rs:=h;dsimp only;simp_all_arith[oA];nofun;erw[h1];refine ig hb (hM _ _ (seq λM hM=>?_));erw[ends];symm;erw[h2,h3];refine RJ hb (Ci (wN _ hb).1 (hM _ _ (seq λM hM=>?_)));rw[z8];refine ⟨rs.length+1,WhlG.inv (P:=λn Y G'=>∃cur f,Y=[some (ao w rs),some (ao w cur),some (ao w (prS w cur))]/\G'=G/\okB w cur/\cur.length=n/\cur.length < f/\prR w f cur=prR w (rs.length+1) rs) ?_ rs.length _ _ ⟨rs,rs.length+1,rfl,rfl,hb,rfl,gl _,rfl⟩⟩;rintro n Y G' ⟨cur,f,rfl,rfl,hc,rfl,hf,he⟩;obtain ⟨f,rfl⟩:∃f',f=f'+1:=⟨f - 1,by omega⟩;obtain ⟨q1,q2⟩:=Cv hc;rw[prR]at he;simp_arith![P0 (jg _ _)];refine ⟨RL,?_⟩;cases hd:deq (ao w (prS w cur)) (ao w cur) with
 |true=>
  rw[if_pos (show bkE w (prS w cur) cur=true from hd)]at he;ac_nf0;erw[he]
 |false=>
  rw[if_neg (by unfold bkE;rw[hd];exact a7)]at he;have hlt:(prS w cur).length < cur.length:=by
   rcases q2 with e |e
   ·rw[e,j7 (jg _ _)]at hd;cases hd
   ·exact e
  intro kk hk;nofun;erw[ends];ac_nf0;erw[h2,h3];exact RJ q1 (Ci (wN _ q1).1 (hk (prS w cur).length _ _ hlt ⟨prS w cur,f,rfl,rfl,q1,rfl,by omega,he⟩))
theorem RM{α β:Type}(A B:α->List β):∀l:List α,(l.flatMap λx=>A x++B x).Perm (l.flatMap A++l.flatMap B)
 |[]=>.refl _
 |x::l=>by
  have ih:=RM A B l;rw[ck,ck,ck];refine (ih.append_left (A x++B x)).trans ?_;simp only[eR];refine List.Perm.append_left (A x) ?_;rw[<-eR,<-eR];exact List.Perm.append_right _ List.perm_append_comm
theorem Cw{c:Nat}{f:List Nat}(h:c≠42):aZ (c::f)=(aZ f).map (c::·):=by rw[aZ];unfold alt;rw[if_neg h];simp
theorem Cy{f:List Nat}:aZ (42::f)=(aZ f).map (48::·)++(aZ f).map (49::·):=by rw[aZ];unfold alt;rw[if_pos rfl];simp
def nof(g l:List Nat):Bool:=!bB g l
theorem pL{b s:Nat}{g:List Nat}(ls:List (List Nat))(h:cV b s=true):(ls.map (s::·)).filter (nof (b::g))=(ls.filter (nof g)).map (s::·):=by rw[List.filter_map];congr 1;congr 1;funext l;simp[nof,bB,h]
theorem RN{b s:Nat}{g:List Nat}(ls:List (List Nat))(h:cV b s=false):(ls.map (s::·)).filter (nof (b::g))=ls.map (s::·):=by rw[List.filter_eq_self];intro x hx;obtain ⟨l,_,rfl⟩:=bb.mp hx;simp[nof,bB,h]
theorem RP{c:Nat}(h:c≠42)(ls:List (List Nat)):(ls.map (c::·)).flatMap aZ=(ls.flatMap aZ).map (c::·):=by rw[hW,List.map_flatMap];congr 1;funext p;exact Cw h
theorem agI(ls:List (List Nat)):((ls.map (42::·)).flatMap aZ).Perm ((ls.flatMap aZ).map (48::·)++(ls.flatMap aZ).map (49::·)):=by
 rw[hW,List.map_flatMap,List.map_flatMap];have e:(λp:List Nat=>aZ (42::p))=λp=>(aZ p).map (48::·)++(aZ p).map (49::·):=by funext p;exact Cy
 rw[e];exact RM _ _ _
theorem RQ:∀{f g c:List Nat},f.length=g.length->(∀x∈f,isF x)->(∀x∈g,isF x)->aQ f g=some c->((bH f g).flatMap aZ).Perm ((aZ f).filter (nof g))
 |[],[],c,_,_,_,h=>by simp[bH,aZ,nof,bB]
 |[],b::g,c,e,_,_,_=>by simp at e
 |a::f,[],c,e,_,_,_=>by simp at e
 |a::f,b::g,c,e,hf,hg,h=>by
  rw[aQ]at h;cases h1:bZ a b with
  |none=>rw[h1]at h;cases h
  |some y=>
   rw[h1]at h;obtain ⟨z,hz,rfl⟩:=ar.mp h;have ih:=RQ (by simpa using e) (λx hx=>hf x (aI _ hx)) (λx hx=>hg x (aI _ hx)) hz;rw[bH];by_cases ha:a=42
   ·subst ha;by_cases hb:b=42
    ·subst hb;have em:mrg 42 42=42:=by unfold mrg;rw[if_neg (by rintro ⟨_,h⟩;exact h rfl)]
     rw[if_neg (by rintro ⟨_,h⟩;exact h rfl),fS,em,Cy,eJ,pL _ (by rfl),pL _ (by rfl)];exact (agI _).trans ((ih.map _).append (ih.map _))
    ·have em:mrg 42 b=b:=by unfold mrg;rw[if_pos ⟨rfl,hb⟩]
     rw[if_pos ⟨rfl,hb⟩,em,List.singleton_append,ck,RP hb,Cy,eJ,Cw (QR b)];rcases hg b aS with rfl |rfl |rfl
     ·rw[pL _ (by rfl),RN _ (by rfl)];exact List.perm_append_comm.trans ((ih.map _).append_right _)
     ·rw[RN _ (by rfl),pL _ (by rfl)];exact (ih.map _).append_left _
     ·exact absurd rfl hb
   ·have hna:¬(a=42/\b≠42):=λh=>ha h.1;have em:mrg a b=a:=by unfold mrg;rw[if_neg hna]
    have hfit:cV b a=true:=by
     unfold bZ at h1;rw[if_neg ha]at h1;split at h1
     ·rename_i h2;rw[oV];exact h2
     ·cases h1
    rw[if_neg hna,fS,em,RP ha,Cw ha,pL _ hfit];exact ih.map _
theorem agJ{w:Nat}{f g:List Nat}(hf:okF w f)(hg:okF w g):((cJ f g).flatMap aJ).Perm ((aJ f).filter (nof g)):=by
 have e:aJ=aZ:=by funext x;exact cM x
 rw[e];unfold cJ;cases hb:aQ f g with
 |some c=>exact RQ (hf.1.trans hg.1.symm) hf.2 hg.2 hb
 |none=>
  have:(aZ f).filter (nof g)=aZ f:=by
   rw[List.filter_eq_self];intro l hl;rw[<-cM]at hl;have hfit:=bG.mp hl;unfold nof;cases hz:bB g l with
   |false=>rfl
   |true=>exact (Bw (by rw[QH];exact hb) (eG hf hfit) hfit hz).elim
  rw[this];simp
theorem RT(ls:List (List Nat)):(ls.flatMap aJ).length=pows ls:=by
 unfold pows;induction ls with
 |nil=>rfl
 |cons p ls ih=>rw[ck,aE,ih,cM,wC,bp,hZ]
def dW(ps:List (List Nat))(g:List Nat):List (List Nat):=ps.flatMap λp=>cJ p g
def apt(f:List Nat)(ah:List (List Nat)):List (List Nat):=ah.foldl dW [f]
theorem agK(f g:List Nat)(ah:List (List Nat)):apt f (ah++[g])=dW (apt f ah) g:=by unfold apt;rw[List.foldl_append];rfl
theorem RV{w:Nat}{g:List Nat}(hg:okF w g):∀{ps:List (List Nat)},(∀p∈ps,okF w p)->((dW ps g).flatMap aJ).Perm ((ps.flatMap aJ).filter (nof g))
 |[],_=>List.Perm.refl _
 |p::ps,h=>by
  have ih:=RV hg (ps:=ps) λx hx=>h x (aI _ hx);have h1:=agJ (h p aS) hg;show ((cJ p g++dW ps g).flatMap aJ).Perm ((aJ p++ps.flatMap aJ).filter (nof g));rw[gu,eJ];exact h1.append ih
theorem agL{w:Nat}{f g:List Nat}{ps:List (List Nat)}(hg:okF w g)(h:∀p∈ps,okF w p/\aL f p=true):∀p∈dW ps g,okF w p/\aL f p=true:=λp hp=>by
 obtain ⟨q,hq,hpq⟩:=eh.mp hp;obtain ⟨h1,h2⟩:=h q hq;obtain ⟨f1,f2,_,f4⟩:=(afL (by rw[h1.1,hg.1]) h1.2 hg.2).1 p hpq;exact ⟨⟨f1.trans h1.1,f4⟩,Q4 (by rw[Q3 h2,f1]) (QG f1 (Q3 h2).symm (BL f2) (BL h2))⟩
theorem RW{w:Nat}{f:List Nat}:∀(ah ps:List (List Nat)),(∀g∈ah,okF w g)->(∀p∈ps,okF w p/\aL f p=true)->(∀p∈ah.foldl dW ps,okF w p/\aL f p=true)/\((ah.foldl dW ps).flatMap aJ).Perm ((ps.flatMap aJ).filter λl=>ah.all λg=>nof g l)
 |[],ps,_,hp=>⟨hp,List.Perm.of_eq (List.filter_eq_self.mpr λ_ _=>rfl).symm⟩
 |g::ah,ps,h,hp=>by
  have hg:=h g aS;obtain ⟨i1,i2⟩:=RW (w:=w) (f:=f) ah (dW ps g) (λx hx=>h x (aI _ hx)) (agL hg hp);refine ⟨i1,i2.trans ?_⟩;refine ((RV hg λp hp'=>(hp p hp').1).filter _).trans ?_;rw[List.filter_filter];refine List.Perm.of_eq (List.filter_congr λl _=>?_);rw[List.all_cons,Bool.and_comm]
theorem pM{w:Nat}{f:List Nat}(hf:okF w f)(ah:List (List Nat))(h:∀g∈ah,okF w g):(∀p∈apt f ah,okF w p/\aL f p=true)/\((apt f ah).flatMap aJ).Perm ((aJ f).filter λl=>ah.all λg=>nof g l):=by
 have:=RW (w:=w) (f:=f) ah [f] h λp hp=>by rw[bq.mp hp];exact ⟨hf,QF f⟩
 rwa [ck,fm,eg]at this
def cL(rs:List Row)(n:Nat)(f:List Nat):List (List Nat):=apt f ((rs.take n).map (·.1))
theorem Cz:∀{rs:List Row}{l:List Nat},(aK rs l).isNone=rs.all λr=>!aL r.1 l
 |[],_=>rfl
 |r::rs,l=>by
  have e:=wj (rs:=r::rs) (i:=0) (l:=l) (r:=r) rfl;rw[gg,gi,List.drop_succ_cons,gg]at e;rw[e,List.all_cons,<-Cz];cases aL r.1 l with
  |true=>rfl
  |false=>cases aK rs l <;> rfl
theorem pN{w n:Nat}{rs:List Row}{f:List Nat}(hb:okB w rs)(hf:okF w f):((cL rs n f).flatMap aJ).Perm (bh rs n f):=by
 have h:=(pM hf ((rs.take n).map λr:Row=>r.1) λg hg=>by
  obtain ⟨r,hr,rfl⟩:=bb.mp hg;exact hb.form r (cK hr)).2
 refine h.trans (List.Perm.of_eq (List.filter_congr λl hl=>?_));rw[Cz,List.all_map];have hfit:=(bG.mp hl).1;rw[ff,cq,cq];have e:∀r∈rs.take n,nof r.1 l=!aL r.1 l:=λr hr=>by
  unfold nof;rw[QB (by rw[(hb.form r (cK hr)).1,<-hf.1,hfit])]
 exact ⟨λq r hr=>by rw[<-e r hr];exact q r hr,λq r hr=>by show nof r.1 l=true;rw[e r hr];exact q r hr⟩
theorem RX{w n:Nat}{rs:List Row}{f:List Nat}(hb:okB w rs)(hf:okF w f):∀p∈cL rs n f,okF w p/\aL f p=true:=
 (pM hf ((rs.take n).map λr:Row=>r.1) λg hg=>by
  obtain ⟨r,hr,rfl⟩:=bb.mp hg;exact hb.form r (cK hr)).1
theorem RZ(p:List Nat):aJ p≠[]:=λe=>by
 have:=bG.mpr (il p);rw[e]at this;cases this
theorem agM{ps:List (List Nat)}:ps.flatMap aJ=[]↔ps=[]:=by
 cases ps with
 |nil=>simp
 |cons p ps=>simp[RZ]
theorem agN{w n:Nat}{rs:List Row}{f:List Nat}(hb:okB w rs)(hf:okF w f):cL rs n f=[]↔bh rs n f=[]:=by
 have h:=pN (n:=n) hb hf;constructor
 ·intro e;rw[e]at h;exact h.symm.eq_nil
 ·intro e;rw[e]at h;exact agM.mp h.eq_nil
theorem R0{w n:Nat}{rs:List Row}{r:Row}(hb:okB w rs)(h:rs[n]?=some r):ir w rs n=(bh rs n r.1).length:=by
 have hn:=(am.mp h).1;have hf:=hb.form r (ba h);have hp:((aJ (List.replicate w 42)).filter λl=>atN rs (aK rs l)==n).Perm (bh rs n r.1):=by
  refine (List.perm_ext_iff_of_nodup ?_ ?_).mpr λl=>?_
  ·exact (((cM _ ▸ jd _:(aJ (List.replicate w 42)).Pairwise (· < ·)).filter _).imp λh e=>by subst e;exact absurd h (ge _))
  ·unfold bh;exact (((cM _ ▸ jd _:(aJ r.1).Pairwise (· < ·)).filter _).imp λh e=>by subst e;exact absurd h (ge _))
  ·unfold bh;rw[dk,dk,bG,bG,lq,agc hn,pB h];constructor
   ·rintro ⟨hl,e1,e2⟩;exact ⟨(iV hl.2).mp e2,by rw[e1];rfl⟩
   ·rintro ⟨hfit,e⟩;have hw:okW w l:=⟨by rw[<-hfit.1,hf.1],eG hf hfit⟩;exact ⟨hw,by simpa using e,(iV hw.2).mpr hfit⟩
 unfold ir;rw[List.countP_eq_length_filter];exact hp.length_eq
theorem agO{w n:Nat}{rs:List Row}{r:Row}(hb:okB w rs)(h:rs[n]?=some r):pows (cL rs n r.1)=ir w rs n:=by rw[R0 hb h,<-RT,(pN hb (hb.form r (ba h))).length_eq]
theorem agP{w n:Nat}{rs:List Row}{f m:List Nat}(hb:okB w rs)(hf:okF w f)(h1:m∈(cL rs n f).map bf)(h2:∀a,a∈(cL rs n f).map bf->¬a < m):(bh rs n f).head?=some m:=by
 have hp:=pN (n:=n) hb hf;have hup:(bh rs n f).Pairwise (· < ·):=by unfold bh;exact (cM _ ▸ jd _:(aJ f).Pairwise (· < ·)).filter _
 refine BV hup ?_ λx hx hlt=>?_
 ·obtain ⟨p,hpm,rfl⟩:=bb.mp h1;exact hp.mem_iff.mp (eh.mpr ⟨p,hpm,bG.mpr (il p)⟩)
 ·obtain ⟨p,hpm,hxp⟩:=eh.mp (hp.mem_iff.mpr hx);have:=h2 (bf p) (bb.mpr ⟨p,hpm,rfl⟩);exact wF (bG.mp hxp) (wG hlt this)
def dj(a b:Row):Prop:=∀l,l∈aJ a.1->l∈aJ b.1->False
theorem agQ{a b:Row}(h:dj a b):dj b a:=λl h1 h2=>h l h2 h1
theorem agR{fs:List Row}(h:(fs.flatMap λr=>aJ r.1).Nodup):fs.Pairwise dj:=by have:=(List.pairwise_flatMap.mp h).2;exact this.imp λ{a b} q l h1 h2=>q l h1 l h2 rfl
theorem jL{w:Nat}{f l:List Nat}(hl:okW w l):aL f l=true↔l∈aJ f:=by rw[iV hl.2,bG]
theorem pO{w:Nat}{l:List Nat}(hl:okW w l):∀{fs:List Row}{r:Row},fs.Pairwise dj->r∈fs->aL r.1 l=true->ddF fs l=some r.2
 |a::fs,r,h,hr,hf=>by
  rw[List.pairwise_cons]at h;rw[Cj];rcases ci.mp hr with rfl |hr
  ·rw[if_pos hf]
  ·have:aL a.1 l=false:=by
    rw[<-gp];exact λha=>h.1 r hr l ((jL hl).mp ha) ((jL hl).mp hf)
   rw[this,if_neg a7];exact pO hl h.2 hr hf
theorem pP{l:List Nat}:∀{fs:List Row},(∀r∈fs,aL r.1 l=false)->ddF fs l=none
 |[],_=>rfl
 |a::fs,h=>by
  rw[Cj,h a aS,if_neg a7];exact pP λr hr=>h r (aI _ hr)
theorem R1{w:Nat}{fs gs:List Row}(h:fs.Pairwise dj)(hp:fs.Perm gs):aV w fs gs=[]:=pG.mpr λl hl=>by
 have hg:gs.Pairwise dj:=(hp.pairwise_iff λq=>agQ q).mp h;by_cases e:∃r∈fs,aL r.1 l=true
 ·obtain ⟨r,hr,hf⟩:=e;rw[pO hl h hr hf,pO hl hg (hp.mem_iff.mp hr) hf]
 ·have e':∀r∈fs,aL r.1 l=false:=λr hr=>by
   rw[<-gp];exact λhf=>e ⟨r,hr,hf⟩
  rw[pP e',pP λr hr=>e' r (hp.mem_iff.mpr hr)]
structure Flt(w:Nat)(rs fs:List Row):Prop where
 ok:okB w fs
 dj:fs.Pairwise dj
 alk:aV w rs fs=[]
theorem agS{w:Nat}{f:List Nat}(h:okF w f):okW w (bf f):=⟨by unfold bf;rw[af];exact h.1,eG h (il f)⟩
theorem Flt.thin{w:Nat}{rs fs:List Row}(h:Flt w rs fs):Ck w 0 fs:=λn _ hn e=>by
 obtain ⟨A,r,C,e1,hA⟩:∃A r C,fs=A++r::C/\A.length=n:=⟨fs.take n,fs[n],fs.drop (n+1),by rw[<-bo,hR],by rw[bX];omega⟩;subst hA;have hr:r∈fs:=by rw[e1];exact aT _ aS
 have hl:=agS (h.ok.form r hr);have hrl:bf r.1∈aJ r.1:=bG.mpr (il r.1);have hd:=h.dj;have e2:=pG.mp e (bf r.1) hl;rw[pO hl hd hr ((jL hl).mpr hrl)]at e2;rw[e1]at hd e2;rw[agl]at e2;rw[List.pairwise_append,List.pairwise_cons]at hd;rw[pP λx hx=>?_]at e2
 ·cases e2
 ·rw[<-gp];intro hf;have hx':=(jL hl).mp hf;rcases bP.mp hx with q |q
  ·exact hd.2.2 x q r aS _ hx' hrl
  ·exact hd.2.1.1 x q _ hrl hx'
theorem Flt.cnt{w n:Nat}{rs fs:List Row}{r:Row}(h:Flt w rs fs)(hr:fs[n]?=some r):ir w fs n=2 ^ stc r.1:=by
 rw[R0 h.ok hr,<-wC,<-cM];have hrm:=ba hr;have e:bh fs n r.1=aJ r.1:=by unfold bh;refine List.filter_eq_self.mpr λl hl=>?_;rw[Cz,cq];intro x hx;have hfit:=bG.mp hl;have hw:okW w l:=⟨by rw[<-hfit.1,(h.ok.form r hrm).1],eG (h.ok.form r hrm) hfit⟩;rw[ga,<-gp];intro hf;have hd:=h.dj;obtain ⟨i,hi,e⟩:=List.mem_take_iff_getElem.mp hx;have hn:=(am.mp hr);have:=List.pairwise_iff_getElem.mp hd i n (by omega) hn.1 (by omega);rw[e,hn.2]at this;exact this l ((jL hw).mp hf) hl
 rw[e]
theorem Flt.perm{w:Nat}{rs fs gs:List Row}(h:Flt w rs fs)(hp:fs.Perm gs):aV w rs gs=[]:=lA h.alk (R1 h.dj hp)
theorem R3{α:Type}[DecidableEq α]:∀{l m:List α},l.Nodup->(∀x∈l,x∈m)->l.length<=m.length
 |[],_,_,_=>ef _
 |a::l,m,h,hs=>by
  rw[gE]at h;have hm:=hs a aS;have ih:=R3 (l:=l) (m:=m.erase a) h.2 λx hx=>(List.mem_erase_of_ne (λe=>h.1 (by rw[<-e];exact hx))).mpr (hs x (aI _ hx));rw[List.length_erase_of_mem hm]at ih;have:=List.length_pos_of_mem hm;rw[cS];omega
theorem CG{α:Type}(g:α->List Nat):∀L:List α,L.length<=(L.flatMap λx=>aJ (g x)).length
 |[]=>ay _
 |a::L=>by
  rw[ck,aE,cS];have:=CG g L;have:=gt.mpr (RZ (g a));omega
theorem agT{rs:List Row}{l:List Nat}{n:Nat}(h:aK rs l=some n):ddF rs l=some (rw0 rs n).2:=by rw[<-jJ,h];have hn:=oJ h;show (rs[n]?).map (·.2)=_;rw[je hn];rfl
theorem agU{rs:List Row}{l:List Nat}(h:aK rs l=none):ddF rs l=none:=by rw[<-jJ,h];rfl
structure Cov(w:Nat)(rs:List Row)(L:List (List Nat×Nat)):Prop where
 one:∀x∈L,okF w x.1/\x.2 < rs.length/\∀l,l∈aJ x.1->aK rs l=some x.2
 nod:(L.flatMap λx=>aJ x.1).Nodup
 all:∀l n,okW w l->aK rs l=some n->∃x∈L,l∈aJ x.1
def fW(rs:List Row)(L:List (List Nat×Nat)):List Row:=L.map λx=>(x.1,(rw0 rs x.2).2)
theorem Cov.flt{w:Nat}{rs:List Row}{L:List (List Nat×Nat)}(hb:okB w rs)(hw:w<=3)(h:Cov w rs L):Flt w rs (fW rs L):=by
 have hlen:L.length<=8:=by
  have h1:=CG (λx:List Nat×Nat=>x.1) L;have h2:=R3 (m:=aJ (List.replicate w 42)) h.nod λl hl=>by
   obtain ⟨x,hx,hl⟩:=eh.mp hl;have hfit:=bG.mp hl;have hf:=(h.one x hx).1;exact bG.mpr (lq.mpr ⟨by rw[<-hfit.1,hf.1],eG hf hfit⟩)
  have h3:=Qk (List.replicate w 42);rw[bS]at h3;have h4:2 ^ w<=2 ^ 3:=fv (by decide) hw;omega
 have hd:(fW rs L).Pairwise dj:=agR (by unfold fW;rw[hW];exact h.nod);refine ⟨⟨hb.w1,hb.w6,by unfold fW;rw[af];omega,λr hr=>?_,λr hr=>?_⟩,hd,pG.mpr λl hl=>?_⟩
 ·obtain ⟨x,hx,rfl⟩:=bb.mp hr;exact (h.one x hx).1
 ·obtain ⟨x,hx,rfl⟩:=bb.mp hr;exact show okD (rw0 rs x.2).2 from hb.deed _ (eU (h.one x hx).2.1)
 ·cases hm:aK rs l with
  |none=>
   rw[agU hm,pP λr hr=>?_];obtain ⟨x,hx,rfl⟩:=bb.mp hr;rw[<-gp];intro hf;rw[(h.one x hx).2.2 l ((jL hl).mp hf)]at hm;cases hm
  |some n=>
   obtain ⟨x,hx,hlx⟩:=h.all l n hl hm;have e:=(h.one x hx).2.2 l hlx;rw[hm]at e;cases e;rw[agT hm,pO hl hd (bb.mpr ⟨x,hx,rfl⟩) ((jL hl).mpr hlx)]
def jM(rs:List Row)(k:Nat):List (List Nat×Nat):=(List.range k).flatMap λn=>(cL rs n (rw0 rs n).1).map λp=>(p,n)
theorem wQ{w n:Nat}{rs:List Row}{l:List Nat}(hb:okB w rs)(hn:n < rs.length):l∈bh rs n (rw0 rs n).1↔okW w l/\aK rs l=some n:=by
 have h:=je hn;have hf:=hb.form _ (eU hn);unfold bh;rw[dk,bG,pB h];constructor
 ·rintro ⟨hfit,e⟩;have hw:okW w l:=⟨by rw[<-hfit.1,hf.1],eG hf hfit⟩;exact ⟨hw,by simpa using e,(iV hw.2).mpr hfit⟩
 ·rintro ⟨hl,e1,e2⟩;exact ⟨(iV hl.2).mp e2,by rw[e1];rfl⟩
theorem agV{w:Nat}{rs:List Row}(hb:okB w rs):Cov w rs (jM rs rs.length):=by
 have hp:∀n,n < rs.length->((cL rs n (rw0 rs n).1).flatMap aJ).Perm (bh rs n (rw0 rs n).1):=λn hn=>pN hb (hb.form _ (eU hn));refine ⟨λx hx=>?_,?_,λl n hl hm=>?_⟩
 ·obtain ⟨n,hn,hx⟩:=eh.mp hx;obtain ⟨p,hpm,rfl⟩:=bb.mp hx;have hn':=eA.mp hn;refine ⟨(RX hb (hb.form _ (eU hn')) p hpm).1,hn',λl hl=>?_⟩;exact ((wQ hb hn').mp ((hp n hn').mem_iff.mp (eh.mpr ⟨p,hpm,hl⟩))).2
 ·unfold jM;rw[List.flatMap_assoc];have e:(λn=>((cL rs n (rw0 rs n).1).map λp=>(p,n)).flatMap λx=>aJ x.1)=λn=>(cL rs n (rw0 rs n).1).flatMap aJ:=by
   funext n;rw[hW]
  rw[e];refine List.pairwise_flatMap.mpr ⟨λn hn=>?_,?_⟩
  ·refine (hp n (eA.mp hn)).nodup_iff.mpr ?_;unfold bh;exact ((cM _ ▸ jd _:(aJ (rw0 rs n).1).Pairwise (· < ·)).filter _).imp λh e=>by subst e;exact absurd h (ge _)
  ·refine (List.pairwise_lt_range (n:=rs.length)).imp_of_mem λ{a b} ha hb' hab x hx y hy e=>?_;subst e;have h1:=((wQ hb (eA.mp ha)).mp ((hp a (eA.mp ha)).mem_iff.mp hx)).2;have h2:=((wQ hb (eA.mp hb')).mp ((hp b (eA.mp hb')).mem_iff.mp hy)).2;rw[h1]at h2;cases h2;exact absurd hab (e9 _)
 ·have hn:=oJ hm;obtain ⟨p,hpm,hl'⟩:=eh.mp ((hp n hn).mem_iff.mpr ((wQ hb hn).mpr ⟨hl,hm⟩));exact ⟨(p,n),eh.mpr ⟨n,eA.mpr hn,bb.mpr ⟨p,hpm,rfl⟩⟩,hl'⟩
theorem Lv.perm{name:List Nat}{rss:List (List Row)}{b:List Nat}{d:D}{bs:List (List Nat)}(h:Lv name rss b d bs):(bs.flatMap aJ).Perm (aJ b):=by
 induction h with
 |leaf b _=>rw[ck,fm,eg]
 |node b n z o l m hn _ _ i1 i2=>
  rw[gu];refine (i1.append i2).trans (List.perm_iff_count.mpr λa=>?_);rw[List.count_append,cM,cM,cM];exact (BP b n (·==a) hn).symm
def iu(rs:List Row)(bs:List (List Nat)):List (List Nat×Nat):=bs.filterMap λc=>(aM rs c).map λk=>(c,k)
theorem CJ(rs:List Row):∀bs:List (List Nat),((iu rs bs).flatMap λx=>aJ x.1).Sublist (bs.flatMap aJ)
 |[]=>List.Sublist.refl _
 |c::bs=>by
  unfold iu;rw[ck];cases e:aM rs c with
  |none=>
   rw[List.filterMap_cons_none (by rw[e];rfl)];exact (CJ rs bs).trans (List.sublist_append_right _ _)
  |some k=>
   rw[List.filterMap_cons_some (b:=(c,k)) (by rw[e];rfl),ck];exact (List.Sublist.refl _).append (CJ rs bs)
theorem agW{w:Nat}{rs:List Row}{d:D}{bs:List (List Nat)}(hb:okB w rs)(h:Lv oO [rs] (List.replicate w 42) d bs):Cov w rs (iu rs bs):=by
 have okS:okF w (List.replicate w 42):=⟨bS,λc hc=>.inr (.inr (gx hc))⟩;have hlm:∀c∈bs,∀l,l∈aJ c->aK rs l=aM rs c:=λc hc l hl=>by
  have hfit:=bG.mp hl;have hf:=h.okf okS c hc;exact wy (λr hr=>by rw[(hb.form r hr).1,hf.1]) ((h.box c hc).2 rs aS) (eG hf hfit) hfit
 refine ⟨λx hx=>?_,?_,λl n hl hm=>?_⟩
 ·obtain ⟨c,hc,e⟩:=gI.mp hx;obtain ⟨k,hk,rfl⟩:=ar.mp e;exact ⟨h.okf okS c hc,lr hk,λl hl=>(hlm c hc l hl).trans hk⟩
 ·refine List.Nodup.sublist (CJ rs bs) (h.perm.nodup_iff.mpr ?_);exact (cM _ ▸ jd _:(aJ (List.replicate w 42)).Pairwise (· < ·)).imp λh e=>by subst e;exact absurd h (ge _)
 ·obtain ⟨c,hc,hfit⟩:=h.cover l (lq.mpr hl);have hw:=bG.mpr hfit;exact ⟨(c,n),gI.mpr ⟨c,hc,by rw[<-hlm c hc l hw,hm];rfl⟩,hw⟩
theorem R4:∀{rs ss:List Row},b8 (rs.map az) (ss.map az)=true->rs=ss
 |[],[],_=>rfl
 |[],_::_,h=>by cases h
 |_::_,[],h=>by cases h
 | (f,d)::rs,(g,e)::ss,h=>by
  simp only[bp,b8,az,deq,ae,gz,a9]at h;obtain ⟨⟨h1,h2⟩,h3⟩:=h;rw[h1,h2,R4 h3]
theorem agX{w:Nat}{rs ss:List Row}(h:bkE w rs ss=true):rs=ss:=by unfold bkE ao at h;simp only[deq,b8,ae,gz]at h;exact R4 h.2
theorem agY(w:Nat)(rs:List Row):bkE w rs rs=true:=j7 (jg _ _)
theorem R5{w:Nat}:∀(n:Nat){rs:List Row},okB w rs->aV w rs (ajR w n rs)=[]
 |0,rs,_=>pH rs
 |n+1,rs,hb=>by
  cases hf:fjO w rs with
  |none=>rw[Cr hf];exact pH rs
  |some ss=>
   rw[Cu hf];obtain ⟨h1,_,h3⟩:=Cq hb hf;exact lA h3 (R5 n h1)
theorem agZ{w:Nat}{rs:List Row}(hb:okB w rs):aV w rs (prS w rs)=[]:=lA (R5 _ hb) (Rq _ _)
structure Prd(w:Nat)(rs p:List Row):Prop where
 ok:okB w p
 len:p.length<=rs.length
 alike:aV w rs p=[]
 fix:prS w p=p
theorem prd{w:Nat}:∀(f:Nat){rs:List Row},okB w rs->rs.length < f->Prd w rs (prR w f rs)
 |0,rs,_,h=>absurd h (Nat.not_lt_zero _)
 |f+1,rs,hb,h=>by
  rw[prR];by_cases hd:bkE w (prS w rs) rs=true
  ·rw[if_pos hd];have e:=agX hd;rw[e];exact ⟨hb,ay _,pH _,e⟩
  ·rw[if_neg hd];have hl:(prS w rs).length < rs.length:=by
    rcases (Cv hb).2 with e |e
    ·rw[e,agY]at hd;exact absurd rfl hd
    ·exact e
   have ih:=prd f (Cv hb).1 (by omega);exact ⟨ih.ok,by have:=ih.len;omega,lA (agZ hb) ih.alike,ih.fix⟩
theorem ag0{w:Nat}{rs:List Row}{G:DH}{k:D->DH->Prop}{E:EK}(h:okB w rs)(hk:k (ao w (prR w (rs.length+1) rs)) G):wO.t [ao w rs] G k E:=bQ (w,rs) rfl h hk
theorem CK{w:Nat}{rs ss:List Row}{d:D}(h:aV w rs ss=[])(hq:wI w rs ss d):∃t,d=.tup [.str jH,t]:=by
 rcases hq with ⟨m,hm,_⟩ |⟨_,t,_,rfl,_⟩
 ·rw[h]at hm;cases hm
 ·exact ⟨t,rfl⟩
def wR:RF.Spec:=bO (A:=Nat×List Row×Nat) (λa=>[ao a.1 a.2.1,.int (a.2.2:Nat)]) (λa=>okB a.1 a.2.1/\a.2.2+1 < a.2.1.length) (λa=>.bl (aV a.1 a.2.1 (swp a.2.1 a.2.2)).isEmpty)
theorem ag1{w n:Nat}{rs:List Row}{G:DH}{k:D->DH->Prop}{E:EK}(h:okB w rs)(hn:n+1 < rs.length)(hk:k (.bl (aV w rs (swp rs n)).isEmpty) G):wR.t [ao w rs,.int (n:Nat)] G k E:=bQ (w,rs,n) rfl ⟨h,hn⟩ hk
theorem ag2 (Z:aj) (h1:Z "need_book"=fM) (h2:Z "is_place"=aH gC) (h3:Z "parting_word"=pI) (h4:Z "exchanged"=sEx) (a:Nat×List Row×Nat) (G:DH) (h:okB a.1 a.2.1/\a.2.2+1 < a.2.1.length):au Z nU noE (env0 [ao a.1 a.2.1,.int (a.2.2:Nat)] 2) G (ends λd G'=>G'=G/\d=.bl (aV a.1 a.2.1 (swp a.2.1 a.2.2)).isEmpty):=by
 obtain ⟨w,rs,n⟩:=a;obtain ⟨hb,hn⟩:=h;dsimp only at hb hn ⊢;have hlen:=hb.len;have ed:∀xs:List Row,ao w xs=.tup [.int w,.tup (xs.map az)]:=λ_=>rfl;simp_all_arith[nU];nofun;erw[h1];refine ig hb (hM _ _ (seq λM hM=>?_));erw[ed];symm;erw[h2,af];have hp:isPlace ((rs.length:Int) - 1) (.int (n:Int))=true:=by show (decide (0<=(n:Int))&&decide ((n:Int) < (rs.length:Int) - 1))=true;rw[cb (by omega),cb (by omega)];rfl
 refine cu (show gC [.int ((rs.length:Int) - 1),.int (n:Int)]=some (.bl true) from by rw[<-hp];rfl) ?_;erw[ends];ac_nf0;erw[h3,h4];refine agr hn hlen ⟨by decide,?_⟩;rw[<-ed,<-ed];refine Rt hb (ago hb hn) ?_;cases aV w rs (swp rs n) <;> erw[List.head?_nil,List.head?_cons,bM,List.isEmpty_nil,List.isEmpty_cons,and_self]
def wU:RF.Spec:=bO (A:=List Row) (λrs=>[.tup (rs.map az)]) (λrs=>rs.length<=12) (λrs=>.lst ((rs.map (·.1)).map D.str))
theorem ag3{rs:List Row}{G:DH}{k:D->DH->Prop}{E:EK}(h:rs.length<=12)(hk:k (.lst ((rs.map (·.1)).map D.str)) G):wU.t [.tup (rs.map az)] G k E:=bQ rs rfl h hk
def R6:D->D
 |.tup (a::_)=>a
 |_=>.non
theorem ag4(Z:aj)(rs:List Row)(G:DH)(h:rs.length<=12):au Z Ao noE (env0 [.tup (rs.map az)] 0) G (ends λd G'=>G'=G/\d=.lst ((rs.map (·.1)).map D.str)):=by
 erw[Ao];refine CompG.map (f:=R6) (I:=λY=>∃o,Y=[o]) ⟨_,rfl⟩ trivial (by rw[af];bv_omega) ?_ ?_
 ·rintro d Y hd ⟨o,rfl⟩ kk hk;obtain ⟨r,_,rfl⟩:=bb.mp hd;erw[az];exact hk _ ⟨_,rfl⟩
 ·erw[ends];have e:(rs.map az).map R6=(rs.map (·.1)).map D.str:=by rw[ek,ek];rfl
  rw[e]
theorem ag5{q q2:Addr}{G:DH}{ds xs:List D}{k:D->DH->Prop}(h1:G q=some (.lst ds))(h2:G q2=some (.lst xs)):opM .extend (.ref q) [.ref q2] G k=(ds.length+xs.length < sz/\k .non (bx G q (.lst (ds++xs)))):=by show jZ (.ref q) [view G (.ref q2)] G k=_;rw[cY h2];unfold jZ;simp only[h1]
theorem R7{α β:Type}(f:α->List β)(m:Nat):∀l:List α,(∀x∈l,(f x).length<=m)->(l.flatMap f).length<=l.length * m
 |[],_=>ef _
 |a::l,h=>by
  rw[ck,aE,cS,Nat.succ_mul];have:=R7 f m l λx hx=>h x (aI _ hx);have:=h a aS;omega
theorem R8{p g:List Nat}:(cJ p g).length<=p.length+1:=by
 unfold cJ;split
 ·exact Nat.le_add_left _ _
 ·exact cp wz (gS _)
theorem ag6{w:Nat}(h:w<=6):2 ^ w<=64:=fv (show 0 < 2 by decide) h
theorem pQ{w:Nat}{f:List Nat}{ah:List (List Nat)}(hw:w<=6)(hf:okF w f)(h:∀g∈ah,okF w g):(apt f ah).length<=64:=by have h1:=CG (λx:List Nat=>x) (apt f ah);have h2:=(pM hf ah h).2.length_eq;have h3:=List.length_filter_le (λl=>ah.all λg=>nof g l) (aJ f);have h4:=Qk f;have h5:=ag6 hw;rw[hf.1]at h4;have e:((apt f ah).flatMap λx=>aJ x).length=((apt f ah).flatMap aJ).length:=rfl;omega
def R9(a:Nat×List Nat×List (List Nat))(ds:List D)(_:DH):Prop:=ds=[.str a.2.1,.lst (a.2.2.map D.str)]/\a.1<=6/\okF a.1 a.2.1/\∀g∈a.2.2,okF a.1 g
def wV:RF.Spec:=ghS (A:=Nat×List Nat×List (List Nat)) R9 (λa G d G'=>Sa G G'/\d=.lst ((apt a.2.1 a.2.2).map D.str))
theorem Sd{w:Nat}{f:List Nat}{ah:List (List Nat)}{G:DH}{k:D->DH->Prop}{E:EK}(hw:w<=6)(hf:okF w f)(h:∀g∈ah,okF w g)(hk:∀G',Sa G G'->k (.lst ((apt f ah).map D.str)) G'):wV.t [.str f,.lst (ah.map D.str)] G k E:=gn (w,f,ah) ⟨rfl,hw,hf,h⟩ λd G' hx=>by
 obtain ⟨s,rfl⟩:=hx;exact hk G' s
theorem ag7 (Z:aj) (h1:Z "rest"=wB) (a:Nat×List Nat×List (List Nat)) (ds:List D) (G:DH) (h:R9 a ds G):au Z Ad noE (env0 ds 4) G (ends λd G'=>Sa G G'/\d=.lst ((apt a.2.1 a.2.2).map D.str)):=by
 obtain ⟨w,f,ah⟩:=a;obtain ⟨rfl,hw,hf,hah⟩:=h;dsimp only at hw hf hah ⊢;have hff:=hf.1;simp_all_arith[Ad];nofun;erw[ends];refine ⟨by decide,hM _ _ (seq λM hM=>?_)⟩;simp_arith![ends];refine ForG.inv (P:=λi Y G'=>(∃o3 o4 o5,Y=[some (.str f),some (.lst (ah.map D.str)),some (.lst ((apt f (ah.take i)).map D.str)),o3,o4,o5])/\Sa G G') ⟨⟨_,_,_,rfl⟩,Sa.refl G⟩ (λ_ _ _ _=>trivial) ?_ ?_
 ·rintro i d Y G2 hd ⟨⟨o3,o4,o5,rfl⟩,sa⟩ kk hk;rw[ax]at hd;obtain ⟨g,hg,rfl⟩:=ar.mp hd;have hgo:=hah g (ba hg);have ht:ah.take (i+1)=ah.take i++[g]:=by rw[cf,hg];rfl
  have hat:∀x∈ah.take i,okF w x:=λx hx=>hah x (cK hx);have hpl:=pQ hw hf hat;have hpo:=(pM hf _ hat).1;generalize hps:apt f (ah.take i)=ps at hpl hpo ⊢;simp_arith![ends];nofun;erw[ends];refine λq hq=>hM _ _ (seq λM hM=>?_);simp_arith![ends];refine ForG.inv (P:=λj Y G'=>(∃o5,Y=[some (.str f),some (.lst (ah.map D.str)),some (.lst (ps.map D.str)),some (.str g),some (.ref q),o5])/\Sa G G'/\G' q=some (.lst ((dW (ps.take j) g).map D.str))) ⟨⟨_,rfl⟩,sa.trans (Sa.new hq),bI⟩ (λ_ _ _ _=>trivial) ?_ ?_
  ·rintro j d Y G3 hd3 ⟨⟨o5,rfl⟩,sa3,g3⟩ kk' hk';rw[ax]at hd3;obtain ⟨t,htt,rfl⟩:=ar.mp hd3;have hto:=(hpo t (ba htt)).1;have htl:=hto.1;have tk:dW (ps.take (j+1)) g=dW (ps.take j) g++cJ t g:=by unfold dW;rw[cf,htt,gu];simp
   have l1:(dW (ps.take j) g).length<=64 * 7:=by refine cp (R7 _ 7 _ λx hx=>?_) (Nat.mul_le_mul_right _ (by rw[bX];omega));have:=@R8 x g;have:=(hpo x (cK hx)).1.1;omega
   have l2:=@R8 t g;simp_arith![ends];refine last ?_;erw[cU g3,h1];refine afN (by rw[hto.1,hgo.1]) (by omega) hgo.2 λq2 G4 hq2 gq2 sa4=>?_;have g4:=sa4 _ _ g3;rw[ag5 g4 gq2,af,af];refine ⟨by bv_omega,hk' _ _ ⟨⟨_,rfl⟩,?_,?_⟩⟩
   ·intro b ob hb;by_cases hbq:b=q
    ·subst hbq;exfalso;have:=sa b _ hb;rw[hq]at this;cases this
    ·rw[cO hbq];exact sa4 b _ (sa3 b _ hb)
   ·rw[bI,tk,br]
  ·rintro Y G3 ⟨⟨o5,rfl⟩,sa3,g3⟩;rw[af,ce]at g3;ac_nf0;erw[g3];refine hk _ _ ⟨⟨_,_,_,by rw[ht,agK,hps]⟩,?_⟩;intro b ob hb;have hbq:b≠q:=by
    rintro rfl;have:=sa b _ hb;rw[hq]at this;cases this
   rw[yh hbq];exact sa3 b _ hb
 ·rintro Y G2 ⟨⟨o3,o4,o5,rfl⟩,sa⟩;rw[af,ce];ac_nf0;erw[ends];exact sa
theorem Sg(l:List (List Nat)):(l.map λp=>((2 ^ stc p:Nat):Int)).sum=((pows l:Nat):Int):=by
 unfold pows;induction l with
 |nil=>rfl
 |cons a l ih=>rw[bp,hZ,bp,hZ,ih,Int.natCast_add]
theorem Sh(l:List (List Nat)):nrs (l.map D.str)=true:=vQ λd hd=>by obtain ⟨_,_,rfl⟩:=bb.mp hd;rfl
theorem ag8(l:List (List Nat)):bJ (l.map D.str)=some l:=by
 induction l with
 |nil=>rfl
 |cons a l ih=>rw[bp,bJ,ih]
theorem Sq(ps:List (List Nat)):b8 (ps.map D.str) []=ps.isEmpty:=by cases ps <;> rfl
theorem ag9(n:Nat)(l:List Nat):isIn (.int (n:Int)) (l.map nI)=l.contains n:=by unfold isIn;rw[List.any_map,List.contains_eq_any_beq];refine List.any_congr rfl λx=>?_;show ((x:Int)==(n:Int))=(n==x);rw[ff,a9,a9];omega
structure FR84(Z:aj):Prop where
 how:Z "how_many"=aH jb
 both:Z "both"=aH iW
 reach:Z "reach"=ph
 least:Z "least"=aH jc
 met:Z "met"=v9
structure A84 where
 w:Nat
 rs:List Row
 n:Nat
 q:Addr
 q2:Addr
def Ss(a:A84)(ds:List D)(G:DH):Prop:=ds=[ao a.w a.rs,.int (a.n:Nat),.lst ((cL a.rs a.n (rw0 a.rs a.n).1).map D.str),.ref a.q,.ref a.q2]/\okB a.w a.rs/\a.n < a.rs.length/\G a.q=some (.lst (eN a.w a.rs))/\G a.q2=some (.lst ((eO a.rs).map nI))
def wW:RF.Spec:=ghS (A:=A84) Ss (λ_ G d G'=>G'=G/\d=.bl true)
theorem aha{w n:Nat}{rs:List Row}{q q2:Addr}{G:DH}{k:D->DH->Prop}{E:EK}(hb:okB w rs)(hn:n < rs.length)(g1:G q=some (.lst (eN w rs)))(g2:G q2=some (.lst ((eO rs).map nI)))(hk:k (.bl true) G):wW.t [ao w rs,.int (n:Int),.lst ((cL rs n (rw0 rs n).1).map D.str),.ref q,.ref q2] G k E:=gn (⟨w,rs,n,q,q2⟩:A84) ⟨rfl,hb,hn,g1,g2⟩ λd G' hx=>by
 obtain ⟨rfl,rfl⟩:=hx;exact hk
theorem ahb(Z:aj)(F:FR84 Z)(a:A84)(ds:List D)(G:DH)(h:Ss a ds G):au Z Ar noE (env0 ds 3) G (ends λd G'=>G'=G/\d=.bl true):=by
 obtain ⟨w,rs,n,q,q2⟩:=a;obtain ⟨rfl,hb,hn,g1,g2⟩:=h;dsimp only at hb hn g1 g2 ⊢;have hr:=je hn;have hf:=hb.form _ (eU hn);have hw6:=hb.w6;have hpo:=RX (n:=n) hb hf;have hnil:=agN (n:=n) hb hf;have hpw:=agO hb hr;have hlst:=λm=>agP (n:=n) (m:=m) hb hf;have hpl:(cL rs n (rw0 rs n).1).length<=64:=pQ hw6 hf λg hg=>by
  obtain ⟨r,hr,rfl⟩:=bb.mp hg;exact hb.form r (cK hr)
 generalize cL rs n (rw0 rs n).1=ps at hpo hnil hpw hlst hpl ⊢;simp_all_arith[Ar];nofun;erw[F.how];refine CompG.inv (P:=λi acc Y G'=>(∃o0,Y=[o0])/\G'=G/\acc=(ps.take i).map λp=>D.int ((2 ^ stc p:Nat):Int)) ⟨⟨_,rfl⟩,rfl,rfl⟩ (λ_ _ _ _ _=>trivial) (by rw[af];bv_omega) ?_ ?_
 ·rintro i d acc Y G' hd ⟨⟨o0,rfl⟩,rfl,rfl⟩ kk hk;rw[ax]at hd;obtain ⟨p,hp,rfl⟩:=ar.mp hd;have hpl:=(hpo p (ba hp)).1.1;erw[F.how];refine cu rfl (hk _ _ _ ⟨⟨_,rfl⟩,rfl,?_⟩);rw[cf,hp,br];rfl
 rintro acc Y G' ⟨_,rfl,rfl⟩;rw[af,ce];refine bw (Cg _ ps) ?_;have hcnt:atI (eN w rs) (n:Int)=some (.int (ir w rs n:Int)):=bR (oX (by omega));rw[Sg,hpw];erw[cY g1];refine bw hcnt ?_;have hin:isIn (.int (n:Int)) ((eO rs).map nI)=ps.isEmpty:=by rw[ag9,agh hr,ff,e8,e8,hnil]
 have hmin:min (bj (ps.map D.str)+1) (0+1)<=60:=cp (Nat.min_le_right _ _) (by decide);erw[BEq.rfl,Sh,cY g2,Sq,hin,af4];refine ⟨hmin,by rw[af5];decide,hM _ _ (seq λM hM=>?_)⟩;have e0:ao w rs=.tup [.int w,.tup (rs.map az)]:=rfl;erw[ends];refine CompG.inv (P:=λi acc Y G2=>(∃o0,Y=[o0,some (.int (n:Int)),some (ao w rs)])/\G2=G'/\acc=[]) ⟨⟨_,rfl⟩,rfl,rfl⟩ (λ_ _ _ _ _=>trivial) (by rw[af];bv_omega) ?_ ?_
 ·rintro i d acc Y G2 hd ⟨⟨o0,rfl⟩,rfl,rfl⟩ kk hk;rw[ax]at hd;obtain ⟨p,hp,rfl⟩:=ar.mp hd;obtain ⟨hp1,hp2⟩:=hpo p (ba hp);have hbo:aQ p (rw0 rs n).1=some p:=(QK (by rw[hp1.1,hf.1])).mpr (BL hp2);have hpl:=hp1.1;erw[e0,F.both];refine bw (jf hn) ?_;erw[az];refine Q6 (by omega) ?_;rw[hbo];erw[bM,BEq.rfl];exact hk none _ _ ⟨⟨_,rfl⟩,rfl,rfl⟩
 rintro acc Y G2 ⟨_,rfl,rfl⟩;erw[ends];refine ⟨by decide,hM _ _ (seq λM hM=>?_)⟩;erw[F.reach];refine Rf hb hr λd hq=>?_;cases hps:ps with
 |nil=>
  have hfr:=hnil.mp hps;rcases hq with ⟨m,hm,_⟩ |⟨_,t,bs,rfl,_⟩
  ·rw[hfr]at hm;cases hm
  ·erw[ends];symm;erw[d6,dF,BEq.rfl];decide
 |cons p0 pr=>
  rw[<-hps];have hne:ps.isEmpty=false:=by rw[hps];rfl
  rcases hq with ⟨m,hm,rfl⟩ |⟨hfr,_⟩
  ·erw[ends];symm;erw[Sq,hne,Sh];refine ⟨hmin,hM _ _ (seq λM hM=>?_)⟩;erw[ends];refine CompG.inv (P:=λi acc Y G3=>(∃o0,Y=[o0])/\G3=G2/\acc=(ps.take i).map λp=>D.str (bf p)) ⟨⟨_,rfl⟩,rfl,rfl⟩ (λ_ _ _ _ _=>trivial) (by rw[af];bv_omega) ?_ ?_
   ·rintro i d acc Y G3 hd ⟨⟨o0,rfl⟩,rfl,rfl⟩ kk hk;rw[ax]at hd;obtain ⟨p,hp,rfl⟩:=ar.mp hd;have hpl:=(hpo p (ba hp)).1.1;erw[F.least];refine BR (by omega) (hk _ _ _ ⟨⟨_,rfl⟩,rfl,?_⟩);rw[cf,hp,br];rfl
   rintro acc Y G3 ⟨_,rfl,rfl⟩;rw[af,ce];refine BW (ls:=ps.map bf) ?_ ?_ λm' hm1 hm2=>?_
   ·rw[hps];rfl
   ·have e:(ps.map λp=>D.str (bf p))=(ps.map bf).map D.str:=by rw[ek];rfl
    rw[e];exact ag8 _
   have em:m'=m:=by have:=hlst m' hm1 hm2;rw[hm]at this;exact (dE this).symm
   subst em;obtain ⟨w1,w2,_⟩:=agf hb hr hm;ac_nf0;erw[BX,BEq.rfl,F.met];refine ae1 hb w1 ?_;rw[w2];erw[aU,BEq.rfl]
  ·exact absurd (hnil.mpr hfr) (by rw[hps];exact List.cons_ne_nil _ _)
structure FF84(Z:aj):Prop where
 book:Z "is_book"=v8
 alk:Z "alike"=lz
 hid:Z "hidden"=pq
 cnt:Z "counts"=oY
 how:Z "how_many"=aH jb
 lean:Z "lean"=pF
 may:Z "may_swap"=wR
 prs:Z "press"=wO
def Su(a:Nat×List Row×List Row)(ds:List D)(_:DH):Prop:=ds=[ao a.1 a.2.1,ao a.1 a.2.2]/\okB a.1 a.2.1/\Flt a.1 a.2.1 a.2.2
def wX:RF.Spec:=ghS (A:=Nat×List Row×List Row) Su (λ_ G d G'=>d=.bl true/\Sa G G')
theorem Sv{w:Nat}{rs fs:List Row}{G:DH}{k:D->DH->Prop}{E:EK}(hb:okB w rs)(h:Flt w rs fs)(hk:∀G',Sa G G'->k (.bl true) G'):wX.t [ao w rs,ao w fs] G k E:=gn (w,rs,fs) ⟨rfl,hb,h⟩ λd G' hx=>by
 obtain ⟨rfl,s⟩:=hx;exact hk G' s
theorem ahc{rs:List Row}{n:Nat}(h:n+1 < rs.length):rs.Perm (swp rs n):=by
 have e1:rs=rs.take n++([rw0 rs n,rw0 rs (n+1)]++rs.drop (n+2)):=by
  conv=>lhs;rw[<-hR n rs,bo (show n < rs.length by omega),bo h]
  rw[(am.mp (je (show n < rs.length by omega))).2,(am.mp (je h)).2];rfl
 unfold swp;conv=>lhs;rw[e1]
 rw[eR];refine List.Perm.append_left _ (List.Perm.append_right _ ?_);exact List.Perm.swap _ _ _
theorem ahd{l:List D}{a:D}:cut (l++[a]) none (some (-1))=l:=by
 have e:HT.sIx (l++[a]).length (l++[a]).length (some (-1))=l.length:=by show (if (-1:Int) < 0 then ((-1:Int)+((l++[a]).length:Int)).toNat else min (-1:Int).toNat (l++[a]).length)=l.length;rw[if_pos (by decide),aE,gX];omega
 unfold cut;rw[e,show HT.sIx (l++[a]).length 0 none=0 from rfl,gg,Nat.sub_zero,List.take_left]
theorem ahe{w:Nat}{rs fs:List Row}(h:Flt w rs fs):cut (eN w fs) none (some (-1))=fs.map λr=>D.int ((2 ^ stc r.1:Nat):Int):=by
 unfold eN tell;rw[fI,br];show cut (_++[_]) none (some (-1))=_;rw[ahd];apply List.ext_getElem?;intro n;rw[ax,ax];by_cases hn:n < fs.length
 ·have hr:=a8 hn;have hc:=h.cnt hr;unfold ir at hc;rw[ez hn,hr,ia,ia];dsimp only;rw[hc]
 ·rw[fo (by rw[fT];omega),fo (by omega)];rfl
theorem ahf(Z:aj)(F:FF84 Z)(a:Nat×List Row×List Row)(ds:List D)(G:DH)(h:Su a ds G):au Z An noE (env0 ds 1) G (ends λd G'=>d=.bl true/\Sa G G'):=by
 obtain ⟨w,rs,fs⟩:=a;obtain ⟨rfl,hb,hF⟩:=h;dsimp only at hb hF ⊢;have hbf:=hF.ok;have hlen:=hbf.len;have hthin:=hF.thin;have e0:∀xs:List Row,ao w xs=.tup [.int w,.tup (xs.map az)]:=λ_=>rfl;simp_all_arith[An];nofun;erw[F.book];refine bQ (w,fs) rfl hbf ?_;erw[F.alk];refine pA hb hbf λd hq=>?_;obtain ⟨t,rfl⟩:=CK hF.alk hq;erw[jH,BEq.rfl,F.hid];refine Rh hbf λq1 G1 _ gq1 sa1=>?_;rw[agm hbf hthin]at gq1;erw[cY gq1,d6];refine ⟨by decide,hM _ _ (seq λM hM=>?_)⟩;erw[F.cnt];refine Q9 hbf λq2 G2 _ gq2 sa2=>?_;erw[cY gq2,e0];rw[ahe hF];have hnrI:nrs (fs.map λr=>D.int ((2 ^ stc r.1:Nat):Int))=true:=vQ λd hd=>by obtain ⟨_,_,rfl⟩:=bb.mp hd;rfl
 have hdpI:bj (fs.map λr=>D.int ((2 ^ stc r.1:Nat):Int))=0:=Nat.le_zero.mp (vR λd hd=>by obtain ⟨_,_,rfl⟩:=bb.mp hd;exact ay _);refine CompG.inv (P:=λi acc Y G'=>(∃o0,Y=[o0])/\G'=G2/\acc=(fs.take i).map λr=>D.int ((2 ^ stc r.1:Nat):Int)) ⟨⟨_,rfl⟩,rfl,rfl⟩ (λ_ _ _ _ _=>trivial) (by rw[af];bv_omega) ?_ ?_
 ·rintro i d acc Y G' hd ⟨⟨o0,rfl⟩,rfl,rfl⟩ kk hk;rw[ax]at hd;obtain ⟨r,hr,rfl⟩:=ar.mp hd;erw[az,F.how];refine cu rfl (hk _ _ _ ⟨⟨_,rfl⟩,rfl,?_⟩);rw[cf,hr,br];rfl
 rintro acc Y G' ⟨_,rfl,rfl⟩;rw[af,ce,hnrI,hdpI,uW hnrI];have bc:=@RL w fs fs;rw[Nat.min_self]at bc;rw[<-e0 fs,<-e0 rs];refine ⟨⟨rfl,rfl,by decide⟩,?_⟩;erw[F.lean];refine Ci hbf ?_;rw[Rp hthin _ (ay _)];erw[P0 (jg _ _),j7 (jg _ _)];refine ⟨⟨jg _ _,by rw[Rg];rfl,cp (Nat.min_le_left _ _) bc.2.2⟩,hM _ _ (seq λM hM=>?_)⟩;erw[e0,af];refine ⟨by omega,CompG.inv (P:=λi acc Y G3=>(∃o0,Y=[o0,some (.tup [.int w,.tup (fs.map az)])])/\G3=G'/\acc=[]) ⟨⟨_,rfl⟩,rfl,rfl⟩ (λ_ _ _ _ _=>trivial) (by unfold aW;rw[af,fT];bv_omega) ?_ ?_⟩
 ·rintro i d acc Y G3 hd ⟨⟨o0,rfl⟩,rfl,rfl⟩ kk hk;have hi:i+1 < fs.length:=by
   have:=(am.mp hd).1;unfold aW at this;rw[af,fT]at this;omega
  have hdi:d=.int (i:Int):=by unfold aW at hd;rw[ax,ez (by omega)]at hd;simpa using hd.symm
  subst hdi;erw[F.may];rw[<-e0];refine ag1 hbf hi ?_;rw[R1 hF.dj (ahc hi)];erw[List.isEmpty_nil];exact hk none _ _ ⟨⟨_,rfl⟩,rfl,rfl⟩
 rintro acc Y G3 ⟨_,rfl,rfl⟩;erw[ends];refine ⟨by decide,hM _ _ (seq λM hM=>?_)⟩;rw[<-e0 fs,<-e0 rs];erw[F.prs];refine ag0 hbf ?_;have hp:=prd (fs.length+1) hbf (gl _);generalize prR w (fs.length+1) fs=p at hp ⊢;symm;have hrev:okB w fs.reverse:=⟨hbf.w1,hbf.w6,by rw[List.length_reverse];exact hlen,λr hr=>hbf.form r (List.mem_reverse.mp hr),λr hr=>hbf.deed r (List.mem_reverse.mp hr)⟩;conv=>enter [4,2,1,1];rw[e0]
 erw[F.alk,aeg];rw[<-List.map_reverse,<-e0,<-e0];refine ⟨by decide,pA hb hrev λd hq=>?_⟩;obtain ⟨t2,rfl⟩:=CK (hF.perm (List.reverse_perm fs).symm) hq;erw[jH,BEq.rfl];ac_nf0;have hple:=hp.len;erw[F.alk];refine pA hb hp.ok λd hq=>?_;obtain ⟨t3,rfl⟩:=CK (lA hF.alk hp.alike) hq;erw[jH,BEq.rfl,e0,af,cb (show (p.length:Int)<=(fs.length:Int) by omega)];exact sa1.trans sa2
structure FL84(Z:aj):Prop where
 opn:Z "_law_open"=Ay
 anew:Z "_law_anew"=vW
 book:Z "_law_book"=vZ
 forms:Z "_law_forms"=wU
 cnt:Z "counts"=oY
 hid:Z "hidden"=pq
 apt:Z "_law_apart"=wV
 row:Z "_law_row_right"=wW
 how:Z "how_many"=aH jb
 boxes:Z "_law_boxes"=gB 9
 laid:Z "laid"=oR
 flat:Z "_law_flat_right"=wX
theorem Sw(rs:List Row)(k:Nat):jM rs (k+1)=jM rs k++(cL rs k (rw0 rs k).1).map λp=>(p,k):=by unfold jM;rw[fI,gu,ck,fm,eg]
theorem ahg(rs:List Row)(L:List (List Nat×Nat))(ps:List (List Nat))(j:Nat):(fW rs (L++ps.map λp=>(p,j))).map az=(fW rs L).map az++ps.map λx=>az (x,(rw0 rs j).2):=by unfold fW;rw[br,br,ek,ek,ek];rfl
theorem Sy{w:Nat}{rs:List Row}(hb:okB w rs):∀k,k<=rs.length->(jM rs k).length<=k * 64
 |0,_=>ay _
 |k+1,h=>by
  have ih:=Sy hb k (by omega);have hk:k < rs.length:=by omega
  have:=pQ hb.w6 (hb.form _ (eU hk)) (ah:=(rs.take k).map λr:Row=>r.1) λg hg=>by
   obtain ⟨r,hr,rfl⟩:=bb.mp hg;exact hb.form r (cK hr)
  rw[Sw,aE,af];unfold cL;omega
theorem ahh{w:Nat}{rs:List Row}(hb:okB w rs):pows (apt (List.replicate w 42) (rs.map λr:Row=>r.1))=ir w rs rs.length:=by
 have okS:okF w (List.replicate w 42):=⟨bS,λc hc=>.inr (.inr (gx hc))⟩;have h:=(pN (n:=rs.length) hb okS).length_eq;unfold cL at h;rw[ce]at h;rw[<-RT,h];unfold bh ir;rw[ce,List.countP_eq_length_filter];congr 1;refine List.filter_congr λl _=>?_;cases hm:aK rs l with
 |none=>simp[atN]
 |some n=>have:=oJ hm;simp[atN];omega
theorem ahi(Z:aj)(F:FL84 Z)(ds:List D)(G:DH)(h:∃ns:List Int,ds=[.scr ns]/\ns.length<=63):au Z Av noE (env0 ds 11) G (ends λd _=>d=.bl true):=by
 obtain ⟨ns,rfl,hl⟩:=h;simp_all_arith[Av];nofun;erw[F.opn];refine cC ⟨ns,rfl,hl⟩ λd' G1 hx=>?_;obtain ⟨p,e1,_,hp,_⟩:=hx;subst e1;symm;simp_arith![ends];refine ⟨by decide,ForG.inv (P:=λi Y G'=>(∃o2 o3 o4 o5 o6 o7 o8 o9 o10 o11,Y=[some (.scr ns),some (.ref p),o2,o3,o4,o5,o6,o7,o8,o9,o10,o11])/\Pen G' p) ⟨⟨_,_,_,_,_,_,_,_,_,_,rfl⟩,hp⟩ (λ_ _ _ _=>trivial) ?_ ?_⟩
 ·rintro i d Y G2 hd ⟨⟨o2,o3,o4,o5,o6,o7,o8,o9,o10,o11,rfl⟩,hp2⟩ kk hk;have hi3:i < 3:=by
   have:=(am.mp hd).1;simpa [aW] using this
  have hdi:d=.int (i:Int):=by unfold aW at hd;rw[ax,ez (by simpa using hi3)]at hd;simpa using hd.symm
  subst hdi;obtain ⟨v,m,hv,hm,ev,em,hv3⟩:∃a b:Nat,(1<=a/\a<=6)/\b<=12/\atI [D.int 3,D.int 6,D.int 5] (i:Int)=some (.int (a:Int))/\atI [D.int 8,D.int 10,D.int 12] (i:Int)=some (.int (b:Int))/\(i=0->a=3):=by
   have:i=0\/i=1\/i=2:=by omega
   rcases this with rfl |rfl |rfl
   ·exact ⟨3,8,by decide,by decide,rfl,rfl,λ_=>rfl⟩
   ·exact ⟨6,10,by decide,by decide,rfl,rfl,λh=>by cases h⟩
   ·exact ⟨5,12,by decide,by decide,rfl,rfl,λh=>by cases h⟩
  simp_arith![ends];nofun;erw[F.anew,F.book];refine ae6 hp2 λG3 hp3 _=>?_;refine ⟨by decide,bw ev ⟨by decide,bw em (aeJ hp3 hv.1 hv.2 hm λw rs G4 hb hwv _ hp4 _=>hM _ _ (seq λM hM=>?_))⟩⟩;have e0:∀xs:List Row,ao w xs=.tup [.int w,.tup (xs.map az)]:=λ_=>rfl;have hlen:=hb.len;have hw6:=hb.w6;have okS:okF w (List.replicate w 42):=⟨bS,λc hc=>.inr (.inr (gx hc))⟩;conv=>enter [4,2,2,2,1,1];rw[e0]
  erw[F.forms];refine ag3 hlen (hM _ _ (seq λM hM=>?_));rw[<-e0];erw[F.cnt];refine Q9 hb λq G5 hq gq sa5=>hM _ _ (seq λM hM=>?_);erw[F.hid];refine Rh hb λq2 G6 hq2 gq2 sa6=>hM _ _ (seq λM hM=>?_);erw[ends];refine λr hr=>hM _ _ (seq λM hM=>?_);have hp6:Pen G6 p:=(hp4.sa sa5).sa sa6;have gq6:=sa6 _ _ gq;have hrq:r≠q:=λe=>by rw[e,gq6]at hr;cases hr
  have hrq2:r≠q2:=λe=>by rw[e,gq2]at hr;cases hr
  have hrp:p≠r:=hp6.ne hr;simp_arith![af];refine ⟨by omega,ForG.inv (P:=λj Y G'=>(∃o8 o9,Y=[some (.scr ns),some (.ref p),some (.int (i:Int)),some (ao w rs),some (.lst ((rs.map λx:Row=>x.1).map D.str)),some (.ref q),some (.ref q2),some (.ref r),o8,o9,o10,o11])/\Pen G' p/\G' q=some (.lst (eN w rs))/\G' q2=some (.lst ((eO rs).map nI))/\G' r=some (.lst ((fW rs (jM rs j)).map az)))
   ⟨⟨_,_,rfl⟩,hp6.sa (Sa.new hr),by rw[cO hrq.symm];exact gq6,by rw[cO hrq2.symm];exact gq2,bI⟩ (λ_ _ _ _=>trivial) ?_ ?_⟩
  ·rintro j d Y G7 hd7 ⟨⟨o8,o9,rfl⟩,hp7,g1,g2,g3⟩ kk7 hk7;have hj:j < rs.length:=by
    have:=(am.mp hd7).1;simpa [aW] using this
   have hdj:d=.int (j:Int):=by unfold aW at hd7;rw[ax,ez (by simpa using hj)]at hd7;simpa using hd7.symm
   subst hdj;have hf:=hb.form _ (eU hj);have hah:∀g∈(rs.take j).map λx:Row=>x.1,okF w g:=λg hg=>by
    obtain ⟨x,hx,rfl⟩:=bb.mp hg;exact hb.form x (cK hx)
   have hat:atI ((rs.map λx:Row=>x.1).map D.str) (j:Int)=some (.str (rw0 rs j).1):=bR (by rw[ax,ax,je hj];rfl);have hcut:cut ((rs.map λx:Row=>x.1).map D.str) none (some (j:Int))=((rs.take j).map λx:Row=>x.1).map D.str:=by rw[iR,<-List.map_take,<-List.map_take]
   simp_arith![ends];nofun;erw[F.apt];refine bw hat ?_;rw[hcut];refine Sd hw6 hf hah λG8 sa8=>hM _ _ (seq λM hM=>?_);have ea:apt (rw0 rs j).1 ((rs.take j).map λx:Row=>x.1)=cL rs j (rw0 rs j).1:=rfl;have hal:=pQ hw6 hf hah;rw[ea]at hal ⊢;erw[F.row];refine aha hb hj (sa8 _ _ g1) (sa8 _ _ g2) ?_;erw[ends];ac_nf0;have g38:=sa8 _ _ g3;erw[cU g38];have hcl:=Sy hb j (by omega);refine CompG.inv (P:=λa acc Y G'=>(∃o0,Y=[o0,some (.int (j:Int)),some (ao w rs)])/\G'=G8/\acc=((cL rs j (rw0 rs j).1).take a).map λx=>az (x,(rw0 rs j).2)) ⟨⟨_,rfl⟩,rfl,rfl⟩ (λ_ _ _ _ _=>trivial) (by rw[af];bv_omega) ?_ ?_
   ·rintro a d acc Y G9 hd9 ⟨⟨o0,rfl⟩,rfl,rfl⟩ kk9 hk9;rw[ax]at hd9;obtain ⟨x,hx,rfl⟩:=ar.mp hd9;erw[e0];refine bw (jf hj) ?_;erw[az];refine ⟨by decide,hk9 _ _ _ ⟨⟨_,rfl⟩,rfl,?_⟩⟩;rw[cf,hx,br];rfl
   rintro acc Y G9 ⟨_,rfl,rfl⟩;simp only[cU g38,af,ce];refine ⟨by unfold fW;rw[af];bv_omega,hk7 _ _ ⟨⟨_,_,rfl⟩,(hp7.sa sa8).sb Sb.upd hrp,by rw[cO hrq.symm];exact sa8 _ _ g1,by rw[cO hrq2.symm];exact sa8 _ _ g2,?_⟩⟩;rw[bI,Sw,ahg]
  rintro Y G7 ⟨⟨o8,o9,rfl⟩,hp7,g1,g2,g3⟩;have el:(aW 0 (rs.length:Int).toNat).length=rs.length:=by simp[aW]
  rw[el]at g3;symm;have hall:∀g∈rs.map λx:Row=>x.1,okF w g:=λg hg=>by
   obtain ⟨x,hx,rfl⟩:=bb.mp hg;exact hb.form x hx
  have hnc:=ahh hb;have hal:=pQ hw6 okS hall;conv=>enter [4,2,2,2,1,1];rw[e0]
  erw[F.apt,dr,Qo];refine ⟨by omega,by omega,by bv_omega,Sd hw6 okS hall λG8 sa8=>?_⟩;have hpo:=(pM okS _ hall).1;generalize apt (List.replicate w 42) (rs.map λx:Row=>x.1)=ps at hnc hal hpo ⊢;erw[ends];refine CompG.inv (P:=λa acc Y G'=>(∃o0,Y=[o0])/\G'=G8/\acc=(ps.take a).map λx=>D.int ((2 ^ stc x:Nat):Int)) ⟨⟨_,rfl⟩,rfl,rfl⟩ (λ_ _ _ _ _=>trivial) (by rw[af];bv_omega) ?_ ?_
  ·rintro a d acc Y G9 hd9 ⟨⟨o0,rfl⟩,rfl,rfl⟩ kk9 hk9;rw[ax]at hd9;obtain ⟨x,hx,rfl⟩:=ar.mp hd9;erw[F.how];refine cu rfl (hk9 _ _ _ ⟨⟨_,rfl⟩,rfl,?_⟩);rw[cf,hx,br];rfl
  rintro acc Y G9 ⟨_,rfl,rfl⟩;rw[af,ce];refine bw (Cg _ ps) ?_;rw[Sg,hnc];have g18:=sa8 _ _ g1;have hlast:atI (eN w rs) (-1)=some (.int (ir w rs rs.length:Int)):=by unfold eN tell;rw[fI,br];exact xR
  erw[cY g18];refine bw hlast ?_;erw[BEq.rfl];ac_nf0;rw[<-e0];have hp8:=hp7.sa sa8;have g38:=sa8 _ _ g3;by_cases hi0:i=0
  ·have hw3:w<=3:=by have:=hv3 hi0;omega
   subst hi0;have hst:stc (List.replicate w 42) < 9:=Nat.lt_of_le_of_lt (ww w) (by omega);have hcut:cut [42,42,42] none (some (w:Int))=List.replicate w 42:=by
    rw[iR];have:w=0\/w=1\/w=2\/w=3:=by omega
    rcases this with rfl |rfl |rfl |rfl <;> rfl
   simp_arith![ends];nofun;conv=>enter [4,2,2,2,1,1];rw[e0]
   erw[F.boxes,F.laid];rw[hcut,<-e0];refine Qy hb λd hgr=>?_;obtain ⟨bs,hL⟩:=hgr.lv;have hbl:=hL.len' (by rw[bS];omega);refine Bx hL (by decide) (by rw[bS];omega) hst ?_;erw[lvD];refine CompG.inv (P:=λa acc Y G'=>(∃o0 o1,Y=[o0,o1])/\G'=G9/\acc=(iu rs (bs.take a)).map λx=>D.tup [.str x.1,.int (x.2:Nat)]) ⟨⟨_,_,rfl⟩,rfl,rfl⟩ (λ_ _ _ _ _=>trivial) (by rw[af];bv_omega) ?_ ?_
   ·rintro a d acc Y G' hd9 ⟨⟨o0,o1,rfl⟩,rfl,rfl⟩ kk9 hk9;rw[ax]at hd9;obtain ⟨x,hx,rfl⟩:=ar.mp hd9;have et:iu rs (bs.take (a+1))=iu rs (bs.take a)++((aM rs x).map λk=>(x,k)).toList:=by
     unfold iu;rw[cf,hx,List.filterMap_append,Option.toList_some];cases hh:aM rs x with
     |none=>rw[List.filterMap_cons_none (by rw[hh];rfl)];rfl
     |some k=>rw[List.filterMap_cons_some (b:=(x,k)) (by rw[hh];rfl)];rfl
    erw[gA,iZ,bp,d6];cases htc:aM rs x with
    |none=>
     rw[htc]at et;erw[aU,fZ];refine hk9 none _ _ ⟨⟨_,_,rfl⟩,rfl,?_⟩;rw[et,br];rfl
    |some k=>
     rw[htc]at et;erw[aU,fZ];refine ⟨by decide,hk9 (some _) _ _ ⟨⟨_,_,rfl⟩,rfl,?_⟩⟩;rw[et,br];rfl
   rintro acc Y G' ⟨_,rfl,rfl⟩;rw[af,ce];have hc2:=agW hb hL;have hc1:=agV hb;have hl2:(iu rs bs).length<=4096:=cp (List.length_filterMap_le _ _) hbl;symm;erw[ends];refine CompG.inv (P:=λa acc Y G2=>(∃o0 o1,Y=[o0,o1,some (ao w rs)])/\G2=G'/\acc=(fW rs ((iu rs bs).take a)).map az) ⟨⟨_,_,rfl⟩,rfl,rfl⟩ (λ_ _ _ _ _=>trivial) (by rw[af];bv_omega) ?_ ?_
   ·rintro a d acc Y G2 hd9 ⟨⟨o0,o1,rfl⟩,rfl,rfl⟩ kk9 hk9;rw[ax]at hd9;obtain ⟨⟨x,k⟩,hx,rfl⟩:=ar.mp hd9;have hkl:=(hc2.one _ (ba hx)).2.1;dsimp only at hkl;erw[e0];refine bw (jf hkl) ?_;erw[az];refine ⟨by decide,hk9 _ _ _ ⟨⟨_,_,rfl⟩,rfl,?_⟩⟩;unfold fW;rw[cf,hx,br,br];rfl
   rintro acc Y G2 ⟨_,rfl,rfl⟩;rw[af,ce];ac_nf0;conv=>enter [4,2,2,2,1,1];rw[e0]
   erw[F.flat,cY g38];refine ⟨by decide,Sv hb (hc1.flt hb hw3) λG3 sa3=>?_⟩;erw[ends];refine ⟨by decide,Sv hb (hc2.flt hb hw3) λG4 sa4=>?_⟩;erw[ends];exact hk _ _ ⟨⟨_,_,_,_,_,_,_,_,_,_,rfl⟩,(hp8.sa sa3).sa sa4⟩
  ·have hne:((i:Int)==0)=false:=by simpa using (λh=>hi0 (by omega))
   erw[hne];exact hk _ _ ⟨⟨_,_,_,_,_,_,_,_,_,_,rfl⟩,hp8⟩
 ·rintro Y G2 ⟨_,hp2⟩;ac_nf0;erw[ends]
end RF
namespace HD
open PySem PySem.W
def sv(x:Str)(t:Nat):Value:=.str x t
def ri(n:Nat):Value:=.int n 0
def jh (l:List Value):Obj:=⟨.type "tuple",none,.seq ⟨l⟩ 0,⟨[]⟩⟩
def gF(c:Value)(l:List Value):Obj:=⟨c,none,.fields ⟨l⟩,⟨[]⟩⟩
def pR:Str:="/claim/cut.py"
def CN(n q:Str)(ln ac fl a b:Nat)(isf:Bool)(l1 l2 tm:Value)(t t2:Nat):Obj:=
 gF (.type "code") [sv n t,sv q (t+1),sv pR (t+2),ri ln,ri ac,ri 0,ri 0,ri fl,.ref a,.bool isf,ri 181,.ref b,.none,l1,l2,tm,ri t2,ri ln,sv pR (t2+1)]
def toks(t:Nat):List Str->List Value
 |[]=>[]
 |x::r=>sv x t::toks (t+1) r
def fdO(n q:Str)(p:Arguments)(b:List Stmt)(sc:Scope)(g:Nat)(md cd:Value):Data:=
 .func { name:=n,qualname:=q,params:=p,body:=.stmts b,scope:=sc,globals:=g,closure:=[],defaults:=.none,kwdefaults:=.none,pyModule:=md,code:=cd }
def enO(P:Params)(k:Str)(t:Nat)(v:Value):DictEntry:={ hash:=PyData.keyHash P k,key:=sv k t,val:=v }
def pU (l:List DictEntry) (e:Nat):Obj:=⟨.type "dict",none,.dict ⟨l⟩ e,⟨[]⟩⟩
def frO (c l:Nat) (md:Value):Obj:=⟨.type "frame",none,.plain,⟨[some (.ref c),some (.ref 3),some (.ref l),none,some md,none,some (.ref 0)]⟩⟩
def bfO (s:String) (v:Value):Obj:=gF (.type "builtin_function_or_method") [.builtin s,v]
def veM:List Value:=[.type "ValueError",.type "Exception",.type "BaseException",.type "object"]
def wY (b:Expr):Bool:=match b with |.Name n _=>n==("ValueError":Str) |_=>false
def fnO(q:Str)(a t:Nat)(md:Value)(n:Str)(p:Arguments)(b:List Stmt)(sc:Scope)(ln:Nat):List Obj:=match localNames p sc (.stmts b) with
 |some l=>[jh [],gF .none [],jh (toks (t+3) l.1),jh [],⟨.none,none,fdO n q p b sc 0 .none .none,⟨[]⟩⟩,
   CN n q ln p.args.length 3 a (a+1) true (.ref (a+2)) (.ref (a+3)) (.ref (a+4)) t (t+3+l.1.length),⟨.type "function",none,fdO n q p b sc 3 md (.ref (a+5)),⟨[]⟩⟩]
 |none=>[jh [],gF .none [],⟨.none,none,fdO n q p b sc 0 .none .none,⟨[]⟩⟩,
   CN n q ln p.args.length 3 a (a+1) true .none .none (.ref (a+2)) t (t+3),⟨.type "function",none,fdO n q p b sc 3 md (.ref (a+3)),⟨[]⟩⟩]
def fnA(p:Arguments)(b:List Stmt)(sc:Scope):Nat:=match localNames p sc (.stmts b) with |some _=>7 |none=>5
def fnT(p:Arguments)(b:List Stmt)(sc:Scope):Nat:=match localNames p sc (.stmts b) with |some l=>l.1.length+5 |none=>5
def dot:Str:="."
structure MO where
 os:List Obj
 es:List DictEntry
 cs:List Value
 a:Nat
 t:Nat
def wZ(P:Params)(c:Str)(md:Value):List Stmt->Nat->Nat->MO
 |.FunctionDef n p b _ _ _ sc _ _ pos::r,a,t=>
  let m:=wZ P c md r (a+fnA p b sc) (t+fnT p b sc+1)
  ⟨fnO (c++dot++n) a t md n p b sc pos.line++m.os,enO P n (t+fnT p b sc) (.ref (a+fnA p b sc - 1))::m.es,ri pos.line::ri pos.col::.ref (a+fnA p b sc - 2)::m.cs,m.a,m.t⟩
 |_::r,a,t=>wZ P c md r a t
 |[],a,t=>⟨[],[],[],a,t⟩
def clA(P:Params)(a:Nat)(b:List Stmt):Nat:=(wZ P dot .none b (a+7) 0).a+2
def stO(P:Params)(r:Nat)(sub:List Value)(a t:Nat)(md:Value)(s:Stmt):List Obj:=match s with
 |.FunctionDef n p b _ _ _ sc _ _ pos=>fnO n a t md n p b sc pos.line
 |.ClassDef n bs _ body _ _ _ _ _ st pos=>
  let m:=wZ P n md body (a+7) (t+12)
  let c:=m.a+2
  let u:=m.t+st.length
  let d1:=[enO P "__module__" (t+7) md]
  let d2:=enO P "__firstlineno__" (t+11) (.int pos.line (t+10))::m.es++[enO P "__static_attributes__" u (.ref m.a)]
  let b:List Value:=match bs with |b::_=>(match wY b with |true=>[.type "ValueError"] |false=>[.ref r]) |[]=>[]
  let own:Bool:=match bs with |[]=>true |_=>false
  let ve:Bool:=match bs with |b::_=>wY b |[]=>false
  let wr (v:Nat):Obj:=gF (.type "getset_descriptor") [sv "__weakref__" v,.ref c,.builtin "ExceptionGroup.__weakref__",.none]
  let typ (mro:List Value) (sub:List Value) (nw:String):Obj:=
   ⟨.type "type",none,.cls { name:=n,bases:=(match own with |true=>[.type "object"] |false=>b),mro:=.ref c::mro,ns:=m.a+1,qualname:=n,subclasses:=sub },
    ⟨[(match own with |true=>none |false=>some (.ref a)),none,some (sv n t),some (sv n (t+8)),some (.builtin nw),some (.bool true)]⟩⟩
  [jh b,bfO "type.__prepare__" (.type "type"),pU (d1++enO P "__qualname__" (t+9) (sv n (t+8))::d2) (4+m.es.length),jh [],gF .none m.cs,
   CN n n pos.line 0 0 (a+3) (a+4) false .none .none .none (t+2) (t+5),frO (a+5) (a+2) md]++m.os++[jh (toks m.t st)] ++
  (match own with
  |true=>[pU (d1++d2++[enO P "__dict__" (u+2) (.ref (c+1)),enO P "__weakref__" (u+4) (.ref (c+2)),enO P "__doc__" (u+5) .none]) 4,typ [.type "object"] [] "object.__new__",
    gF (.type "getset_descriptor") [sv "__dict__" (u+1),.ref c,.builtin "function.__dict__",.builtin "function.__dict__#set"],wr (u+3)]
  |false=>(match ve with
   |true=>[pU (d1++d2++[enO P "__weakref__" (u+2) (.ref (c+1)),enO P "__doc__" (u+3) .none]) 3,typ veM sub "ValueError.__new__",wr (u+1)]
   |false=>[pU (d1++d2++[enO P "__doc__" (u+1) .none]) 2,typ (.ref r::veM) [] "ValueError.__new__"])) ++
  [gF (.type "super") [.ref c,.ref c,.ref c],bfO "object.__init_subclass__" (.ref c)]
 |_=>[]
def mdO(t:Nat)(md:Value)(s:Stmt):Value:=match s with
 |.Assign [.Name n _] (.Constant (.str x) _ _) _=>(match n==("__name__":Str) with |true=>sv x t |false=>md)
 |_=>md
def enS(P:Params)(lk:Str->Value)(t u a a':Nat)(s:Stmt):List DictEntry:=match s with
 |.Assign [.Name n _] (.Name y _) _=>[enO P n t (lk y)]
 |.FunctionDef n _ _ _ _ _ _ _ _ _=>[enO P n (u-1) (.ref (a'-1))]
 |.ClassDef n _ _ b _ _ _ _ _ _ _=>[enO P n (u-1) (.ref (clA P a b))]
 |.Assign [.Name n _] (.Constant c _ _) _=>(match n==("__name__":Str) with
  |true=>[]
  |false=>[enO P n (t+1) (match c with |.int i=>.int i t |.str x=>sv x t |_=>.none)])
 |_=>[]
def fnS(a':Nat)(s:Stmt):List (Str×Value):=match s with
 |.FunctionDef n _ _ _ _ _ _ _ _ _=>[(n,.ref (a'-1))]
 |_=>[]
def cdS(a a':Nat)(s:Stmt):List Value:=match s with
 |.FunctionDef _ _ _ _ _ _ _ _ _ pos=>[ri pos.line,ri pos.col,.ref (a'-2)]
 |.ClassDef _ _ _ _ _ _ _ _ _ _ pos=>[ri pos.line,ri pos.col,.ref (a+5)]
 |_=>[]
def sbS(P:Params)(a:Nat)(s:Stmt):List Value:=match s with
 |.ClassDef _ bs _ b0 _ _ _ _ _ _ _=>(match bs with |b::_=>(match wY b with |true=>[] |false=>[.ref (clA P a b0)]) |[]=>[])
 |_=>[]
def ahj(P:Params)(a:Nat)(s:Stmt):List Nat:=match s with
 |.ClassDef _ bs _ b0 _ _ _ _ _ _ _=>(match bs with |b::_=>(match wY b with |true=>[clA P a b0] |false=>[]) |[]=>[])
 |_=>[]
def fold{α:Type}(f:Nat->Nat->Nat->Nat->Value->Stmt->List α):List (Nat×Nat)->Value->List Stmt->List α
 | (a,t)::(a',u)::r,md,s::ss=>f a a' t u md s++fold f ((a',u)::r) (mdO t md s) ss
 |_,_,_=>[]
def SJ:List (Nat×Nat)->Value->List Stmt->Value
 | (_,t)::r,md,s::ss=>SJ r (mdO t md s) ss
 |_,md,_=>md
def ji:Value:=sv "__main__" 164
def ahk(P:Params)(v:Value):List DictEntry:=
 [enO P "__name__" 165 v,enO P "__doc__" 166 .none,enO P "__package__" 167 .none,enO P "__loader__" 168 (.builtin "__main__.__loader__#opaque"),enO P "__spec__" 169 .none,
  enO P "__annotations__" 170 (.ref 6),enO P "__builtins__" 171 (.ref 4),enO P "__file__" 173 (sv pR 172),enO P "__cached__" 174 .none]
def ents(N:List (Nat×Nat))(b:List Stmt)(P:Params):List DictEntry:=ahk P (SJ N ji b)++fold (λa a' t u _ s=>enS P (λy=>((fold (λ_ a' _ _ _ s=>fnS a' s) N ji b).lookup y).getD .none) t u a a' s) N ji b
def put{α:Type}:Nat->α->List α->List α
 |_,_,[]=>[]
 |0,x,_::r=>x::r
 |n+1,x,y::r=>y::put n x r
def SM(cs:List Value):List Obj:=[jh [],gF .none cs,
 gF (.type "code") [sv "<module>" 182,sv "<module>" 183,sv pR 184,ri 1,ri 0,ri 0,ri 0,ri 0,.ref 11,.bool false,ri 181,.ref 12,.none,.none,.none,.none,ri 185,ri 1,sv pR 186],frO 13 3 ji]
def ahl(B:List Obj):List Obj:=B++SM []
def objs(B:List Obj)(N:List (Nat×Nat))(b:List Stmt)(P:Params):List Obj:=
 let es:=ents N b P
 put 3 (pU es es.length) (B++SM (fold (λa a' _ _ _ s=>cdS a a' s) N ji b) ++
  fold (λa _ t _ md s=>stO P ((fold (λa _ _ _ _ s=>ahj P a s) N ji b).headD 0) (fold (λa _ _ _ _ s=>sbS P a s) N ji b) a t md s) N ji b)
def evs{α:Type}:List α->List α
 |[]=>[]
 |[x]=>[x]
 |x::_::r=>x::evs r
def bt:Nat->List Obj->BT
 |0,_=>.nil
 |_,[]=>.nil
 |n+1,x::r=>.node x (bt n (evs r)) (bt n (evs r.tail))
def nameless(s:Stmt):Bool:=match s with
 |.Assign [.Name n _] _ _=>!(n==("__name__":Str))
 |_=>true
def pick:Nat->List Nat->List Obj->Frag
 |i,a::r,o::os=>(match Nat.beq a i with |true=>(a,o)::pick (i+1) r os |false=>pick (i+1) (a::r) os)
 |_,_,_=>[]
end HD
def PySem.W.Fast.tw13592776611787112782:PySem.Program:=PySem.Challenge.pw_starsieve_k84_whole_boxes_apart
theorem PySem.W.Fast.te13592776611787112782:PySem.Challenge.pw_starsieve_k84_whole_boxes_apart=PySem.W.Fast.tw13592776611787112782:=rfl
namespace HK
open PySem PySem.W PySem.W.Fast
def pw:Program:=PySem.Challenge.pw_starsieve_k84_whole_boxes_apart
def rl:OpenLaw:=PySem.Challenge.rw_starsieve_k84_whole_boxes_apart
def NN:List (Nat×Nat):=[(15,187),(15,189),(15,191),(22,198),(29,205),(36,213),(41,219),(48,227),(55,235),(60,241),(67,249),(74,258),(81,269),(86,275),(93,287),(100,296),(107,303),(107,305),(120,323),(132,339),(144,355),(156,371),(168,387),(168,389),(168,391),(168,393),(168,395),(173,401),(180,409),(185,415),(192,422),(199,430),(206,438),(213,450),(220,458),(220,460),(227,467),(234,476),(241,487),(248,497),(255,508),(260,514),(267,523),(272,529),(272,531),(279,540),(284,546),(291,556),(291,558),(298,568),(305,578),(312,587),(312,589),(319,603),(324,609),(331,620),(338,629),(345,638),(345,640),(352,648),(359,658),(359,660),(364,666),(369,672),(369,674),(376,685),(383,695),(390,702),(397,713),(402,719),(409,727),(416,737),(423,747),(430,759),(435,765),(442,779),(449,789),(454,795),(461,807),(466,813),(471,819),(476,825)]
def L1(P:Params):List Obj:=HD.objs (boot_heap P).objs.toList NN pw.main.body P
def H1(P:Params):Heap:=⟨⟨L1 P⟩,{}⟩
def T1(P:Params):BT:=HD.bt 12 (L1 P)
def LA(P:Params):List Obj:=HD.ahl (boot_heap P).objs.toList
def HA(P:Params):Heap:=⟨⟨LA P⟩,{}⟩
def T0(P:Params):BT:=HD.bt 5 (LA P)
def env:Env:={ scope:=pw.main.scope,locals:=mainNs,globals:=mainNs,cells:=[],code:=.ref 13,frame:=some 14 }
def bE:List Stmt:=behindTheImports pw
def cE:Code:=.body bE env
def p0:Pos:=⟨0,0,0,0⟩
def B:List Frame:=[topFrame p0]
def ann:Option Value:=some (.ref 6)
def qv:Program:={ pw with main:={ pw.main with body:=pw.main.body.filter HD.nameless } }
def as:List Nat:=[3,20,21,27,28,34,35,39,40,46,47,53,54,58,59,65,66,72,73,79,80,84,85,91,92,98,99,105,106,115,116,128,129,140,141,152,153,164,165,171,172,178,179,183,184,190,191,197,198,204,205,211,212,218,219,225,226,232,233,239,240,246,247,253,254,258,259,265,266,270,271,277,278,282,283,289,290,296,297,303,304,310,311,317,318,322,323,329,330,336,337,343,344,350,351,357,358,362,363,367,368,374,375,381,382,388,389,395,396,400,401,407,408,414,415,421,422,428,429,433,434,440,441,447,448,452,453,459,460,464,465,469,470,474,475]
def K(P:Params):Frag:=HD.pick 0 as (L1 P)
def Xt(s:Shared):Bool:=xlAt qv [] s&&recOk (RowW.records rl.row.toRowW) s
def see{α:Type}(_:α):Bool:=true
theorem primed:(see T1&&see T0&&see H1&&see HA&&see cE&&see B&&see env&&see bE&&see qv&&see K&&see Xt)=true:=by k_qdec
theorem pre(w:World)(os:OsState):topGo treeTable pw w 11 ann 12 ⟨boot_heap w.params,⟨[]⟩,boot_drawn,boot_toks,os⟩ (topStub pw)=some (⟨HA w.params,⟨[]⟩,{},187,os⟩,⟨denote treeTable cE,cE,p0,B⟩):=by have _:=primed;rw[PySem.W.Fast.te15667345088766844465,PySem.W.Fast.te14364793385576792824,PySem.W.Fast.te1032975242618825031,PySem.W.Fast.te8093259214132618727,PySem.W.Fast.te1718297227530528222,PySem.W.Fast.te11892475500146522536];rfl'
theorem block(w:World)(os:OsState):segRun treeTable pw w 11 ann 1 2 ⟨HA w.params,⟨[]⟩,{},187,os⟩ (blockOf bE env cE p0 B)=some (.next,SharedT.abs ⟨T0 w.params,15,{},⟨[]⟩,{},187,os⟩,cE,p0):=by rw[PySem.W.Fast.te14374325043358763698,PySem.W.Fast.te14364793385576792824,PySem.W.Fast.te1032975242618825031,PySem.W.Fast.te8093259214132618727,PySem.W.Fast.te1718297227530528222,PySem.W.Fast.te14938417808399470215,PySem.W.Fast.te16330338443398637341,PySem.W.Fast.te10239294469119128424];rfl'
theorem piece(w:World)(os:OsState):segRunT treeTable pw w 11 ann 1 9000 ⟨T0 w.params,15,{},⟨[]⟩,{},187,os⟩ (piecesOf bE env cE p0 B)=some (.next,⟨T1 w.params,476,{},⟨[]⟩,{},825,os⟩,cE,⟨366,0,386,15⟩):=by rw[PySem.W.Fast.te10110043849684766642,PySem.W.Fast.te14364793385576792824,PySem.W.Fast.te1032975242618825031,PySem.W.Fast.te13069687644243786066,PySem.W.Fast.te14938417808399470215,PySem.W.Fast.te1718297227530528222,PySem.W.Fast.te16330338443398637341,PySem.W.Fast.te10239294469119128424];rfl'
theorem fin(w:World)(os:OsState):topRun treeTable pw w 11 ann 3 (SharedT.abs ⟨T1 w.params,476,{},⟨[]⟩,{},825,os⟩) ⟨doneF .next,cE,⟨366,0,386,15⟩,B⟩=some ⟨H1 w.params,⟨[]⟩,{},825,os⟩:=by rw[PySem.W.Fast.te14082659384304107361,PySem.W.Fast.te14364793385576792824,PySem.W.Fast.te1032975242618825031,PySem.W.Fast.te13069687644243786066,PySem.W.Fast.te1718297227530528222,PySem.W.Fast.te14158929756966004236];rfl'
theorem run(w:World)(os:OsState):topRun treeTable pw w 11 ann (12+(2+(9000+3))) ⟨boot_heap w.params,⟨[]⟩,boot_drawn,boot_toks,os⟩ (topStub pw)=some ⟨H1 w.params,⟨[]⟩,{},825,os⟩:=by refine go_top (pre w os) (piece_block (block w os) ?_);have h:=piece_app (rest:=[]) (segRun_of (piece w os)) (piece_nil (fin w os));rw[List.append_nil]at h;exact h
theorem size (w:World):((boot_heap w.params).isNs mainGlobals&&(Array.mk []:Array GenState).size==0,(boot_heap w.params).objs.size,(boot_heap w.params).nsMap mainGlobals "__annotations__")=(true,11,ann):=by rfl'
theorem ahm(w:World)(os:OsState):(staticsOk (importedModules pw.main.body) (boot_heap w.params) (H1 w.params)&&namesBound pw (H1 w.params)&&gensDone ⟨H1 w.params,⟨[]⟩,{},825,os⟩&&laidKept (boot_heap w.params) (H1 w.params))=true:=by rw[PySem.W.Fast.te1032975242618825031,PySem.W.Fast.te14158929756966004236,PySem.W.Fast.te5923862056798008813];rfl'
theorem ahn(w:World)(os:OsState):openSeen qv [] (importedModules pw.main.body) Xt true ⟨H1 w.params,⟨[]⟩,{},825,os⟩=openGood qv []:=by rw[PySem.W.Fast.te1032975242618825031,PySem.W.Fast.te14158929756966004236,PySem.W.Fast.te5923862056798008813,PySem.W.Fast.te3994408356199485718,PySem.W.Fast.te3154452736318265832,PySem.W.Fast.te4187177175401517315];rfl'
theorem aho(w:World):as.map (H1 w.params).get?=(K w.params).map (λp=>some p.2):=by rw[PySem.W.Fast.te14158929756966004236,PySem.W.Fast.te538113369711794958];rfl'
theorem eAs(P:Params):as=(K P).map (·.1):=by rw[PySem.W.Fast.te538113369711794958];rfl'
def hook:Hook:=kHook K as eAs
theorem left:LeftO pw qv [] Xt hook.obs hook.val 12000:=by refine LeftO.of_pieces (boot_open (by rfl') (by decide) (λs=>by rfl')) size run (by decide) λw=>funext λos=>?_;exact Prod.ext (ahm w os) (Prod.ext (ahn w os) (aho w))
end HK
namespace Lk84
open PySem PySem.Spec PyProof.Rows L2 RF
open PySem.W (mg_of mg_none_of)
def Z:aj:=λf=>if f="_law_anew" then vW else if f="both" then aH iW else if f="with_sign" then aH fO else if f="rest" then wB else if f="_law_apart" then wV else if f="_law_spread" then vV else if f="_law_take" then gw else if f="_law_signs" then oG else if f="_law_deeds_of" then vY else if f="_law_form" then Ax else if f="_law_wider" then jE else if f="_law_within" then jE else if f="_law_form_like" then vX else if f="_law_book" then vZ else if f="_law_boxes" then gB 9 else if f="first_touching" then oK else if f="splitting_place" then wu else if f="grown" then eF 9 else if f="least" then aH jc else if f="is_named" then aH ik else if f="is_whole" then aH jD else if f="is_place" then aH gC else if f="leaves" then dR 9 else if f="is_deed" then Bj else if f="is_text_of" then v6 else if f="is_form" then Bh else if f="is_row" then Bk else if f="is_width" then Bl else if f="is_book" then v8 else if f="need_book" then fM else if f="need_two_books" then wH else if f="deed_of" then wk else if f="same_deeds" then sSD else if f="stars" then aH fP else if f="alike" then lz else if f="how_many" then aH jb else if f="laid" then oR else if f="counts" then oY else if f="need_row" then oZ else if f="reach" then ph else if f="hidden" then pq else if f="without" then sWo else if f="needless" then wK else if f="lean" then pF else if f="exchanged" then sEx else if f="parting_word" then pI else if f="may_swap" then wR else if f="fits" then aH kZ else if f="lies_in" then aH lw else if f="joined" then aH lB else if f="joined_book" then sJB else if f="candidates" then wM else if f="first_joined" then sFJ else if f="all_joined" then sAJ else if f="press" then wO else if f="_law_flat_right" then wX else if f="_law_forms" then wU else if f="_law_open" then Ay else if f="is_word" then v7 else if f="met" then v9 else if f="_law_row_right" then wW else if f="law" then oH else bV (λ_ _=>False) (λ_ _ _ _=>False)
def SN:Z "_law_anew"=vW:=by rfl'
def w5:Z "both"=aH iW:=by rfl'
def pW:Z "with_sign"=aH fO:=by rfl'
def SQ:Z "rest"=wB:=by rfl'
def SX:Z "_law_apart"=wV:=by rfl'
def S5:Z "_law_spread"=vV:=by rfl'
def jj:Z "_law_take"=gw:=by rfl'
def CP:Z "_law_signs"=oG:=by rfl'
def S6:Z "_law_deeds_of"=vY:=by rfl'
def S7:Z "_law_form"=Ax:=by rfl'
def S8:Z "_law_wider"=jE:=by rfl'
def S9:Z "_law_within"=jE:=by rfl'
def Tc:Z "_law_form_like"=vX:=by rfl'
def Td:Z "_law_book"=vZ:=by rfl'
def Te:Z "_law_boxes"=gB 9:=by rfl'
def CQ:Z "first_touching"=oK:=by rfl'
def Tf:Z "splitting_place"=wu:=by rfl'
def xf:Z "grown"=eF 9:=by rfl'
def xg:Z "least"=aH jc:=by rfl'
def Th:Z "is_named"=aH ik:=by rfl'
def CW:Z "is_whole"=aH jD:=by rfl'
def xj:Z "is_place"=aH gC:=by rfl'
def xm:Z "leaves"=dR 9:=by rfl'
def Ti:Z "is_deed"=Bj:=by rfl'
def CZ:Z "is_text_of"=v6:=by rfl'
def Tj:Z "is_form"=Bh:=by rfl'
def Tn:Z "is_row"=Bk:=by rfl'
def Tp:Z "is_width"=Bl:=by rfl'
def Dc:Z "is_book"=v8:=by rfl'
def iw:Z "need_book"=fM:=by rfl'
def Tq:Z "need_two_books"=wH:=by rfl'
def Tt:Z "deed_of"=wk:=by rfl'
def Tu:Z "same_deeds"=sSD:=by rfl'
def xn:Z "stars"=aH fP:=by rfl'
def xq:Z "alike"=lz:=by rfl'
def pX:Z "how_many"=aH jb:=by rfl'
def Dd:Z "laid"=oR:=by rfl'
def De:Z "counts"=oY:=by rfl'
def Df:Z "need_row"=oZ:=by rfl'
def Dg:Z "reach"=ph:=by rfl'
def Dh:Z "hidden"=pq:=by rfl'
def xr:Z "without"=sWo:=by rfl'
def Tv:Z "needless"=wK:=by rfl'
def Di:Z "lean"=pF:=by rfl'
def Tw:Z "exchanged"=sEx:=by rfl'
def Dj:Z "parting_word"=pI:=by rfl'
def Tz:Z "may_swap"=wR:=by rfl'
def Dk:Z "fits"=aH kZ:=by rfl'
def TF:Z "lies_in"=aH lw:=by rfl'
def TQ:Z "joined"=aH lB:=by rfl'
def TV:Z "joined_book"=sJB:=by rfl'
def TX:Z "candidates"=wM:=by rfl'
def TY:Z "first_joined"=sFJ:=by rfl'
def T3:Z "all_joined"=sAJ:=by rfl'
def T4:Z "press"=wO:=by rfl'
def T5:Z "_law_flat_right"=wX:=by rfl'
def T6:Z "_law_forms"=wU:=by rfl'
def T7:Z "_law_open"=Ay:=by rfl'
def T8:Z "is_word"=v7:=by rfl'
def T9:Z "met"=v9:=by rfl'
def Ua:Z "_law_row_right"=wW:=by rfl'
def bt:List String:=["all","bool","enumerate","int","isinstance","len","list","min","range","reversed","str","sum","tuple","zip"]
def cn:List (String×D):=[("LETTERS",(.str [97,98,99,100,101,102,103,104,105,106,107,108,109,110,111,112,113,114,115,116,117,118,119,120,121,122])),("LONGEST_DEED",(.int 8)),("MOST_ROWS",(.int 12)),("WIDEST",(.int 6))]
def xs:List (String×Bool):=[("NoBook",true),("NoMatch",true),("NoWord",true),("NoRow",true)]
abbrev CK:=λN s f o b=>aC (aG N (aq s) f bt cn xs o) b (aF s)=true
abbrev BB:=λ(l:PySem.W.OpenLaw) (w:World) (mg:Str->Option Value) (base:Heap) k f o=>Bse Z l.prog w (HK.K w.params) mg base (CX1 l.prog w) k f bt cn xs o
abbrev NQ:=λP (s:Str) (n:Nat)=>PySem.W.nsIn (HK.K P) mainGlobals s=some (some (.ref n))
abbrev BQ:=λP fd ps=>Binds (HK.K P) fd ps []
abbrev LN:Str:="law_starsieve_k84_whole_boxes_apart"
def f0:List (String×Nat):=[]
def f1:=("_law_anew",1)::f0
def f2:=("both",2)::f1
def f3:=("with_sign",3)::f2
def f4:=("rest",2)::f3
def f5:=("_law_apart",2)::f4
def f6:=("_law_spread",2)::f5
def f7:=("_law_take",2)::f6
def f8:=("_law_signs",3)::f7
def f9:=("_law_deeds_of",2)::f8
def f10:=("_law_form",2)::f9
def f11:=("_law_wider",2)::f10
def f12:=("_law_within",2)::f11
def f13:=("_law_form_like",3)::f12
def f14:=("_law_book",3)::f13
def f15:=("_law_boxes",2)::f14
def f16:=("first_touching",2)::f15
def f17:=("splitting_place",2)::f16
def f18:=("grown",3)::f17
def f19:=("least",1)::f18
def f20:=("is_named",3)::f19
def f21:=("is_whole",1)::f20
def f22:=("is_place",2)::f21
def f23:=("leaves",2)::f22
def f24:=("is_deed",1)::f23
def f25:=("is_text_of",3)::f24
def f26:=("is_form",2)::f25
def f27:=("is_row",2)::f26
def f28:=("is_width",1)::f27
def f29:=("is_book",1)::f28
def f30:=("need_book",1)::f29
def f31:=("need_two_books",2)::f30
def f32:=("deed_of",2)::f31
def f33:=("same_deeds",3)::f32
def f34:=("stars",1)::f33
def f35:=("alike",2)::f34
def f36:=("how_many",1)::f35
def f37:=("laid",1)::f36
def f38:=("counts",1)::f37
def f39:=("need_row",2)::f38
def f40:=("reach",2)::f39
def f41:=("hidden",1)::f40
def f42:=("without",2)::f41
def f43:=("needless",2)::f42
def f44:=("lean",1)::f43
def f45:=("exchanged",2)::f44
def f46:=("parting_word",2)::f45
def f47:=("may_swap",2)::f46
def f48:=("fits",2)::f47
def f49:=("lies_in",2)::f48
def f50:=("joined",2)::f49
def f51:=("joined_book",4)::f50
def f52:=("candidates",1)::f51
def f53:=("first_joined",1)::f52
def f54:=("all_joined",1)::f53
def f55:=("press",1)::f54
def f56:=("_law_flat_right",2)::f55
def f57:=("_law_forms",1)::f56
def f58:=("_law_open",1)::f57
def f59:=("is_word",2)::f58
def f60:=("met",2)::f59
def f61:=("_law_row_right",5)::f60
def S(i:Nat):Stmt:=HK.pw.main.body.getD i (.Pass ⟨0,0,0,0⟩)
def pY:Stmt:=S 66
theorem ahp:fnB ["pen"] ["pen"] (aq pY)=true:=by ac_rfl
theorem ahq:CK ["pen"] pY f0 {} Ac:=by ac_rfl
def pZ:Stmt:=S 11
theorem ahr:fnB ["form","other","shared","one","two"] ["form","other"] (aq pZ)=true:=by ac_rfl
theorem ahs:CK ["form","other","shared","one","two"] pZ f1 {} mK:=by ac_rfl
def p6:Stmt:=S 10
theorem aht:fnB ["form","at","sign"] ["form","at","sign"] (aq p6)=true:=by ac_rfl
theorem ahu:CK ["form","at","sign"] p6 f2 {} mL:=by ac_rfl
def p7:Stmt:=S 13
theorem ahv:fnB ["form","other","parts","box","at","sign"] ["form","other"] (aq p7)=true:=by ac_rfl
theorem ahw:CK ["form","other","parts","box","at","sign"] p7 f3 {} mO:=by ac_rfl
def p8:Stmt:=S 77
theorem ahx:fnB ["form","ahead","found","other","left","piece"] ["form","ahead"] (aq p8)=true:=by ac_rfl
theorem ahy:CK ["form","ahead","found","other","left","piece"] p8 f4 {} Ad:=by ac_rfl
def qb:Stmt:=S 64
theorem ahz:fnB ["cell","at","one","two","three"] ["cell","at"] (aq qb)=true:=by ac_rfl
theorem ahA:CK ["cell","at","one","two","three"] qb f5 {} Ae:=by ac_rfl
def qd:Stmt:=S 67
theorem ahB:fnB ["pen","many","at","cell","found"] ["pen","many"] (aq qd)=true:=by ac_rfl
theorem ahC:CK ["pen","many","at","cell","found"] qd f6 {} Af:=by ac_rfl
def qe:Stmt:=S 68
theorem ahD:fnB ["pen","width","signs"] ["pen","width","signs"] (aq qe)=true:=by ac_rfl
theorem ahE:CK ["pen","width","signs"] qe f7 {} Ag:=by ac_rfl
def qg:Stmt:=S 73
theorem ahF:fnB ["pen","most","some","turn","found","letters"] ["pen","most"] (aq qg)=true:=by ac_rfl
theorem ahG:CK ["pen","most","some","turn","found","letters"] qg f8 {} Ah:=by ac_rfl
def qi:Stmt:=S 69
theorem ahH:fnB ["pen","width"] ["pen","width"] (aq qi)=true:=by ac_rfl
theorem ahI:CK ["pen","width"] qi f9 {} Ai:=by ac_rfl
def qj:Stmt:=S 71
theorem ahJ:fnB ["pen","form","found","sign"] ["pen","form"] (aq qj)=true:=by ac_rfl
theorem ahK:CK ["pen","form","found","sign"] qj f10 {} Aj:=by ac_rfl
def ql:Stmt:=S 70
theorem ahL:fnB ["pen","form","found","sign"] ["pen","form"] (aq ql)=true:=by ac_rfl
theorem ahM:CK ["pen","form","found","sign"] ql f11 {} Ak:=by ac_rfl
def qm:Stmt:=S 72
theorem ahN:fnB ["pen","width","forms","kind","form","at"] ["pen","width","forms"] (aq qm)=true:=by ac_rfl
theorem ahO:CK ["pen","width","forms","kind","form","at"] qm f12 {} Al:=by ac_rfl
def qp:Stmt:=S 74
theorem ahP:fnB ["pen","widest","most","width","deeds","forms","rows","k"] ["pen","widest","most"] (aq qp)=true:=by ac_rfl
theorem ahQ:CK ["pen","widest","most","width","deeds","forms","rows","k"] qp f13 {} Am:=by ac_rfl
def qt:Stmt:=S 75
theorem ahR:fnB ["box","tree","at","zero"] ["box","tree"] (aq qt)=true:=by ac_rfl
theorem ahS:CK ["box","tree","at","zero"] qt f15 {} vU:=by ac_rfl
def qu:Stmt:=S 38
theorem ahT:fnB ["rows","box","number","row"] ["rows","box"] (aq qu)=true:=by ac_rfl
theorem ahU:CK ["rows","box","number","row"] qu f15 {} mQ:=by ac_rfl
def qw:Stmt:=S 39
theorem ahV:fnB ["rows","box","number","at","sign"] ["rows","box"] (aq qw)=true:=by ac_rfl
theorem ahW:CK ["rows","box","number","at","sign"] qw f16 {} mR:=by ac_rfl
def qx:Stmt:=S 40
theorem ahX:fnB ["name","many_rows","box","rows","at","zero","one"] ["name","many_rows","box"] (aq qx)=true:=by ac_rfl
theorem ahY:CK ["name","many_rows","box","rows","at","zero","one"] qx f18 {} kW:=by ac_rfl
def qy:Stmt:=S 15
def qz:Stmt:=S 36
theorem ahZ:fnB ["name","many","thing"] ["name","many","thing"] (aq qz)=true:=by ac_rfl
theorem ah0:CK ["name","many","thing"] qz f19 {} mU:=by ac_rfl
def qC:Stmt:=S 2
theorem ah1:fnB ["thing"] ["thing"] (aq qC)=true:=by ac_rfl
theorem ah2:CK ["thing"] qC f20 {} mV:=by ac_rfl
def qD:Stmt:=S 4
theorem ah3:fnB ["many","thing"] ["many","thing"] (aq qD)=true:=by ac_rfl
theorem ah4:CK ["many","thing"] qD f21 {} mW:=by ac_rfl
def qF:Stmt:=S 37
theorem ah5:fnB ["box","tree","at","zero","one"] ["box","tree"] (aq qF)=true:=by ac_rfl
theorem ah6:CK ["box","tree","at","zero","one"] qF f23 {} jC:=by ac_rfl
def qG:Stmt:=S 26
theorem ah7:fnB ["thing"] ["thing"] (aq qG)=true:=by ac_rfl
theorem ah8:CK ["thing"] qG f23 {} mX:=by ac_rfl
def qH:Stmt:=S 5
theorem ah9:fnB ["signs","width","thing"] ["signs","width","thing"] (aq qH)=true:=by ac_rfl
theorem aia:CK ["signs","width","thing"] qH f24 {} mY:=by ac_rfl
def qI:Stmt:=S 7
theorem aib:fnB ["width","thing"] ["width","thing"] (aq qI)=true:=by ac_rfl
theorem aic:CK ["width","thing"] qI f25 {} mZ:=by ac_rfl
def qJ:Stmt:=S 27
theorem aid:fnB ["width","thing"] ["width","thing"] (aq qJ)=true:=by ac_rfl
theorem aie:CK ["width","thing"] qJ f26 {} m5:=by ac_rfl
def qK:Stmt:=S 3
theorem aif:fnB ["thing"] ["thing"] (aq qK)=true:=by ac_rfl
theorem aig:CK ["thing"] qK f27 {} m6:=by ac_rfl
def qL:Stmt:=S 28
theorem aih:fnB ["thing","width","rows"] ["thing"] (aq qL)=true:=by ac_rfl
theorem aii:CK ["thing","width","rows"] qL f28 {} m7:=by ac_rfl
def qM:Stmt:=S 29
theorem aij:fnB ["book"] ["book"] (aq qM)=true:=by ac_rfl
theorem aik:CK ["book"] qM f29 {} m8:=by ac_rfl
def qN:Stmt:=S 30
theorem ail:fnB ["one","other"] ["one","other"] (aq qN)=true:=by ac_rfl
theorem aim:CK ["one","other"] qN f30 {} m9:=by ac_rfl
def qO:Stmt:=S 33
theorem ain:fnB ["book","number"] ["book","number"] (aq qO)=true:=by ac_rfl
theorem aio:CK ["book","number"] qO f31 {} kY:=by ac_rfl
def qP:Stmt:=S 44
theorem aip:fnB ["one","other","leaf"] ["one","other","leaf"] (aq qP)=true:=by ac_rfl
theorem aiq:CK ["one","other","leaf"] qP f32 {} ni:=by ac_rfl
def qQ:Stmt:=S 35
theorem air:fnB ["width"] ["width"] (aq qQ)=true:=by ac_rfl
theorem ais:CK ["width"] qQ f33 {} nq:=by ac_rfl
def qR:Stmt:=S 45
theorem ait:fnB ["one","other","box","tree","parting"] ["one","other"] (aq qR)=true:=by ac_rfl
theorem aiu:CK ["one","other","box","tree","parting"] qR f34 {} nu:=by ac_rfl
def qT:Stmt:=S 14
theorem aiv:fnB ["form","many","sign"] ["form"] (aq qT)=true:=by ac_rfl
theorem aiw:CK ["form","many","sign"] qT f35 {} nA:=by ac_rfl
def qU:Stmt:=S 41
theorem aix:fnB ["book","width","rows"] ["book"] (aq qU)=true:=by ac_rfl
theorem aiy:CK ["book","width","rows"] qU f36 {} nF:=by ac_rfl
def qW:Stmt:=S 42
theorem aiz:fnB ["book","tree","width","rows","many","box","leaf","at"] ["book"] (aq qW)=true:=by ac_rfl
theorem aiA:CK ["book","tree","width","rows","many","box","leaf","at"] qW f37 {} nG:=by ac_rfl
def qX:Stmt:=S 31
theorem aiB:fnB ["book","number"] ["book","number"] (aq qX)=true:=by ac_rfl
theorem aiC:CK ["book","number"] qX f38 {} nH:=by ac_rfl
def qY:Stmt:=S 61
theorem aiD:fnB ["book","number","rows","form","tree","free"] ["book","number"] (aq qY)=true:=by ac_rfl
theorem aiE:CK ["book","number","rows","form","tree","free"] qY f39 {} nJ:=by ac_rfl
def qZ:Stmt:=S 62
theorem aiF:fnB ["book"] ["book"] (aq qZ)=true:=by ac_rfl
theorem aiG:CK ["book"] qZ f40 {} nM:=by ac_rfl
def q8:Stmt:=S 48
theorem aiH:fnB ["book","number","width","rows"] ["book","number"] (aq q8)=true:=by ac_rfl
theorem aiI:CK ["book","number","width","rows"] q8 f41 {} nO:=by ac_rfl
def rm:Stmt:=S 49
theorem aiJ:fnB ["book","number","name","shown"] ["book","number"] (aq rm)=true:=by ac_rfl
theorem aiK:CK ["book","number","name","shown"] rm f42 {} nP:=by ac_rfl
def rn:Stmt:=S 50
theorem aiL:fnB ["book","left","number"] ["book"] (aq rn)=true:=by ac_rfl
theorem aiM:CK ["book","left","number"] rn f43 {} nQ:=by ac_rfl
def rA:Stmt:=S 58
theorem aiN:fnB ["things","place"] ["things","place"] (aq rA)=true:=by ac_rfl
theorem aiO:CK ["things","place"] rA f44 {} nR:=by ac_rfl
def rB:Stmt:=S 46
theorem aiP:fnB ["one","other","name","shown"] ["one","other"] (aq rB)=true:=by ac_rfl
theorem aiQ:CK ["one","other","name","shown"] rB f45 {} nT:=by ac_rfl
def rD:Stmt:=S 59
theorem aiR:fnB ["book","place","width","rows"] ["book","place"] (aq rD)=true:=by ac_rfl
theorem aiS:CK ["book","place","width","rows"] rD f46 {} nU:=by ac_rfl
def rE:Stmt:=S 8
theorem aiT:fnB ["form","word"] ["form","word"] (aq rE)=true:=by ac_rfl
theorem aiU:CK ["form","word"] rE f47 {} nW:=by ac_rfl
def rF:Stmt:=S 9
theorem aiV:fnB ["form","other"] ["form","other"] (aq rF)=true:=by ac_rfl
theorem aiW:CK ["form","other"] rF f48 {} nY:=by ac_rfl
def rG:Stmt:=S 12
theorem aiX:fnB ["form","other","unlike"] ["form","other"] (aq rG)=true:=by ac_rfl
theorem aiY:CK ["form","other","unlike"] rG f49 {} nZ:=by ac_rfl
def rH:Stmt:=S 52
theorem aiZ:fnB ["book","one","other","at","width","rows","form","grown"] ["book","one","other","at"] (aq rH)=true:=by ac_rfl
theorem ai0:CK ["book","one","other","at","width","rows","form","grown"] rH f50 {} n6:=by ac_rfl
def rJ:Stmt:=S 53
theorem ai1:fnB ["book","many","numbers","made"] ["book"] (aq rJ)=true:=by ac_rfl
theorem ai2:CK ["book","many","numbers","made"] rJ f51 {} n8:=by ac_rfl
def rK:Stmt:=S 54
theorem ai3:fnB ["book","one","other","at","made"] ["book"] (aq rK)=true:=by ac_rfl
theorem ai4:CK ["book","one","other","at","made"] rK f52 {} oh:=by ac_rfl
def rM:Stmt:=S 55
theorem ai5:fnB ["book","left","made"] ["book"] (aq rM)=true:=by ac_rfl
theorem ai6:CK ["book","left","made"] rM f53 {} ou:=by ac_rfl
def rN:Stmt:=S 56
theorem ai7:fnB ["book","left","pressed"] ["book"] (aq rN)=true:=by ac_rfl
theorem ai8:CK ["book","left","pressed"] rN f54 {} oA:=by ac_rfl
def rO:Stmt:=S 79
theorem ai9:fnB ["book","flat","few"] ["book","flat"] (aq rO)=true:=by ac_rfl
theorem aja:CK ["book","flat","few"] rO f55 {} An:=by ac_rfl
def rP:Stmt:=S 76
theorem ajb:fnB ["rows"] ["rows"] (aq rP)=true:=by ac_rfl
theorem ajc:CK ["rows"] rP f56 {} Ao:=by ac_rfl
def rQ:Stmt:=S 65
theorem ajd:fnB ["script","cells","k","cell"] ["script"] (aq rQ)=true:=by ac_rfl
theorem aje:CK ["script","cells","k","cell"] rQ f57 {} Aq:=by ac_rfl
def rR:Stmt:=S 6
theorem ajf:fnB ["width","thing"] ["width","thing"] (aq rR)=true:=by ac_rfl
theorem ajg:CK ["width","thing"] rR f58 {} oE:=by ac_rfl
def rT:Stmt:=S 32
theorem ajh:fnB ["book","word","width","rows","number","row"] ["book","word"] (aq rT)=true:=by ac_rfl
theorem aji:CK ["book","word","width","rows","number","row"] rT f59 {} oF:=by ac_rfl
def rW:Stmt:=S 78
theorem ajj:fnB ["book","number","found","many","gone","word","paper","first"] ["book","number","found","many","gone"] (aq rW)=true:=by ac_rfl
theorem ajk:CK ["book","number","found","many","gone","word","paper","first"] rW f60 {} Ar:=by ac_rfl
def rY:Stmt:=S 80
theorem ajl:fnB ["script","pen","turn","book","forms","many","gone","rows","number","found","boxes","other"] ["script"] (aq rY)=true:=by ac_rfl
theorem ajm:CK ["script","pen","turn","book","forms","many","gone","rows","number","found","boxes","other"] rY f61 {} Av:=by ac_rfl
theorem Ub:(Str.ofString "0":Str)=tx [48]:=by ac_rfl
theorem ajn:(Str.ofString "*":Str)=tx [42]:=by ac_rfl
theorem ajo:FnScope ["form"] ["form"] (aq qy):=⟨rfl,rfl,rfl,by ac_rfl,rfl,by ac_rfl,by ac_rfl⟩
def ajp:Sp:=λvs H Q _=>∃l:List Nat,vs=[.str (tx l)]/\l.length<=1000/\Q (.str (tx (bf l))) H
theorem ajq {P:Program} {w:World} {K:PF} {mg:Str->Option Value} {base:Heap} {f:Addr} {fd:FuncData} (F:Fun K "least" "least" qy f fd):FnOk P w K mg base CX0 1 f fd ["form"] ajp:=by
 refine F.ok1 ajo rfl (by ac_rfl) (λ_=>rfl) (λvs H Q E h=>?_) (λcdv A outer s H vs Q E hr h=>?_)
 ·obtain ⟨l,rfl,_⟩:=h;rfl
 ·obtain ⟨l,rfl,hl,q⟩:=h;refine ⟨_,aaj (aal (pv 0) (by ac_rfl)),?_⟩;refine ⟨_,rfl,_,rfl,?_,?_⟩
  ·rw[Ub,cA,cA];simp;omega
  ·rw[ajn,Ub,aak];exact q
theorem ajr {P:Program} {w:World} {K:PF} {mg:Str->Option Value} {base:Heap} {f:Addr} {fd:FuncData} (F:Fun K "least" "least" qy f fd):FnOk P w K mg base CX0 1 f fd ["form"] (lift K 1 (aH jc)):=by
 refine (ajq F).imp λvs H Q E h=>?_;obtain ⟨e0,Fz,G,ds,r,t,⟨ds',G'⟩,⟨e1,e2⟩,e3,e4⟩:=h;cases e1;obtain ⟨d,hd⟩:=Option.isSome_iff_exists.mp e2;have hd2:=hd;unfold jc at hd;split at hd
 ·rename_i l;split at hd
  ·rename_i hl;cases hd;obtain ⟨v,rfl,rv⟩:=bT t;obtain ⟨rfl,_⟩:=rv;have hl':l.length<=1000:=of_decide_eq_true hl;exact ⟨l,rfl,hl',(e3 _ _ ⟨rfl,hd2⟩).now r ⟨rfl,by unfold bf;rw[List.length_map];exact Nat.le_trans hl' (by decide)⟩⟩
  ·cases hd
 ·cases hd
def fdM(n:Str)(st:Stmt)(m:Str)(t c:Nat):FuncData:=PySem.W.fnOf n n (lJ st) (aF st) (aq st) .none .none .none (.str m t) none (.ref c) .none
theorem mkF {K:PF} {n m:Str} {st:Stmt} {a t c:Nat}(l:K.lookup a=some ⟨.type "function",none,.func (fdM n st m t c),⟨[]⟩⟩:=by rfl')(h1:PySem.W.codeIn K (.ref c) n=true:=by eq_refl)(h2:PySem.W.keepIn K (.ref a)=true:=by eq_refl):Fun K n n st a (fdM n st m t c):=Z8 l h1 h2
theorem tK:type_of% @PySem.W.Fast.te538113369711794958:=PySem.W.Fast.te538113369711794958
local macro_rules|`(tactic|ac_nf)=>`(tactic|(intro _ _ _ _ _ _ us hl;first|(obtain ⟨_,h⟩:=cF hl;subst h;rfl)|(obtain ⟨_,_,h⟩:=bA hl;subst h;rfl)|(obtain ⟨_,_,_,h⟩:=ie hl;subst h;rfl)|(obtain ⟨_,_,_,_,h⟩:=PL hl;subst h;rfl)|(obtain ⟨_,_,_,_,_,h⟩:=aeh hl;subst h;rfl)))
local macro_rules|`(tactic|eq_refl)=>`(tactic|(first|rw[tK]|(unfold NQ;rw[tK]));rfl')
section
variable {P:Params}
def Uc:FuncData:=fdM "_law_anew" pY LN 672 388
theorem Ud:Fun (HK.K P) "_law_anew" "_law_anew" pY 389 Uc:=mkF
theorem ajs:NQ P "_law_anew" 389:=by eq_refl
theorem ajt:BQ P Uc ["pen"]:=Ud.binds (by ac_nf)
def Ue:FuncData:=fdM "both" pZ "starsieve.forms" 187 79
theorem Ug:Fun (HK.K P) "both" "both" pZ 80 Ue:=mkF
theorem aju:NQ P "both" 80:=by eq_refl
theorem mK:BQ P Ue ["form","other"]:=Ug.binds (by ac_nf)
def Uh:FuncData:=fdM "with_sign" p6 "starsieve.forms" 187 72
theorem Ui:Fun (HK.K P) "with_sign" "with_sign" p6 73 Uh:=mkF
theorem ajv:NQ P "with_sign" 73:=by eq_refl
theorem mL:BQ P Uh ["form","at","sign"]:=Ui.binds (by ac_nf)
def Uj:FuncData:=fdM "rest" p7 "starsieve.forms" 187 91
theorem Uk:Fun (HK.K P) "rest" "rest" p7 92 Uj:=mkF
theorem ajw:NQ P "rest" 92:=by eq_refl
theorem mO:BQ P Uj ["form","other"]:=Uk.binds (by ac_nf)
def Ul:FuncData:=fdM "_law_apart" p8 LN 672 459
theorem Um:Fun (HK.K P) "_law_apart" "_law_apart" p8 460 Ul:=mkF
theorem ajx:NQ P "_law_apart" 460:=by eq_refl
theorem ajy:BQ P Ul ["form","ahead"]:=Um.binds (by ac_nf)
def Uo:FuncData:=fdM "_law_spread" qb LN 672 374
theorem Up:Fun (HK.K P) "_law_spread" "_law_spread" qb 375 Uo:=mkF
theorem ajz:NQ P "_law_spread" 375:=by eq_refl
theorem ajA:BQ P Uo ["cell","at"]:=Up.binds (by ac_nf)
def Uq:FuncData:=fdM "_law_take" qd LN 672 395
theorem Ur:Fun (HK.K P) "_law_take" "_law_take" qd 396 Uq:=mkF
theorem ajB:NQ P "_law_take" 396:=by eq_refl
theorem ajC:BQ P Uq ["pen","many"]:=Ur.binds (by ac_nf)
def Us:FuncData:=fdM "_law_signs" qe LN 672 400
theorem Ut:Fun (HK.K P) "_law_signs" "_law_signs" qe 401 Us:=mkF
theorem ajD:NQ P "_law_signs" 401:=by eq_refl
theorem ajE:BQ P Us ["pen","width","signs"]:=Ut.binds (by ac_nf)
def Uu:FuncData:=fdM "_law_deeds_of" qg LN 672 433
theorem Uv:Fun (HK.K P) "_law_deeds_of" "_law_deeds_of" qg 434 Uu:=mkF
theorem ajF:NQ P "_law_deeds_of" 434:=by eq_refl
theorem ajG:BQ P Uu ["pen","most"]:=Uv.binds (by ac_nf)
def Uw:FuncData:=fdM "_law_form" qi LN 672 407
theorem Ux:Fun (HK.K P) "_law_form" "_law_form" qi 408 Uw:=mkF
theorem ajH:NQ P "_law_form" 408:=by eq_refl
theorem ajI:BQ P Uw ["pen","width"]:=Ux.binds (by ac_nf)
def Uy:FuncData:=fdM "_law_wider" qj LN 672 421
theorem Uz:Fun (HK.K P) "_law_wider" "_law_wider" qj 422 Uy:=mkF
theorem ajJ:NQ P "_law_wider" 422:=by eq_refl
theorem ajK:BQ P Uy ["pen","form"]:=Uz.binds (by ac_nf)
def UG:FuncData:=fdM "_law_within" ql LN 672 414
theorem UJ:Fun (HK.K P) "_law_within" "_law_within" ql 415 UG:=mkF
theorem ajL:NQ P "_law_within" 415:=by eq_refl
theorem ajM:BQ P UG ["pen","form"]:=UJ.binds (by ac_nf)
def UL:FuncData:=fdM "_law_form_like" qm LN 672 428
theorem UT:Fun (HK.K P) "_law_form_like" "_law_form_like" qm 429 UL:=mkF
theorem ajN:NQ P "_law_form_like" 429:=by eq_refl
theorem ajO:BQ P UL ["pen","width","forms"]:=UT.binds (by ac_nf)
def UV:FuncData:=fdM "_law_book" qp LN 672 440
theorem UW:Fun (HK.K P) "_law_book" "_law_book" qp 441 UV:=mkF
theorem ajP:NQ P "_law_book" 441:=by eq_refl
theorem ajQ:BQ P UV ["pen","widest","most"]:=UW.binds (by ac_nf)
def Dl:FuncData:=fdM "_law_boxes" qt LN 672 447
theorem xu:Fun (HK.K P) "_law_boxes" "_law_boxes" qt 448 Dl:=mkF
theorem U0:NQ P "_law_boxes" 448:=by eq_refl
theorem U3:BQ P Dl ["box","tree"]:=xu.binds (by ac_nf)
def U4:FuncData:=fdM "first_touching" qu "starsieve.laid" 458 246
theorem U5:Fun (HK.K P) "first_touching" "first_touching" qu 247 U4:=mkF
theorem ajS:NQ P "first_touching" 247:=by eq_refl
theorem mQ:BQ P U4 ["rows","box"]:=U5.binds (by ac_nf)
def U6:FuncData:=fdM "splitting_place" qw "starsieve.laid" 458 253
theorem U7:Fun (HK.K P) "splitting_place" "splitting_place" qw 254 U6:=mkF
theorem ajT:NQ P "splitting_place" 254:=by eq_refl
theorem mR:BQ P U6 ["rows","box"]:=U7.binds (by ac_nf)
def Dm:FuncData:=fdM "grown" qx "starsieve.laid" 458 258
theorem xF:Fun (HK.K P) "grown" "grown" qx 259 Dm:=mkF
theorem U8:NQ P "grown" 259:=by eq_refl
theorem kW:BQ P Dm ["name","many_rows","box"]:=xF.binds (by ac_nf)
def U9:FuncData:=fdM "least" qy "starsieve.forms" 187 105
theorem Dn:Fun (HK.K P) "least" "least" qy 106 U9:=mkF
theorem ajU:NQ P "least" 106:=by eq_refl
theorem ajV:BQ P U9 ["form"]:=Dn.binds (by ac_nf)
def Va:FuncData:=fdM "is_named" qz "starsieve.laid" 458 232
theorem Vb:Fun (HK.K P) "is_named" "is_named" qz 233 Va:=mkF
theorem ajW:NQ P "is_named" 233:=by eq_refl
theorem mU:BQ P Va ["name","many","thing"]:=Vb.binds (by ac_nf)
def Vc:FuncData:=fdM "is_whole" qC "starsieve.forms" 187 20
theorem Vd:Fun (HK.K P) "is_whole" "is_whole" qC 21 Vc:=mkF
theorem ajX:NQ P "is_whole" 21:=by eq_refl
theorem mV:BQ P Vc ["thing"]:=Vd.binds (by ac_nf)
def Ve:FuncData:=fdM "is_place" qD "starsieve.forms" 187 34
theorem Vf:Fun (HK.K P) "is_place" "is_place" qD 35 Ve:=mkF
theorem ajY:NQ P "is_place" 35:=by eq_refl
theorem mW:BQ P Ve ["many","thing"]:=Vf.binds (by ac_nf)
def Do:FuncData:=fdM "leaves" qF "starsieve.laid" 458 239
theorem xG:Fun (HK.K P) "leaves" "leaves" qF 240 Do:=mkF
theorem Vg:NQ P "leaves" 240:=by eq_refl
theorem jC:BQ P Do ["box","tree"]:=xG.binds (by ac_nf)
def Vh:FuncData:=fdM "is_deed" qG "starsieve.books" 387 171
theorem Vi:Fun (HK.K P) "is_deed" "is_deed" qG 172 Vh:=mkF
theorem ajZ:NQ P "is_deed" 172:=by eq_refl
theorem mX:BQ P Vh ["thing"]:=Vi.binds (by ac_nf)
def Vj:FuncData:=fdM "is_text_of" qH "starsieve.forms" 187 39
theorem Vk:Fun (HK.K P) "is_text_of" "is_text_of" qH 40 Vj:=mkF
theorem aj0:NQ P "is_text_of" 40:=by eq_refl
theorem mY:BQ P Vj ["signs","width","thing"]:=Vk.binds (by ac_nf)
def Vl:FuncData:=fdM "is_form" qI "starsieve.forms" 187 53
theorem Vm:Fun (HK.K P) "is_form" "is_form" qI 54 Vl:=mkF
theorem aj1:NQ P "is_form" 54:=by eq_refl
theorem mZ:BQ P Vl ["width","thing"]:=Vm.binds (by ac_nf)
def Vn:FuncData:=fdM "is_row" qJ "starsieve.books" 387 178
theorem Vo:Fun (HK.K P) "is_row" "is_row" qJ 179 Vn:=mkF
theorem aj2:NQ P "is_row" 179:=by eq_refl
theorem m5:BQ P Vn ["width","thing"]:=Vo.binds (by ac_nf)
def Vp:FuncData:=fdM "is_width" qK "starsieve.forms" 187 27
theorem Vq:Fun (HK.K P) "is_width" "is_width" qK 28 Vp:=mkF
theorem aj3:NQ P "is_width" 28:=by eq_refl
theorem m6:BQ P Vp ["thing"]:=Vq.binds (by ac_nf)
def Vr:FuncData:=fdM "is_book" qL "starsieve.books" 387 183
theorem Vs:Fun (HK.K P) "is_book" "is_book" qL 184 Vr:=mkF
theorem aj4:NQ P "is_book" 184:=by eq_refl
theorem m7:BQ P Vr ["thing"]:=Vs.binds (by ac_nf)
def Vt:FuncData:=fdM "need_book" qM "starsieve.books" 387 190
theorem Vu:Fun (HK.K P) "need_book" "need_book" qM 191 Vt:=mkF
theorem aj5:NQ P "need_book" 191:=by eq_refl
theorem m8:BQ P Vt ["book"]:=Vu.binds (by ac_nf)
def Vv:FuncData:=fdM "need_two_books" qN "starsieve.books" 387 197
theorem Vw:Fun (HK.K P) "need_two_books" "need_two_books" qN 198 Vv:=mkF
theorem aj6:NQ P "need_two_books" 198:=by eq_refl
theorem m9:BQ P Vv ["one","other"]:=Vw.binds (by ac_nf)
def Vx:FuncData:=fdM "deed_of" qO "starsieve.books" 387 218
theorem Vy:Fun (HK.K P) "deed_of" "deed_of" qO 219 Vx:=mkF
theorem aj7:NQ P "deed_of" 219:=by eq_refl
theorem kY:BQ P Vx ["book","number"]:=Vy.binds (by ac_nf)
def Vz:FuncData:=fdM "same_deeds" qP "starsieve.alike" 529 277
theorem VB:Fun (HK.K P) "same_deeds" "same_deeds" qP 278 Vz:=mkF
theorem aj8:NQ P "same_deeds" 278:=by eq_refl
theorem ni:BQ P Vz ["one","other","leaf"]:=VB.binds (by ac_nf)
def VD:FuncData:=fdM "stars" qQ "starsieve.laid" 458 225
theorem VF:Fun (HK.K P) "stars" "stars" qQ 226 VD:=mkF
theorem aj9:NQ P "stars" 226:=by eq_refl
theorem nq:BQ P VD ["width"]:=VF.binds (by ac_nf)
def VG:FuncData:=fdM "alike" qR "starsieve.alike" 529 282
theorem VH:Fun (HK.K P) "alike" "alike" qR 283 VG:=mkF
theorem aka:NQ P "alike" 283:=by eq_refl
theorem nu:BQ P VG ["one","other"]:=VH.binds (by ac_nf)
def VJ:FuncData:=fdM "how_many" qT "starsieve.forms" 187 98
theorem VL:Fun (HK.K P) "how_many" "how_many" qT 99 VJ:=mkF
theorem akb:NQ P "how_many" 99:=by eq_refl
theorem nA:BQ P VJ ["form"]:=VL.binds (by ac_nf)
def VM:FuncData:=fdM "laid" qU "starsieve.laid" 458 265
theorem VN:Fun (HK.K P) "laid" "laid" qU 266 VM:=mkF
theorem akc:NQ P "laid" 266:=by eq_refl
theorem nF:BQ P VM ["book"]:=VN.binds (by ac_nf)
def VP:FuncData:=fdM "counts" qW "starsieve.laid" 458 270
theorem VR:Fun (HK.K P) "counts" "counts" qW 271 VP:=mkF
theorem akd:NQ P "counts" 271:=by eq_refl
theorem nG:BQ P VP ["book"]:=VR.binds (by ac_nf)
def VV:FuncData:=fdM "need_row" qX "starsieve.books" 387 204
theorem V0:Fun (HK.K P) "need_row" "need_row" qX 205 VV:=mkF
theorem ake:NQ P "need_row" 205:=by eq_refl
theorem nH:BQ P VV ["book","number"]:=V0.binds (by ac_nf)
def V1:FuncData:=fdM "reach" qY "starsieve.reached" 658 362
theorem V2:Fun (HK.K P) "reach" "reach" qY 363 V1:=mkF
theorem akf:NQ P "reach" 363:=by eq_refl
theorem nJ:BQ P V1 ["book","number"]:=V2.binds (by ac_nf)
def V3:FuncData:=fdM "hidden" qZ "starsieve.reached" 658 367
theorem V4:Fun (HK.K P) "hidden" "hidden" qZ 368 V3:=mkF
theorem akg:NQ P "hidden" 368:=by eq_refl
theorem nM:BQ P V3 ["book"]:=V4.binds (by ac_nf)
def V5:FuncData:=fdM "without" q8 "starsieve.lean" 556 296
theorem V6:Fun (HK.K P) "without" "without" q8 297 V5:=mkF
theorem akh:NQ P "without" 297:=by eq_refl
theorem nO:BQ P V5 ["book","number"]:=V6.binds (by ac_nf)
def V7:FuncData:=fdM "needless" rm "starsieve.lean" 556 303
theorem V8:Fun (HK.K P) "needless" "needless" rm 304 V7:=mkF
theorem aki:NQ P "needless" 304:=by eq_refl
theorem nP:BQ P V7 ["book","number"]:=V8.binds (by ac_nf)
def V9:FuncData:=fdM "lean" rn "starsieve.lean" 556 310
theorem Wa:Fun (HK.K P) "lean" "lean" rn 311 V9:=mkF
theorem akj:NQ P "lean" 311:=by eq_refl
theorem nQ:BQ P V9 ["book"]:=Wa.binds (by ac_nf)
def Wb:FuncData:=fdM "exchanged" rA "starsieve.moves" 638 350
theorem Wc:Fun (HK.K P) "exchanged" "exchanged" rA 351 Wb:=mkF
theorem akk:NQ P "exchanged" 351:=by eq_refl
theorem nR:BQ P Wb ["things","place"]:=Wc.binds (by ac_nf)
def Wd:FuncData:=fdM "parting_word" rB "starsieve.alike" 529 289
theorem We:Fun (HK.K P) "parting_word" "parting_word" rB 290 Wd:=mkF
theorem akl:NQ P "parting_word" 290:=by eq_refl
theorem nT:BQ P Wd ["one","other"]:=We.binds (by ac_nf)
def Wf:FuncData:=fdM "may_swap" rD "starsieve.moves" 638 357
theorem Wg:Fun (HK.K P) "may_swap" "may_swap" rD 358 Wf:=mkF
theorem akm:NQ P "may_swap" 358:=by eq_refl
theorem nU:BQ P Wf ["book","place"]:=Wg.binds (by ac_nf)
def Wh:FuncData:=fdM "fits" rE "starsieve.forms" 187 58
theorem Wi:Fun (HK.K P) "fits" "fits" rE 59 Wh:=mkF
theorem akn:NQ P "fits" 59:=by eq_refl
theorem nW:BQ P Wh ["form","word"]:=Wi.binds (by ac_nf)
def Wj:FuncData:=fdM "lies_in" rF "starsieve.forms" 187 65
theorem Wl:Fun (HK.K P) "lies_in" "lies_in" rF 66 Wj:=mkF
theorem ako:NQ P "lies_in" 66:=by eq_refl
theorem nY:BQ P Wj ["form","other"]:=Wl.binds (by ac_nf)
def Wm:FuncData:=fdM "joined" rG "starsieve.forms" 187 84
theorem Wn:Fun (HK.K P) "joined" "joined" rG 85 Wm:=mkF
theorem akp:NQ P "joined" 85:=by eq_refl
theorem nZ:BQ P Wm ["form","other"]:=Wn.binds (by ac_nf)
def Wo:FuncData:=fdM "joined_book" rH "starsieve.joins" 587 317
theorem Wq:Fun (HK.K P) "joined_book" "joined_book" rH 318 Wo:=mkF
theorem akq:NQ P "joined_book" 318:=by eq_refl
theorem n6:BQ P Wo ["book","one","other","at"]:=Wq.binds (by ac_nf)
def Wr:FuncData:=fdM "candidates" rJ "starsieve.joins" 587 322
theorem Ws:Fun (HK.K P) "candidates" "candidates" rJ 323 Wr:=mkF
theorem akr:NQ P "candidates" 323:=by eq_refl
theorem n8:BQ P Wr ["book"]:=Ws.binds (by ac_nf)
def Wt:FuncData:=fdM "first_joined" rK "starsieve.joins" 587 329
theorem Wu:Fun (HK.K P) "first_joined" "first_joined" rK 330 Wt:=mkF
theorem aks:NQ P "first_joined" 330:=by eq_refl
theorem oh:BQ P Wt ["book"]:=Wu.binds (by ac_nf)
def Wv:FuncData:=fdM "all_joined" rM "starsieve.joins" 587 336
theorem Ww:Fun (HK.K P) "all_joined" "all_joined" rM 337 Wv:=mkF
theorem akt:NQ P "all_joined" 337:=by eq_refl
theorem ou:BQ P Wv ["book"]:=Ww.binds (by ac_nf)
def Wx:FuncData:=fdM "press" rN "starsieve.joins" 587 343
theorem Wy:Fun (HK.K P) "press" "press" rN 344 Wx:=mkF
theorem aku:NQ P "press" 344:=by eq_refl
theorem oA:BQ P Wx ["book"]:=Wy.binds (by ac_nf)
def Wz:FuncData:=fdM "_law_flat_right" rO LN 672 469
theorem WD:Fun (HK.K P) "_law_flat_right" "_law_flat_right" rO 470 Wz:=mkF
theorem akv:NQ P "_law_flat_right" 470:=by eq_refl
theorem akx:BQ P Wz ["book","flat"]:=WD.binds (by ac_nf)
def WF:FuncData:=fdM "_law_forms" rP LN 672 452
theorem WK:Fun (HK.K P) "_law_forms" "_law_forms" rP 453 WF:=mkF
theorem aky:NQ P "_law_forms" 453:=by eq_refl
theorem akz:BQ P WF ["rows"]:=WK.binds (by ac_nf)
def WL:FuncData:=fdM "_law_open" rQ LN 672 381
theorem WM:Fun (HK.K P) "_law_open" "_law_open" rQ 382 WL:=mkF
theorem akA:NQ P "_law_open" 382:=by eq_refl
theorem akB:BQ P WL ["script"]:=WM.binds (by ac_nf)
def WN:FuncData:=fdM "is_word" rR "starsieve.forms" 187 46
theorem WP:Fun (HK.K P) "is_word" "is_word" rR 47 WN:=mkF
theorem akC:NQ P "is_word" 47:=by eq_refl
theorem oE:BQ P WN ["width","thing"]:=WP.binds (by ac_nf)
def WQ:FuncData:=fdM "met" rT "starsieve.books" 387 211
theorem WR:Fun (HK.K P) "met" "met" rT 212 WQ:=mkF
theorem akD:NQ P "met" 212:=by eq_refl
theorem oF:BQ P WQ ["book","word"]:=WR.binds (by ac_nf)
def WT:FuncData:=fdM "_law_row_right" rW LN 672 464
theorem WX:Fun (HK.K P) "_law_row_right" "_law_row_right" rW 465 WT:=mkF
theorem akE:NQ P "_law_row_right" 465:=by eq_refl
theorem akF:BQ P WT ["book","number","found","many","gone"]:=WX.binds (by ac_nf)
def Dp:FuncData:=fdM "law" rY LN 672 474
theorem akG:Fun (HK.K P) "law" "law" rY 475 Dp:=mkF
theorem akH:NQ P "law" 475:=by eq_refl
theorem akI:PySem.W.nsIn (HK.K P) mainGlobals "all"=some none:=by eq_refl
theorem akJ:PySem.W.nsIn (HK.K P) mainGlobals "bool"=some none:=by eq_refl
theorem akK:PySem.W.nsIn (HK.K P) mainGlobals "enumerate"=some none:=by eq_refl
theorem akL:PySem.W.nsIn (HK.K P) mainGlobals "int"=some none:=by eq_refl
theorem akM:PySem.W.nsIn (HK.K P) mainGlobals "isinstance"=some none:=by eq_refl
theorem akN:PySem.W.nsIn (HK.K P) mainGlobals "len"=some none:=by eq_refl
theorem akO:PySem.W.nsIn (HK.K P) mainGlobals "list"=some none:=by eq_refl
theorem akP:PySem.W.nsIn (HK.K P) mainGlobals "min"=some none:=by eq_refl
theorem akQ:PySem.W.nsIn (HK.K P) mainGlobals "range"=some none:=by eq_refl
theorem akR:PySem.W.nsIn (HK.K P) mainGlobals "reversed"=some none:=by eq_refl
theorem akS:PySem.W.nsIn (HK.K P) mainGlobals "str"=some none:=by eq_refl
theorem akT:PySem.W.nsIn (HK.K P) mainGlobals "sum"=some none:=by eq_refl
theorem akU:PySem.W.nsIn (HK.K P) mainGlobals "tuple"=some none:=by eq_refl
theorem akV:PySem.W.nsIn (HK.K P) mainGlobals "zip"=some none:=by eq_refl
theorem akW:PySem.W.nsIn (HK.K P) mainGlobals "LETTERS"=some (some (.str "abcdefghijklmnopqrstuvwxyz" 393)):=by eq_refl
theorem akX:PySem.W.nsIn (HK.K P) mainGlobals "LONGEST_DEED"=some (some (.int 8 391)):=by eq_refl
theorem akY:PySem.W.nsIn (HK.K P) mainGlobals "MOST_ROWS"=some (some (.int 12 389)):=by eq_refl
theorem akZ:PySem.W.nsIn (HK.K P) mainGlobals "WIDEST"=some (some (.int 6 189)):=by eq_refl
theorem x_s:xsB (HK.K P) xs=true:=by eq_refl
end
section
variable {l:PySem.W.OpenLaw} {w:World} {h:Heap} {mg:Str->Option Value} {base:Heap} (X:(HK.K w.params).In h) (G:h.Ns mainGlobals mg)
include X G
theorem B0:BB l w mg base 0 f0 {}:=bse trivial ⟨mg_none_of X G akI,mg_none_of X G akJ,mg_none_of X G akK,mg_none_of X G akL,mg_none_of X G akM,mg_none_of X G akN,mg_none_of X G akO,mg_none_of X G akP,mg_none_of X G akQ,mg_none_of X G akR,mg_none_of X G akS,mg_none_of X G akT,mg_none_of X G akU,mg_none_of X G akV,trivial⟩ ⟨aek (mg_of X G akW) (by ac_rfl) (by decide),Aa (mg_of X G akX),Aa (mg_of X G akY),Aa (mg_of X G akZ),trivial⟩ X G x_s
theorem B1:BB l w mg base 1 f1 {}:=(B0 X G).step Ud ajt (mg_of X G ajs) SN 0 ahp ahq rfl rfl (cI (λds G h=>aep Z  ds G h))
theorem B2:BB l w mg base 2 f2 {}:=(B1 X G).step Ug mK (mg_of X G aju) w5 3 ahr ahs rfl rfl (gk (λds G d h=>ae9 Z  ds G d h))
theorem B3:BB l w mg base 3 f3 {}:=(B2 X G).step Ui mL (mg_of X G ajv) pW 0 aht ahu rfl rfl (gk (λds G d h=>afa Z  ds G d h))
theorem B4:BB l w mg base 4 f4 {}:=(B3 X G).step Uk mO (mg_of X G ajw) SQ 4 ahv ahw rfl rfl (gr (λa ds G h=>afO Z w5 pW a ds G h))
theorem B5:BB l w mg base 5 f5 {}:=(B4 X G).step Um ajy (mg_of X G ajx) SX 4 ahx ahy rfl rfl (gr (λa ds G h=>ag7 Z SQ a ds G h))
theorem B6:BB l w mg base 6 f6 {}:=(B5 X G).step Up ajA (mg_of X G ajz) S5 3 ahz ahA rfl rfl (cI (λds G h=>aeo Z  ds G h))
theorem B7:BB l w mg base 7 f7 {}:=(B6 X G).step Ur ajC (mg_of X G ajB) jj 3 ahB ahC rfl rfl (cI (λds G h=>aeq Z S5 ds G h))
theorem B8:BB l w mg base 8 f8 {}:=(B7 X G).step Ut ajE (mg_of X G ajD) CP 0 ahD ahE rfl rfl (cI (λds G h=>aet Z jj ds G h))
theorem B9:BB l w mg base 9 f9 {}:=(B8 X G).step Uv ajG (mg_of X G ajF) S6 4 ahF ahG rfl rfl (cI (λds G h=>aeI Z jj CP ds G h))
theorem B10:BB l w mg base 10 f10 {}:=(B9 X G).step Ux ajI (mg_of X G ajH) S7 0 ahH ahI rfl rfl (cI (λds G h=>aeu Z jj CP ds G h))
theorem B11:BB l w mg base 11 f11 {}:=(B10 X G).step Uz ajK (mg_of X G ajJ) S8 2 ahJ ahK rfl rfl (cI (λds G h=>aeA Z jj ds G h))
theorem B12:BB l w mg base 12 f12 {}:=(B11 X G).step UJ ajM (mg_of X G ajL) S9 2 ahL ahM rfl rfl (cI (λds G h=>aez Z jj ds G h))
theorem B13:BB l w mg base 13 f13 {}:=(B12 X G).step UT ajO (mg_of X G ajN) Tc 3 ahN ahO rfl rfl (cI (λds G h=>aeF Z jj S7 S9 S8 ds G h))
theorem B14:BB l w mg base 14 f14 {}:=(B13 X G).step UW ajQ (mg_of X G ajP) Td 5 ahP ahQ rfl rfl (cI (λds G h=>aeL Z jj S6 Tc ds G h))
theorem WY:∀n:Nat,FnOk l.prog w (HK.K w.params) mg base (CX1 l.prog w) (14+n) 448 Dl ["box","tree"] (lift (HK.K w.params) 2 (gB n))
 |0=>Ab afs
 |n+1=>mH (fs:=f15) xu ((B14 X G).self (by ac_rfl) (WY n) xu.kp U3 (mg_of X G U0)) (gB (n+1)) 2 2 ahR ahS rfl rfl (bY (λa G h=>afr (iT Z "_law_boxes" (gB n)) n (if_pos rfl)  a G h))
theorem B15:BB l w mg base 23 f15 {}:=(B14 X G).add (j:=9) Te (WY X G 9) xu.kp U3 (mg_of X G U0)
theorem B16:BB l w mg base 24 f16 {}:=(B15 X G).step U5 mQ (mg_of X G ajS) CQ 2 ahT ahU rfl rfl (cI (λds G h=>afg Z w5 ds G h))
theorem B17:BB l w mg base 25 f17 {}:=(B16 X G).step U7 mR (mg_of X G ajT) Tf 3 ahV ahW rfl rfl (cI (λds G h=>afj Z CQ ds G h))
theorem W0:∀n:Nat,FnOk l.prog w (HK.K w.params) mg base (CX1 l.prog w) (25+n) 259 Dm ["name","many_rows","box"] (lift (HK.K w.params) 3 (eF n))
 |0=>Ab afo
 |n+1=>mH (fs:=f18) xF ((B17 X G).self (by ac_rfl) (W0 n) xF.kp kW (mg_of X G U8)) (eF (n+1)) 3 4 ahX ahY rfl rfl (cI (λds G h=>afn (iT Z "grown" (eF n)) n (if_pos rfl) (kO CQ rfl) (kO Tf rfl) (kO pW rfl) ds G h))
theorem B18:BB l w mg base 34 f18 {}:=(B17 X G).add (j:=9) xf (W0 X G 9) xF.kp kW (mg_of X G U8)
theorem B19:BB l w mg base 35 f19 {}:=(B18 X G).add (j:=1) xg ((ajr Dn).cx.mono (by decide)) Dn.kp ajV (mg_of X G ajU)
theorem B20:BB l w mg base 36 f20 {}:=(B19 X G).step Vb mU (mg_of X G ajW) Th 0 ahZ ah0 rfl rfl (gk (λds G d h=>afv Z  ds G d h))
theorem B21:BB l w mg base 37 f21 {}:=(B20 X G).step Vd mV (mg_of X G ajX) CW 0 ah1 ah2 rfl rfl (gk (λds G d h=>aew Z  ds G d h))
theorem B22:BB l w mg base 38 f22 {}:=(B21 X G).step Vf mW (mg_of X G ajY) xj 0 ah3 ah4 rfl rfl (gk (λds G d h=>aft Z CW ds G d h))
theorem W2:∀n:Nat,FnOk l.prog w (HK.K w.params) mg base (CX1 l.prog w) (38+n) 240 Do ["box","tree"] (lift (HK.K w.params) 2 (dR n))
 |0=>Ab afA
 |n+1=>mH (fs:=f23) xG ((B22 X G).self (by ac_rfl) (W2 n) xG.kp jC (mg_of X G Vg)) (dR (n+1)) 2 3 ah5 ah6 rfl rfl (bY (λa G h=>afC (iT Z "leaves" (dR n)) n (if_pos rfl) (kO Th rfl) (kO xj rfl) (kO pW rfl) a G h))
theorem B23:BB l w mg base 47 f23 {}:=(B22 X G).add (j:=9) xm (W2 X G 9) xG.kp jC (mg_of X G Vg)
theorem B24:BB l w mg base 48 f24 {}:=(B23 X G).step Vi mX (mg_of X G ajZ) Ti 0 ah7 ah8 rfl rfl (bY (λa G h=>aeU Z  a G h))
theorem B25:BB l w mg base 49 f25 {}:=(B24 X G).step Vk mY (mg_of X G aj0) CZ 0 ah9 aia rfl rfl (bY (λa G h=>aeQ Z  a G h))
theorem B26:BB l w mg base 50 f26 {}:=(B25 X G).step Vm mZ (mg_of X G aj1) Tj 0 aib aic rfl rfl (bY (λa G h=>aeT Z CZ a G h))
theorem B27:BB l w mg base 51 f27 {}:=(B26 X G).step Vo m5 (mg_of X G aj2) Tn 0 aid aie rfl rfl (bY (λa G h=>aeV Z Tj Ti a G h))
theorem B28:BB l w mg base 52 f28 {}:=(B27 X G).step Vq m6 (mg_of X G aj3) Tp 0 aif aig rfl rfl (bY (λa G h=>aeW Z CW a G h))
theorem B29:BB l w mg base 53 f29 {}:=(B28 X G).step Vs m7 (mg_of X G aj4) Dc 2 aih aii rfl rfl (bY (λa G h=>aeX Z Tp Tn a G h))
theorem B30:BB l w mg base 54 f30 {}:=(B29 X G).step Vu m8 (mg_of X G aj5) iw 0 aij aik rfl rfl (bY (λa G h=>aeY Z Dc a G h))
theorem B31:BB l w mg base 55 f31 {}:=(B30 X G).step Vw m9 (mg_of X G aj6) Tq 0 ail aim rfl rfl (bY (λa G h=>af7 Z iw a G h))
theorem B32:BB l w mg base 56 f32 {}:=(B31 X G).step Vy kY (mg_of X G aj7) Tt 0 ain aio rfl rfl (cI (λds G h=>ae4 Z  ds G h))
theorem B33:BB l w mg base 57 f33 {}:=(B32 X G).step VB ni (mg_of X G aj8) Tu 0 aip aiq rfl rfl (bY (λa G h=>af9 Z Tt a G h))
theorem B34:BB l w mg base 58 f34 {}:=(B33 X G).step VF nq (mg_of X G aj9) xn 0 air ais rfl rfl (gk (λds G d h=>afb Z  ds G d h))
theorem B35:BB l w mg base 59 f35 {}:=(B34 X G).step VH nu (mg_of X G aka) xq 3 ait aiu rfl rfl (gr (λa ds G h=>aga Z Tq xf xm xg xn Tu a ds G h))
theorem B36:BB l w mg base 60 f36 {}:=(B35 X G).step VL nA (mg_of X G akb) pX 2 aiv aiw rfl rfl (gk (λds G d h=>afz Z  ds G d h))
theorem B37:BB l w mg base 61 f37 {}:=(B36 X G).step VN nF (mg_of X G akc) Dd 2 aix aiy rfl rfl (cI (λds G h=>afq Z iw xf xn ds G h))
theorem B38:BB l w mg base 62 f38 {}:=(B37 X G).step VR nG (mg_of X G akd) De 7 aiz aiA rfl rfl (gr (λa ds G h=>afU Z Dd xm xn pX a ds G h))
theorem B39:BB l w mg base 63 f39 {}:=(B38 X G).step V0 nH (mg_of X G ake) Df 0 aiB aiC rfl rfl (bY (λa G h=>afZ Z iw xj a G h))
theorem B40:BB l w mg base 64 f40 {}:=(B39 X G).step V2 nJ (mg_of X G akf) Dg 4 aiD aiE rfl rfl (gr (λa ds G h=>af1 Z Df xf xm xg a ds G h))
theorem B41:BB l w mg base 65 f41 {}:=(B40 X G).step V4 nM (mg_of X G akg) Dh 0 aiF aiG rfl rfl (gr (λa ds G h=>af3 Z iw Dg a ds G h))
theorem B42:BB l w mg base 66 f42 {}:=(B41 X G).step V6 nO (mg_of X G akh) xr 2 aiH aiI rfl rfl (bY (λa G h=>agg Z Df a G h))
theorem B43:BB l w mg base 67 f43 {}:=(B42 X G).step V8 nP (mg_of X G aki) Tv 2 aiJ aiK rfl rfl (gr (λa ds G h=>agj Z xq xr a ds G h))
theorem B44:BB l w mg base 68 f44 {}:=(B43 X G).step Wa nQ (mg_of X G akj) Di 2 aiL aiM rfl rfl (bY (λa G h=>agk Z iw Tv xr a G h))
theorem B45:BB l w mg base 69 f45 {}:=(B44 X G).step Wc nR (mg_of X G akk) Tw 0 aiN aiO rfl rfl (bY (λa G h=>ags Z  a G h))
theorem B46:BB l w mg base 70 f46 {}:=(B45 X G).step We nT (mg_of X G akl) Dj 2 aiP aiQ rfl rfl (bY (λa G h=>agn Z xq a G h))
theorem B47:BB l w mg base 71 f47 {}:=(B46 X G).step Wg nU (mg_of X G akm) Tz 2 aiR aiS rfl rfl (bY (λa G h=>ag2 Z iw xj Dj Tw a G h))
theorem B48:BB l w mg base 72 f48 {}:=(B47 X G).step Wi nW (mg_of X G akn) Dk 0 aiT aiU rfl rfl (gk (λds G d h=>ae0 Z  ds G d h))
theorem B49:BB l w mg base 73 f49 {}:=(B48 X G).step Wl nY (mg_of X G ako) TF 0 aiV aiW rfl rfl (gk (λds G d h=>afM Z Dk ds G d h))
theorem B50:BB l w mg base 74 f50 {}:=(B49 X G).step Wn nZ (mg_of X G akp) TQ 1 aiX aiY rfl rfl (gk (λds G d h=>agx Z TF pW ds G d h))
theorem B51:BB l w mg base 75 f51 {}:=(B50 X G).step Wq n6 (mg_of X G akq) TV 4 aiZ ai0 rfl rfl (bY (λa G h=>agz Z TQ xr a G h))
theorem B52:BB l w mg base 76 f52 {}:=(B51 X G).step Ws n8 (mg_of X G akr) TX 3 ai1 ai2 rfl rfl (bY (λa G h=>agD Z TV a G h))
theorem B53:BB l w mg base 77 f53 {}:=(B52 X G).step Wu oh (mg_of X G aks) TY 4 ai3 ai4 rfl rfl (bY (λa G h=>agE Z TX Dj a G h))
theorem B54:BB l w mg base 78 f54 {}:=(B53 X G).step Ww ou (mg_of X G akt) T3 2 ai5 ai6 rfl rfl (bY (λa G h=>agF Z TY a G h))
theorem B55:BB l w mg base 79 f55 {}:=(B54 X G).step Wy oA (mg_of X G aku) T4 2 ai7 ai8 rfl rfl (bY (λa G h=>agH Z iw T3 Di a G h))
theorem B56:BB l w mg base 80 f56 {}:=(B55 X G).step WD akx (mg_of X G akv) T5 1 ai9 aja rfl rfl (gr (λa ds G h=>ahf Z ⟨Dc,xq,Dh,De,pX,Di,Tz,T4⟩ a ds G h))
theorem B57:BB l w mg base 81 f57 {}:=(B56 X G).step WK akz (mg_of X G aky) T6 0 ajb ajc rfl rfl (bY (λa G h=>ag4 Z  a G h))
theorem B58:BB l w mg base 82 f58 {}:=(B57 X G).step WM akB (mg_of X G akA) T7 3 ajd aje rfl rfl (cI (λds G h=>aev Z  ds G h))
theorem B59:BB l w mg base 83 f59 {}:=(B58 X G).step WP oE (mg_of X G akC) T8 0 ajf ajg rfl rfl (bY (λa G h=>aeR Z CZ a G h))
theorem B60:BB l w mg base 84 f60 {}:=(B59 X G).step WR oF (mg_of X G akD) T9 4 ajh aji rfl rfl (cI (λds G h=>ae2 Z iw T8 Dk ds G h))
theorem B61:BB l w mg base 85 f61 {}:=(B60 X G).step WX akF (mg_of X G akE) Ua 3 ajj ajk rfl rfl (gr (λa ds G h=>ahb Z ⟨pX,w5,Dg,xg,T9⟩ a ds G h))
theorem ak0:FnOk l.prog w (HK.K w.params) mg base (CX1 l.prog w) 86 475 Dp ["script"] (lift (HK.K w.params) 1 (oH)):=mH akG (B61 X G) (oH) 1 11 ajl ajm rfl rfl (cI (λds G h=>ahi Z ⟨T7,SN,Td,T6,De,Dh,SX,Ua,pX,Te,Dd,T5⟩ ds G h))
omit X G in
theorem all (fa:Addr) (X:(HK.K w.params).In h) (G:h.Ns mainGlobals mg) (hfa:mg "law"=some (.ref fa)):∃fd:FuncData,(∀(s:Shared) (v:Value),BindsTo s fd ⟨[v],[]⟩ [("script",v)])/\∀base:Heap,(HK.K w.params).In base->base.Ns mainGlobals mg->FnOk l.prog w (HK.K w.params) mg base (CX1 l.prog w) 86 fa fd ["script"] (lift (HK.K w.params) 1 (oH)):=by have e:=hfa.symm.trans (PySem.W.mg_of X G akH);cases e;exact ⟨Dp,λs v=>.of_eq rfl,λbase _ _=>ak0 X G⟩
end
theorem walk {l:PySem.W.OpenLaw} {q:Program} {loose:List Str} {XP:(Str->Option Value)->Heap->Prop} {d:DefRec} (hn:l.most=some 63) (hdf:d.params.defaults=[]) (hdn:d.name="law"):
  PySem.W.WalkO q loose XP HK.hook.says l.row.toRowW d [] (λf vs=>PySem.call f vs):=
 L2.Z7 (n:=63) (k:=86) (x:="script") (K:=HK.K) (CX:=λw=>CX1 l.prog w) (sp:=λw=>lift (HK.K w.params) 1 (oH)) hn (by decide) hdf ⟨rfl,by decide,by decide⟩ (λ_ _ Y=>Y) (λw mg fa h X G hmg=>all fa X G (hdn ▸ hmg)) (λw H a ns hl hO hS=>ael (aem λns _ hl=>⟨ns,rfl,hl⟩) (HK.K w.params) H a ns hl hO hS) λ_ _ _ _ _ z=>aea z
end Lk84
end
open PySem PySem.W PyProof.Rows
set_option maxHeartbeats 0 in
theorem PySem.Challenge.cw_starsieve_k84_whole_boxes_apart_holds : PySem.Challenge.rw_starsieve_k84_whole_boxes_apart.Holds := by
 have said:PySem.Challenge.rw_starsieve_k84_whole_boxes_apart.row.wellSaid=true:=by decide +kernel
 refine ⟨by decide +kernel,?_⟩;refine PySem.W.holds_open (q:=HK.qv) (loose:=[]) (Xt:=HK.Xt) (XP:=XL HK.qv []) (Yf:=HK.hook.obs) (Ya:=HK.hook.val) (YP:=HK.hook.says) (N:=12000) HK.left HK.hook.of HK.hook.keeps
  (λs e=>xl_of s (Bool.and_eq_true_iff.mp e).1) XL.keeps (by rfl) (by rfl) (by rfl) (λs e=>recFacts_of (Bool.and_eq_true_iff.mp e).2) (by rfl) (by assumption) (by decide +kernel) ⟨rfl,rfl,rfl,rfl,rfl,by decide +kernel⟩ ?hw ?hc
 case hw=>exact ⟨[.list []],by decide +kernel,by decide +kernel⟩
 exact Lk84.walk rfl rfl rfl
