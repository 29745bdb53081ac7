import PyProof.Rows.All
import Wide.All
import OpenK.AllK
import Wide.FinOn
import Lean
import PyProof.EqAt
import PyProof.EqKinds
import PyProof.TupleCall
import PyProof.NeKinds
import PyProof.FactsAll.range_2
import PyProof.FactsAll.tuple_2
import PyProof.FactsAll.tuple
import PyProof.ListRange
import PyProof.ExcInit
import KE.KDictList
import KE.KSortTup
import PySem.Challenge.RW_starsieve_k19_whole_trees_and_words
set_option compiler.extract_closed false
set_option bootstrap.genMatcherCode false
set_option genSizeOf false
set_option Elab.async false
set_option maxRecDepth 100000
noncomputable section
local macro_rules|`(def $n:declId $s:optDeclSig $v:declVal)=>do return (←`(noncomputable def $n:declId $s:optDeclSig $v:declVal)).raw.rewriteBottomUp (·.setInfo .none)
local macro_rules|`(abbrev $n:declId $s:optDeclSig $v:declVal)=>do return (←`(noncomputable abbrev $n:declId $s:optDeclSig $v:declVal)).raw.rewriteBottomUp (·.setInfo .none)
local macro_rules|`(theorem $n:declId $s:declSig $v:declVal)=>do
 if n.raw.getPos?.isNone then Lean.Macro.throwUnsupported
 return (←`(theorem $n:declId $s:declSig $v:declVal)).raw.rewriteBottomUp (·.setInfo .none)
def nZf.{u}{a:Sort u}(h:false=true):a:=nomatch h
local macro_rules|`(~~~$x)=>`(($x).heap.objs.size)
local macro_rules|`(↥$x)=>`(PySem.wpAny (PySem.model ($x).prog ($x).w) ($x).A)
local macro_rules|`(tactic|rfl')=>`(tactic|kernel_rfl)
local macro_rules|`(tactic|ac_rfl)=>`(tactic|decide +kernel)
abbrev PF:=PySem.W.Frag
set_option linter.all false
namespace L2
open PySem PySem.Spec PyProof.Rows
def ab:=@PySem.wpAny_bind
def ae:=@Bool.and_eq_true
def af:=@List.length_map
def ag:=@List.getElem?_eq_some_iff
def ah:=@PySem.Heap.get?_push_of_some
def ai:=@List.getElem?_eq_getElem
def al:=@List.length_append
def am:=@List.size_toArray
def ar:=@Option.map_eq_some_iff
def av:=@PySem.wpAny_pure
def aw:=@List.getElem?_map
def ax:=@Nat.le_refl
def ay:=@PySem.Heap.lt_size
def aE:=@List.mem_append_right
def aI:=@List.mem_singleton
def aS:=@Option.some.injEq
def aT:=@beq_iff_eq
def a7:=@PySem.Heap.get?_push_size
def a8:=@List.mem_append
def a9:=@List.drop_eq_getElem_cons
def ba:=@List.mem_of_getElem?
def bb:=@List.length_take
def bd:=@Bool.false_ne_true
def bg:=@List.mem_map
def bi:=@List.map_cons
def bm:=@List.mem_cons_of_mem
def bn:=@decide_eq_false
def bo:=@decide_eq_true
def bp:=@Nat.lt_of_lt_of_le
def bq:=@List.mem_cons_self
theorem br:type_of% @Int.toNat_natCast:=@Int.toNat_natCast
def bv:=@Nat.le_trans
def bB:=@Option.isSome_iff_exists
def bP:=@List.mem_cons
def bS:=@List.length_drop
def bX:=@List.all_eq_true
def b3:=@List.contains_iff_mem
def b4:=@List.map_append
def b5:=@Nat.ne_of_lt
def b6:=@List.length_replicate
def b9:=@beq_eq_false_iff_ne
def ca:=@PySem.wpAny_mono
def cb:=@decide_eq_true_iff
def ce:=@List.getElem_mem
def cf:=@List.cons.injEq
def ci:=@of_decide_eq_true
def ck:=@PySem.mem_of_lookup
def cm:=@List.length_set
def cp:=@Int.eq_ofNat_of_zero_le
def cq:=@List.getElem?_append_left
def cr:=@Nat.lt_irrefl
def cw:=@List.take_add_one
def cy:=@Option.some.inj
def cK:=@Bool.or_eq_true
theorem cS:type_of% @List.length_cons:=@List.length_cons
theorem c5:type_of% @Array.length_toList:=@Array.length_toList
def c6:=@PySem.W.kia_one
def c8:=@PySem.wpAny_field
def c9:=@Nat.le_add_right
def da:=@List.take_length
def db:=@List.length_eq_zero_iff
def dc:=@PySem.wpAny_callSpecial?_slot
def de:=@PySem.Heap.size_push
def df:=@List.map_map
def dk:=@Nat.pow_le_pow_right
def dn:=@Nat.le_succ
def dr:=@PyProof.Rows.callWith_type1
def dv:=@PySem.wpAny_truthy_bool
def dy:=@PySem.F.slot_dict_keyiterator_next
def dA:=@List.getD_eq_getElem?_getD
def dE:=@List.take_append_drop
def dL:=@PySem.wpAny_holding
def dP:=@List.findIdx?_eq_some_iff_getElem
def dQ:=@PySem.wpAny_call_entry
def dS:=@List.mem_filter
def d0:=@PySem.wpAny_setField_rec
def d3:=@PySem.wpAny_seqItems
theorem d4:type_of% @Option.map_some:=@Option.map_some
theorem d5:type_of% @List.find?_cons:=@List.find?_cons
def d6:=@PyProof.Rows.slot_tuple_getitem
theorem ee:type_of% @List.replicate_succ:=@List.replicate_succ
def ef:=@PySem.wpAny_newObj_type
def eg:=@congrArg
def eh:=@List.drop_length
def ej:=@Bool.false_and
theorem ek:type_of% @List.length_singleton:=@List.length_singleton
def en:=@List.findIdx?_cons
def ez:=@List.filter_append
def eA:=@Int.emod_lt_of_pos
def eD:=@List.dropLast_concat_getLast
def eI:=@List.append_nil
def eJ:=@Int.emod_nonneg
def eK:=@PySem.wpAny_typeNameOfWhole_keyiter
def eM:=@List.flatMap_cons
def eP:=@and_true
def eR:=@True.intro
def eS:=@Nat.zero_le
def eT:=@List.getElem?_append_right
def eW:=@List.length_pos_iff
def e6:=@PySem.F.slot_tuple_iterator_next
def e7:=@List.nodup_cons
def e8:=@Bool.eq_iff_iff
def e9:=@List.countP_append
theorem fb:type_of% @List.length_nil:=@List.length_nil
def fe:=@PySem.wpAny_typeNameOf_keyiter
def ff:=@Option.map_map
def fg:=@Nat.ne_of_gt
def fh:=@List.take_of_length_le
def fi:=@List.map_nil
def fk:=@List.countP_congr
def fm:=@Bool.not_eq_true'
def fo:=@Bool.and_false
def fq:=@PySem.sizeLine_eq
def ft:=@List.countP_le_length
def fv:=@List.cons_lt_cons_iff
def fw:=@Array.getElem?_toList
def fx:=@Bool.true_and
theorem fy:type_of% @List.flatten_cons:=@List.flatten_cons
abbrev Key:=Sum Int Str
def gw:Key->Value->Bool
 |.inl k,v=>Value.isInt k v
 |.inr x,v=>Value.isStrOf x v
def Nk(w:World):Key->Int
 |.inl k=>hashInt k
 |.inr x=>hashStr w x
theorem fK:∀{k:Key}{v:Value},gw k v=true->(∃i t,k=Sum.inl i/\v=Value.int i t)\/(∃x t,k=Sum.inr x/\v=Value.str x t)
 |.inl i,v,h=>by
  obtain ⟨t,e⟩:=Value.isInt_shape (k:=i) (v:=v) h;exact .inl ⟨i,t,rfl,e⟩
 |.inr x,v,h=>by
  obtain ⟨t,e⟩:=Value.isStrOf_shape (x:=x) (v:=v) h;exact .inr ⟨x,t,rfl,e⟩
theorem Nm(i:Int)(t:Tok):gw (.inl i) (.int i t)=true:=by simp[gw,Value.isInt]
theorem Np(x:Str)(t:Tok):gw (.inr x) (.str x t)=true:=by simp[gw,Value.isStrOf]
theorem Nq(a b:Int):decide ((Sum.inl a:Key)=Sum.inl b)=(a==b):=by
 by_cases e:a=b
 ·subst e;simp
 ·have h:¬(Sum.inl a:Key)=Sum.inl b:=λq=>e (Sum.inl.inj q);rw[bn h];exact (b9.mpr e).symm
theorem Nr(a b:Str):decide ((Sum.inr a:Key)=Sum.inr b)=decide (a=b):=by
 by_cases e:a=b
 ·subst e;simp
 ·have h:¬(Sum.inr a:Key)=Sum.inr b:=λq=>e (Sum.inr.inj q);rw[bn h,bn e]
theorem Nt(a:Int)(b:Str):decide ((Sum.inl a:Key)=Sum.inr b)=false:=bn (λq=>nomatch q)
theorem Nu(a:Str)(b:Int):decide ((Sum.inr a:Key)=Sum.inl b)=false:=bn (λq=>nomatch q)
def bN(prog:Program)(w:World):PySem.KeyKind prog w Key where
 is:=gw
 hash:=Nk w
 inj:=λv a b ha hb=>by
  rcases fK ha with ⟨i,t,rfl,rfl⟩ |⟨x,t,rfl,rfl⟩
  ·rcases fK hb with ⟨j,u,rfl,e⟩ |⟨y,u,rfl,e⟩
   ·injection e with e1 _;rw[e1]
   ·exact nomatch e
  ·rcases fK hb with ⟨j,u,rfl,e⟩ |⟨y,u,rfl,e⟩
   ·exact nomatch e
   ·injection e with e1 _;rw[e1]
 byValue:=λk v h=>by
  rcases fK h with ⟨i,t,rfl,rfl⟩ |⟨x,t,rfl,rfl⟩ <;> rfl
 pyHash:=λhv h=>by
  rcases fK hv with ⟨i,t,rfl,rfl⟩ |⟨x,t,rfl,rfl⟩
  ·exact wpAny_pyHash_int h
  ·exact wpAny_pyHash_str h
 eqBool:=λhu hv h=>by
  rcases fK hu with ⟨i,t,rfl,rfl⟩ |⟨x,t,rfl,rfl⟩
  ·rcases fK hv with ⟨j,u,rfl,rfl⟩ |⟨y,u,rfl,rfl⟩
   ·rw[Nq]at h;exact wpAny_eqBool_int h
   ·rw[Nt]at h;exact SeqAt.EqAt.int_str i t y u _ _ _ _ h
  ·rcases fK hv with ⟨j,u,rfl,rfl⟩ |⟨y,u,rfl,rfl⟩
   ·rw[Nu]at h;exact SeqAt.EqAt.str_int x t j u _ _ _ _ h
   ·rw[Nr]at h;exact wpAny_eqBool_str h
 «strs»:=λk x t v h=>by
  rcases fK h with ⟨i,u,rfl,e⟩ |⟨y,u,rfl,e⟩
  ·exact nomatch e
  ·injection e with e1 _;subst e1;cases v <;> rfl
theorem zN(prog:Program)(w:World)(i:Int)(t:Tok):(bN prog w).is (.inl i) (.int i t)=true:=Nm i t
theorem zO(prog:Program)(w:World)(x:Str)(t:Tok):(bN prog w).is (.inr x) (.str x t)=true:=Np x t
inductive V where
 |non |bl (b:Bool) |int (i:Int) |str (x:Str) |byt (b:Array UInt8) |flt (b:UInt64) |ref (a:Addr) |ty (n:String)
 deriving DecidableEq
def RelV:V->Value->Prop
 |.non,u=>u=Value.none
 |.bl b,u=>u=Value.bool b
 |.int i,u=>∃t,u=Value.int i t
 |.str x,u=>∃t,u=Value.str x t
 |.byt b,u=>∃t,u=Value.bytes b t
 |.flt b,u=>∃t,u=Value.float b t
 |.ref a,u=>u=Value.ref a
 |.ty n,u=>u=Value.type n
abbrev Vals:List V->List Value->Prop:=Paired RelV
theorem Vals.length{xs:List V}{us:List Value}(r:Vals xs us):xs.length=us.length:=Paired.length r
theorem Vals.get:∀{xs:List V}{us:List Value}{i:Nat}{x:V},Vals xs us->xs[i]?=some x->∃u,us[i]?=some u/\RelV x u
 |_,_,_,_,.nil,e=>by simp at e
 |_,_,0,_,.cons r _,e=>by simp at e;subst e;exact ⟨_,rfl,r⟩
 |_,_,i+1,x,.cons _ t,e=>by
  obtain ⟨u,h1,h2⟩:=Vals.get (i:=i) (x:=x) t (by simpa using e);exact ⟨u,by simpa using h1,h2⟩
theorem Vals.set{x:V}{u:Value}(r:RelV x u):∀{xs:List V}{us:List Value}(i:Nat),Vals xs us->Vals (xs.set i x) (us.set i u)
 |_,_,_,.nil=>.nil
 |_,_,0,.cons _ t=>.cons r t
 |_,_,i+1,.cons q t=>.cons q (Vals.set r i t)
theorem Vals.append:∀{xs ys:List V}{us ws:List Value},Vals xs us->Vals ys ws->Vals (xs++ys) (us++ws)
 |_,_,_,_,.nil,s=>s
 |_,_,_,_,.cons r t,s=>.cons r (Vals.append t s)
theorem Vals.take:∀{xs:List V}{us:List Value}(n:Nat),Vals xs us->Vals (xs.take n) (us.take n)
 |_,_,0,_=>.nil
 |_,_,_+1,.nil=>.nil
 |_,_,n+1,.cons r t=>.cons r (Vals.take n t)
theorem Vals.drop:∀{xs:List V}{us:List Value}(n:Nat),Vals xs us->Vals (xs.drop n) (us.drop n)
 |_,_,0,r=>r
 |_,_,_+1,.nil=>.nil
 |_,_,n+1,.cons _ t=>Vals.drop n t
def RelO:Option V->Option Value->Prop
 |some v,some u=>RelV v u
 |none,none=>True
 |_,_=>False
def KV{κ:Type}:List (κ×V)->List (κ×Value)->Prop:=Paired λ(p:κ×V) (q:κ×Value)=>p.1=q.1/\RelV p.2 q.2
def kV:Key->V
 |.inl i=>.int i
 |.inr x=>.str x
inductive HO where
 |lst (xs:List V)
 |tup (xs:List V)
 |dK (kvs:List (Key×V)) |dT (kvs:List (List Key×V))
 |set (S:Int->Bool) (n:Nat)
 |ins (C dx:Addr) (fs:List (Str×V))
 |own (x:Addr)
 |xd (fs:List (Str×V))
 |met (f x:Addr)
 |rng (lo hi:Int)
 |frz (o:Obj) (u:HO)
 |tbl (ps:Array Value)
 |ext (φ:Heap->Prop)
abbrev Hp:=Addr->Option HO
def upd(H:Hp)(a:Addr)(o:HO):Hp:=λb=>if b=a then some o else H b
theorem bD{H:Hp}{a:Addr}{o:HO}:upd H a o a=some o:=by unfold upd;rw[if_pos rfl]
theorem aH{H:Hp}{a b:Addr}{o:HO}(h:b≠a):upd H a o b=H b:=by unfold upd;rw[if_neg h]
theorem uA{H:Hp}{a:Addr}{o u:HO}:upd (upd H a o) a u=upd H a u:=by funext b;unfold upd;split <;> rfl
theorem uB{H:Hp}{a b:Addr}{o u:HO}(h:H a=some o)(h':H b=some u)(d:o≠u):a≠b:=by intro e;subst e;rw[h]at h';exact d (cy h')
theorem aU{H:Hp}{a b:Addr}{o:HO}(h:H a=some o)(h':H b=none):a≠b:=by intro e;subst e;rw[h]at h';cases h'
section
variable (P:Program) (w:World)
def ObjOk(H:Hp)(h:Heap)(a:Addr):HO->Prop
 |.lst xs=>xs.length<=sizeLine/\∃(its:List Value) (n:Nat),Vals xs its/\h.get? a=some { cls:=.type "list",data:=.seq its.toArray n }
 |.tup xs=>xs.length<=sizeLine/\∃its:List Value,Vals xs its/\IsTup h a its.toArray
 |.dK kvs=>kvs.length<=sizeLine/\(a==sysModules)=false/\∃vs,KV kvs vs/\h.DictOf (bN P w) a vs
 |.dT kvs=>kvs.length<=sizeLine/\(a==sysModules)=false/\∃xs:List (List Key×Addr×Value),
   Paired (λ(p:List Key×V) (q:List Key×Addr×Value)=>p.1=q.1/\H q.2.1=some (.tup (p.1.map kV))/\RelV p.2 q.2.2) kvs xs/\
   ∃o es ep,h.get? a=some o/\o.ExactDict/\o.data=.dict es ep/\es.toList=xs.map (entryOfKey (tupleKind (bN P w)))/\(xs.map (·.1)).Nodup
 |.set S n=>h.SetOf (intKind P w) a S n
 |.ins C dx fs=>H dx=some (.own a)/\fs.length<=1000/\dx≠a/\h.get? a=some (PySem.W.instObj C dx)/\
   ∃mA,h.Ns1 dx mA/\(∀f,RelO (fs.lookup f) (mA f))/\PySem.Within mA (fs.map (·.1))
 |.own _=>∃o,h.get? a=some o
 |.xd fs=>∃mA,h.Ns1 a mA/\∀f,RelO (fs.lookup f) (mA f)
 |.rng lo hi=>∃t u v,h.get? a=some { cls:=.type "range",data:=.fields #[.int lo t,.int hi u,.int 1 v] }
 |.frz o u=>h.get? a=some o/\ObjOk H h a u
 |.tbl ps=>h.get? a=some { cls:=.none,data:=.fields ps }
 |.met f x=>h.get? a=some (PySem.W.methodObj (.ref f) (.ref x))
 |.ext φ=>φ h/\(∃o,h.get? a=some o)/\∀h1 h2:Heap,φ h1->(∀o,h1.get? a=some o->h2.get? a=some o)->φ h2
def HOk(H:Hp)(h:Heap):Prop:=∀a o,H a=some o->ObjOk P w H h a o
end
section
variable {P:Program} {w:World} {H H':Hp} {h h':Heap} {a:Addr} {o:HO}
theorem ObjOk.lt(x:ObjOk P w H h a o):a < h.objs.size:=by
 cases o with
 |lst xs=>obtain ⟨_,_,_,_,e⟩:=x;exact ay e
 |tup xs=>obtain ⟨_,_,_,p⟩:=x;exact p.lt
 |dK kvs=>obtain ⟨_,_,_,_,o,_,_,e,_⟩:=x;exact ay e
 |dT kvs=>obtain ⟨_,_,_,_,o,_,_,e,_⟩:=x;exact ay e
 |set S n=>obtain ⟨o,_,_,_,e,_⟩:=x;exact ay e
 |ins C dx fs=>obtain ⟨_,_,_,e,_⟩:=x;exact ay e
 |own y=>obtain ⟨_,e⟩:=x;exact ay e
 |xd fs=>obtain ⟨_,⟨_,_,_,e,_⟩,_⟩:=x;exact ay e
 |rng lo hi=>obtain ⟨_,_,_,e⟩:=x;exact ay e
 |frz ob u=>obtain ⟨e,_⟩:=x;exact ay e
 |tbl ps=>exact ay (show h.get? a=some _ from x)
 |met f y=>exact ay (show h.get? a=some _ from x)
 |ext φ=>obtain ⟨_,⟨_,e⟩,_⟩:=x;exact ay e
theorem Paired.mapP{α β:Type}{F G:α->β->Prop}:∀{l₁:List α}{l₂:List β},Paired F l₁ l₂->(∀a b,F a b->G a b)->Paired G l₁ l₂
 |_,_,.nil,_=>.nil
 |_,_,.cons r t,f=>.cons (f _ _ r) (Paired.mapP t f)
theorem ObjOk.stay(x:ObjOk P w H h a o)(k:∀b u,(b=a\/H b=some (.own a))->h.get? b=some u->h'.get? b=some u)
  (ho:∀b,H b=some (.own a)->H' b=some (.own a)) (ht:∀b xs,H b=some (.tup xs)->H' b=some (.tup xs)):ObjOk P w H' h' a o:=by
 induction o with
 |lst xs=>obtain ⟨z,its,n,r,e⟩:=x;exact ⟨z,its,n,r,k _ _ (.inl rfl) e⟩
 |tup xs=>obtain ⟨z,its,r,ob,e,c⟩:=x;exact ⟨z,its,r,ob,k _ _ (.inl rfl) e,c⟩
 |dK kvs=>obtain ⟨z,y,vs,r,ob,es,ep,e,c⟩:=x;exact ⟨z,y,vs,r,ob,es,ep,k _ _ (.inl rfl) e,c⟩
 |dT kvs=>
  obtain ⟨z,y,xs,r,ob,es,ep,e,c⟩:=x;exact ⟨z,y,xs,Paired.mapP r λp q z=>⟨z.1,ht _ _ z.2.1,z.2.2⟩,ob,es,ep,k _ _ (.inl rfl) e,c⟩
 |set S n=>obtain ⟨ob,es,ep,t,e,c⟩:=x;exact ⟨ob,es,ep,t,k _ _ (.inl rfl) e,c⟩
 |ins C dx fs=>
  obtain ⟨d,z,ne,e,mA,⟨od,es,ep,e2,c⟩,r⟩:=x;exact ⟨ho _ d,z,ne,k _ _ (.inl rfl) e,mA,⟨od,es,ep,k _ _ (.inr d) e2,c⟩,r⟩
 |own y=>obtain ⟨ob,e⟩:=x;exact ⟨ob,k _ _ (.inl rfl) e⟩
 |xd fs=>obtain ⟨mA,⟨od,es,ep,e,c⟩,r⟩:=x;exact ⟨mA,⟨od,es,ep,k _ _ (.inl rfl) e,c⟩,r⟩
 |rng lo hi=>obtain ⟨t,u,v,e⟩:=x;exact ⟨t,u,v,k _ _ (.inl rfl) e⟩
 |frz ob u ih=>obtain ⟨e,q⟩:=x;exact ⟨k _ _ (.inl rfl) e,ih q⟩
 |tbl ps=>
  have e:h.get? a=some { cls:=.none,data:=.fields ps }:=x;show h'.get? a=some { cls:=.none,data:=.fields ps };exact k a _ (.inl rfl) e
 |met f y=>
  have e:h.get? a=some (PySem.W.methodObj (.ref f) (.ref y)):=x;show h'.get? a=some (PySem.W.methodObj (.ref f) (.ref y));exact k a _ (.inl rfl) e
 |ext φ=>obtain ⟨p,⟨o,e⟩,st⟩:=x;exact ⟨st _ _ p λo q=>k _ _ (.inl rfl) q,⟨o,k _ _ (.inl rfl) e⟩,st⟩
theorem HOk.lt(x:HOk P w H h)(e:H a=some o):a < h.objs.size:=(x a o e).lt
theorem HOk.fresh(x:HOk P w H h)(e:h.objs.size<=a):H a=none:=by
 cases q:H a with
 |none=>rfl
 |some u=>exact absurd (bp (x.lt q) e) (cr _)
theorem HOk.kept(x:HOk P w H h)(k:∀b u,h.get? b=some u->h'.get? b=some u):HOk P w H h':=λa o e=>
 (x a o e).stay (λb u _ q=>k b u q) (λ_ q=>q) λ_ _ q=>q
theorem HOk.laid(x:HOk P w H h)(k:∀b u,h.get? b=some u->h'.get? b=some u)(hp:h.objs.size<=a)(new:ObjOk P w (upd H a o) h' a o):HOk P w (upd H a o) h':=λb u e=>by
 have hn:=x.fresh hp;by_cases hb:b=a
 ·subst hb;rw[bD]at e;cases e;exact new
 ·rw[aH hb]at e;exact (x b u e).stay (λc v _ q=>k c v q) (λc q=>by rw[aH (aU q hn)];exact q) λc xs q=>by rw[aH (aU q hn)];exact q
end
def Rd(H:Hp)(a:Addr)(u:HO):Prop:=H a=some u\/∃o,H a=some (.frz o u)
theorem Rd.ok{P:Program}{w:World}{H:Hp}{h:Heap}{a:Addr}{u:HO}(r:Rd H a u)(x:HOk P w H h):ObjOk P w H h a u:=by
 rcases r with r |⟨o,r⟩
 ·exact x a u r
 ·obtain ⟨_,q⟩:=x a _ r;exact q
def Mut:Option HO->Prop
 |some (.lst _)=>True
 |some (.dK _)=>True
 |some (.dT _)=>True
 |some (.set _ _)=>True
 |some (.ins _ _ _)=>True
 |some (.ext _)=>True
 |_=>False
section
variable {P:Program} {w:World} {H:Hp} {h h':Heap} {x e:Addr} {o':HO}
theorem HOk.write(ok:HOk P w H h)(mu:Mut (H x))(he:e=x\/H e=some (.own x))(k:∀b u,b≠e->h.get? b=some u->h'.get? b=some u)(heo:∃u,h'.get? e=some u)
  (new:ObjOk P w (upd H x o') h' x o'):HOk P w (upd H x o') h':=λb u q=>by
 have nown:∀c y,H c=some (.own y)->c≠x:=λc y r z=>by subst z;rw[r]at mu;exact mu
 have ntup:∀c xs,H c=some (.tup xs)->c≠x:=λc xs r z=>by subst z;rw[r]at mu;exact mu
 by_cases hb:b=x
 ·subst hb;rw[bD]at q;cases q;exact new
 ·rw[aH hb]at q;by_cases hbe:b=e
  ·have q':H b=some (.own x):=by
    rcases he with z |z
    ·exact absurd (hbe.trans z) hb
    ·rw[hbe];exact z
   rw[q]at q';cases q';obtain ⟨v,hv⟩:=heo;exact ⟨v,by rw[hbe];exact hv⟩
  ·refine (ok b u q).stay (λc v hc r=>k c v ?_ r) (λc r=>by rw[aH (nown c b r)];exact r) λc xs r=>by rw[aH (ntup c xs r)];exact r
   rcases hc with rfl |hc
   ·exact hbe
   ·rintro rfl;rcases he with z |z
    ·exact nown c b hc z
    ·rw[hc]at z;cases z;exact hb rfl
end
structure Un(fs ex:List Addr)(H H':Hp)(h h':Heap):Prop where
 keep:∀b o,h.get? b=some o->H b=none->b∉fs->b∉ex->h'.get? b=some o
 slot:∀b o,h.get? b=some o->H b=none->b∈fs->b∉ex->∃sl,h'.get? b=some { o with slots:=sl }
 free:∀b o,h.get? b=some o->H b=none->b∉ex->H' b=none
 there:∀b o,h.get? b=some o->b∉ex->∃o',h'.get? b=some o'
 tups:∀b xs,H b=some (.tup xs)->H' b=some (.tup xs)
 frzs:∀b o u,H b=some (.frz o u)->H' b=some (.frz o u)
 tbls:∀b ps,H b=some (.tbl ps)->∃more,H' b=some (.tbl (ps++more))
section
variable {fs fs' ex ex':List Addr} {H H1 H2:Hp} {h h1 h2 h':Heap} {a x e:Addr} {o:HO}
theorem Un.any(u:Un fs ex H H1 h h1){b:Addr}{ob:Obj}(q:h.get? b=some ob)(n:H b=none)(hx:b∉ex):∃sl,h1.get? b=some { ob with slots:=sl }:=by
 by_cases hb:b∈fs
 ·exact u.slot b ob q n hb hx
 ·exact ⟨ob.slots,u.keep b ob q n hb hx⟩
theorem Un.kept(k:∀b u,h.get? b=some u->h'.get? b=some u):Un fs ex H H h h':=
 ⟨λb ob q _ _ _=>k b ob q,λb ob q _ _ _=>⟨ob.slots,k b ob q⟩,λ_ _ _ n _=>n,λb ob q _=>⟨ob,k b ob q⟩,λ_ _ q=>q,λ_ _ _ q=>q,λ_ ps q=>⟨#[],by rw[q];simp⟩⟩
theorem Un.refl:Un fs ex H H h h:=Un.kept λ_ _ q=>q
theorem Un.laid(k:∀b u,h.get? b=some u->h'.get? b=some u)(hp:h.objs.size<=a)(hn:H a=none):Un fs ex H (upd H a o) h h' where
 keep:=λb u q _ _ _=>k b u q
 slot:=λb u q _ _ _=>⟨u.slots,k b u q⟩
 free:=λb u q n _=>by rw[aH (b5 (bp (ay q) hp))];exact n
 there:=λb u q _=>⟨u,k b u q⟩
 tups:=λb xs q=>by rw[aH (aU q hn)];exact q
 frzs:=λb u xs q=>by rw[aH (aU q hn)];exact q
 tbls:=λb ps q=>⟨#[],by rw[aH (aU q hn),q];simp⟩
theorem Un.write(mu:Mut (H x))(he:e=x\/H e=some (.own x))(k:∀b u,b≠e->h.get? b=some u->h'.get? b=some u)(heo:∃u,h'.get? e=some u):Un fs ex H (upd H x o) h h':=by
 have hx:∀b,H b=none->b≠x:=λb n z=>by subst z;rw[n]at mu;exact mu
 have hb:∀b,H b=none->b≠e:=λb n z=>by
  subst z;rcases he with r |r
  ·exact hx b n r
  ·rw[n]at r;cases r
 have hm:∀b u,H b=some u->¬Mut (some u)->b≠x:=λb u q nm z=>by subst z;rw[q]at mu;exact nm mu
 refine ⟨λb u q n _ _=>k b u (hb b n) q,λb u q n _ _=>⟨u.slots,k b u (hb b n) q⟩,λb u q n _=>by rw[aH (hx b n)];exact n,λb u q _=>?_,
  λb xs q=>by rw[aH (hm b _ q λz=>z)];exact q,λb u xs q=>by rw[aH (hm b _ q λz=>z)];exact q,λb ps q=>⟨#[],by rw[aH (hm b _ q λz=>z),q];simp⟩⟩
 by_cases hbe:b=e
 ·subst hbe;exact heo
 ·exact ⟨u,k b u hbe q⟩
end
def trk(h:Heap)(H:Hp):List Addr:=(List.range h.objs.size).filter λa=>(H a).isSome
def dC(h:Heap)(H:Hp):Heap:=PySem.W.hideAll h (trk h H)
theorem Nv(h:Heap)(H:Hp):(dC h H).objs.size=h.objs.size:=PySem.W.hideAll_size _ _
theorem Nx{h:Heap}{H:Hp}{b:Addr}{o:Obj}(e:h.get? b=some o)(n:H b=none):(dC h H).get? b=some o:=
 PySem.W.hideAll_get _ e λhm=>by
  have q:(H b).isSome=true:=(dS.mp hm).2;rw[n]at q;simp at q
theorem Ny{h:Heap}{H:Hp}{b:Addr}{o:Obj}(e:(dC h H).get? b=some o):h.get? b=some o/\H b=none:=by
 have e':h.get? b=some o:=PySem.W.of_hideAll (trk h H) e;refine ⟨e',?_⟩;cases q:H b with
 |none=>rfl
 |some x=>
  have hm:b∈trk h H:=dS.mpr ⟨List.mem_range.mpr (ay e'),by simp[q]⟩;have z:(dC h H).get? b=none:=PySem.W.hideAll_none (trk h H) hm;rw[z]at e;cases e
def Nz(g h:Heap)(L:Addr):List (Addr×Obj):=(List.range h.objs.size).filterMap λa=>if a=L\/(g.get? a).isSome=true then none else (h.get? a).map λo=>(a,o)
def rest(g h:Heap)(L d:Addr):List (Addr×Obj):=(Nz g h L).filter λp=>decide (p.1≠d)
structure Mod(K:PF)(mg:Str->Option Value)(base:Heap):Prop where
 kin:K.In base
 glob:base.Ns mainGlobals mg
 blt:∃mb,base.Ns builtinsNs mb/\∀x:Str,x≠"__name__"->mb x=bootBuiltins x
 nolimit:base.NoLimit
structure Cx where
 prog:Program
 w:World
 K:PF
 mg:Str->Option Value
 base:Heap
 A:Around
 N:List Str
 s₀:Shared
 H₀:Hp
 env:Env
 outer:List Env
 stack:List Env
 ex:List Addr
 fn:Str->Bool
 calm:Bool
 pn:List (Addr×Obj)
 xe:Value->Shared->Prop
def frs(l:List Env):List Addr:=l.filterMap (·.frame)
abbrev Cx.fs(X:Cx):List Addr:=frs X.outer
def Vis(sc:Scope)(x:Str):Prop:=sc.names.lookup x=some .local\/sc.names.lookup x=some .cell\/sc.names.lookup x=some .free
def Loc(sc:Scope)(x:Str):Prop:=sc.names.lookup x=some .local\/sc.names.lookup x=some .cell
def Look(env:Env)(h:Heap)(m:Str->Option Value)(x:Str)(u:Value):Prop:=
 (env.kindOf x=some .local/\m x=some u)\/((env.kindOf x=some .cell\/env.kindOf x=some .free)/\∃c,env.cells.lookup x=some c/\h.IsCell c (some u))
structure Cx.Ok(X:Cx):Prop where
 mod:Mod X.K X.mg X.base
 kind:X.env.scope.kind=.function
 glob:X.env.globals=mainGlobals
 blt:X.env.builtins=builtinsNs
 above:X.s₀.heap.objs.size<=X.env.locals
 inj:∀x y c,X.env.cells.lookup x=some c->X.env.cells.lookup y=some c->x=y
 has:∀x,(X.env.kindOf x=some .cell\/X.env.kindOf x=some .free)->∃c,X.env.cells.lookup x=some c
 cab:∀x c,X.fn x=true->X.env.cells.lookup x=some c->X.s₀.heap.objs.size<=c
 hd:X.calm=true->X.A.handled=none
 frames:X.A.frames=some X.stack
 stk:X.stack=X.outer\/(X.stack=X.env::X.outer/\X.env.frame=some X.env.locals)
 exf:∀b∈X.ex,b≠X.env.locals/\∀x c,X.env.cells.lookup x=some c->c≠b
 bs:∀b o,X.base.get? b=some o->X.s₀.heap.get? b=some o/\X.H₀ b=none
 bsz:X.base.objs.size<=X.s₀.heap.objs.size
 noex:∀b o,X.base.get? b=some o->b∉X.ex
 exfs:∀b∈X.ex,b∉X.fs
 funs:X.s₀.heap.FunFrames X.base X.outer
 frf:∀b∈X.fs,X.H₀ b=none
structure Inv(X:Cx)(pins:List (Addr×Obj))(Y:List (Option V))(H:Hp)(s:Shared):Prop where
 ok:X.Ok
 os:s.os=X.s₀.os
 bare:AllBare s.gens
 base:Un X.fs X.ex X.H₀ H X.s₀.heap s.heap
 loc:∃m,s.heap.Ns X.env.locals m/\∀(i:Nat)(x:Str)(v:V),X.N[i]?=some x->Y[i]?=some (some v)->Vis X.env.scope x->∃u,RelV v u/\Look X.env s.heap m x u
 cell:∀x c,X.env.cells.lookup x=some c->∃v,s.heap.IsCell c v
 free:H X.env.locals=none
 freeC:∀x c,X.env.cells.lookup x=some c->H c=none
 pin:∀p∈X.pn++pins,s.heap.get? p.1=some p.2/\H p.1=none/\p.1≠X.env.locals/\p.1∉X.fs/\∀v,p.2.data≠.cell v
 hok:HOk X.prog X.w H s.heap
 len:Y.length=X.N.length
section
variable {X:Cx} {pins:List (Addr×Obj)} {σ:List (Option V)} {H H':Hp} {s:Shared} {h':Heap}
theorem Cx.Ok.nofr(ok:X.Ok){b:Addr}{o:Obj}(e:X.base.get? b=some o):b∉X.fs:=λhb=>by
 have:=(ok.funs.mem hb).1;rw[e]at this;cases this
theorem Inv.bs(I:Inv X pins σ H s):∀b o,X.base.get? b=some o->s.heap.get? b=some o/\H b=none:=λb o e=>
 ⟨I.base.keep b o (I.ok.bs b o e).1 (I.ok.bs b o e).2 (I.ok.nofr e) (I.ok.noex b o e),I.base.free b o (I.ok.bs b o e).1 (I.ok.bs b o e).2 (I.ok.noex b o e)⟩
theorem Inv.bk(I:Inv X pins σ H s):∀b o,X.base.get? b=some o->s.heap.get? b=some o:=λb o e=>(I.bs b o e).1
theorem Inv.mod(I:Inv X pins σ H s):Mod X.K X.mg X.base:=I.ok.mod
theorem Inv.kIn(I:Inv X pins σ H s):X.K.In s.heap:=I.ok.mod.kin.keeps I.bk
theorem Inv.lt(I:Inv X pins σ H s):X.env.locals < (~~~s):=let ⟨_,hn,_⟩:=I.loc;hn.lt
theorem Inv.sz(I:Inv X pins σ H s):X.s₀.heap.objs.size<=(~~~s):=bv I.ok.above (Nat.le_of_lt I.lt)
theorem Inv.nofs(I:Inv X pins σ H s){a:Addr}(h:(~~~s)<=a):a∉X.fs:=λhb=>by
 obtain ⟨_,o,ho,_⟩:=I.ok.funs.mem hb;exact absurd (bp (ay ho) (bv I.sz h)) (cr _)
theorem Inv.cne(I:Inv X pins σ H s):∀x c,X.env.cells.lookup x=some c->c≠X.env.locals:=λx c e z=>by
 obtain ⟨v,o,ho,hd⟩:=I.cell x c e;obtain ⟨m,⟨o',es,ep,ho',hd',_⟩,_⟩:=I.loc;rw[z,ho']at ho;cases ho;rw[hd']at hd;cases hd
theorem Inv.funs(I:Inv X pins σ H s):s.heap.FunFrames X.base X.outer:=by
 have all:∀(l:List Env),(∀b∈frs l,b∈X.fs)->X.s₀.heap.FunFrames X.base l->s.heap.FunFrames X.base l:=by
  intro l;induction l with
  |nil=>intro _ _;trivial
  |cons env r ih=>
   intro hs hl;obtain ⟨hk,⟨L,o,hf,hn,ho,hd⟩,hr⟩:=hl;have hL:L∈X.fs:=hs L (by unfold frs;rw[List.filterMap_cons,hf];exact bq);obtain ⟨sl,e⟩:=I.base.slot L o ho (I.ok.frf L hL) hL λz=>I.ok.exfs L z hL;exact ⟨hk,⟨L,_,hf,hn,e,hd⟩,ih (λb hb=>hs b (by unfold frs;rw[List.filterMap_cons,hf];exact bm _ hb)) hr⟩
 exact all X.outer (λ_ hb=>hb) I.ok.funs
theorem Inv.stack(I:Inv X pins σ H s):s.heap.FunFrames X.base X.stack:=by
 rcases I.ok.stk with e |⟨e,hf⟩
 ·rw[e];exact I.funs
 ·rw[e];obtain ⟨m,hn,_⟩:=I.loc;refine .cons (by rw[I.ok.kind];decide) hf hn ?_ I.funs;exact Heap.get?_none_of_le (bv I.ok.bsz I.ok.above)
theorem Inv.stkSub(I:Inv X pins σ H s):∀b∈frs X.stack,b∈X.env.locals::X.fs:=λb hb=>by
 rcases I.ok.stk with e |⟨e,hf⟩
 ·rw[e]at hb;exact bm _ hb
 ·rw[e]at hb;unfold frs at hb;rw[List.filterMap_cons,hf]at hb;exact hb
theorem Inv.stkFree(I:Inv X pins σ H s):∀b∈frs X.stack,H b=none:=λb hb=>by
 rcases bP.mp (I.stkSub b hb) with e |hb
 ·rw[e];exact I.free
 ·obtain ⟨_,o,ho,_⟩:=I.ok.funs.mem hb;exact I.base.free b o ho (I.ok.frf b hb) λz=>I.ok.exfs b z hb
theorem Inv.step{g':Array GenState}{t':Nat}{d':Drawn}{ch:List Addr}(I:Inv X pins σ H s)
  (hch:∀b∈ch,(b∈X.ex\/X.s₀.heap.objs.size<=b)/\b≠X.env.locals/\(∀x c,X.env.cells.lookup x=some c->c≠b)/\∀p∈X.pn++pins,p.1≠b)
  (keep:∀b o,b≠X.env.locals->b∉X.fs->b∉ch->s.heap.get? b=some o->H b=none->h'.get? b=some o)
  (slot:∀b o,b≠X.env.locals->b∈X.fs->b∉ch->s.heap.get? b=some o->H b=none->∃sl,h'.get? b=some { o with slots:=sl }) (free:∀b o,b∉ch->s.heap.get? b=some o->H b=none->H' b=none)
  (there:∀b o,b∉ch->s.heap.get? b=some o->∃o',h'.get? b=some o')
  (tups:∀b xs,H b=some (.tup xs)->H' b=some (.tup xs)) (frzs:∀b o u,H b=some (.frz o u)->H' b=some (.frz o u)) (tbls:∀b ps,H b=some (.tbl ps)->∃more,H' b=some (.tbl (ps++more)))
  (ns:∀m,s.heap.Ns X.env.locals m->h'.Ns X.env.locals m) (hok:HOk X.prog X.w H' h') (hg:AllBare g'):
  Inv X pins σ H' { s with heap:=h',gens:=g',drawn:=d',toks:=t' }:=by
 have neL:∀b o,X.s₀.heap.get? b=some o->b≠X.env.locals:=λb o e=>b5 (bp (ay e) I.ok.above);have neC:∀b o,X.s₀.heap.get? b=some o->b∉X.ex->b∉ch:=λb o e hx hb=>by
  rcases (hch b hb).1 with z |z
  ·exact hx z
  ·exact absurd (bp (ay e) z) (cr _)
 have cellK:∀x c,X.env.cells.lookup x=some c->∀v,s.heap.IsCell c v->h'.IsCell c v:=λx c e v ⟨o,ho,hd⟩=>by
  have nch:c∉ch:=λz=>(hch c z).2.2.1 x c e rfl;by_cases hc:c∈X.fs
  ·obtain ⟨sl,q⟩:=slot c o (I.cne x c e) hc nch ho (I.freeC x c e);exact ⟨_,q,hd⟩
  ·exact ⟨o,keep c o (I.cne x c e) hc nch ho (I.freeC x c e),hd⟩
 refine ⟨I.ok,I.os,hg,⟨λb o e n hb hx=>?_,λb o e n hb hx=>?_,λb o e n hx=>?_,λb o e hx=>?_,λb xs e=>tups b xs (I.base.tups b xs e),λb o xs e=>frzs b o xs (I.base.frzs b o xs e),λb ps e=>?_⟩,?_,λx c e=>?_,?_,λx c e=>?_,λp hp=>?_,hok,I.len⟩
 ·exact keep b o (neL b o e) hb (neC b o e hx) (I.base.keep b o e n hb hx) (I.base.free b o e n hx)
 ·obtain ⟨sl,e1⟩:=I.base.slot b o e n hb hx;obtain ⟨sl',e2⟩:=slot b _ (neL b o e) hb (neC b o e hx) e1 (I.base.free b o e n hx);exact ⟨sl',e2⟩
 ·obtain ⟨o',e1⟩:=I.base.there b o e hx;exact free b o' (neC b o e hx) e1 (I.base.free b o e n hx)
 ·obtain ⟨o',e1⟩:=I.base.there b o e hx;exact there b o' (neC b o e hx) e1
 ·obtain ⟨m1,e1⟩:=I.base.tbls b ps e;obtain ⟨m2,e2⟩:=tbls b _ e1;exact ⟨m1++m2,by rw[e2,Array.append_assoc]⟩
 ·obtain ⟨m,hn,hl⟩:=I.loc;refine ⟨m,ns m hn,λi x v e1 e2 e3=>?_⟩;obtain ⟨u,r,l⟩:=hl i x v e1 e2 e3;refine ⟨u,r,?_⟩;rcases l with l |⟨k,c,e,z⟩
  ·exact .inl l
  ·exact .inr ⟨k,c,e,cellK x c e _ z⟩
 ·obtain ⟨v,z⟩:=I.cell x c e;exact ⟨v,cellK x c e v z⟩
 ·obtain ⟨m,⟨o,_,_,ho,_⟩,_⟩:=I.loc;exact free _ o (λz=>(hch _ z).2.1 rfl) ho I.free
 ·obtain ⟨v,o,ho,hd⟩:=I.cell x c e;exact free c o (λz=>(hch c z).2.2.1 x c e rfl) ho (I.freeC x c e)
 ·obtain ⟨e,n,ne,nf,d⟩:=I.pin p hp;have nch:p.1∉ch:=λz=>(hch p.1 z).2.2.2 p hp rfl;exact ⟨keep p.1 p.2 ne nf nch e n,free p.1 p.2 nch e n,ne,nf,d⟩
theorem Inv.un{t':Nat}(I:Inv X pins σ H s)(u:Un X.fs [] H H' s.heap h')(hok:HOk X.prog X.w H' h'):Inv X pins σ H' { s with heap:=h',toks:=t' }:=by
 obtain ⟨m,⟨o,es,ep,ho,r⟩,_⟩:=id I.loc;obtain ⟨sl,hL⟩:=u.any ho I.free (by simp);exact I.step (g':=s.gens) (d':=s.drawn) (ch:=[]) (λ_ z=>nomatch z) (λb o _ hb _ e n=>u.keep b o e n hb (by simp)) (λb o _ hb _ e n=>u.slot b o e n hb (by simp)) (λb o _ e n=>u.free b o e n (by simp)) (λb o _ e=>u.there b o e (by simp)) u.tups u.frzs u.tbls (λm' hm=>by
  obtain ⟨o',es',ep',ho',r'⟩:=hm;rw[ho]at ho';cases ho';exact ⟨_,es',ep',hL,r'⟩) hok I.bare
theorem Inv.call{g':Array GenState}{t':Nat}{d':Drawn}{ch:List Addr}(I:Inv X pins σ H s)(u:Un (frs X.stack) ch H H' s.heap h')(hok:HOk X.prog X.w H' h')(hg:AllBare g')
  (hch:∀b∈ch,(b∈X.ex\/X.s₀.heap.objs.size<=b)/\b≠X.env.locals/\(∀x c,X.env.cells.lookup x=some c->c≠b)/\∀p∈X.pn++pins,p.1≠b):
  Inv X pins σ H' { s with heap:=h',gens:=g',drawn:=d',toks:=t' }:=by
 obtain ⟨m,⟨o,es,ep,ho,r⟩,_⟩:=id I.loc;obtain ⟨sl,hL⟩:=u.any ho I.free λz=>(hch _ z).2.1 rfl;exact I.step (ch:=ch) hch (λb o hL hb hc e n=>u.keep b o e n (λz=>(bP.mp (I.stkSub b z)).elim hL hb) hc) (λb o _ _ hc e n=>u.any e n hc) (λb o hc e n=>u.free b o e n hc) (λb o hc e=>u.there b o e hc) u.tups u.frzs u.tbls (λm' hm=>by
  obtain ⟨o',es',ep',ho',r'⟩:=hm;rw[ho]at ho';cases ho';exact ⟨_,es',ep',hL,r'⟩) hok hg
theorem Inv.turned{t':Nat}{it:Addr}(I:Inv X pins σ H s)(k:∀b o,b≠it->s.heap.get? b=some o->h'.get? b=some o)(hn:H it=none)(hL:it≠X.env.locals)
  (h1:it∈X.ex\/X.s₀.heap.objs.size<=it) (h2:∀x c,X.env.cells.lookup x=some c->c≠it) (h3:∀p∈X.pn++pins,p.1≠it):Inv X pins σ H { s with heap:=h',toks:=t' }:=by
 have nit:∀b u,H b=some u->b≠it:=λb u e z=>by rw[z,hn]at e;cases e
 refine I.step (g':=s.gens) (d':=s.drawn) (ch:=[it]) (λb hb=>?_) (λb o _ _ hc e _=>k b o (λz=>hc (by simp[z])) e) (λb o _ _ hc e _=>⟨o.slots,k b o (λz=>hc (by simp[z])) e⟩) (λ_ _ _ _ n=>n)
  (λb o hc e=>⟨o,k b o (λz=>hc (by simp[z])) e⟩) (λ_ _ e=>e) (λ_ _ _ e=>e) (λb ps e=>⟨#[],by rw[e];simp⟩) (λm hm=>?_) (λb u e=>?_) I.bare
 ·have e:b=it:=by simpa using hb
  subst e;exact ⟨h1,hL,h2,h3⟩
 ·obtain ⟨o,es,ep,ho,r⟩:=hm;exact ⟨o,es,ep,k _ o (Ne.symm hL) ho,r⟩
 ·refine (I.hok b u e).stay (λc v hc q=>k c v ?_ q) (λ_ q=>q) λ_ _ q=>q;rcases hc with z |z
  ·rw[z];exact nit b u e
  ·exact nit c _ z
theorem Inv.tok(I:Inv X pins σ H s)(t:Nat):Inv X pins σ H { s with toks:=t }:=I.un (h':=s.heap) (t':=t) Un.refl I.hok
theorem Inv.kept{t':Nat}(I:Inv X pins σ H s)(k:∀b u,s.heap.get? b=some u->h'.get? b=some u):Inv X pins σ H { s with heap:=h',toks:=t' }:=I.un (Un.kept k) (I.hok.kept k)
theorem Inv.laid{a:Addr}{o:HO}{t':Nat}(I:Inv X pins σ H s)(k:∀b u,s.heap.get? b=some u->h'.get? b=some u)(hp:(~~~s)<=a)(new:ObjOk X.prog X.w (upd H a o) h' a o):
  Inv X pins σ (upd H a o) { s with heap:=h',toks:=t' }:=I.un (Un.laid k hp (I.hok.fresh hp)) (I.hok.laid k hp new)
theorem Inv.write{x e:Addr}{o:HO}{t':Nat}(I:Inv X pins σ H s)(mu:Mut (H x))(he:e=x\/H e=some (.own x))(k:∀b u,b≠e->s.heap.get? b=some u->h'.get? b=some u)(heo:∃u,h'.get? e=some u)
  (new:ObjOk X.prog X.w (upd H x o) h' x o):Inv X pins σ (upd H x o) { s with heap:=h',toks:=t' }:=I.un (Un.write mu he k heo) (I.hok.write mu he k heo new)
theorem Inv.pins_of{pins':List (Addr×Obj)}(I:Inv X pins σ H s)(h:∀p∈pins',s.heap.get? p.1=some p.2/\H p.1=none/\p.1≠X.env.locals/\p.1∉X.fs/\∀v,p.2.data≠.cell v):Inv X pins' σ H s:=
 ⟨I.ok,I.os,I.bare,I.base,I.loc,I.cell,I.free,I.freeC,λp hp=>(a8.mp hp).elim (λz=>I.pin p (List.mem_append_left _ z)) (h p),I.hok,I.len⟩
theorem zP{N:List Str}(hN:N.Nodup){i j:Nat}{x:Str}(a:N[i]?=some x)(b:N[j]?=some x):i=j:=by obtain ⟨h1,e1⟩:=ag.mp a;obtain ⟨h2,e2⟩:=ag.mp b;exact (List.getElem_inj hN).mp (e1.trans e2.symm)
theorem NK{M:Model}{A:Around}{E:Value->Shared->Prop}{i:Nat}{x:Str}{v:V}{u:Value}{Q:Unit->Shared->Prop}(I:Inv X pins σ H s)(hN:X.N.Nodup)(hi:X.N[i]?=some x)(hx:Loc X.env.scope x)(r:RelV v u)
  (h:∀s',Inv X pins (σ.set i (some v)) H s'->(∃a,Heap.SameBut a s.heap s'.heap/\(a=X.env.locals\/X.env.cells.lookup x=some a))->Q () s') (hf:X.fn x=true\/X.env.scope.names.lookup x=some .local:=by first |exact .inl rfl |exact .inr rfl |assumption):wpAny M A (storeName X.env x u) Q E s:=by
 obtain ⟨m,hn,hl⟩:=id I.loc;have hcls:(X.env.scope.kind==.class||(X.env.scope.kind==.module&&X.env.locals != X.env.globals))=false:=by rw[I.ok.kind];rfl
 have hiσ:i < σ.length:=by rw[I.len];exact (ag.mp hi).1
 have cne:=I.cne;have tracked:∀{a:Addr}{h':Heap},(∃o,s.heap.get? a=some o/\H a=none)->Heap.SameBut a s.heap h'->HOk X.prog X.w H h':=λ{a h'} ha hs b ob e=>by
  obtain ⟨_,_,hfree⟩:=ha;refine (I.hok b ob e).stay (λc w' hc q=>(hs.2 c ?_).trans q) (λ_ q=>q) λ_ _ q=>q;rintro rfl;rcases hc with rfl |hc
  ·rw[hfree]at e;cases e
  ·rw[hfree]at hc;cases hc
 rcases hx with hk |hk
 ·refine wpAny_storeName_local hk hn (λh' hn' hs=>?_) hcls;obtain ⟨oL,_,_,hoL,_⟩:=id hn;refine h _ ⟨I.ok,I.os,I.bare,⟨λb o e n hb hx=>?_,λb o e n hb hx=>?_,I.base.free,λb o e hx=>?_,I.base.tups,I.base.frzs,I.base.tbls⟩,⟨_,hn',λj y v' e1 e2 e3=>?_⟩,λy c e=>?_,I.free,I.freeC,λp hp=>?_,tracked ⟨oL,hoL,I.free⟩ hs,by simpa using I.len⟩ ⟨_,hs,.inl rfl⟩
  ·exact (hs.2 b (b5 (bp (ay e) I.ok.above))).trans (I.base.keep b o e n hb hx)
  ·obtain ⟨sl,e1⟩:=I.base.slot b o e n hb hx;exact ⟨sl,(hs.2 b (b5 (bp (ay e) I.ok.above))).trans e1⟩
  ·obtain ⟨o',e1⟩:=I.base.there b o e hx;exact ⟨o',(hs.2 b (b5 (bp (ay e) I.ok.above))).trans e1⟩
  ·by_cases hj:j=i
   ·subst hj;rw[hi]at e1;cases e1;rw[List.getElem?_set_self hiσ]at e2;cases e2;exact ⟨u,r,.inl ⟨hk,by simp⟩⟩
   ·rw[List.getElem?_set_ne (Ne.symm hj)]at e2;obtain ⟨u',r',q⟩:=hl j y v' e1 e2 e3;refine ⟨u',r',?_⟩;rcases q with ⟨k,e⟩ |⟨k,c,e,z⟩
    ·refine .inl ⟨k,?_⟩;have:y≠x:=λe=>hj (zP hN e1 (e ▸ hi));simp[this,e]
    ·exact .inr ⟨k,c,e,z.sameBut hs (cne y c e)⟩
  ·obtain ⟨w',z⟩:=I.cell y c e;exact ⟨w',z.sameBut hs (cne y c e)⟩
  ·obtain ⟨e,n,ne,nf,d⟩:=I.pin p hp;exact ⟨(hs.2 p.1 ne).trans e,n,ne,nf,d⟩
 ·have hfn:X.fn x=true:=by
   rcases hf with z |z
   ·exact z
   ·rw[z]at hk;cases hk
  obtain ⟨c,hc⟩:=I.ok.has x (.inl hk);obtain ⟨w',z⟩:=I.cell x c hc;refine wpAny_storeName_cell I.ok.kind hk hc z (λh' hc' hs=>?_);obtain ⟨oc,hoc,hocd⟩:=id z;refine h { s with heap:=h' } ⟨I.ok,I.os,I.bare,⟨λb o e n hb hx=>?_,λb o e n hb hx=>?_,I.base.free,λb o e hx=>?_,I.base.tups,I.base.frzs,I.base.tbls⟩,⟨m,hn.sameBut hs (Ne.symm (cne x c hc)),λj y v' e1 e2 e3=>?_⟩,λy c' e=>?_,I.free,I.freeC,λp hp=>?_,tracked ⟨oc,hoc,I.freeC x c hc⟩ hs,by simpa using I.len⟩ ⟨c,hs,.inr hc⟩
  ·exact (hs.2 b (b5 (bp (ay e) (I.ok.cab x c hfn hc)))).trans (I.base.keep b o e n hb hx)
  ·obtain ⟨sl,e1⟩:=I.base.slot b o e n hb hx;exact ⟨sl,(hs.2 b (b5 (bp (ay e) (I.ok.cab x c hfn hc)))).trans e1⟩
  ·obtain ⟨o',e1⟩:=I.base.there b o e hx;exact ⟨o',(hs.2 b (b5 (bp (ay e) (I.ok.cab x c hfn hc)))).trans e1⟩
  ·by_cases hj:j=i
   ·subst hj;rw[hi]at e1;cases e1;rw[List.getElem?_set_self hiσ]at e2;cases e2;exact ⟨u,r,.inr ⟨.inl hk,c,hc,hc'⟩⟩
   ·rw[List.getElem?_set_ne (Ne.symm hj)]at e2;obtain ⟨u',r',q⟩:=hl j y v' e1 e2 e3;refine ⟨u',r',?_⟩;rcases q with q |⟨k,c',e,z'⟩
    ·exact .inl q
    ·refine .inr ⟨k,c',e,z'.sameBut hs ?_⟩;rintro rfl;exact hj (zP hN e1 (I.ok.inj _ _ _ e hc ▸ hi))
  ·by_cases hcc:c'=c
   ·subst hcc;exact ⟨_,hc'⟩
   ·obtain ⟨w2,z2⟩:=I.cell y c' e;exact ⟨w2,z2.sameBut hs hcc⟩
  ·obtain ⟨e,n,ne,nf,d⟩:=I.pin p hp;refine ⟨(hs.2 p.1 ?_).trans e,n,ne,nf,d⟩;intro q;rw[q,hoc]at e;have q':oc=p.2:=cy e;exact d w' (by rw[<-q'];exact hocd)
theorem pM{M:Model}{A:Around}{E:Value->Shared->Prop}{i:Nat}{x:Str}{v:V}{u:Value}{Q:Unit->Shared->Prop}(I:Inv X pins σ H s)(hN:X.N.Nodup)(hi:X.N[i]?=some x)(hx:Loc X.env.scope x)(r:RelV v u)
  (h:∀s',Inv X pins (σ.set i (some v)) H s'->Q () s') (hf:X.fn x=true\/X.env.scope.names.lookup x=some .local:=by first |exact .inl rfl |exact .inr rfl |assumption):wpAny M A (storeName X.env x u) Q E s:=
 NK I hN hi hx r (λs' I' _=>h s' I') hf
theorem Inv.call'{s':Shared}{ch:List Addr}(I:Inv X pins σ H s)(ho:s'.os=s.os)(u:Un (frs X.stack) ch H H' s.heap s'.heap)(hok:HOk X.prog X.w H' s'.heap)(hg:AllBare s'.gens)
  (hch:∀b∈ch,(b∈X.ex\/X.s₀.heap.objs.size<=b)/\b≠X.env.locals/\(∀x c,X.env.cells.lookup x=some c->c≠b)/\∀p∈X.pn++pins,p.1≠b):Inv X pins σ H' s':=by
 obtain ⟨h',g',d',t',o'⟩:=s';have e:o'=s.os:=ho;subst e;exact I.call (g':=g') (t':=t') (d':=d') u hok hg hch
end
abbrev XK:=Value->Option Addr->Hp->Prop
abbrev St:=List (Option V)
abbrev VK:=V->Hp->Prop
abbrev TE:=St->Hp->VK->Prop
abbrev TT:=St->Hp->(Bool->Hp->Prop)->Prop
abbrev TA:=St->Hp->(List V->Hp->Prop)->Prop
structure Ends where
 nx:St->Hp->Prop
 rt:VK
 bk:St->Hp->Prop:=λ_ _=>False
 ct:St->Hp->Prop:=λ_ _=>False
abbrev TS:=Ends->St->Hp->Prop
def EP(X:Cx)(pins:List (Addr×Obj))(Y:St)(Q:VK)(u:Value)(s':Shared):Prop:=∃v H',Inv X pins Y H' s'/\RelV v u/\Q v H'
def TP(X:Cx)(pins:List (Addr×Obj))(Y:St)(Q:Bool->Hp->Prop)(b:Bool)(s':Shared):Prop:=∃H',Inv X pins Y H' s'/\Q b H'
def AP(X:Cx)(pins:List (Addr×Obj))(Y:St)(Q:List V->Hp->Prop)(us:List Value)(s':Shared):Prop:=∃vs H',Inv X pins Y H' s'/\Vals vs us/\Q vs H'
def SP(X:Cx)(pins:List (Addr×Obj))(D:Ends)(f:Flow)(s':Shared):Prop:=
 match f with
 |.next=>∃σ' H',Inv X pins σ' H' s'/\D.nx σ' H'
 |.brk=>∃σ' H',Inv X pins σ' H' s'/\D.bk σ' H'
 |.cont=>∃σ' H',Inv X pins σ' H' s'/\D.ct σ' H'
 |.ret u=>∃v σ' H',Inv X pins σ' H' s'/\RelV v u/\D.rt v H'
def PE(X:Cx)(e:Expr)(t:TE):Prop:=
 ∀(pins:List (Addr×Obj))(s:Shared)(Y:St)(H:Hp)(Q:VK),Inv X pins Y H s->t Y H Q->↥X (eval e X.env) (EP X pins Y Q) X.xe s
def PT(X:Cx)(e:Expr)(t:TT):Prop:=
 ∀(pins:List (Addr×Obj))(s:Shared)(Y:St)(H:Hp)(Q:Bool->Hp->Prop),Inv X pins Y H s->t Y H Q->↥X (isTrue e X.env (eval e X.env)) (TP X pins Y Q) X.xe s
def PW(X:Cx)(e:Expr)(t:TT):Prop:=
 ∀(whole:Sem Value)(pins:List (Addr×Obj))(s:Shared)(Y:St)(H:Hp)(Q:Bool->Hp->Prop),Inv X pins Y H s->t Y H Q->↥X (isTrue e X.env whole) (TP X pins Y Q) X.xe s
theorem PW.pt{X:Cx}{e:Expr}{t:TT}(h:PW X e t):PT X e t:=h _
def PA(X:Cx)(es:List Expr)(t:TA):Prop:=
 ∀(pos:Pos)(pins:List (Addr×Obj))(s:Shared)(Y:St)(H:Hp)(Q:List V->Hp->Prop),Inv X pins Y H s->t Y H Q->↥X (spliced (backTo pos (starEach es X.env))) (AP X pins Y Q) X.xe s
def PS(X:Cx)(st:Stmt)(t:TS):Prop:=
 ∀(pins:List (Addr×Obj))(s:Shared)(Y:St)(H:Hp)(D:Ends),Inv X pins Y H s->t D Y H->↥X (exec st X.env) (SP X pins D) X.xe s
def PSs(X:Cx)(st:List Stmt)(t:TS):Prop:=
 ∀(pins:List (Addr×Obj))(s:Shared)(Y:St)(H:Hp)(D:Ends),Inv X pins Y H s->t D Y H->↥X (execs st X.env) (SP X pins D) X.xe s
theorem thn{α:Type}{t:Sem α}{Q Q':α->Shared->Prop}{M:Model}{A:Around}{E:Value->Shared->Prop}{s:Shared}(h:wpAny M A t Q E s)(hQ:∀a s,Q a s->Q' a s):wpAny M A t Q' E s:=ca h hQ λ_ _ x=>x
section
variable {X:Cx}
theorem bin{a b:Expr}{ta tb:TE}(ha:PE X a ta)(hb:PE X b tb){pins:List (Addr×Obj)}{s:Shared}{Y:St}{H:Hp}{R:V->V->Hp->Prop}(I:Inv X pins Y H s)(h:ta Y H λx H1=>tb Y H1 λy H2=>R x y H2)
  {α:Type} {Q:α->Shared->Prop} {f:Value->Value->Sem α}
  (hf:∀v u s2 x y H2,Inv X pins Y H2 s2->RelV x v->RelV y u->R x y H2->↥X (f v u) Q X.xe s2):
  ↥X (eval a X.env) (λv s₁=>↥X (eval b X.env) (λu s₂=>↥X (f v u) Q X.xe s₂) X.xe s₁) X.xe s:=by
 refine thn (ha pins s Y H _ I h) λv s1 ⟨x,H1,I1,r1,q1⟩=>?_;refine thn (hb pins s1 Y H1 _ I1 q1) λu s2 ⟨y,H2,I2,r2,q2⟩=>?_;exact hf v u s2 x y H2 I2 r1 r2 q2
def zQ(i:Nat):TE:=λY H Q=>∃v,Y[i]?=some (some v)/\Q v H
def tC(v:V):TE:=λ_ H Q=>Q v H
theorem zR {i:Nat} {x:Str} {pos:Pos} (hN:X.N[i]?=some x) (hv:Vis X.env.scope x) (hd:(x==("__debug__":Str))=false:=by decide) (hcd:(x==("__classdict__":Str))=false:=by decide):PE X (.Name x pos) (zQ i):=by
 intro pins s Y H Q I h;obtain ⟨v,e,h⟩:=h;obtain ⟨m,hn,hl⟩:=I.loc;obtain ⟨u,r,l⟩:=hl i x v hN e hv;have fin:EP X pins Y Q u s:=⟨v,H,I,r,h⟩;rcases l with ⟨hk,hm⟩ |⟨hk,c,hc,hcell⟩
 ·exact wpAny_Name (wpAny_loadName_local I.ok.kind hk hn hm fin) hd
 ·rcases hk with hk |hk
  ·exact wpAny_Name (wpAny_loadName_cell I.ok.kind hk hc hcell fin) hd
  ·exact wpAny_Name (wpAny_loadName_free I.ok.kind hk hc hcell fin hcd) hd
theorem il{i j pos}:PE X (.Constant (.int i) j pos) (tC (.int i)):=λ_ _ _ H _ I h=>wpAny_Constant_int ⟨.int i,H,I.tok _,⟨_,rfl⟩,h⟩
theorem NP{b j pos}:PE X (.Constant (.bool b) j pos) (tC (.bl b)):=λ_ _ _ H _ I h=>Constant_bool ⟨.bl b,H,I,rfl,h⟩
theorem NT{j pos}:PE X (.Constant .none j pos) (tC .non):=λ_ _ _ H _ I h=>Constant_none ⟨.non,H,I,rfl,h⟩
theorem zT{x j pos}:PE X (.Constant (.str x) j pos) (tC (.str x)):=λ_ _ _ H _ I h=>Calls.Constant_str ⟨.str x,H,I.tok _,⟨_,rfl⟩,h⟩
def Gl(X:Cx)(x:Str):Prop:=X.env.kindOf x=some .globalImplicit
theorem zU{E:Value->Shared->Prop}{pins:List (Addr×Obj)}{s:Shared}{Y:St}{H:Hp}{x:Str}{u:Value}{pos:Pos}{Q:Value->Shared->Prop}(I:Inv X pins Y H s)(hg:Gl X x)(hm:X.mg x=some u)(h:Q u s)
  (hd:(x==("__debug__":Str))=false:=by decide):↥X (eval (.Name x pos) X.env) Q E s:=
 Calls.Name_function_global I.ok.kind hg (Calls.loadGlobal_global (by rw[I.ok.glob];exact I.mod.glob.keeps I.bk) hm h) hd
theorem ir{E:Value->Shared->Prop}{pins:List (Addr×Obj)}{s:Shared}{Y:St}{H:Hp}{x:Str}{u:Value}{pos:Pos}{Q:Value->Shared->Prop}(I:Inv X pins Y H s)(hg:Gl X x)(hm:X.mg x=none)(hv:bootBuiltins x=some u)(h:Q u s)
  (hn:x≠"__name__":=by decide) (hd:(x==("__debug__":Str))=false:=by decide):↥X (eval (.Name x pos) X.env) Q E s:=by
 obtain ⟨mb,h1,h2⟩:=I.mod.blt;exact Calls.Name_function_global I.ok.kind hg (Calls.loadGlobal_builtin (by rw[I.ok.glob];exact I.mod.glob.keeps I.bk) hm (by rw[I.ok.blt];exact h1.keeps I.bk) ((h2 x hn).trans hv) h) hd
theorem NZ {x:Str} {v:V} {u:Value} {pos:Pos} (hg:Gl X x) (hm:X.mg x=some u) (r:RelV v u) (hd:(x==("__debug__":Str))=false:=by decide):PE X (.Name x pos) (tC v):=
 λ_ _ _ H _ I h=>zU I hg hm ⟨v,H,I,r,h⟩ hd
theorem N5 {x:Str} {v:V} {u:Value} {pos:Pos} (hg:Gl X x) (hm:X.mg x=none) (hv:bootBuiltins x=some u) (r:RelV v u) (hn:x≠"__name__":=by decide) (hd:(x==("__debug__":Str))=false:=by decide):PE X (.Name x pos) (tC v):=
 λ_ _ _ H _ I h=>ir I hg hm hv ⟨v,H,I,r,h⟩ hn hd
variable {a b:Expr} {ta tb:TE} {pos:Pos}
variable {tA tB':TT} {rest:List Expr}
def N6(t u:TT):TT:=λY H Q=>t Y H λc H1=>if c=true then u Y H1 Q else Q false H1
def tOr(t u:TT):TT:=λY H Q=>t Y H λc H1=>if c=true then Q true H1 else u Y H1 Q
def N7(t:TT):TT:=λY H Q=>t Y H λc H1=>Q (!c) H1
theorem N8(ha:PT X a tA):PW X (.BoolOp .And [a] pos) tA:=by
 intro wh pins s Y H Q I h;refine isTrue_and (thn (ha pins s Y H Q I h) λc s1 e=>?_);cases c with
 |true=>exact isTrue_and_nil e
 |false=>exact e
theorem Oa(ha:PT X a tA):PW X (.BoolOp .Or [a] pos) tA:=by
 intro wh pins s Y H Q I h;refine isTrue_or (thn (ha pins s Y H Q I h) λc s1 e=>?_);cases c with
 |false=>exact isTrue_or_nil e
 |true=>exact e
theorem Ob(ha:PT X a tA)(hb:PW X (.BoolOp .And (b::rest) pos) tB'):PW X (.BoolOp .And (a::b::rest) pos) (N6 tA tB'):=by
 intro wh pins s Y H Q I h;refine isTrue_and (thn (ha pins s Y H _ I h) λc s1 ⟨H1,I1,q1⟩=>?_);cases c with
 |true=>exact hb wh pins s1 Y H1 Q I1 q1
 |false=>exact ⟨H1,I1,q1⟩
theorem Oc(ha:PT X a tA)(hb:PW X (.BoolOp .Or (b::rest) pos) tB'):PW X (.BoolOp .Or (a::b::rest) pos) (tOr tA tB'):=by
 intro wh pins s Y H Q I h;refine isTrue_or (thn (ha pins s Y H _ I h) λc s1 ⟨H1,I1,q1⟩=>?_);cases c with
 |true=>exact ⟨H1,I1,q1⟩
 |false=>exact hb wh pins s1 Y H1 Q I1 q1
theorem Od(ha:PT X a tA):PT X (.UnaryOp .Not a pos) (N7 tA):=by intro pins s Y H Q I h;exact isTrue_not (ha pins s Y H (λc H1=>Q (!c) H1) I h)
def Oe(ta tb:TE):TE:=λY H Q=>ta Y H λx H1=>∃c,x=.bl c/\if c=true then tb Y H1 Q else Q (.bl false) H1
def Og(ta tb:TE):TE:=λY H Q=>ta Y H λx H1=>∃c,x=.bl c/\if c=true then Q (.bl true) H1 else tb Y H1 Q
theorem Oh{op}{t:TE}(h:PE X a t):PE X (.BoolOp op [a] pos) t:=λpins s Y H Q I hw=>BoolOp_one (h pins s Y H Q I hw)
theorem Oi(ha:PE X a ta)(hb:PE X (.BoolOp .And (b::rest) pos) tb):PE X (.BoolOp .And (a::b::rest) pos) (Oe ta tb):=by
 intro pins s Y H Q I h;refine BoolOp_and (thn (ha pins s Y H _ I h) λv s1 ⟨x,H1,I1,r1,q1⟩=>?_);obtain ⟨c,rfl,q1⟩:=q1;cases r1;refine dv ?_;cases c with
 |true=>exact hb pins s1 Y H1 Q I1 q1
 |false=>exact ⟨.bl false,H1,I1,rfl,q1⟩
theorem Oj(ha:PE X a ta)(hb:PE X (.BoolOp .Or (b::rest) pos) tb):PE X (.BoolOp .Or (a::b::rest) pos) (Og ta tb):=by
 intro pins s Y H Q I h;refine BoolOp_or (thn (ha pins s Y H _ I h) λv s1 ⟨x,H1,I1,r1,q1⟩=>?_);obtain ⟨c,rfl,q1⟩:=q1;cases r1;refine dv ?_;cases c with
 |false=>exact hb pins s1 Y H1 Q I1 q1
 |true=>exact ⟨.bl true,H1,I1,rfl,q1⟩
def tIf(t:TT)(ta tb:TE):TE:=λY H Q=>t Y H λc H1=>if c=true then ta Y H1 Q else tb Y H1 Q
theorem Ol{c:Expr}(hc:PT X c tA)(ha:PE X a ta)(hb:PE X b tb):PE X (.IfExp c a b pos) (tIf tA ta tb):=by
 intro pins s Y H Q I h;refine wpAny_IfExp (thn (hc pins s Y H _ I h) λd s1 ⟨H1,I1,q1⟩=>?_);cases d with
 |true=>exact ha pins s1 Y H1 Q I1 q1
 |false=>exact hb pins s1 Y H1 Q I1 q1
end
def SqL(K:PF)(H:Hp)(a:Addr)(xs:List V):Prop:=
 Rd H a (.lst xs)\/
  ∃(o:Obj) (its:Array Value) (n:Nat),K.lookup a=some o/\o.cls=.type "list"/\o.dict=none/\o.data=.seq its n/\its.size<=sizeLine/\Vals xs its.toList
def SqT(K:PF)(H:Hp)(a:Addr)(xs:List V):Prop:=
 Rd H a (.tup xs)\/
  ∃(o:Obj) (its:Array Value) (n:Nat),K.lookup a=some o/\o.cls=.type "tuple"/\o.data=.seq its n/\its.size<=sizeLine/\Vals xs its.toList
def Om:Value->Option V
 |.none=>some .non
 |.bool b=>some (.bl b)
 |.int i _=>some (.int i)
 |.str x _=>some (.str x)
 |.bytes b _=>some (.byt b)
 |.float b _=>some (.flt b)
 |.ref a=>some (.ref a)
 |.type n=>some (.ty n)
 |_=>none
theorem RelV.abs{x:V}{u:Value}(r:RelV x u):Om u=some x:=by
 cases x with
 |non=>cases r;rfl
 |bl _=>cases r;rfl
 |int _=>obtain ⟨t,rfl⟩:=r;rfl
 |str _=>obtain ⟨t,rfl⟩:=r;rfl
 |byt _=>obtain ⟨t,rfl⟩:=r;rfl
 |flt _=>obtain ⟨t,rfl⟩:=r;rfl
 |ref _=>cases r;rfl
 |ty _=>cases r;rfl
theorem RelV.inj{x y:V}{u:Value}(r:RelV x u)(q:RelV y u):x=y:=cy (r.abs.symm.trans q.abs)
theorem Vals.inj:∀{xs ys:List V}{us:List Value},Vals xs us->Vals ys us->xs=ys
 |_,_,_,.nil,.nil=>rfl
 |_,_,_,.cons r t,.cons r' t'=>by rw[r.inj r',Vals.inj t t']
section
variable {X:Cx} {pins:List (Addr×Obj)} {σ:St} {H:Hp} {s:Shared} {a:Addr} {xs ys:List V}
theorem SqL.of{K:PF}(h:H a=some (.lst xs)):SqL K H a xs:=.inl (.inl h)
theorem SqT.of{K:PF}(h:H a=some (.tup xs)):SqT K H a xs:=.inl (.inl h)
theorem Inv.list(I:Inv X pins σ H s)(h:SqL X.K H a xs):∃its:List Value,Vals xs its/\PlainL s.heap a its.toArray/\xs.length<=sizeLine:=by
 rcases h with h |⟨o,its,n,hk,hc,hd,hs,hz,r⟩
 ·obtain ⟨z,its,n,r,e⟩:=h.ok I.hok;exact ⟨its,r,⟨_,n,e,rfl,rfl,rfl⟩,z⟩
 ·refine ⟨its.toList,r,⟨o,n,I.kIn a o hk,hc,hd,by simpa using hs⟩,?_⟩;have e:=r.length;simp only[c5]at e;omega
theorem Inv.tuple(I:Inv X pins σ H s)(h:SqT X.K H a xs):∃its:List Value,Vals xs its/\IsTup s.heap a its.toArray/\xs.length<=sizeLine:=by
 rcases h with h |⟨o,its,n,hk,hc,hs,hz,r⟩
 ·obtain ⟨z,its,r,p⟩:=h.ok I.hok;exact ⟨its,r,p,z⟩
 ·refine ⟨its.toList,r,⟨o,I.kIn a o hk,hc,n,by simpa using hs⟩,?_⟩;have e:=r.length;simp only[c5]at e;omega
theorem Inv.list_inj(I:Inv X pins σ H s)(h:SqL X.K H a xs)(h':SqL X.K H a ys):xs=ys:=by
 obtain ⟨its,r,⟨o,n,e,_,_,d⟩,_⟩:=I.list h;obtain ⟨its',r',⟨o',n',e',_,_,d'⟩,_⟩:=I.list h';rw[e]at e';cases e';rw[d]at d';injection d' with d1 _;have:its=its':=by simpa using eg Array.toList d1
 subst this;exact r.inj r'
theorem Inv.tuple_inj(I:Inv X pins σ H s)(h:SqT X.K H a xs)(h':SqT X.K H a ys):xs=ys:=by
 obtain ⟨its,r,⟨o,e,_,n,d⟩,_⟩:=I.tuple h;obtain ⟨its',r',⟨o',e',_,n',d'⟩,_⟩:=I.tuple h';rw[e]at e';cases e';rw[d]at d';injection d' with d1 _;have:its=its':=by simpa using eg Array.toList d1
 subst this;exact r.inj r'
end
abbrev Cx.wish(X:Cx)(E:Value->Shared->Prop):Cx:={ X with xe:=E }
abbrev Cx.nox(X:Cx):Cx:=X.wish λ_ _=>False
theorem Cx.Ok.wish{X:Cx}(ok:X.Ok)(E:Value->Shared->Prop):(X.wish E).Ok:=
 ⟨ok.mod,ok.kind,ok.glob,ok.blt,ok.above,ok.inj,ok.has,ok.cab,ok.hd,ok.frames,ok.stk,ok.exf,ok.bs,ok.bsz,ok.noex,ok.exfs,ok.funs,ok.frf⟩
theorem Cx.Ok.unwish{X:Cx}{E:Value->Shared->Prop}(ok:(X.wish E).Ok):X.Ok:=
 ⟨ok.mod,ok.kind,ok.glob,ok.blt,ok.above,ok.inj,ok.has,ok.cab,ok.hd,ok.frames,ok.stk,ok.exf,ok.bs,ok.bsz,ok.noex,ok.exfs,ok.funs,ok.frf⟩
section
variable {X:Cx} {pins:List (Addr×Obj)} {σ:St} {H:Hp} {s:Shared} {E:Value->Shared->Prop}
theorem Inv.wish(I:Inv X pins σ H s)(E:Value->Shared->Prop):Inv (X.wish E) pins σ H s:=⟨I.ok.wish E,I.os,I.bare,I.base,I.loc,I.cell,I.free,I.freeC,I.pin,I.hok,I.len⟩
theorem Inv.unwish(I:Inv (X.wish E) pins σ H s):Inv X pins σ H s:=⟨I.ok.unwish,I.os,I.bare,I.base,I.loc,I.cell,I.free,I.freeC,I.pin,I.hok,I.len⟩
theorem SP.unwish{D:Ends}{f:Flow}{s':Shared}(h:SP (X.wish E) pins D f s'):SP X pins D f s':=by
 cases f with
 |next=>obtain ⟨σ',H',I,q⟩:=h;exact ⟨σ',H',I.unwish,q⟩
 |brk=>obtain ⟨σ',H',I,q⟩:=h;exact ⟨σ',H',I.unwish,q⟩
 |cont=>obtain ⟨σ',H',I,q⟩:=h;exact ⟨σ',H',I.unwish,q⟩
 |ret u=>obtain ⟨v,σ',H',I,r,q⟩:=h;exact ⟨v,σ',H',I.unwish,r,q⟩
theorem PSs.nox{st:List Stmt}{t:TS}(h:PSs X.nox st t):PSs X st t:=λpins s σ H D I hw=>
 ca (h pins s σ H D (I.wish _) hw) (λ_ _ q=>q.unwish) λ_ _ z=>False.elim z
end
section
variable {X:Cx} {st:Stmt} {rest:List Stmt} {t u:TS} {e:Expr} {te:TE} {pos:Pos}
def zV:TS:=λD Y H=>D.nx Y H
def Oo(t u:TS):TS:=λD Y H=>t { D with nx:=u D } Y H
theorem Oq:PSs X [] zV:=λ_ _ Y H _ I h=>wpAny_execs_nil ⟨Y,H,I,h⟩
theorem jX(h1:PS X st t)(h2:PSs X rest u):PSs X (st::rest) (Oo t u):=by
 intro pins s Y H D I h;refine wpAny_execs_cons (thn (h1 pins s Y H { D with nx:=u D } I h) λf s1 q=>?_);cases f with
 |next=>
  obtain ⟨σ',H',I',q⟩:=q;exact h2 pins s1 σ' H' D I' q
 |ret v=>exact q
 |brk=>exact q
 |cont=>exact q
theorem zW(h1:PS X st t):PSs X [st] t:=by
 intro pins s Y H D I h;refine wpAny_execs_cons (thn (h1 pins s Y H D I h) λf s1 q=>?_);cases f with
 |next=>exact wpAny_execs_nil q
 |ret v=>exact q
 |brk=>exact q
 |cont=>exact q
def Ot:TS:=λD Y H=>D.bk Y H
def Ou:TS:=λD Y H=>D.ct Y H
theorem Ov:PS X (.Pass pos) zV:=λ_ _ Y H _ I h=>wpAny_Pass ⟨Y,H,I,h⟩
theorem Ow:PS X (.Break pos) Ot:=λ_ _ Y H _ I h=>wpAny_Break ⟨Y,H,I,h⟩
theorem Oz:PS X (.Continue pos) Ou:=λ_ _ Y H _ I h=>wpAny_Continue ⟨Y,H,I,h⟩
theorem Inv.quiet{pins:List (Addr×Obj)}{Y:St}{H:Hp}{s:Shared}(I:Inv X pins Y H s):interactive X.env=false:=by simp[interactive,I.ok.kind]
def OD(te:TE):TS:=λD Y H=>te Y H λ_ H1=>D.nx Y H1
theorem OJ(he:PE X e te)(hs:swapsWith e none pos.line X.env=pure false:=by rfl):PS X (.Expr e pos) (OD te):=by intro pins s Y H D I h;exact wpAny_Expr_any (thn (he pins s Y H _ I h) λv s1 ⟨x,H1,I1,r1,q1⟩=>⟨Y,H1,I1,q1⟩) I.quiet hs
def zX(te:TE):TS:=λD Y H=>te Y H D.rt
theorem zY(he:PE X e te):PS X (.Return (some e) pos) (zX te):=by intro pins s Y H D I h;exact wpAny_Return_some (thn (he pins s Y H _ I h) λv s1 ⟨x,H1,I1,r1,q1⟩=>⟨x,Y,H1,I1,r1,q1⟩)
def O1:TS:=λD _ H=>D.rt .non H
theorem O2:PS X (.Return none pos) O1:=λ_ _ Y H _ I h=>wpAny_Return_none ⟨.non,Y,H,I,rfl,h⟩
def O3(c:TT)(t u:TS):TS:=λD Y H=>c Y H λb H1=>if b=true then t D Y H1 else u D Y H1
theorem O4{c:Expr}{a b:List Stmt}{tc:TT}(hc:PT X c tc)(ha:PSs X a t)(hb:PSs X b u):PS X (.If c a b pos) (O3 tc t u):=by
 intro pins s Y H D I h;refine wpAny_If (thn (hc pins s Y H _ I h) λd s1 ⟨H1,I1,q1⟩=>?_);cases d with
 |true=>exact ha pins s1 Y H1 D I1 q1
 |false=>exact hb pins s1 Y H1 D I1 q1
def O5:TS:=λ_ _ _=>False
theorem O6:PS X st O5:=λ_ _ _ _ _ _ h=>h.elim
end
abbrev TG:=V->St->Hp->(St->Hp->Prop)->Prop
abbrev TGs:=List V->St->Hp->(St->Hp->Prop)->Prop
def PG(X:Cx)(target:Expr)(t:TG):Prop:=
 ∀(pins:List (Addr×Obj))(s:Shared)(Y:St)(H:Hp)(v:V)(u:Value)(Q:St->Hp->Prop),Inv X pins Y H s->RelV v u->t v Y H Q->
  ↥X (assign target X.env u) (λ_ s'=>∃σ' H',Inv X pins σ' H' s'/\Q σ' H') X.xe s
def PGs(X:Cx)(ts:List Expr)(t:TGs):Prop:=
 ∀(pins:List (Addr×Obj))(s:Shared)(Y:St)(H:Hp)(vs:List V)(us:List Value)(Q:St->Hp->Prop),Inv X pins Y H s->Vals vs us->t vs Y H Q->
  ↥X (assignInOrder ((assignEach ts X.env).map (·.2)) us) (λ_ s'=>∃σ' H',Inv X pins σ' H' s'/\Q σ' H') X.xe s
abbrev jY:=V->V->V->Hp->(Hp->Prop)->Prop
def pN(X:Cx)(t:jY):Prop:=
 ∀(pins:List (Addr×Obj))(s:Shared)(Y:St)(H:Hp)(o i v:V)(ov iv u:Value)(Q:Hp->Prop),Inv X pins Y H s->RelV o ov->RelV i iv->RelV v u->t o i v H Q->
  ↥X (setItem ov iv u) (λ_ s'=>∃H',Inv X pins Y H' s'/\Q H') X.xe s
abbrev TIp:=V->V->Hp->VK->Prop
def PIp(X:Cx)(op:Operator)(t:TIp):Prop:=
 ∀(pins:List (Addr×Obj))(s:Shared)(Y:St)(H:Hp)(x y:V)(v u:Value)(Q:VK),Inv X pins Y H s->RelV x v->RelV y u->t x y H Q->
  ↥X (inplaceOp op v u) (EP X pins Y Q) X.xe s
section
variable {X:Cx} {pos:Pos}
def jZ(i:Nat):TG:=λv Y H Q=>Q (Y.set i (some v)) H
theorem pO{i:Nat}{x:Str}(hN:X.N.Nodup)(hi:X.N[i]?=some x)(hx:Loc X.env.scope x)(hf:X.fn x=true\/X.env.scope.names.lookup x=some .local:=by first |exact .inl rfl |exact .inr rfl |assumption):PG X (.Name x pos) (jZ i):=by intro pins s Y H v u Q I r h;exact wpAny_assign_Name (pM I hN hi hx r (λs' I'=>⟨_,H,I',h⟩) hf)
def O7:TGs:=λvs Y H Q=>vs=[]/\Q Y H
def O8(t:TG)(u:TGs):TGs:=λvs Y H Q=>∃v r,vs=v::r/\t v Y H λσ' H'=>u r σ' H' Q
theorem zZ:PGs X [] O7:=by intro pins s Y H vs us Q I r h;obtain ⟨e,h⟩:=h;subst e;cases r;exact assignInOrder_nil ⟨Y,H,I,h⟩
theorem uC{e:Expr}{es:List Expr}{t:TG}{u:TGs}(h1:PG X e t)(h2:PGs X es u)
  (hs:(assignEach (e::es) X.env).map (·.2)=assign e X.env::(assignEach es X.env).map (·.2):=by rfl):PGs X (e::es) (O8 t u):=by
 intro pins s Y H vs us Q I r h;obtain ⟨v,vr,e1,h⟩:=h;subst e1;cases r with
 |cons r rr=>
  rw[hs];refine assignInOrder_cons (thn (h1 pins s Y H _ _ _ I r h) λ_ s1 ⟨σ1,H1,I1,q1⟩=>?_);exact h2 pins s1 σ1 H1 _ _ Q I1 rr q1
def O9(K:PF)(n:Nat)(t:TGs):TG:=λv Y H Q=>∃a xs,v=.ref a/\SqT K H a xs/\xs.length=n/\t xs Y H Q
theorem z6{es:List Expr}{k:Nat}{t:TGs}{n:Nat}(hc:X.calm=true)(h:PGs X es t)
  (hn:(assignEach es X.env).length=n:=by rfl) (hst:(assignEach es X.env).findIdx? (·.1)=none:=by rfl):PG X (.Tuple es k pos) (O9 X.K n t):=by
 intro pins s Y H v u Q I r hw;obtain ⟨a,xs,e1,hq,hl,hw⟩:=hw;subst e1;cases r;obtain ⟨its,rv,ht,hz⟩:=I.tuple hq;refine assign_Tuple_tuple (I.ok.hd hc) ht (by simp[hn,<-hl,rv.length]) hst λh' hx=>?_;have I1:Inv X pins Y H { s with heap:=h' }:=I.kept (t':=s.toks) λb o e=>hx b o (b5 (ay e)) e;exact h pins _ Y H xs _ Q I1 (by simpa using rv) hw
def Pa(to ti:TE)(t:jY):TG:=λv Y H Q=>to Y H λo H1=>ti Y H1 λi H2=>t o i v H2 λH3=>Q Y H3
theorem Pb{o i:Expr}{to ti:TE}{t:jY}(ho:PE X o to)(hi:PE X i ti)(hs:pN X t)
  (ha:∀v,assign (.Subscript o i pos) X.env v=(do
   let ov <-holding [v] (eval o X.env)
   let iv <-holding [v,ov] (eval i X.env)
   standAt pos
   holding [v,ov,iv] (setItem ov iv v)
   release [v,ov,iv] []):=by intro _;rfl):PG X (.Subscript o i pos) (Pa to ti t):=by
 intro pins s Y H v u Q I r h;rw[ha];refine ab (dL (thn (ho pins s Y H _ I h) λov s1 ⟨x,H1,I1,r1,q1⟩=>?_));refine ab (dL (thn (hi pins s1 Y H1 _ I1 q1) λiv s2 ⟨y,H2,I2,r2,q2⟩=>?_));refine ab (wpAny_standAt (ab (dL (thn (hs pins s2 Y H2 x y v ov iv u _ I2 r1 r2 r q2) λ_ s3 ⟨H3,I3,q3⟩=>?_))));exact wpAny_release ⟨Y,H3,I3,q3⟩
def pP(te:TE)(g:TG):TS:=λD Y H=>te Y H λx H1=>g x Y H1 D.nx
theorem z7{tg e:Expr}{te:TE}{g:TG}(he:PE X e te)(hg:PG X tg g)(hs:swapsWithSole [tg] e pos.line X.env=pure false:=by rfl)(hw:swappedStores [tg] e X.env=pure none:=by rfl)
  (h1:(assignEach [tg] X.env).map (·.2)=[assign tg X.env]:=by rfl):PS X (.Assign [tg] e pos) (pP te g):=by
 intro pins s Y H D I h;refine wpAny_Assign_stores (thn (he pins s Y H _ I h) λv s1 ⟨x,H1,I1,r1,q1⟩=>?_) hs hw;rw[h1];exact thn (hg pins s1 Y H1 x v _ I1 r1 q1) λ_ s2 q=>q
theorem uD{i:Nat}{x:Str}{e:Expr}{te:TE}{pos':Pos}(hN:X.N.Nodup)(hi:X.N[i]?=some x)(hx:Loc X.env.scope x)(he:PE X e te)(hs:swapsWith e (some (.Name x pos')) pos.line X.env=pure false:=by rfl)(hf:X.fn x=true\/X.env.scope.names.lookup x=some .local:=by first |exact .inl rfl |exact .inr rfl |assumption):
  PS X (.Assign [.Name x pos'] e pos) (pP te (jZ i)):=by
 intro pins s Y H D I h;refine wpAny_Assign_Name (thn (he pins s Y H _ I h) λv s1 ⟨y,H1,I1,r1,q1⟩=>?_) hs;exact pM I1 hN hi hx r1 (λs2 I2=>⟨_,H1,I2,q1⟩) hf
def Pg(i:Nat)(te:TE)(ti:TIp):TS:=λD Y H=>∃x,Y[i]?=some (some x)/\te Y H λy H1=>ti x y H1 λz H2=>D.nx (Y.set i (some z)) H2
theorem Ph{i:Nat}{x:Str}{e:Expr}{te:TE}{op:Operator}{ti:TIp}{pos':Pos}(hN:X.N.Nodup)(hi:X.N[i]?=some x)(hx:Loc X.env.scope x)(he:PE X e te)(ho:PIp X op ti)(hf:X.fn x=true\/X.env.scope.names.lookup x=some .local:=by first |exact .inl rfl |exact .inr rfl |assumption):
  PS X (.AugAssign (.Name x pos') op e pos) (Pg i te ti):=by
 intro pins s Y H D I h;obtain ⟨v,e1,h⟩:=h;obtain ⟨m,hn,hl⟩:=I.loc;have vis:Vis X.env.scope x:=by rcases hx with k |k;exact .inl k;exact .inr (.inl k)
 obtain ⟨u,r,l⟩:=hl i x v hi e1 vis;refine wpAny_AugAssign_Name ?_;have go:↥X (eval e X.env) (λw s₂=>↥X (inplaceOp op u w) (λr s₃=>↥X (storeName X.env x r) (λ_=>SP X pins D .next) X.xe s₃) X.xe s₂) X.xe s:=by refine thn (he pins s Y H _ I h) λw s1 ⟨y,H1,I1,r1,q1⟩=>?_;refine thn (ho pins s1 Y H1 v y u w _ I1 r r1 q1) λz s2 ⟨zv,H2,I2,r2,q2⟩=>?_;exact pM I2 hN hi hx r2 (λs3 I3=>⟨_,H2,I3,q2⟩) hf
 rcases l with ⟨hk,hm⟩ |⟨hk,c,hc,hcell⟩
 ·exact wpAny_loadName_local I.ok.kind hk hn hm go
 ·rcases hk with hk |hk
  ·exact wpAny_loadName_cell I.ok.kind hk hc hcell go
  ·rcases hx with k |k
   ·have:X.env.scope.names.lookup x=some .free:=hk;rw[k]at this;cases this
   ·have:X.env.scope.names.lookup x=some .free:=hk;rw[k]at this;cases this
def Pj(to ti te:TE)(tget:V->V->Hp->VK->Prop)(tip:TIp)(tset:jY):TS:=λD Y H=>to Y H λo H1=>ti Y H1 λi H2=>tget o i H2 λx H3=>te Y H3 λy H4=>tip x y H4 λz H5=>tset o i z H5 λH6=>D.nx Y H6
def z8(X:Cx)(t:V->V->Hp->VK->Prop):Prop:=
 ∀(pins:List (Addr×Obj))(s:Shared)(Y:St)(H:Hp)(o i:V)(ov iv:Value)(Q:VK),Inv X pins Y H s->RelV o ov->RelV i iv->t o i H Q->
  ↥X (getItem ov iv) (EP X pins Y Q) X.xe s
theorem Pk{o i e:Expr}{to ti te:TE}{tget:V->V->Hp->VK->Prop}{tip:TIp}{tset:jY}{op:Operator}{tpos:Pos}(ho:PE X o to)(hi:PE X i ti)(hg:z8 X tget)(he:PE X e te)(hp:PIp X op tip)(hs:pN X tset)
  (ha:∀ov iv new,augStore i ov iv new=(do holding [new,ov,iv] (setItem ov iv new);release [new,ov,iv] [];pure .next):=by intros;rfl):PS X (.AugAssign (.Subscript o i tpos) op e pos) (Pj to ti te tget tip tset):=by
 intro pins s Y H D I h;refine wpAny_AugAssign_SubscriptAny (thn (ho pins s Y H _ I h) λov s1 ⟨x1,H1,I1,r1,q1⟩=>?_) ha;refine thn (hi pins s1 Y H1 _ I1 q1) λiv s2 ⟨x2,H2,I2,r2,q2⟩=>?_;refine thn (hg pins s2 Y H2 x1 x2 ov iv _ I2 r1 r2 q2) λold s3 ⟨x3,H3,I3,r3,q3⟩=>?_;refine thn (he pins s3 Y H3 _ I3 q3) λv s4 ⟨x4,H4,I4,r4,q4⟩=>?_;refine thn (hp pins s4 Y H4 x3 x4 old v _ I4 r3 r4 q4) λnew s5 ⟨x5,H5,I5,r5,q5⟩=>?_;exact thn (hs pins s5 Y H5 x1 x2 x5 ov iv new _ I5 r1 r2 r5 q5) λ_ s6 ⟨H6,I6,q6⟩=>⟨Y,H6,I6,q6⟩
end
structure It where
 go:Nat->Hp->Prop
 yld:Nat->Hp->V->Hp->Prop
 stop:Nat->Hp->Prop
def dD(X:Cx)(pins:List (Addr×Obj))(H:Hp)(b:Addr):Prop:=
 H b=none/\b≠X.env.locals/\b∉X.fs/\(b∈X.ex\/X.s₀.heap.objs.size<=b)/\(∀x c,X.env.cells.lookup x=some c->c≠b)/\∀p∈X.pn++pins,p.1≠b
theorem Inv.fpOk{X:Cx}{pins:List (Addr×Obj)}{Y:St}{H H':Hp}{s:Shared}{b:Addr}(I:Inv X pins Y H s)(hb:(~~~s)<=b)(hn:H' b=none):dD X pins H' b:=by
 refine ⟨hn,fg (bp I.lt hb),I.nofs hb,.inr (bv I.sz hb),λx c e z=>?_,λp hp z=>?_⟩
 ·obtain ⟨v,q⟩:=I.cell x c e;exact absurd (bp q.lt (by rw[z];exact hb)) (cr _)
 ·exact absurd (bp (ay (I.pin p hp).1) (by rw[z];exact hb)) (cr _)
structure Turn(P:Program)(w:World)(K:PF)(tg:Expr)(J:It)(fp:List Addr)(it:Addr)(tn:Nat->Heap->Prop):Prop where
 mem:it∈fp
 obj:∀i h,tn i h->∀b∈fp,∃o,h.get? b=some o/\∀v,o.data≠.cell v
 keep:∀i h h',tn i h->(∀b∈fp,∀o,h.get? b=some o->h'.get? b=some o)->tn i h'
 item:∀(X:Cx),X.prog=P->X.w=w->X.K=K->X.calm=true->∀(i:Nat)(pins:List (Addr×Obj))(s:Shared)(Y:St)(H:Hp)(E:Value->Shared->Prop),Inv X pins Y H s->(∀b∈fp,dD X pins H b)->tn i s.heap->J.go i H->
  wpAny (model P w) X.A (pyNext (.ref it)) (λr s1=>∃u,r=some u/\
   wpAny (model P w) X.A (letOwnedTupleGo tg (.ref it) u) (λ_ s2=>∃x H',Inv X pins Y H' s2/\RelV x u/\J.yld i H x H'/\tn (i+1) s2.heap/\∀b∈fp,H' b=none) E s1) E s
 done:∀(X:Cx),X.prog=P->X.w=w->X.K=K->X.calm=true->∀(i:Nat)(pins:List (Addr×Obj))(s:Shared)(Y:St)(H:Hp)(E:Value->Shared->Prop),Inv X pins Y H s->(∀b∈fp,dD X pins H b)->tn i s.heap->J.stop i H->
  wpAny (model P w) X.A (pyNext (.ref it)) (λr s1=>r=none/\Inv X pins Y H s1) E s
 self:∀(A:Around)(i:Nat)(s:Shared)(Q:Value->Shared->Prop)(E:Value->Shared->Prop),tn i s.heap->Q (.ref it) s->wpAny (model P w) A (pyIter (.ref it)) Q E s
abbrev TI:=St->Hp->(It->Hp->Prop)->Prop
def PIE(X:Cx)(pins:List (Addr×Obj))(Y:St)(tg:Expr)(R:It->Hp->Prop)(itv:Value)(s2:Shared):Prop:=
 ∃(it:Addr)(fp:List Addr)(tn:Nat->Heap->Prop)(J:It)(H':Hp),itv=.ref it/\Inv X pins Y H' s2/\Turn X.prog X.w X.K tg J fp it tn/\tn 0 s2.heap/\(∀b∈fp,dD X pins H' b)/\R J H'
def PI(X:Cx)(tg iter:Expr)(wi:TI):Prop:=
 ∀(pins:List (Addr×Obj))(s:Shared)(Y:St)(H:Hp)(R:It->Hp->Prop),Inv X pins Y H s->wi Y H R->
  ↥X (eval iter X.env) (λv s1=>↥X (pyIter v) (PIE X pins Y tg R) X.xe s1) X.xe s
theorem j0{M:Model}{A:Around}{E:Value->Shared->Prop}{s:Shared}{tg:Expr}{it:Addr}{u:Value}{o:Obj}{n:String}{vs:Array Value}{Q:Unit->Shared->Prop}(ho:s.heap.get? it=some o)(hc:o.cls=.type n)(hd:o.data=.fields vs)
  (hn:["enumerate","zip","dict_itemiterator","dict_reverseitemiterator","odict_iterator","itertools.zip_longest","itertools.pairwise"].contains n=false) (hQ:Q () s):wpAny M A (letOwnedTupleGo tg (.ref it) u) Q E s:=by
 unfold letOwnedTupleGo;cases tg <;> first
  |exact av hQ
  | (cases u <;> first
    |exact av hQ
    | (refine ab (wpAny_load ho ?_)
       rw[hc,hd];show wpAny M A (if (["enumerate","zip","dict_itemiterator","dict_reverseitemiterator","odict_iterator","itertools.zip_longest","itertools.pairwise"].contains n&&vs[0]?==some (rawInt _))=true then _ else _) Q E s;rw[if_neg (by intro h;rw[hn,ej]at h;cases h)];exact av hQ))
def Itl(K:PF)(a:Addr):It:=
 ⟨λi H=>∃xs x,SqL K H a xs/\xs[i]?=some x,λi H x H'=>H'=H/\∀xs,SqL K H a xs->xs[i]?=some x,λi H=>∃xs,SqL K H a xs/\xs.length<=i⟩
def Itt(K:PF)(a:Addr):It:=
 ⟨λi H=>∃xs x,SqT K H a xs/\xs[i]?=some x,λi H x H'=>H'=H/\∀xs,SqT K H a xs->xs[i]?=some x,λi H=>∃xs,SqT K H a xs/\xs.length<=i⟩
def Itr(lo:Int)(n:Nat):It:=⟨λi _=>i < n,λi H x H'=>H'=H/\x=.int (lo+i),λi _=>n<=i⟩
theorem z9{P:Program}{w:World}{K:PF}{tg:Expr}(a it:Addr):Turn P w K tg (Itl K a) [it] it (λi h=>h.IsListIter it a i) where
 mem:=by simp
 obj:=λi h st b hb=>by
  have e:b=it:=by simpa using hb
  subst e;obtain ⟨o,e,c,d⟩:=st;exact ⟨o,e,λv z=>by rw[d]at z;cases z⟩
 keep:=λi h h' st k=>st.at λo e=>k it (by simp) o e
 item:=by intro X hP hw hK hc i pins s Y H E I hf st hg;subst hP hw hK;obtain ⟨xs,x,hq,hx⟩:=hg;obtain ⟨its,rv,p,hz⟩:=I.list hq;obtain ⟨u,hu,ru⟩:=rv.get hx;obtain ⟨f0,f1,f2,f3,f4,f5⟩:=hf it (by simp);refine wpAny_pyNext_list_item st p.isList (x:=u) (by simpa using hu) λh' st' sb=>?_;have I1:Inv X pins Y H { s with heap:=h' }:=I.turned (t':=s.toks) (λb o hb e=>(sb.2 b hb).trans e) f0 f1 f3 f4 f5;obtain ⟨o,e,c,d⟩:=id st';exact ⟨u,rfl,j0 (s:={ s with heap:=h' }) e c d (by decide) ⟨x,H,I1,ru,⟨rfl,λys hy=>by rw[I.list_inj hy hq];exact hx⟩,st',λb hb=>(hf b hb).1⟩⟩
 done:=by intro X hP hw hK hc i pins s Y H E I hf st hg;subst hP hw hK;obtain ⟨xs,hq,hx⟩:=hg;obtain ⟨its,rv,p,hz⟩:=I.list hq;obtain ⟨f0,f1,f2,f3,f4,f5⟩:=hf it (by simp);have hl:=rv.length;exact wpAny_pyNext_list_end (I.ok.hd hc) st p.isList (by simp;omega) λh' eb=>⟨rfl,I.turned (t':=s.toks) (λb o hb e=>eb b o hb e) f0 f1 f3 f4 f5⟩
 self:=λ_ _ _ _ _ st h=>wpAny_pyIter_listiter st h
theorem Aa{P:Program}{w:World}{K:PF}{tg:Expr}(a it:Addr):Turn P w K tg (Itt K a) [it] it (λi h=>h.IsTupleIter it a i) where
 mem:=by simp
 obj:=λi h st b hb=>by
  have e:b=it:=by simpa using hb
  subst e;obtain ⟨o,e,c,d⟩:=st;exact ⟨o,e,λv z=>by rw[d]at z;cases z⟩
 keep:=λi h h' st k=>st.at λo e=>k it (by simp) o e
 item:=by intro X hP hw hK hc i pins s Y H E I hf st hg;subst hP hw hK;obtain ⟨xs,x,hq,hx⟩:=hg;obtain ⟨its,rv,p,hz⟩:=I.tuple hq;obtain ⟨u,hu,ru⟩:=rv.get hx;obtain ⟨f0,f1,f2,f3,f4,f5⟩:=hf it (by simp);refine wpAny_pyNext_tuple_item st (show s.heap.IsTuple a its.toArray from p) (x:=u) (by simpa using hu) λh' st' sb=>?_;have I1:Inv X pins Y H { s with heap:=h' }:=I.turned (t':=s.toks) (λb o hb e=>(sb.2 b hb).trans e) f0 f1 f3 f4 f5;obtain ⟨o,e,c,d⟩:=id st';exact ⟨u,rfl,j0 (s:={ s with heap:=h' }) e c d (by decide) ⟨x,H,I1,ru,⟨rfl,λys hy=>by rw[I.tuple_inj hy hq];exact hx⟩,st',λb hb=>(hf b hb).1⟩⟩
 done:=by intro X hP hw hK hc i pins s Y H E I hf st hg;subst hP hw hK;obtain ⟨xs,hq,hx⟩:=hg;obtain ⟨its,rv,p,hz⟩:=I.tuple hq;obtain ⟨f0,f1,f2,f3,f4,f5⟩:=hf it (by simp);have hl:=rv.length;exact wpAny_pyNext_tuple_end (I.ok.hd hc) st (show s.heap.IsTuple a its.toArray from p) (by simp;omega) λh' eb=>⟨rfl,I.turned (t':=s.toks) (λb o hb e=>eb b o hb e) f0 f1 f3 f4 f5⟩
 self:=λ_ _ _ _ _ st h=>wpAny_pyIter_tupleiter st h
theorem Pn{P:Program}{w:World}{K:PF}{tg:Expr}(it:Addr)(lo:Int)(n:Nat):Turn P w K tg (Itr lo n) [it] it (λi h=>IsRangeIter h it (lo+(i:Nat) * 1) ((n:Int) - (i:Nat)) 1) where
 mem:=by simp
 obj:=λi h st b hb=>by
  have e:b=it:=by simpa using hb
  subst e;exact ⟨_,st,λv z=>by
   have z':Data.fields _=Data.cell v:=z;cases z'⟩
 keep:=λi h h' st k=>k it (by simp) _ st
 item:=by intro X hP hw hK hc i pins s Y H E I hf st hg;subst hP hw hK;obtain ⟨f0,f1,f2,f3,f4,f5⟩:=hf it (by simp);have W:=Walks.range (prog:=X.prog) (w:=X.w) (I.ok.hd hc) it lo 1 n;refine W.item i s _ _ hg st λv h' tk hv st' kk=>?_;obtain ⟨t,rfl⟩:=hv;have I1:Inv X pins Y H { s with heap:=h',toks:=tk }:=I.turned (λb o hb e=>kk b o (by simpa using hb) e) f0 f1 f3 f4 f5;refine ⟨_,rfl,j0 (s:={ s with heap:=h',toks:=tk }) (n:="range_iterator") st' rfl rfl (by decide) ⟨.int (lo+i),H,I1,⟨t,?_⟩,⟨rfl,rfl⟩,st',λb hb=>(hf b hb).1⟩⟩;rw[Int.mul_one]
 done:=by intro X hP hw hK hc i pins s Y H E I hf st hg;subst hP hw hK;obtain ⟨f0,f1,f2,f3,f4,f5⟩:=hf it (by simp);exact wpAny_pyNext_range_end (I.ok.hd hc) st (by have:n<=i:=hg;omega) λh' eb=>⟨rfl,I.turned (t':=s.toks) (λb o hb e=>eb b o hb e) f0 f1 f3 f4 f5⟩
 self:=λ_ _ _ _ _ st h=>wpAny_pyIter_rangeiter st h
section
variable {X:Cx} {tg:Expr}
theorem Pq{pins:List (Addr×Obj)}{Y:St}{H:Hp}{s:Shared}{R:It->Hp->Prop}{E:Value->Shared->Prop}{lo hi:Int}{t u v:Tok}{tk:Nat}(I:Inv X pins Y H s)(h1:-(2 ^ 62)<=lo)(h2:lo < 2 ^ 62)(h3:-(2 ^ 62)<=hi)(h4:hi < 2 ^ 62)
  (q:R (Itr lo (hi - lo).toNat) H):↥X (pyIter (.ref (~~~s))) (PIE X pins Y tg R) E { s with heap:=s.heap.push { cls:=.type "range",data:=.fields #[.int lo t,.int hi u,.int 1 v] },toks:=tk }:=by
 refine wpAny_pyIter_range (IsRange.new ..) (small_one h1 h2 h3 h4) ?_;have I1:Inv X pins Y H { s with heap:=s.heap.push { cls:=.type "range",data:=.fields #[.int lo t,.int hi u,.int 1 v] },toks:=tk }:=I.kept λb o e=>ah _ e;refine ⟨(s.heap.push { cls:=.type "range",data:=.fields #[.int lo t,.int hi u,.int 1 v] }).objs.size,[(s.heap.push { cls:=.type "range",data:=.fields #[.int lo t,.int hi u,.int 1 v] }).objs.size],_,_,H,rfl,
  I1.kept (t':=tk) λb o e=>ah _ e,Pn _ lo (hi - lo).toNat,?_,λb hb=>?_,q⟩
 ·have e1:lo+((0:Nat):Int) * 1=lo:=by simp
  have e2:(((hi - lo).toNat:Nat):Int) - ((0:Nat):Int)=Builtin.Range.rangeSize lo hi 1:=by rw[rangeSize_one];split <;> omega
  show IsRangeIter _ _ (lo+((0:Nat):Int) * 1) ((((hi - lo).toNat:Nat):Int) - ((0:Nat):Int)) 1;rw[e1,e2];exact a7 _ rfl
 ·have e:b=(s.heap.push { cls:=.type "range",data:=.fields #[.int lo t,.int hi u,.int 1 v] }).objs.size:=by simpa using hb
  subst e;exact I1.fpOk (ax _) (I1.hok.fresh (ax _))
def Pr(ta:TA):TI:=λY H R=>ta Y H λvs H1=>∃j:Int,vs=[.int j]/\-(2 ^ 62)<=j/\j < 2 ^ 62/\R (Itr 0 j.toNat) H1
theorem Pu {a:Expr} {ta:TA} {p pos:Pos} (hg:Gl X "range") (hm:X.mg "range"=none) (ha:PA X [a] ta) (hs:starEach [a] X.env=[(false,eval a X.env)]:=by rfl):PI X tg (.Call (.Name "range" p) [a] [] pos) (Pr ta):=by
 intro pins s Y H R I h;refine Call_ (ir I hg hm boot_range (dr (thn (ha pos pins s Y H _ I h) λus s1 ⟨vs,H1,I1,r1,q1⟩=>?_) hs rfl));obtain ⟨j,e,q1,q2,q⟩:=q1;subst e;cases r1 with
 |cons r rr=>
  cases rr;obtain ⟨t,rfl⟩:=r;exact call_range_1 (Pq I1 (by omega) (by omega) q1 q2 (by simpa using q))
def Px(wi:TI)(g:TG)(tb:TS):TS:=λD Y H=>wi Y H λJ H1=>∃W:Nat->Nat->St->Hp->Prop,(∃m,W 0 m Y H1)/\∀i m Y H,W i m Y H->
 (J.stop i H/\D.nx Y H)\/(J.go i H/\∃N:St->Hp->Prop,(∀σ' H',N σ' H'->∃m',m' < m/\W (i+1) m' σ' H')/\∀x H',J.yld i H x H'->g x Y H' λσ2 H2=>tb { D with nx:=N,ct:=N,bk:=D.nx } σ2 H2)
def jd(fp:List Addr)(h:Heap):List (Addr×Obj):=fp.filterMap λb=>(h.get? b).map λo=>(b,o)
theorem je{fp:List Addr}{h:Heap}{b:Addr}{o:Obj}(hb:b∈fp)(e:h.get? b=some o):(b,o)∈jd fp h:=List.mem_filterMap.mpr ⟨b,hb,by rw[e];rfl⟩
theorem Ab{fp:List Addr}{h:Heap}{p:Addr×Obj}(hp:p∈jd fp h):p.1∈fp/\h.get? p.1=some p.2:=by
 obtain ⟨b,hb,e⟩:=List.mem_filterMap.mp hp;cases q:h.get? b with
 |none=>rw[q]at e;cases e
 |some o=>
  rw[q]at e;have e':(b,o)=p:=cy e;subst e';exact ⟨hb,q⟩
theorem Inv.pinned{pins:List (Addr×Obj)}{Y:St}{H:Hp}{s:Shared}{fp:List Addr}(I:Inv X pins Y H s)(hf:∀b∈fp,dD X pins H b)(ho:∀b∈fp,∃o,s.heap.get? b=some o/\∀v,o.data≠.cell v):Inv X (pins++jd fp s.heap) Y H s:=
 I.pins_of λp hp=>(a8.mp hp).elim (λz=>I.pin p (aE _ z)) λz=>by
  obtain ⟨hb,e⟩:=Ab z;obtain ⟨f0,f1,f2,_⟩:=hf p.1 hb;obtain ⟨o,e',d⟩:=ho p.1 hb;rw[e]at e';cases e';exact ⟨e,f0,f1,f2,d⟩
theorem Inv.unpinned{pins pl:List (Addr×Obj)}{Y:St}{H:Hp}{s:Shared}(I:Inv X (pins++pl) Y H s):Inv X pins Y H s:=I.pins_of λp hp=>I.pin p (aE _ (List.mem_append_left _ hp))
theorem Ac{iter:Expr}{body:List Stmt}{wi:TI}{g:TG}{tb:TS}{pos:Pos}(hp:PassesOwn (model X.prog X.w) X.A X.env X.xe)(hc:X.calm=true)(hi:PI X tg iter wi)(hg:PG X tg g)(hb:PSs X body tb)
  (hs:∀x,foldedSetIterable iter X.env x=pure x:=by intro _;rfl):PS X (.For tg iter body [] pos) (Px wi g tb):=by
 intro pins s Y H D I h;refine wpAny_For (thn (hi pins s Y H _ I h) λv s1 h1=>thn h1 λitv s2 h2=>?_) hs;obtain ⟨it,fp,tn,J,H2,e,I2,T,st2,f2,W,⟨m0,w0⟩,turn⟩:=h2;subst e
 -- what stays true of the iterator's objects through the loop
 have stat:∀{H':Hp},(∀b∈fp,H' b=none)->∀b∈fp,dD X pins H' b:=λhn b hb=>⟨hn b hb,(f2 b hb).2⟩;refine codeAny_forLoop_any (λn s'=>∃i σ' H',Inv X pins σ' H' s'/\tn i s'.heap/\(∀b∈fp,H' b=none)/\W i n σ' H') ?_ m0 ⟨0,Y,H2,I2,st2,λb hb=>(f2 b hb).1,w0⟩;rintro n s3 ⟨i,σ3,H3,I3,st3,fr3,w3⟩;rcases turn i n σ3 H3 w3 with ⟨stop,qn⟩ |⟨go,N,hN,step⟩
 ·refine wpAny_passesOwn hp (thn (T.done X rfl rfl rfl hc i pins s3 σ3 H3 X.xe I3 (stat fr3) st3 stop) λr s4 ⟨hr,I4⟩=>?_);subst hr;exact wpAny_execs_nil ⟨σ3,H3,I4,qn⟩
 ·refine wpAny_passesOwn hp (thn (T.item X rfl rfl rfl hc i pins s3 σ3 H3 X.xe I3 (stat fr3) st3 go) λr s4 ⟨u,hr,h4⟩=>?_);subst hr;refine wpAny_passesOwn hp (thn h4 λ_ s5 ⟨x,H5,I5,r5,y5,st5,fr5⟩=>?_);have I5':=I5.pinned (stat fr5) (T.obj _ _ st5);refine wpAny_passesOwn hp (thn (hg _ s5 σ3 H5 x u _ I5' r5 (step x H5 y5)) λ_ s6 ⟨σ6,H6,I6,q6⟩=>?_);refine wpAny_passesOwn hp (thn (hb _ s6 σ6 H6 _ I6 q6) λf s7 q7=>?_);have again:∀{σ7:St}{H7:Hp},Inv X (pins++jd fp s5.heap) σ7 H7 s7->N σ7 H7->∃m,m < n/\∃i σ' H',Inv X pins σ' H' s7/\tn i s7.heap/\(∀b∈fp,H' b=none)/\W i m σ' H':=λ{σ7 H7} I7 n7=>by
   obtain ⟨m',hm,w7⟩:=hN σ7 H7 n7;refine ⟨m',hm,i+1,σ7,H7,I7.unpinned,T.keep _ _ _ st5 λb hb o e=>(I7.pin (b,o) (aE _ (aE _ (je hb e)))).1,λb hb=>?_,w7⟩;obtain ⟨o,e,d⟩:=T.obj _ _ st5 b hb;exact (I7.pin (b,o) (aE _ (aE _ (je hb e)))).2.1
  cases f with
  |next=>obtain ⟨σ7,H7,I7,n7⟩:=q7;exact again I7 n7
  |cont=>obtain ⟨σ7,H7,I7,n7⟩:=q7;exact again I7 n7
  |brk=>obtain ⟨σ7,H7,I7,q7⟩:=q7;exact ⟨σ7,H7,I7.unpinned,q7⟩
  |ret v=>obtain ⟨x7,σ7,H7,I7,r7,q7⟩:=q7;exact ⟨x7,σ7,H7,I7.unpinned,r7,q7⟩
end
abbrev R2:=V->V->Hp->VK->Prop
def OpR(X:Cx)(f:Value->Value->Sem Value)(r:R2):Prop:=
 ∀(pins:List (Addr×Obj))(s:Shared)(Y:St)(H:Hp)(x y:V)(v u:Value)(Q:VK),Inv X pins Y H s->RelV x v->RelV y u->r x y H Q->
  ↥X (f v u) (EP X pins Y Q) X.xe s
def UnR(X:Cx)(f:Value->Sem Value)(r:V->Hp->VK->Prop):Prop:=
 ∀(pins:List (Addr×Obj))(s:Shared)(Y:St)(H:Hp)(x:V)(v:Value)(Q:VK),Inv X pins Y H s->RelV x v->r x H Q->
  ↥X (f v) (EP X pins Y Q) X.xe s
def bH(X:Cx)(f:Value)(r:List V->Hp->VK->Prop):Prop:=
 ∀(pins:List (Addr×Obj))(s:Shared)(Y:St)(H:Hp)(xs:List V)(us:List Value)(Q:VK),Inv X pins Y H s->Vals xs us->r xs H Q->
  ↥X (call f us) (EP X pins Y Q) X.xe s
def Py(X:Cx)(r:V->Hp->(Bool->Hp->Prop)->Prop):Prop:=
 ∀(pins:List (Addr×Obj))(s:Shared)(Y:St)(H:Hp)(x:V)(v:Value)(Q:Bool->Hp->Prop),Inv X pins Y H s->RelV x v->r x H Q->
  ↥X (truthy v) (TP X pins Y Q) X.xe s
def tOp(r:R2)(ta tb:TE):TE:=λY H Q=>ta Y H λx H1=>tb Y H1 λy H2=>r x y H2 Q
def tUn(r:V->Hp->VK->Prop)(ta:TE):TE:=λY H Q=>ta Y H λx H1=>r x H1 Q
def rI(C:Int->Int->Prop)(g:Int->Int->V):R2:=λx y H Q=>∃i j,x=.int i/\y=.int j/\C i j/\Q (g i j) H
def rI0(g:Int->Int->V):R2:=λx y H Q=>∃i j,x=.int i/\y=.int j/\Q (g i j) H
def rU(g:Int->V):V->Hp->VK->Prop:=λx H Q=>∃i,x=.int i/\Q (g i) H
section
variable {X:Cx} {a b c:Expr} {ta tb tc:TE} {pos:Pos}
theorem uE(ha:PE X a ta)(hb:PE X b tb){pins:List (Addr×Obj)}{s:Shared}{Y:St}{H:Hp}{R:V->V->Hp->Prop}(I:Inv X pins Y H s)
  (h:ta Y H λx H1=>tb Y H1 λy H2=>R x y H2) {Q:Value->Shared->Prop} {f:Value->Value->Sem Value}
  (hf:∀v u s2 x y H2,Inv X pins Y H2 s2->RelV x v->RelV y u->R x y H2->↥X (f v u) Q X.xe s2):
  ↥X (eval a X.env) (λv s₁=>↥X (eval b X.env) (λu s₂=>↥X (f v u) Q X.xe s₂) X.xe s₁) X.xe s:=by
 refine thn (ha pins s Y H _ I h) λv s1 ⟨x,H1,I1,r1,q1⟩=>?_;refine thn (hb pins s1 Y H1 _ I1 q1) λu s2 ⟨y,H2,I2,r2,q2⟩=>?_;exact hf v u s2 x y H2 I2 r1 r2 q2
theorem Ad{op:Operator}{r:R2}(ho:OpR X (binaryOp op) r)(ha:PE X a ta)(hb:PE X b tb):PE X (.BinOp a op b pos) (tOp r ta tb):=by intro pins s Y H Q I h;exact wpAny_BinOp (uE ha hb I h λv u s2 x y H2 I2 rx ry q=>ho pins s2 Y H2 x y v u Q I2 rx ry q)
theorem Ae{op:UnaryOp}{r:V->Hp->VK->Prop}(ho:UnR X (unaryOp op) r)(ha:PE X a ta):PE X (.UnaryOp op a pos) (tUn r ta):=by intro pins s Y H Q I h;exact UnaryOp_ (thn (ha pins s Y H _ I h) λv s1 ⟨x,H1,I1,r1,q1⟩=>ho pins s1 Y H1 x v Q I1 r1 q1)
theorem opI{f:Value->Value->Sem Value}{C:Int->Int->Prop}{g:Int->Int->Int}
  (rule:∀(i j:Int)(t u:Tok)(s:Shared)(Q:Value->Shared->Prop)(E:Value->Shared->Prop),C i j->Q (.int (g i j) s.toks) { s with toks:=s.toks+1 }->↥X (f (.int i t) (.int j u)) Q E s):
  OpR X f (rI C λi j=>.int (g i j)):=by
 intro pins s Y H x y v u Q I rx ry h;obtain ⟨i,j,rfl,rfl,hc,q⟩:=h;obtain ⟨t,rfl⟩:=rx;obtain ⟨t',rfl⟩:=ry;exact rule i j t t' s _ _ hc ⟨.int (g i j),H,I.tok _,⟨_,rfl⟩,q⟩
theorem pQ{f:Value->Value->Sem Value}{g:Int->Int->Int}
  (rule:∀(i j:Int)(t u:Tok)(s:Shared)(Q:Value->Shared->Prop)(E:Value->Shared->Prop),Q (.int (g i j) s.toks) { s with toks:=s.toks+1 }->↥X (f (.int i t) (.int j u)) Q E s):
  OpR X f (rI0 λi j=>.int (g i j)):=by
 intro pins s Y H x y v u Q I rx ry h;obtain ⟨i,j,rfl,rfl,q⟩:=h;obtain ⟨t,rfl⟩:=rx;obtain ⟨t',rfl⟩:=ry;exact rule i j t t' s _ _ ⟨.int (g i j),H,I.tok _,⟨_,rfl⟩,q⟩
theorem Pz{f:Value->Value->Sem Value}{g:Int->Int->Bool}
  (rule:∀(i j:Int)(t u:Tok)(s:Shared)(Q:Value->Shared->Prop)(E:Value->Shared->Prop),Q (.bool (g i j)) s->↥X (f (.int i t) (.int j u)) Q E s):
  OpR X f (rI0 λi j=>.bl (g i j)):=by
 intro pins s Y H x y v u Q I rx ry h;obtain ⟨i,j,rfl,rfl,q⟩:=h;obtain ⟨t,rfl⟩:=rx;obtain ⟨t',rfl⟩:=ry;exact rule i j t t' s _ _ ⟨.bl (g i j),H,I,rfl,q⟩
def pR(i j:Int):Prop:=0<=j/\j<=1000000/\i.natAbs < 2 ^ 64
def CMul(i j:Int):Prop:=(-(2 ^ 64) < i/\i < 2 ^ 64)\/(-(2 ^ 64) < j/\j < 2 ^ 64)
theorem CMul.ok{i j:Int}(h:CMul i j):IntMulOk i j:=by
 rcases h with ⟨h1,h2⟩ |⟨h1,h2⟩
 ·exact .of_left (intBits_le_64 h1 h2)
 ·exact .of_right (intBits_le_64 h1 h2)
theorem Af:OpR X (binaryOp .Add) (rI0 λi j=>.int (i+j)):=pQ λ_ _ _ _ _ _ _ q=>add_int q
theorem PJ:OpR X (binaryOp .Sub) (rI0 λi j=>.int (i - j)):=pQ λ_ _ _ _ _ _ _ q=>sub_int q
theorem PK:OpR X (binaryOp .Mult) (rI CMul λi j=>.int (i * j)):=opI λ_ _ _ _ _ _ _ hc q=>mul_int q hc.ok
theorem PL:OpR X (binaryOp .Mod) (rI (λ_ j=>0 < j) λi j=>.int (i % j)):=opI λi j _ _ _ _ _ hc q=>by
 have h1:(0:Int) < j:=hc;exact mod_int' (by omega) (by rw[Int.fmod_eq_emod_of_nonneg i (by omega)];exact q)
theorem PN:OpR X (binaryOp .Pow) (rI pR λi j=>.int (i ^ j.toNat)):=opI λ_ _ _ _ _ _ _ hc q=>pow_int_small hc.1 hc.2.1 hc.2.2 q
theorem PP:OpR X (inplaceOp .Add) (rI0 λi j=>.int (i+j)):=pQ λ_ _ _ _ _ _ _ q=>iadd_int q
theorem PQ:OpR X (inplaceOp .Sub) (rI0 λi j=>.int (i - j)):=pQ λ_ _ _ _ _ _ _ q=>isub_int q
theorem unI{f:Value->Sem Value}{g:Int->Int}
  (rule:∀(i:Int)(t:Tok)(s:Shared)(Q:Value->Shared->Prop)(E:Value->Shared->Prop),Q (.int (g i) s.toks) { s with toks:=s.toks+1 }->↥X (f (.int i t)) Q E s):
  UnR X f (rU λi=>.int (g i)):=by
 intro pins s Y H x v Q I rx h;obtain ⟨i,rfl,q⟩:=h;obtain ⟨t,rfl⟩:=rx;exact rule i t s _ _ ⟨.int (g i),H,I.tok _,⟨_,rfl⟩,q⟩
theorem Ag:UnR X (unaryOp .USub) (rU λi=>.int (-i)):=unI λ_ _ _ _ _ q=>neg_int q
end
section
variable {X:Cx} {a b c:Expr} {ta tb tc:TE} {pos:Pos}
theorem Ah{pins:List (Addr×Obj)}{Y:St}{H:Hp}{s:Shared}{Q:VK}{k k':Bool}(I:Inv X pins Y H s)(q:Q (.bl k) H)(e:k=k'):EP X pins Y Q (.bool k') s:=by subst e;exact ⟨.bl k,H,I,rfl,q⟩
theorem P0:OpR X (compareOp .Gt) (rI0 λi j=>.bl (decide (j < i))):=Pz λ_ _ _ _ _ _ _ q=>gt_int q
theorem Qa:OpR X (compareOp .Is) (λx y H Q=>y=.non/\Q (.bl (decide (x=.non))) H):=by
 intro pins s Y H x y v u Q I rx ry h;obtain ⟨rfl,q⟩:=h;cases ry;refine is_none_gen (Ah I q ?_);cases x <;> first
  | (cases rx;rfl)
  | (obtain ⟨t,rfl⟩:=rx;rfl)
theorem Qc:OpR X (compareOp .IsNot) (λx y H Q=>y=.non/\Q (.bl (!decide (x=.non))) H):=by
 intro pins s Y H x y v u Q I rx ry h;obtain ⟨rfl,q⟩:=h;cases ry;refine isnot_none_gen (Ah I q ?_);cases x <;> first
  | (cases rx;rfl)
  | (obtain ⟨t,rfl⟩:=rx;rfl)
theorem Qd(b:Expr){op:CmpOp}(h:op≠.In:=by decide)(h2:op≠.NotIn:=by decide):behindInMarks op b=false:=by
 have e1:(op==CmpOp.In)=false:=by cases op <;> first |rfl |exact absurd rfl h
 have e2:(op==CmpOp.NotIn)=false:=by cases op <;> first |rfl |exact absurd rfl h2
 cases b <;> simp[behindInMarks,e1,e2]
theorem Qe{op:CmpOp}{r:R2}(ho:OpR X (compareOp op) r)(ha:PE X a ta)(hb:PE X b tb)(hm:behindInMarks op b=false):PE X (.Compare a [op] [b] pos) (tOp r ta tb):=by intro pins s Y H Q I h;exact wpAny_Compare1 (uE ha hb I h λv u s2 x y H2 I2 rx ry q=>ho pins s2 Y H2 x y v u Q I2 rx ry q) hm
def Ai(t:TE):TT:=λY H Q=>t Y H λx H'=>∃k,x=.bl k/\Q k H'
theorem Aj{op:CmpOp}{r:R2}(ho:OpR X (compareOp op) r)(ha:PE X a ta)(hb:PE X b tb)(hm:behindInMarks op b=false):PT X (.Compare a [op] [b] pos) (Ai (tOp r ta tb)):=by
 intro pins s Y H Q I h;refine wpAny_isTrue_Compare1 (thn (ha pins s Y H _ I h) λv s1 ⟨x,H1,I1,r1,q1⟩=>thn (hb pins s1 Y H1 _ I1 q1) λu s2 ⟨y,H2,I2,r2,q2⟩=>
  thn (ho pins s2 Y H2 x y v u _ I2 r1 r2 q2) λc s3 ⟨z,H3,I3,r3,k,e,q3⟩=>?_) hm
 subst e;cases r3;exact dv ⟨H3,I3,q3⟩
def uF(r r':R2)(ta tb tc:TE):TE:=λY H Q=>ta Y H λx H1=>tb Y H1 λy H2=>r x y H2 λz H3=>∃k,z=.bl k/\
 (if k=true then tc Y H3 λw' H4=>r' y w' H4 Q else Q (.bl false) H3)
theorem Qf{op op':CmpOp}{r r':R2}(ho:OpR X (compareOp op) r)(ho':OpR X (compareOp op') r')(ha:PE X a ta)(hb:PE X b tb)(hc:PE X c tc)
  (hm:lastMarks [op,op'] [b,c]=false:=by with_unfolding_all rfl):PE X (.Compare a [op,op'] [b,c] pos) (uF r r' ta tb tc):=by
 intro pins s Y H Q I h;refine Compare_chain (thn (ha pins s Y H _ I h) λv s1 ⟨x,H1,I1,r1,q1⟩=>chain_link (thn (hb pins s1 Y H1 _ I1 q1) λu s2 ⟨y,H2,I2,r2,q2⟩=>
  thn (ho pins s2 Y H2 x y v u _ I2 r1 r2 q2) λd s3 ⟨z,H3,I3,r3,k,e,q3⟩=>?_)) hm
 subst e;cases r3;refine dv ?_;cases k with
 |false=>exact ite_ff ⟨.bl false,H3,I3,rfl,q3⟩
 |true=>exact ite_tt (chain_last (thn (hc pins s3 Y H3 _ I3 q3) λw' s4 ⟨z',H4,I4,r4,q4⟩=>ho' pins s4 Y H4 y z' u w' Q I4 r2 r4 q4))
theorem Qg{op op':CmpOp}{r r':R2}(ho:OpR X (compareOp op) r)(ho':OpR X (compareOp op') r')(ha:PE X a ta)(hb:PE X b tb)(hc:PE X c tc)
  (hm:lastMarks [op,op'] [b,c]=false:=by with_unfolding_all rfl):PT X (.Compare a [op,op'] [b,c] pos) (Ai (uF r r' ta tb tc)):=by
 intro pins s Y H Q I h;refine isTrue_chain (thn (ha pins s Y H _ I h) λv s1 ⟨x,H1,I1,r1,q1⟩=>test_link (thn (hb pins s1 Y H1 _ I1 q1) λu s2 ⟨y,H2,I2,r2,q2⟩=>
  thn (ho pins s2 Y H2 x y v u _ I2 r1 r2 q2) λd s3 ⟨z,H3,I3,r3,k,e,q3⟩=>?_)) hm
 subst e;cases r3;refine dv ?_;cases k with
 |false=>
  obtain ⟨k',e',q'⟩:=q3;cases e';exact ite_ff ⟨H3,I3,q'⟩
 |true=>
  refine ite_tt (test_last (thn (hc pins s3 Y H3 _ I3 q3) λw' s4 ⟨z',H4,I4,r4,q4⟩=>thn (ho' pins s4 Y H4 y z' u w' _ I4 r2 r4 q4) λd' s5 ⟨z2,H5,I5,r5,k2,e2,q5⟩=>?_));subst e2;cases r5;exact dv ⟨H5,I5,q5⟩
def pU(K:PF)(x:V)(H:Hp)(k:Bool):Prop:=
 match x with
 |.non=>k=false
 |.bl b=>k=b
 |.int i=>k=(i != 0)
 |.str y=>y.length<=sizeLine/\k=((y.length:Int) != 0)
 |.byt y=>y.size<=sizeLine/\k=((y.size:Int) != 0)
 |.ref p=>(∃xs,SqL K H p xs/\k=!xs.isEmpty)\/(∃xs,SqT K H p xs/\k=!xs.isEmpty)\/∃kvs,H p=some (.dK kvs)/\k=!kvs.isEmpty
 |_=>False
theorem Qh{κ:Type}{kvs:List (κ×V)}{vs:List (κ×Value)}(r:KV kvs vs):(!vs.isEmpty)=!kvs.isEmpty:=by cases r <;> rfl
theorem Ak{xs:List V}{its:List Value}(r:Vals xs its):(!its.toArray.isEmpty)=!xs.isEmpty:=by cases r <;> simp
theorem gA:(sizeLine:Nat) < 2 ^ 63:=by rw[fq];decide
theorem Al:Py X (λx H Q=>∃k,pU X.K x H k/\Q k H):=by
 intro pins s Y H x v Q I rx h;obtain ⟨k,e,q⟩:=h;have hl:=gA;have hs:sizeLine=16777216:=fq;cases x with
 |non=>
  cases rx;have e':k=false:=e;subst e';exact truthy_none ⟨H,I,q⟩
 |bl b=>
  cases rx;have e':k=b:=e;subst e';exact dv ⟨H,I,q⟩
 |int i=>
  obtain ⟨t,rfl⟩:=rx;have e':k=(i != 0):=e;subst e';exact PySem.P.truthy_int ⟨H,I,q⟩
 |str y=>
  obtain ⟨t,rfl⟩:=rx;obtain ⟨hy,e'⟩:y.length<=sizeLine/\k=((y.length:Int) != 0):=e;subst e';exact PySem.P.truthy_str (by omega) ⟨H,I.tok _,q⟩
 |byt y=>
  obtain ⟨t,rfl⟩:=rx;obtain ⟨hy,e'⟩:y.size<=sizeLine/\k=((y.size:Int) != 0):=e;subst e';exact PySem.W.truthy_bytes (by omega) ⟨H,I.tok _,q⟩
 |ref p=>
  cases rx;have e':(∃xs,SqL X.K H p xs/\k=!xs.isEmpty)\/(∃xs,SqT X.K H p xs/\k=!xs.isEmpty)\/∃kvs,H p=some (.dK kvs)/\k=!kvs.isEmpty:=e;rcases e' with ⟨xs,hx,e'⟩ |⟨xs,hx,e'⟩ |⟨kvs,hx,e'⟩
  ·subst e';obtain ⟨its,r,pl,hz⟩:=I.list hx;have hlen:=r.length;exact wpAny_truthy_list pl.isList (by simp only[am];omega) ⟨H,I.tok _,by rw[Ak r];exact q⟩
  ·subst e';obtain ⟨its,r,pl,hz⟩:=I.tuple hx;have hlen:=r.length;exact truthy_tuple pl (by simp only[am];omega) ⟨H,I.tok _,by rw[Ak r];exact q⟩
  ·subst e';obtain ⟨hz,hS,vs,r,m⟩:kvs.length<=sizeLine/\(p==sysModules)=false/\∃vs,KV kvs vs/\s.heap.DictOf (bN X.prog X.w) p vs:=I.hok p _ hx;have hlen:kvs.length=vs.length:=Paired.length r;exact wpAny_truthy_dict hS m (by omega) ⟨H,I.tok _,by rw[Qh r];exact q⟩
 |_=>exact (show False from e).elim
theorem Qi(ha:PE X a ta)(he:∀whole,isTrue a X.env whole=(do let v <-whole;standAt a.pos;holding [v] (truthy v))):
  PT X a (λY H Q=>ta Y H λx H'=>∃k,pU X.K x H' k/\Q k H'):=by
 intro pins s Y H Q I h;exact isTrue_plain (thn (ha pins s Y H _ I h) λv s1 ⟨x,H1,I1,r1,q1⟩=>Al pins s1 Y H1 x v Q I1 r1 q1) (he _)
theorem Qj:OpR X (binaryOp .Add) (λx y H Q=>∃i j,x=.str i/\y=.str j/\i.length+j.length<=sizeLine/\Q (.str (i++j)) H):=by intro pins s Y H x y v u Q I rx ry h;obtain ⟨i,j,rfl,rfl,hz,q⟩:=h;obtain ⟨t,rfl⟩:=rx;obtain ⟨t',rfl⟩:=ry;exact add_str (λt' tk=>⟨.str (i++j),H,I.tok _,⟨_,rfl⟩,q⟩) hz
theorem Qk:OpR X (inplaceOp .Add) (λx y H Q=>∃i j,x=.str i/\y=.str j/\i.length+j.length<=sizeLine/\Q (.str (i++j)) H):=by intro pins s Y H x y v u Q I rx ry h;obtain ⟨i,j,rfl,rfl,hz,q⟩:=h;obtain ⟨t,rfl⟩:=rx;obtain ⟨t',rfl⟩:=ry;exact iadd_str (λt' tk=>⟨.str (i++j),H,I.tok _,⟨_,rfl⟩,q⟩) hz
theorem vals1{x:V}{us:List Value}(r:Vals [x] us):∃u,us=[u]/\RelV x u:=by
 cases r with
 |cons r1 r2=>cases r2;exact ⟨_,rfl,r1⟩
theorem vals2{x y:V}{us:List Value}(r:Vals [x,y] us):∃u w',us=[u,w']/\RelV x u/\RelV y w':=by
 cases r with
 |cons r1 r2=>
  cases r2 with
  |cons r3 r4=>cases r4;exact ⟨_,_,rfl,r1,r3⟩
theorem Am:bH X (.type "int") (λxs H Q=>(∃i,xs=[.int i]/\Q (.int i) H)\/∃k,xs=[.bl k]/\Q (.int (if k then 1 else 0)) H):=by
 intro pins s Y H xs us Q I r h;rcases h with ⟨i,rfl,q⟩ |⟨k,rfl,q⟩
 ·obtain ⟨u,rfl,t,rfl⟩:=vals1 r;exact call_int_int ⟨.int i,H,I,⟨_,rfl⟩,q⟩
 ·obtain ⟨u,rfl,r1⟩:=vals1 r;cases r1;exact call_int_bool ⟨.int (if k then 1 else 0),H,I.tok _,⟨_,rfl⟩,q⟩
end
structure ObjM(h:Heap)(x dx C:Addr)(mA:Str->Option Value):Prop where
 obj:h.get? x=some (PySem.W.instObj C dx)
 ns:h.Ns1 dx mA
 ne:dx≠x
theorem Ql{h:Heap}{dx:Addr}{mA:Str->Option Value}(n:h.Ns1 dx mA):∃od,h.get? dx=some od/\∀name,PySem.W.lookIn name od=some (mA name):=by
 obtain ⟨o,es,ep,ho,hd,hk,_,hm⟩:=n;refine ⟨o,ho,λname=>?_⟩;have e:=hm name;unfold nsFind findBy at e;rw[<-Array.find?_toList]at e;unfold PySem.W.lookIn;rw[hd];dsimp only;split
 ·rename_i y q;rw[q]at e;exact eg some e
 ·rename_i q;rw[q]at e;have a:es.toList.any (·.refKey)=false:=by
   rw[List.any_eq_false];intro y hy;obtain ⟨z,t,hkey⟩:=hk y (Array.mem_toList_iff.mp hy);simp[DictEntry.refKey,hkey]
  have a':¬es.toList.any (·.refKey)=true:=by rw[a];exact bd
  rw[if_neg a'];exact eg some e
theorem ObjM.look{h:Heap}{x dx C:Addr}{mA:Str->Option Value}(I:ObjM h x dx C mA):∃od,PySem.W.InstAt h x (PySem.W.instObj C dx) C (some od)/\∀name,PySem.W.lookIn name od=some (mA name):=
 let ⟨od,ho,hl⟩:=Ql I.ns
 ⟨od,⟨I.obj,rfl,rfl,ho⟩,hl⟩
theorem RelO.some_of{v:V}{o:Option Value}(r:RelO (some v) o):∃u,o=some u/\RelV v u:=by
 cases o with
 |none=>exact (show False from r).elim
 |some u=>exact ⟨u,rfl,r⟩
section
variable {P:Program} {w:World} {H H':Hp} {h h':Heap} {a C dx:Addr} {fs fs':List (Str×V)}
theorem Qm(hok:HOk P w H h)(e:H a=some (.ins C dx fs)):∃mA,ObjM h a dx C mA/\(∀f,RelO (fs.lookup f) (mA f))/\PySem.Within mA (fs.map (·.1))/\fs.length<=1000/\H dx=some (.own a):=by obtain ⟨d,z,ne,ob,mA,n,r,q⟩:=(show ObjOk P w H h a (.ins C dx fs) from hok a _ e);exact ⟨mA,⟨ob,n,ne⟩,r,q,z,d⟩
end
structure Cls(K:PF)(C:Addr):Prop where
 pg:PySem.W.plainGet K C Str.empty=true
 hd:PySem.W.hasDictIn K C=true
 po:PySem.W.plainOver K C=true
 sa:PySem.W.findIn K (.ref C) "__setattr__"=some (some (.builtin "object.__setattr__"))
theorem Cls.get{K:PF}{C:Addr}(c:Cls K C)(f:Str):PySem.W.plainGet K C f=true:=c.pg
def Qn(K:PF)(C:Addr)(f:Str):Prop:=PySem.W.findIn K (.ref C) f=some none
structure Meth(K:PF)(C:Addr)(m:Str)(f:Addr):Prop where
 at_:PySem.W.findIn K (.ref C) m=some (some (.ref f))
 fn:PySem.W.isFn K (.ref f)=true
 kp:PySem.W.keepIn K (.ref f)=true
section
variable {X:Cx} {pins:List (Addr×Obj)} {σ:St} {H:Hp} {s:Shared} {A:Around} {E:Value->Shared->Prop} {Q:Value->Shared->Prop} {c:Value} {b:Bool}
inductive TyOf (K:PF) (H:Hp):V->Value->Prop where
 |non:TyOf K H .non (.type "NoneType")
 |bl (x:Bool):TyOf K H (.bl x) (.type "bool")
 |int (i:Int):TyOf K H (.int i) (.type "int")
 |str (x:Str):TyOf K H (.str x) (.type "str")
 |flt (x:UInt64):TyOf K H (.flt x) (.type "float")
 |lst {a:Addr} {xs:List V} (e:H a=some (.lst xs)):TyOf K H (.ref a) (.type "list")
 |frz {a:Addr} {o:Obj} {xs:List V} (e:H a=some (.frz o (.lst xs))):TyOf K H (.ref a) (.type "list")
 |tup {a:Addr} {xs:List V} (e:H a=some (.tup xs)):TyOf K H (.ref a) (.type "tuple")
 |dK {a:Addr} {kvs:List (Key×V)} (e:H a=some (.dK kvs)):TyOf K H (.ref a) (.type "dict")
 |dT {a:Addr} {kvs:List (List Key×V)} (e:H a=some (.dT kvs)):TyOf K H (.ref a) (.type "dict")
 |ins {a C dx:Addr} {fs:List (Str×V)} (e:H a=some (.ins C dx fs)) (cl:Cls K C) (ha:PySem.W.findIn K (.ref C) "__class__"=some (some (.builtin "object.__class__")))
   (hn:PySem.W.specialIn K (.builtin "object.__class__") "__get__"=some (some (.builtin "getset_descriptor.__get__"))) (htk:PySem.W.takesIn K (.builtin "object.__class__")=some true)
   (hm:PySem.W.mroIn K C (.type "object")=some true):TyOf K H (.ref a) (.ref C)
theorem Qo{x:V}{u t:Value}(I:Inv X pins σ H s)(rx:RelV x u)(ty:TyOf X.K H x t)(e:PySem.W.kitOne X.K t c=some b)(h:∀tk,Q (.bool b) { s with toks:=tk }):
  wpAny (model X.prog X.w) A (call (.builtin "isinstance") [u,c]) Q E s:=by
 cases ty with
 |non=>cases (show u=Value.none from rx);exact c6 PySem.W.kitx_none I.kIn eR e (λz=>nomatch z) h
 |bl y=>cases (show u=Value.bool y from rx);exact c6 PySem.W.kitx_bool I.kIn eR e (λz=>nomatch z) h
 |int i=>obtain ⟨t,q⟩:=(show ∃t,u=Value.int i t from rx);cases q;exact c6 PySem.W.kitx_int I.kIn eR e (λz=>nomatch z) h
 |str y=>obtain ⟨t,q⟩:=(show ∃t,u=Value.str y t from rx);cases q;exact c6 PySem.W.kitx_str I.kIn eR e (λz=>nomatch z) h
 |flt y=>obtain ⟨t,q⟩:=(show ∃t,u=Value.float y t from rx);cases q;exact c6 PySem.W.kitx_float I.kIn eR e (λz=>nomatch z) h
 | @lst a xs ea=>
  cases (show u=Value.ref a from rx);obtain ⟨_,_,n,_,h1⟩:=(show ObjOk X.prog X.w H s.heap a (.lst xs) from I.hok a _ ea);exact c6 PySem.W.kitx_list I.kIn ⟨_,h1,rfl⟩ e (λz=>nomatch z) h
 | @frz a ob xs ea=>
  cases (show u=Value.ref a from rx);obtain ⟨_,_,_,n,_,h1⟩:=(show ObjOk X.prog X.w H s.heap a (.frz ob (.lst xs)) from I.hok a _ ea);exact c6 PySem.W.kitx_list I.kIn ⟨_,h1,rfl⟩ e (λz=>nomatch z) h
 | @tup a xs ea=>
  cases (show u=Value.ref a from rx);obtain ⟨_,_,_,p⟩:=(show ObjOk X.prog X.w H s.heap a (.tup xs) from I.hok a _ ea);obtain ⟨o,h1,h2,_⟩:=p;exact c6 PySem.W.kitx_tuple I.kIn ⟨o,h1,h2⟩ e (λz=>nomatch z) h
 | @dK a kvs ea=>
  cases (show u=Value.ref a from rx);obtain ⟨_,_,vs,_,p⟩:=(show ObjOk X.prog X.w H s.heap a (.dK kvs) from I.hok a _ ea);obtain ⟨o,es,ep,h1,h2,_⟩:=p;exact c6 PySem.W.kitx_dict I.kIn ⟨o,h1,h2.1⟩ e (λz=>nomatch z) h
 | @dT a kvs ea=>
  cases (show u=Value.ref a from rx);obtain ⟨_,_,xs,_,o,es,ep,h1,h2,_⟩:=(show ObjOk X.prog X.w H s.heap a (.dT kvs) from I.hok a _ ea);exact c6 PySem.W.kitx_dict I.kIn ⟨o,h1,h2.1⟩ e (λz=>nomatch z) h
 | @ins a C dx fs ea cl ha hn htk hm=>
  cases (show u=Value.ref a from rx);obtain ⟨mA,O,_⟩:=Qm I.hok ea;obtain ⟨od,J,_⟩:=O.look;exact c6 (PySem.W.kitx_own (cl.get _) cl.hd ha hn htk hm) I.kIn J e (λz=>nomatch z) h
end
structure Room(k:Nat)(A:Around):Prop where
 hd:A.handled=none
 dp:A.depth+3 * k+5 < recursionLimit
 un:A.units+16 * k+200 < cLine
theorem Room.mono{j k:Nat}{A:Around}(r:Room k A)(h:j<=k):Room j A:=⟨r.hd,by have:=r.dp;omega,by have:=r.un;omega⟩
theorem Room.deeper{k:Nat}{A:Around}(r:Room (k+1) A)(env:Env):Room k (A.deeper env):=
 ⟨r.hd,by have:=r.dp;show A.depth+1+3 * k+5 < _;omega,by have:=r.un;show A.units+3+16 * k+200 < _;omega⟩
theorem Room.depth{k:Nat}{A:Around}(r:Room k A):A.depth < recursionLimit:=by have:=r.dp;omega
theorem Room.units{k:Nat}{A:Around}(r:Room k A):A.units+64 < cLine:=by have:=r.un;omega
def Qp:TA:=λ_ H Q=>Q [] H
def Qq(ta:TE)(tr:TA):TA:=λY H Q=>ta Y H λx H1=>tr Y H1 λxs H2=>Q (x::xs) H2
section
variable {X:Cx} {e:Expr} {es:List Expr} {te:TE} {t:TA} {pos:Pos}
theorem iu:PA X [] Qp:=λ_ _ _ _ H Q I h=>Calls.spliced_nil ⟨[],H,I,.nil,h⟩
theorem eY(ha:PE X e te)(hr:PA X es t)(hs:starEach (e::es) X.env=(false,eval e X.env)::starEach es X.env:=by rfl):PA X (e::es) (Qq te t):=by intro pos pins s Y H Q I h;rw[hs];show wpAny _ _ (spliced ((false,eval e X.env)::backTo pos (starEach es X.env))) _ _ s;refine Calls.spliced_cons (thn (ha pins s Y H _ I h) λu s1 ⟨x,H1,I1,r1,q1⟩=>?_);exact thn (hr pos pins s1 Y H1 _ I1 q1) λus s2 ⟨xs,H2,I2,r2,q2⟩=>⟨x::xs,H2,I2,.cons r1 r2,q2⟩
def Qs(t:TA):TE:=λY H Q=>t Y H λxs H1=>xs.length<=sizeLine/\∀p,H1 p=none->Q (.ref p) (upd H1 p (.tup xs))
def Qt(t:TA):TE:=λY H Q=>t Y H λxs H1=>xs.length<=sizeLine/\∀p,H1 p=none->Q (.ref p) (upd H1 p (.lst xs))
theorem An{x1}(h:PA X es t):PE X (.Tuple es x1 pos) (Qs t):=by intro pins s Y H Q I hq;refine wpAny_Tuple_spliced (thn (h pos pins s Y H _ I hq) λus s1 ⟨xs,H1,I1,r,z,q⟩=>⟨by rw[<-r.length];exact z,?_⟩);have hf:H1 s1.heap.objs.size=none:=I1.hok.fresh (ax _);refine ⟨.ref s1.heap.objs.size,upd H1 s1.heap.objs.size (.tup xs),I1.laid (t':=s1.toks) (λb u e=>ah _ e) (ax _) ?_,rfl,q _ hf⟩;exact ⟨z,us,r,⟨_,a7 _ rfl,rfl,_,rfl⟩⟩
theorem Qu(h:PA X es t):PE X (.List es pos) (Qt t):=by intro pins s Y H Q I hq;refine wpAny_List_spliced (thn (h pos pins s Y H _ I hq) λus s1 ⟨xs,H1,I1,r,z,q⟩=>⟨by rw[<-r.length];exact z,?_⟩);have hf:H1 s1.heap.objs.size=none:=I1.hok.fresh (ax _);refine ⟨.ref s1.heap.objs.size,upd H1 s1.heap.objs.size (.lst xs),I1.laid (t':=s1.toks) (λb u e=>ah _ e) (ax _) ?_,rfl,q _ hf⟩;exact ⟨z,us,0,r,a7 _ rfl⟩
end
abbrev Sp:=List V->Hp->VK->XK->Prop
abbrev CXT:=List Env->Hp->Shared->XK->Value->Shared->Prop
structure Env0(P:Program)(w:World)(K:PF)(mg:Str->Option Value)(base:Heap)(A:Around)(outer:List Env)(s:Shared)(H:Hp):Prop where
 frames:A.frames=some outer
 mod:Mod K mg base
 bs:∀b o,base.get? b=some o->s.heap.get? b=some o/\H b=none
 bsz:base.objs.size<=(~~~s)
 funs:s.heap.FunFrames base outer
 frf:∀b∈frs outer,H b=none
 hok:HOk P w H s.heap
 bare:AllBare s.gens
def CE(outer:List Env)(P:Program)(w:World)(H:Hp)(s:Shared)(Q:VK)(u:Value)(s':Shared):Prop:=
 ∃v H',s'.os=s.os/\AllBare s'.gens/\Un (frs outer) [] H H' s.heap s'.heap/\HOk P w H' s'.heap/\RelV v u/\Q v H'
def CR(CX:CXT)(outer:List Env)(P:Program)(w:World)(H:Hp)(s:Shared)(Q:VK)(E:XK)(r:Result)(s':Shared):Prop:=
 match r with
 |.ok (.ret u)=>CE outer P w H s Q u s'
 |.ok _=>False
 |.error e=>CX outer H s E e s'
structure FnOk(P:Program)(w:World)(K:PF)(mg:Str->Option Value)(base:Heap)(CX:CXT)(k:Nat)(f:Addr)(fd:FuncData)(ps:List Str)(sp:Sp):Prop where
 len:∀vs H Q E,sp vs H Q E->vs.length=ps.length
 run:∀(A:Around)(outer:List Env)(s:Shared)(H:Hp)(args:Args)(us:List Value)(vs:List V)(Q:VK)(E:XK),Room k A->Env0 P w K mg base A outer s H->BindsTo s fd args (ps.zip us)->Vals vs us->sp vs H Q E->
  codeAny (model P w) A (.call (.ref f) args) (CR CX outer P w H s Q E) s
theorem FnOk.mono{P:Program}{w:World}{K:PF}{mg:Str->Option Value}{base:Heap}{CX:CXT}{j k:Nat}{f:Addr}{fd:FuncData}{ps:List Str}{sp:Sp}(F:FnOk P w K mg base CX j f fd ps sp)(h:j<=k):
  FnOk P w K mg base CX k f fd ps sp:=⟨F.len,λA outer s H args us vs Q E hr=>F.run A outer s H args us vs Q E (hr.mono h)⟩
theorem FnOk.imp{P:Program}{w:World}{K:PF}{mg:Str->Option Value}{base:Heap}{CX:CXT}{k:Nat}{f:Addr}{fd:FuncData}{ps:List Str}{sp sp':Sp}(F:FnOk P w K mg base CX k f fd ps sp)
  (h:∀vs H Q E,sp' vs H Q E->sp vs H Q E):FnOk P w K mg base CX k f fd ps sp':=
 ⟨λvs H Q E q=>F.len vs H Q E (h _ _ _ _ q),λA outer s H args us vs Q E hr he hb hv hs=>F.run A outer s H args us vs Q E hr he hb hv (h _ _ _ _ hs)⟩
section
variable {X:Cx} {pins:List (Addr×Obj)} {σ:St} {H:Hp} {s s':Shared}
theorem Inv.env0(I:Inv X pins σ H s):Env0 X.prog X.w X.K X.mg X.base X.A X.stack s H:=
 ⟨I.ok.frames,I.ok.mod,I.bs,bv I.ok.bsz I.sz,I.stack,I.stkFree,I.hok,I.bare⟩
theorem Inv.after{Q:VK}{u:Value}(I:Inv X pins σ H s)(h:CE X.stack X.prog X.w H s Q u s'):EP X pins σ Q u s':=by obtain ⟨v,H',os,bare,un,hok,r,q⟩:=h;obtain ⟨hh,g,d,t,os'⟩:=s';obtain rfl:os'=s.os:=os;exact ⟨v,H',I.call (h':=hh) (g':=g) (d':=d) (t':=t) (ch:=[]) un hok bare (λb z=>absurd z (by simp)),r,q⟩
end
def Qv(sp:Sp)(dvs:List V)(E:XK)(t:TA):TE:=λY H Q=>t Y H λvs H1=>sp (vs++dvs) H1 Q E
def Binds(K:PF)(fd:FuncData)(ps:List Str)(ds:List Value):Prop:=
 ∀(s:Shared)(us:List Value),K.In s.heap->(us++ds).length=ps.length->BindsTo s fd ⟨us,[]⟩ (ps.zip (us++ds))
theorem Binds.all{K:PF}{fd:FuncData}{ps:List Str}(h:∀us:List Value,us.length=ps.length->bindArgs fd ⟨us,[]⟩=pure (ps.zip us)):Binds K fd ps []:=λs us _ hl=>by
 rw[eI]at hl ⊢;exact .of_eq (h us hl)
def j4(CX:CXT)(X:Cx)(E:XK):Prop:=∀(pins:List (Addr×Obj))(Y:St)(H:Hp)(s:Shared)(e:Value)(s':Shared),Inv X pins Y H s->CX X.stack H s E e s'->X.xe e s'
section
variable {X:Cx} {CX:CXT} {k:Nat} {f C:Addr} {fd:FuncData} {ps:List Str} {sp:Sp} {dvs:List V} {ds:List Value} {E:XK} {x m:Str} {p pos apos:Pos} {e o:Expr} {es:List Expr} {ta:TE} {t:TA}
theorem Qw{pins:List (Addr×Obj)}{Y:St}{H:Hp}{s:Shared}{Q:VK}{us:List Value}{vs:List V}(F:FnOk X.prog X.w X.K X.mg X.base CX k f fd ps sp)(hr:Room k X.A)(hb:Binds X.K fd ps ds)(hd:Vals dvs ds)(hx:j4 CX X E)
  (I:Inv X pins Y H s) (r:Vals vs us) (h:sp (vs++dvs) H Q E):↥X (call (.ref f) us) (EP X pins Y Q) X.xe s:=by
 have r2:Vals (vs++dvs) (us++ds):=r.append hd;have hl:(us++ds).length=ps.length:=by rw[<-r2.length];exact F.len _ _ _ _ h
 refine wpAny_call (codeAny_mono (F.run X.A X.stack s H ⟨us,[]⟩ (us++ds) (vs++dvs) Q E hr I.env0 (hb s us I.kIn hl) r2 h) λr s' hq=>?_);cases r with
 |error e=>exact hx pins Y H s e s' I hq
 |ok fl=>
  cases fl with
  |ret u=>exact I.after hq
  |next=>exact False.elim hq
  |brk=>exact False.elim hq
  |cont=>exact False.elim hq
theorem Qx(F:FnOk X.prog X.w X.K X.mg X.base CX k f fd ps sp)(hr:Room k X.A)(hg:Gl X x)(hm:X.mg x=some (.ref f))(hk:PySem.W.keepIn X.K (.ref f)=true)(hb:Binds X.K fd ps ds)(hd:Vals dvs ds)(hx:j4 CX X E)
  (ha:PA X (e::es) t) (hdb:(x==("__debug__":Str))=false:=by decide) (he:starEach (e::es) X.env=(false,eval e X.env)::starEach es X.env:=by rfl) (hpl:(backTo pos (starEach es X.env)).any (·.1)=false:=by rfl):
  PE X (.Call (.Name x p) (e::es) [] pos) (Qv sp dvs E t):=by
 intro pins s Y H Q I h;refine wpAny_Call_Name_kw (zU I hg hm ?_ hdb);refine PySem.W.callWith_K (h₀:=X.base) I.ok.mod.kin hk (thn (ha pos pins s Y H _ I h) λus s1 ⟨vs,H1,I1,r,q⟩=>⟨I1.kIn,?_⟩) he hpl;exact Qw F hr hb hd hx I1 r q
structure Mk(K:PF)(C f:Addr):Prop where
 makes:PySem.W.makesIn K C=true
 init:PySem.W.findIn K (.ref C) "__init__"=some (some (.ref f))
 fn:PySem.W.isFn K (.ref f)=true
 kp:PySem.W.keepIn K (.ref C)=true
end
structure FnScope(N P:List Str)(sc:Scope):Prop where
 kind:sc.kind=.function
 co:sc.isCoroutine=false
 gen:sc.isGenerator=false
 nd:N.Nodup
 pre:N.take P.length=P
 par:∀x∈P,sc.names.lookup x=some .local\/sc.names.lookup x=some .cell
 nofree:∀y∈sc.names,y.2≠.free
theorem Ao{kindOf:Str->Option NameKind}{x:Str}:∀{binds:List (Str×Value)}{m:Str->Option Value},(∀v,(x,v)∉binds)->bindL kindOf binds m x=m x
 |[],_,_=>rfl
 | (n,v)::r,m,h=>by
  unfold bindL;rw[Ao λw hw=>h w (bm _ hw)];split
  ·have:x≠n:=by rintro rfl;exact h v bq
   simp[this]
  ·rfl
theorem Aq{kindOf:Str->Option NameKind}{x:Str}:∀{binds:List (Str×Value)}{m:Str->Option Value},(∀v,(x,v)∉binds)->bindC kindOf binds m x=m x
 |[],_,_=>rfl
 | (n,v)::r,m,h=>by
  unfold bindC;rw[Aq λw hw=>h w (bm _ hw)];split
  ·rfl
  ·have:x≠n:=by rintro rfl;exact h v bq
   simp[this]
theorem Ar{kindOf:Str->Option NameKind}{x:Str}{v:Value}:∀{P:List Str}{vs:List Value}{i:Nat}{m:Str->Option Value},P.Nodup->P[i]?=some x->vs[i]?=some v->kindOf x=some .local->
  bindL kindOf (P.zip vs) m x=some v
 |[],_,_,_,_,h,_,_=>by simp at h
 |_::_,[],_,_,_,_,h,_=>by simp at h
 |p::P,w::vs,0,m,nd,h1,h2,hk=>by
  simp at h1 h2;subst h1;subst h2;show bindL kindOf ((p,w)::P.zip vs) m p=_;unfold bindL;rw[Ao λv hv=>(e7.mp nd).1 (List.of_mem_zip hv).1,if_pos hk];simp
 |p::P,w::vs,i+1,m,nd,h1,h2,hk=>by
  show bindL kindOf ((p,w)::P.zip vs) m x=_;unfold bindL;exact Ar (i:=i) (e7.mp nd).2 (by simpa using h1) (by simpa using h2) hk
theorem Av{kindOf:Str->Option NameKind}{x:Str}{v:Value}:∀{P:List Str}{vs:List Value}{i:Nat}{m:Str->Option Value},P.Nodup->P[i]?=some x->vs[i]?=some v->kindOf x≠some .local->
  bindC kindOf (P.zip vs) m x=some v
 |[],_,_,_,_,h,_,_=>by simp at h
 |_::_,[],_,_,_,_,h,_=>by simp at h
 |p::P,w::vs,0,m,nd,h1,h2,hk=>by
  simp at h1 h2;subst h1;subst h2;show bindC kindOf ((p,w)::P.zip vs) m p=_;unfold bindC;rw[Aq λv hv=>(e7.mp nd).1 (List.of_mem_zip hv).1,if_neg hk];simp
 |p::P,w::vs,i+1,m,nd,h1,h2,hk=>by
  show bindC kindOf ((p,w)::P.zip vs) m x=_;unfold bindC;exact Av (i:=i) (e7.mp nd).2 (by simpa using h1) (by simpa using h2) hk
def start(N:List Str)(vs:List V):St:=vs.map some++List.replicate (N.length - vs.length) none
def di(CX:CXT)(P:Program)(w:World)(K:PF)(mg:Str->Option Value)(base:Heap)(N:List Str)(qual:Str)(scope:Scope)(f:Addr)(cd:Value)(A:Around)(outer:List Env)(s:Shared)(H:Hp)(E:XK):Cx where
 prog:=P
 w:=w
 K:=K
 mg:=mg
 base:=base
 A:=A.deeper (envOfC qual scope (~~~s) f cd)
 N:=N
 s₀:=s
 H₀:=H
 env:=envOfC qual scope (~~~s) f cd
 outer:=outer
 stack:=envOfC qual scope (~~~s) f cd::outer
 ex:=[]
 calm:=true
 fn:=λ_=>true
 pn:=[]
 xe:=λe s'=>wpAny (model P w) (A.deeper (envOfC qual scope (~~~s) f cd)) (leaving (envOfC qual scope (~~~s) f cd) e) (λ_ s''=>CX outer H s E e s'') (λe' s''=>CX outer H s E e' s'') s'
theorem Aw{sc:Scope}{n:Nat}{x:Str}(h:sc.names.lookup x=some .cell):∃c,(cellsFrom n sc.names []).lookup x=some c:=by have q:=PySem.W.cellsFrom_some sc.names n [] (.inl h);exact bB.mp q
theorem Ax{CX:CXT}{P:Program}{w:World}{K:PF}{mg:Str->Option Value}{base:Heap}{N ps:List Str}{qual:Str}{scope:Scope}{f:Addr}{cd:Value}{A:Around}{outer:List Env}{s s1:Shared}{H:Hp}{E:XK}{us:List Value}{vs:List V}
  (S:FnScope N ps scope) (hd:A.handled=none) (e0:Env0 P w K mg base A outer s H) (hl:vs.length=ps.length) (r:Vals vs us)
  (x:InCallC s (~~~s) (bindL (envOfC qual scope (~~~s) f cd).kindOf (ps.zip us) λ_=>none) (cellsFrom ((~~~s)+1) scope.names []) (bindC (envOfC qual scope (~~~s) f cd).kindOf (ps.zip us) λ_=>none) s1):
  Inv (di CX P w K mg base N qual scope f cd A outer s H E) [] (start N vs) H s1:=by
 have hpl:ps.length<=N.length:=by have:=eg List.length S.pre;rw[bb]at this;omega
 obtain ⟨h1,tk,rfl,hk⟩:=x.done;have noA:∀b:Addr,b∉(di CX P w K mg base N qual scope f cd A outer s H E).ex:=λb z=>absurd (show b∈([]:List Addr) from z) (by simp);refine ⟨⟨e0.mod,S.kind,rfl,rfl,ax _,λy z c h1 h2=>?_,λy hy=>?_,λy c _ h=>?_,λ_=>hd,Around.frames_deeper e0.frames,.inr ⟨rfl,rfl⟩,λb z=>absurd z (noA b),e0.bs,e0.bsz,λb _ _=>noA b,λb z=>absurd z (noA b),e0.funs,e0.frf⟩,
  rfl,e0.bare,Un.kept hk,⟨_,x.toInCall.ns,λi y v h1 h2 h3=>?_⟩,λy c h=>⟨_,x.cell y c h⟩,e0.hok.fresh (ax _),λy c h=>?_,λp hp=>absurd (show p∈([]:List (Addr×Obj)) from hp) (by simp),e0.hok.kept hk,?_⟩
 ·exact name_of_addr x.apart (ck h1) (ck h2)
 ·have hy:scope.names.lookup y=some .cell\/scope.names.lookup y=some .free:=hy;rcases hy with hy |hy
  ·exact Aw hy
  ·exact absurd rfl (S.nofree _ (ck hy))
 ·exact Nat.le_of_lt (x.above y c (ck h))
 ·have hi:i < vs.length:=by
   unfold start at h2;by_cases hi:i < vs.length
   ·exact hi
   ·rw[eT (by simpa using hi)]at h2;rw[List.getElem?_replicate]at h2;split at h2 <;> cases h2
  have ha:vs[i]?=some v:=by
   unfold start at h2;rw[cq (by simpa using hi),aw]at h2;cases e:vs[i]? with
   |none=>rw[e]at h2;cases h2
   |some a=>rw[e]at h2;cases h2;rfl
  obtain ⟨u,hu,rv⟩:=r.get ha;have hp:ps[i]?=some y:=by rw[<-S.pre,List.getElem?_take_of_lt (by omega)];exact h1
  have ndP:ps.Nodup:=by rw[<-S.pre];exact S.nd.sublist (List.take_sublist _ _)
  refine ⟨u,rv,?_⟩;rcases S.par y (ba hp) with k |k
  ·exact .inl ⟨k,Ar ndP hp hu k⟩
  ·obtain ⟨c,e⟩:=Aw (n:=(~~~s)+1) k;refine .inr ⟨.inl k,c,e,?_⟩;have q:=x.cell y c e;rw[Av ndP hp hu (by show scope.names.lookup y≠_;rw[k];decide)]at q;exact q
 ·exact e0.hok.fresh (Nat.le_of_lt (x.above y c (ck h)))
 ·unfold start;show _=N.length;rw[al,af,b6];omega
theorem Qy{CX:CXT}{P:Program}{w:World}{K:PF}{mg:Str->Option Value}{base:Heap}{k:Nat}{f:Addr}{name qual:Str}{params:Arguments}{body:List Stmt}{scope:Scope}{dV kV doc pm cdv ct oc:Value}{an od:Option Addr}
  {osl:Array (Option Value)} {N ps:List Str} {sp:Sp} (lk:K.lookup f=some ⟨oc,od,.func (PySem.W.fnOf name qual params body scope dV kV doc pm an cdv ct),osl⟩) (hcd:PySem.W.codeIn K cdv qual=true) (S:FnScope N ps scope)
  (len:∀vs H Q E,sp vs H Q E->vs.length=ps.length)
  (hbody:∀(A:Around)(outer:List Env)(s:Shared)(H:Hp)(vs:List V)(Q:VK)(E:XK),Room k (A.deeper (envOfC qual scope (~~~s) f cdv))->sp vs H Q E->
   ∃t,PSs (di CX P w K mg base N qual scope f cdv A outer s H E) body t/\t { nx:=λ_ H'=>Q .non H',rt:=Q } (start N vs) H):
  FnOk P w K mg base CX (k+1) f (PySem.W.fnOf name qual params body scope dV kV doc pm an cdv ct) ps sp:=by
 refine ⟨len,λA outer s H args us vs Q E hr e0 hb r hsp=>?_⟩;have hl:=len _ _ _ _ hsp;have KX:K.In s.heap:=e0.mod.kin.keeps λb o e=>(e0.bs b o e).1;have lim:s.heap.NoLimit:=e0.mod.nolimit.keeps λb o e=>(e0.bs b o e).1;have hkind:∀y∈ps.zip us,scope.names.lookup y.1=some .local\/(scope.names.lookup y.1=some .cell/\((cellsFrom ((~~~s)+1) scope.names []).lookup y.1).isSome=true):=λ⟨n,v⟩ hy=>by
  rcases S.par n (List.of_mem_zip hy).1 with q |q
  ·exact .inl q
  ·exact .inr ⟨q,PySem.W.cellsFrom_some _ _ _ (.inl q)⟩
 refine codeAny_call_function hr.depth (KX _ _ lk) rfl S.co S.gen rfl (PySem.W.codeRec_of KX hcd) (hb _ _ _ _ ?_);refine wpAny_newFunctionEnv_cells S.kind hkind λenv he s1 x=>?_;subst he;refine ⟨lim.keeps x.toInCall.keep,codeAny_func ?_⟩;obtain ⟨t,ht,hq⟩:=hbody A outer s H vs Q E (hr.deeper _) hsp;have I:Inv (di CX P w K mg base N qual scope f cdv A outer s H E) [] (start N vs) H s1:=Ax S hr.hd e0 hl r x;refine ca (ht [] s1 (start N vs) H _ I hq) (λfl s' hs=>?_) λe s' hs=>hs;have fin:∀{σ':St}{H':Hp}{v:V}{u:Value},Inv (di CX P w K mg base N qual scope f cdv A outer s H E) [] σ' H' s'->RelV v u->Q v H'->CE outer P w H s Q u s':=
  λ{σ' H' v u} J rv q=>⟨v,H',J.os,J.bare,J.base,J.hok,rv,q⟩
 cases fl with
 |ret u=>
  obtain ⟨v,σ',H',J,rv,q⟩:=hs;exact fin J rv q
 |next=>
  obtain ⟨σ',H',J,q⟩:=hs;exact fin (v:=V.non) (u:=Value.none) J rfl q
 |brk=>
  obtain ⟨_,_,_,q⟩:=hs;exact False.elim q
 |cont=>
  obtain ⟨_,_,_,q⟩:=hs;exact False.elim q
section
variable {X:Cx} {x:Str} {p pos:Pos} {e:Expr} {es:List Expr} {t:TA} {id T:String} {r:List V->Hp->VK->Prop}
def tCB(r:List V->Hp->VK->Prop)(t:TA):TE:=λY H Q=>t Y H λvs H1=>r vs H1 Q
theorem j5 (hc:bH X (.builtin id) r) (hg:Gl X x) (hm:X.mg x=none) (hv:bootBuiltins x=some (.builtin id)) (ha:PA X (e::es) t) (hn:x≠"__name__":=by decide) (hdb:(x==("__debug__":Str))=false:=by decide)
  (he:starEach (e::es) X.env=(false,eval e X.env)::starEach es X.env:=by rfl) (hpl:(backTo pos (starEach es X.env)).any (·.1)=false:=by rfl):PE X (.Call (.Name x p) (e::es) [] pos) (tCB r t):=by
 intro pins s Y H Q I h;refine wpAny_Call_Name_kw (ir I hg hm hv ?_ hn hdb);exact PyProof.Rows.callWith_builtin1 (thn (ha pos pins s Y H _ I h) λus s1 ⟨vs,H1,I1,r1,q1⟩=>hc pins s1 Y H1 vs us Q I1 r1 q1) he hpl
theorem pW (hc:bH X (.type T) r) (hg:Gl X x) (hm:X.mg x=none) (hv:bootBuiltins x=some (.type T)) (ha:PA X (e::es) t) (hn:x≠"__name__":=by decide) (hdb:(x==("__debug__":Str))=false:=by decide)
  (he:starEach (e::es) X.env=(false,eval e X.env)::starEach es X.env:=by rfl) (hpl:(backTo pos (starEach es X.env)).any (·.1)=false:=by rfl):PE X (.Call (.Name x p) (e::es) [] pos) (tCB r t):=by
 intro pins s Y H Q I h;refine wpAny_Call_Name_kw (ir I hg hm hv ?_ hn hdb);exact dr (thn (ha pos pins s Y H _ I h) λus s1 ⟨vs,H1,I1,r1,q1⟩=>hc pins s1 Y H1 vs us Q I1 r1 q1) he hpl
end
end L2
namespace HT
open PySem PyProof.Rows
section
variable {prog:Program} {w:World} {A:Around} {E:Value->Shared->Prop} {s:Shared}
theorem Qz{t b:Addr}{vs ws:List Value}{Q:Value->Shared->Prop}(ht:IsTup s.heap t vs.toArray)(hb:IsTup s.heap b ws.toArray)(hv:vs≠[])
  (h1:ws=[]->Q (.ref t) s) (h2:ws≠[]->Q (.ref (~~~s)) { s with heap:=s.heap.push { cls:=.type "tuple",data:=.seq (vs++ws).toArray } })
  (hsz:vs.length+ws.length<=sizeLine):wpAny (model prog w) A (binaryOp .Add (.ref t) (.ref b)) Q E s:=by
 obtain ⟨⟨cls,dd,data,sl⟩,ho,hc,n,hd⟩:=id ht;obtain ⟨⟨cls2,dd2,data2,sl2⟩,ho2,hc2,n2,hd2⟩:=id hb;simp only at hc hd hc2 hd2;subst hc hd hc2 hd2;have e:vs.toArray++ws.toArray=(vs++ws).toArray:=by simp
 by_cases hw:ws=[]
 ·exact concat_meets ⟨_,ho,rfl⟩ ⟨_,ho2,rfl⟩ noFill_tuple_add seq_tuple_add PySem.F.slot_tuple_add PySem.F.entry_tuple_add (PySem.F.args_tuple_add_2 _ _)
   (tuple_addW1 t b vs.toArray ws.toArray n n2 dd dd2 sl sl2 (by simpa using hv) (by simp[hw])) ⟨ho,ho2,h1 hw⟩
 ·refine concat_meets ⟨_,ho,rfl⟩ ⟨_,ho2,rfl⟩ noFill_tuple_add seq_tuple_add PySem.F.slot_tuple_add PySem.F.entry_tuple_add (PySem.F.args_tuple_add_2 _ _)
   (tuple_addW2 t b vs.toArray ws.toArray n n2 dd dd2 sl sl2 (by simpa using hv) (by simpa using hw) (by rw[List.size_toArray,List.size_toArray];exact hsz)) ⟨ho,ho2,?_⟩
  rw[e];exact h2 hw
def sIx(n d:Nat):Option Int->Nat
 |none=>d
 |some v=>if v < 0 then (v+(n:Int)).toNat else min v.toNat n
theorem Ay(n d k:Nat):sIx n d (some (k:Int))=min k n:=by show (if (k:Int) < 0 then ((k:Int)+(n:Int)).toNat else min (k:Int).toNat n)=min k n;rw[if_neg (by omega),Int.toNat_natCast]
theorem Az(n d:Nat)(hd:d<=n)(o:Option Int):sIx n d o<=n:=by
 cases o with
 |none=>exact hd
 |some v=>
  show (if v < 0 then (v+(n:Int)).toNat else min v.toNat n)<=n;by_cases hv:v < 0
  ·rw[if_pos hv];omega
  ·rw[if_neg hv];exact Nat.min_le_right _ _
theorem Ba(v:Int)(n d:Nat):(if v < 0 then max (v+(n:Int)) 0 else min v (n:Int))=((sIx n d (some v):Nat):Int):=by
 show (if v < 0 then max (v+(n:Int)) 0 else min v (n:Int))=(((if v < 0 then (v+(n:Int)).toNat else min v.toNat n):Nat):Int);by_cases hv:v < 0
 ·simp only[if_pos hv];omega
 ·simp only[if_neg hv];omega
theorem QB(lo hi:Option Int)(n:Nat):Builtin.Slice.sliceAdjust lo hi 1 (n:Int)=(((sIx n 0 lo:Nat):Int),((sIx n n hi:Nat):Int)):=by
 have h1:¬((1:Int) < 0):=by omega
 unfold Builtin.Slice.sliceAdjust;simp only[h1,if_false];refine Prod.ext ?_ ?_
 ·cases lo with
  |none=>rfl
  |some v=>exact Ba v n 0
 ·cases hi with
  |none=>rfl
  |some v=>exact Ba v n n
theorem QC(i j:Nat):Builtin.Slice.slicePlaces (i:Int) (j:Int) 1=j - i:=by
 unfold Builtin.Slice.slicePlaces;have h1:(1:Int) > 0:=by omega
 simp only[h1,if_true,Int.ediv_one];split <;> omega
theorem Bb{v:Value}{o:Option Int}{Q:Option Int->Shared->Prop}(p:IsPart v o)(h:Q o s):wpAny (model prog w) A (Builtin.Slice.slicePartIndex v) Q E s:=by
 cases p with
 |none=>exact slicePart_none h
 |int i t=>exact slicePart_int h
theorem Bc{sl:Addr}{vl vu:Value}{lo hi:Option Int}{n:Nat}{Q:Int×Int×Nat->Shared->Prop}(hs:s.heap.IsSliceOf sl vl vu .none)(pl:IsPart vl lo)(pu:IsPart vu hi)
  (h:Q (((sIx n 0 lo:Nat):Int),1,sIx n n hi - sIx n 0 lo) s):wpAny (model prog w) A (Builtin.Slice.sliceApplied (.ref sl) (pure (n:Int))) Q E s:=by
 obtain ⟨os,hos,hcs,hds⟩:=id hs;unfold Builtin.Slice.sliceApplied Builtin.Slice.sliceFields;refine wpAny_bind (wpAny_bind (wpAny_field hos hds (x:=vl) rfl (wpAny_bind (wpAny_field hos hds (x:=vu) rfl (wpAny_bind (wpAny_field hos hds (x:=.none) rfl (wpAny_pure ?_)))))));refine wpAny_bind (slicePart_none ?_);show wpAny _ _ (if ((1:Int)==0)=true then _ else _) _ _ s;rw[if_neg (by decide)];refine wpAny_bind (Bb pl (wpAny_bind (Bb pu (wpAny_bind (wpAny_pure ?_)))));show wpAny _ _ (match Builtin.Slice.sliceAdjust lo hi 1 (n:Int) with | (lo,hi)=>pure (lo,(1:Int),Builtin.Slice.slicePlaces lo hi 1)) _ _ s;rw[QB lo hi n];show wpAny _ _ (pure (((sIx n 0 lo:Nat):Int),(1:Int),Builtin.Slice.slicePlaces ((sIx n 0 lo:Nat):Int) ((sIx n n hi:Nat):Int) 1)) _ _ s;rw[QC];exact wpAny_pure h
theorem QD(xs:Array Value)(i k:Nat):((List.range k).filterMap λ(m:Nat)=>xs[((i:Int)+(m:Int) * 1).toNat]?).toArray=((xs.toList.drop i).take k).toArray:=by
 have e:(λ(m:Nat)=>xs[((i:Int)+(m:Int) * 1).toNat]?)=λm=>xs[i+m]?:=by
  funext m;have:((i:Int)+(m:Int) * 1).toNat=i+m:=by omega
  rw[this]
 rw[e];have:=pick_run xs i k;rw[List.filterMap_map]at this;have e2:((λx=>xs[x]?)∘λx=>i+x)=λm=>xs[i+m]?:=rfl;rw[e2]at this;rw[this]
theorem QF{t sl:Addr}{items:Array Value}{vl vu:Value}{lo hi:Option Int}{Q:Value->Shared->Prop}(ht:IsTup s.heap t items)(hs:s.heap.IsSliceOf sl vl vu .none)(pl:IsPart vl lo)(pu:IsPart vu hi)
  (hw:¬(sIx items.size 0 lo=0/\sIx items.size items.size hi=items.size))
  (h:Q (.ref (~~~s)) { s with heap:=s.heap.push { cls:=.type "tuple",data:=.seq ((items.toList.drop (sIx items.size 0 lo)).take (sIx items.size items.size hi - sIx items.size 0 lo)).toArray } })
  (hsz:items.size<=sizeLine):wpAny (model prog w) A (getItem (.ref t) (.ref sl)) Q E s:=by
 have htake:sizeOk (.seq ((items.toList.drop (sIx items.size 0 lo)).take (sIx items.size items.size hi - sIx items.size 0 lo)).toArray):=by show ((items.toList.drop (sIx items.size 0 lo)).take (sIx items.size items.size hi - sIx items.size 0 lo)).toArray.size<=sizeLine;rw[List.size_toArray,List.length_take,List.length_drop,Array.length_toList];omega
 have hj:sIx items.size items.size hi<=items.size:=Az _ _ (Nat.le_refl _) hi;obtain ⟨os,hos,hcs,hds⟩:=id hs;have hTs:s.TypeIs (.ref sl) "slice":=⟨os,hos,hcs⟩;unfold getItem;try with_reducible refine wpAny_holding ?_
 first |refine wpAny_bind (wpAny_pure ?_) |skip
 refine wpAny_bind (wpAny_sequenceKey ht.typeIs (by decide) ?_);refine wpAny_bind (wpAny_callSpecial?_slot (name:=Str.ofString "__getitem__") ht.typeIs PyProof.Rows.slot_tuple_getitem
  (wpAny_call_entry PyProof.Rows.slot_tuple_getitem ht.typeIs entry_tuple_getitem ?_ (args_tuple_getitem _ _)))
 show wpAny _ _ (Builtin.Tuple.tupleItemsOf (.ref t) >>= _) _ _ s;refine wpAny_bind (tupleItemsOf_ ht ?_);refine wpAny_bind (wpAny_typeOf hTs ?_);rw[if_pos (by decide)];refine wpAny_bind (Bc hs pl pu ?_);have hno:¬((((sIx items.size 0 lo:Nat):Int)==0&&(1:Int)==1&&(sIx items.size items.size hi - sIx items.size 0 lo)==items.size)=true):=by intro q;rw[Bool.and_eq_true,Bool.and_eq_true]at q;have q1:((sIx items.size 0 lo:Nat):Int)=0:=eq_of_beq q.1.1;have q2:sIx items.size items.size hi - sIx items.size 0 lo=items.size:=eq_of_beq q.2;exact hw ⟨by omega,by omega⟩
 show wpAny _ _ (if (((sIx items.size 0 lo:Nat):Int)==0&&(1:Int)==1&&(sIx items.size items.size hi - sIx items.size 0 lo)==items.size)=true then _ else _) _ _ s;rw[if_neg hno,QD];first
  |exact wpAny_bind (m:=Builtin.Tuple.tupleExact _) (wpAny_newObj_type (wpAny_pure ⟨_,rfl,wpAny_pure h⟩) htake)
  |exact wpAny_bind (m:=Builtin.Tuple.tupleExact _) (wpAny_newObj_type (wpAny_bind (wpAny_pure (wpAny_pure ⟨_,rfl,wpAny_pure h⟩))) htake)
  |exact wpAny_bind (wpAny_bind (m:=Builtin.Tuple.tupleExact _) (wpAny_newObj_type (wpAny_pure (wpAny_pure ⟨_,rfl,wpAny_pure h⟩)) htake))
  |exact wpAny_bind (wpAny_bind (m:=Builtin.Tuple.tupleExact _) (wpAny_newObj_type (wpAny_pure ⟨_,rfl,wpAny_pure h⟩) htake))
end
end HT
namespace L2
open PySem PySem.Spec PyProof.Rows
abbrev TO:=St->Hp->(Option Int->Hp->Prop)->Prop
def PO(X:Cx)(e:Option Expr)(t:TO):Prop:=
 ∀(pins:List (Addr×Obj))(s:Shared)(Y:St)(H:Hp)(Q:Option Int->Hp->Prop),Inv X pins Y H s->t Y H Q->
  ↥X (evalPart e X.env) (λu s'=>∃o H',Inv X pins Y H' s'/\IsPart u o/\Q o H') X.xe s
def QG:TO:=λ_ H Q=>Q none H
def QH(t:TE):TO:=λY H Q=>t Y H λx H1=>∃i,x=.int i/\Q (some i) H1
theorem intsAre_of{ns:List Int}:∀{us:List Value},Vals (ns.map V.int) us->IntsAre us ns:=by
 induction ns with
 |nil=>intro us r;rw[fi]at r;cases r;exact .nil
 |cons n ns ih=>
  intro us r;rw[bi]at r;cases r with
  |cons r1 r2=>
   obtain ⟨t,e⟩:=r1;subst e;exact .cons n t (ih r2)
section
variable {X:Cx} {e:Expr} {te:TE} {lo hi:Option Expr} {tl th:TO} {pos p2:Pos}
theorem QJ:PO X none QG:=by intro pins s Y H Q I h;rw[evalPart_none];exact av ⟨none,H,I,.none,h⟩
theorem QK(h:PE X e te):PO X (some e) (QH te):=by intro pins s Y H Q I hw;rw[evalPart_some];refine thn (h pins s Y H _ I hw) λu s1 ⟨x,H1,I1,r1,q1⟩=>?_;obtain ⟨i,rfl,q⟩:=q1;obtain ⟨t,rfl⟩:=r1;exact ⟨some i,H1,I1,.int i t,q⟩
def SlR(X:Cx)(r:V->Option Int->Option Int->Hp->VK->Prop):Prop:=
 ∀(pins:List (Addr×Obj))(s:Shared)(Y:St)(H:Hp)(x:V)(v vl vu:Value)(lo hi:Option Int)(sl:Addr)(Q:VK),Inv X pins Y H s->RelV x v->s.heap.IsSliceOf sl vl vu .none->IsPart vl lo->IsPart vu hi->r x lo hi H Q->
  ∃T id,typeLookup (.type T) "__getitem__"=pure (some (.builtin id))/\s.TypeIs v T/\↥X (getItem v (.ref sl)) (EP X pins Y Q) X.xe s
def tSl(r:V->Option Int->Option Int->Hp->VK->Prop)(te:TE)(tl th:TO):TE:=λY H Q=>te Y H λx H1=>tl Y H1 λl H2=>th Y H2 λu H3=>r x l u H3 Q
theorem QL{r:V->Option Int->Option Int->Hp->VK->Prop}(hr:SlR X r)(he:PE X e te)(hl:PO X lo tl)(hu:PO X hi th):PE X (.Subscript e (.Slice lo hi none p2) pos) (tSl r te tl th):=by intro pins s Y H Q I h;refine Subscript_ (thn (he pins s Y H _ I h) λv s1 ⟨x,H1,I1,r1,q1⟩=>?_);refine wpAny_Slice (thn (hl pins s1 Y H1 _ I1 q1) λvl s2 ⟨l,H2,I2,pl,q2⟩=>thn (hu pins s2 Y H2 _ I2 q2) λvu s3 ⟨u,H3,I3,pu,q3⟩=>?_);rw[evalPart_none];refine av ?_;have I4:Inv X pins Y H3 { s3 with heap:=s3.heap.push { cls:=.type "slice",data:=.fields #[vl,vu,.none] } }:=I3.kept (t':=s3.toks) λb ob q=>ah _ q;obtain ⟨T,id,hT,ht,hg⟩:=hr pins { s3 with heap:=s3.heap.push { cls:=.type "slice",data:=.fields #[vl,vu,.none] } } Y H3 x v vl vu l u s3.heap.objs.size Q I4 r1 (Heap.IsSliceOf.new ..) pl pu q3;show ↥X (subscriptTail e (.Slice lo hi none p2) v (.ref s3.heap.objs.size)) (EP X pins Y Q) X.xe { s3 with heap:=s3.heap.push { cls:=.type "slice",data:=.fields #[vl,vu,.none] } };exact tail_any (ops:=[.ref s3.heap.objs.size,v]) ht hT hg (by with_unfolding_all rfl)
def dX(xs:List V)(lo hi:Option Int):List V:=(xs.drop (HT.sIx xs.length 0 lo)).take (HT.sIx xs.length xs.length hi - HT.sIx xs.length 0 lo)
theorem Bd(xs:List V)(lo hi:Option Int):(dX xs lo hi).length<=xs.length:=by unfold dX;rw[bb,bS];omega
def QM(K:PF):V->Option Int->Option Int->Hp->VK->Prop:=λx lo hi H Q=>∃a xs,x=.ref a/\SqT K H a xs/\
 ¬(HT.sIx xs.length 0 lo=0/\HT.sIx xs.length xs.length hi=xs.length)/\∀p,H p=none->Q (.ref p) (upd H p (.tup (dX xs lo hi)))
theorem QQ:SlR X (QM X.K):=by
 intro pins s Y H x v vl vu lo hi sl Q I rx hs pl pu h;obtain ⟨a,xs,rfl,hx,hw,q⟩:=h;cases rx;obtain ⟨its,r,ht,hz⟩:=I.tuple hx;have hlen:its.toArray.size=xs.length:=by rw[am];exact r.length.symm
 refine ⟨"tuple",_,d6.lookup,ht.typeIs,?_⟩;refine HT.QF ht hs pl pu (by rw[hlen];exact hw) ?_ (by rw[hlen];exact hz);rw[hlen];refine ⟨.ref (~~~s),_,I.laid (t':=s.toks) (o:=.tup (dX xs lo hi)) (λb ob q=>ah _ q) (ax _) ?_,rfl,q _ (I.hok.fresh (ax _))⟩;exact ⟨bv (Bd xs lo hi) hz,_,(r.drop (HT.sIx xs.length 0 lo)).take (HT.sIx xs.length xs.length hi - HT.sIx xs.length 0 lo),IsTup.new _ _⟩
def QR(K:PF):R2:=λx y H Q=>∃a b xs ys,x=.ref a/\y=.ref b/\SqT K H a xs/\SqT K H b ys/\xs≠[]/\xs.length+ys.length<=sizeLine/\
 (ys=[]->Q (.ref a) H)/\(ys≠[]->∀p,H p=none->Q (.ref p) (upd H p (.tup (xs++ys))))
theorem Vals.nil_iff{xs:List V}{us:List Value}(r:Vals xs us):us=[]↔xs=[]:=by
 cases r with
 |nil=>simp
 |cons _ _=>simp
theorem QS:OpR X (binaryOp .Add) (QR X.K):=by intro pins s Y H x y v u Q I rx ry h;obtain ⟨a,b,xs,ys,rfl,rfl,ha,hb,hx,hz,q1,q2⟩:=h;cases rx;cases ry;obtain ⟨its,r1,p1,_⟩:=I.tuple ha;obtain ⟨its2,r2,p2,_⟩:=I.tuple hb;refine HT.Qz p1 p2 (λz=>hx (r1.nil_iff.mp z)) (λz=>⟨.ref a,H,I,rfl,q1 (r2.nil_iff.mp z)⟩) (λz=>?_) (by rw[<-r1.length,<-r2.length];exact hz);refine ⟨.ref (~~~s),_,I.laid (t':=s.toks) (o:=.tup (xs++ys)) (λb ob q=>ah _ q) (ax _) ?_,rfl,q2 (λw=>z (r2.nil_iff.mpr w)) _ (I.hok.fresh (ax _))⟩;exact ⟨by rw[al];exact hz,_,r1.append r2,IsTup.new _ _⟩
end
def ixN(n:Nat)(i:Int):Option Nat:=if 0<=i then (if i < n then some i.toNat else none) else if -(n:Int)<=i then some (i+n).toNat else none
def atI{α:Type}(xs:List α)(i:Int):Option α:=(ixN xs.length i).bind λj=>xs[j]?
theorem Be{n:Nat}{i:Int}{j:Nat}(h:ixN n i=some j):seqIndex? i n=some j/\j < n/\-(n:Int)<=i/\i < n:=by
 unfold ixN at h;by_cases h0:0<=i
 ·rw[if_pos h0]at h;by_cases h1:i < n
  ·rw[if_pos h1]at h;have e:i.toNat=j:=cy h;exact ⟨by rw[seqIndex_of h0 h1,e],by omega,by omega,h1⟩
  ·rw[if_neg h1]at h;cases h
 ·rw[if_neg h0]at h;by_cases h1:-(n:Int)<=i
  ·rw[if_pos h1]at h;have e:(i+n).toNat=j:=cy h;exact ⟨by rw[seqIndex_neg (by omega) h1,e],by omega,h1,by omega⟩
  ·rw[if_neg h1]at h;cases h
theorem jf{α:Type}{xs:List α}{i:Int}{v:α}(h:atI xs i=some v):∃j,seqIndex? i xs.length=some j/\xs[j]?=some v/\j < xs.length/\-(xs.length:Int)<=i/\i < xs.length:=by
 unfold atI at h;cases e:ixN xs.length i with
 |none=>rw[e]at h;cases h
 |some j=>
  rw[e]at h;obtain ⟨h1,h2,h3,h4⟩:=Be e;exact ⟨j,h1,h,h2,h3,h4⟩
theorem bf{α:Type}{xs:List α}{j:Nat}{v:α}(h:xs[j]?=some v):atI xs (j:Int)=some v:=by
 have hj:j < xs.length:=(ag.mp h).1;have e:ixN xs.length (j:Int)=some j:=by unfold ixN;rw[if_pos (by omega),if_pos (by omega)];simp
 unfold atI;rw[e];exact h
theorem Bg{α:Type}(xs:List α)(v:α):atI (xs++[v]) (-1)=some v:=by
 have hl:(xs++[v]).length=xs.length+1:=by simp
 have e:ixN (xs++[v]).length (-1)=some xs.length:=by unfold ixN;rw[hl,if_neg (by decide),if_pos (by omega)];congr 1;omega
 unfold atI;rw[e];show (xs++[v])[xs.length]?=some v;simp
def Bh(b:Expr):Prop:=∀o i,subscripted b false o i=operate [o,i] (getItem o i)
def IxR(X:Cx)(r:R2):Prop:=
 ∀(value slice:Expr)(pins:List (Addr×Obj))(s:Shared)(Y:St)(H:Hp)(x y:V)(v u:Value)(Q:VK),Inv X pins Y H s->RelV x v->RelV y u->r x y H Q->
  subscripted slice false v u=operate [v,u] (getItem v u)->↥X (subscriptTail value slice v u) (EP X pins Y Q) X.xe s
def MtR(X:Cx)(id:String)(r:V->List V->Hp->VK->Prop):Prop:=
 ∀(pins:List (Addr×Obj))(s:Shared)(Y:St)(H:Hp)(x:V)(xs:List V)(v:Value)(us:List Value)(Q:VK),Inv X pins Y H s->RelV x v->Vals xs us->r x xs H Q->
  ↥X (call (.builtin id) (v::us)) (EP X pins Y Q) X.xe s
section
variable {X:Cx} {a b:Expr} {ta tb:TE} {pos:Pos}
theorem jg{r:R2}(hr:IxR X r)(ha:PE X a ta)(hb:PE X b tb)(hs:Bh b):PE X (.Subscript a b pos) (tOp r ta tb):=by intro pins s Y H Q I h;exact Subscript_ (uE ha hb I h λv u s2 x y H2 I2 rx ry q=>hr a b pins s2 Y H2 x y v u Q I2 rx ry q (hs _ _))
def QT(K:PF):R2:=λx y H Q=>∃p xs i v,x=.ref p/\y=.int i/\SqL K H p xs/\atI xs i=some v/\Q v H
def QV(K:PF):R2:=λx y H Q=>∃p xs i v,x=.ref p/\y=.int i/\SqT K H p xs/\atI xs i=some v/\Q v H
def QW:R2:=λx y H Q=>∃z i c,x=.str z/\y=.int i/\z.length<=sizeLine/\atI z.cps.toList i=some c/\Q (.str ⟨#[c]⟩) H
theorem uG:IxR X (QT X.K):=by
 intro value slice pins s Y H x y v u Q I rx ry h hs;obtain ⟨p,xs,i,z,rfl,rfl,hq,he,q⟩:=h;cases rx;obtain ⟨t,rfl⟩:=ry;obtain ⟨its,r,pl,hz⟩:=I.list hq;obtain ⟨j,h1,h2,h3,h4,h5⟩:=jf he;obtain ⟨w,ew,rw'⟩:=r.get h2;have hl:=r.length;have hn:=gA;have fin:EP X pins Y Q w s:=⟨z,H,I,rw',q⟩;by_cases h0:0<=i
 ·have hj:i.toNat=j:=by
   rw[seqIndex_of h0 h5]at h1;exact cy h1
  exact item_listR pl.isList h0 (by omega) (by rw[hj];simpa using ew) fin hs
 ·have hj:(i+(its.toArray.size:Int)).toNat=j:=by
   rw[seqIndex_neg (by omega) h4]at h1;rw[am,<-hl];exact cy h1
  exact subscriptTail_builtinR (x:=w) pl.isList.typeIs slot_list_getitem.lookup
   (wpAny_getItem_list_neg (Q:=λr s'=>r=w/\EP X pins Y Q r s') pl.isList (by omega) (by rw[am] <;> omega) (by omega) (by rw[hj];simpa using ew) ⟨rfl,fin⟩) hs
theorem pX:IxR X (QV X.K):=by
 intro value slice pins s Y H x y v u Q I rx ry h hs;obtain ⟨p,xs,i,z,rfl,rfl,hq,he,q⟩:=h;cases rx;obtain ⟨t,rfl⟩:=ry;obtain ⟨its,r,pl,hz⟩:=I.tuple hq;obtain ⟨j,h1,h2,h3,h4,h5⟩:=jf he;obtain ⟨w,ew,rw'⟩:=r.get h2;have hl:=r.length;have hn:=gA;have fin:EP X pins Y Q w s:=⟨z,H,I,rw',q⟩;exact subscriptTail_builtinR (x:=w) pl.typeIs slot_tuple_getitem.lookup
  (getItem_tuple (j:=j) (Q:=λr s'=>r=w/\EP X pins Y Q r s') pl (by omega) (by omega) (by rw[am,<-hl];exact h1) (by simpa using ew) ⟨rfl,fin⟩) hs
theorem QX:IxR X QW:=by
 intro value slice pins s Y H x y v u Q I rx ry h hs;obtain ⟨z,i,c,rfl,rfl,hz,he,q⟩:=h;obtain ⟨t,rfl⟩:=rx;obtain ⟨t',rfl⟩:=ry;obtain ⟨j,h1,h2,h3,h4,h5⟩:=jf he;have hl:z.cps.toList.length=z.length:=by simp[Str.length]
 rw[hl]at h1 h4 h5;have hn:=gA;exact tail_any (typeIs_str s z t) slot_str_getitem.lookup (getItem_str (c:=c) (by
  have e1:decide (i < -(2 ^ 63:Int))=false:=bn (by omega);have e2:decide (i≥2 ^ 63)=false:=bn (by omega);rw[e1,e2,Bool.or_false]) (by rw[h1];simpa using h2) ⟨.str ⟨#[c]⟩,H,I.tok _,⟨_,rfl⟩,q⟩) hs
theorem QZ (its:List Value) (n j:Nat) (u:Value):Obj.mapSeq (·.setIfInBounds j u) { cls:=.type "list",data:=.seq its.toArray n }={ cls:=.type "list",data:=.seq (its.set j u).toArray n }:=by simp[Obj.mapSeq]
theorem Inv.lst{pins:List (Addr×Obj)}{Y:St}{H:Hp}{s:Shared}{p:Addr}{xs:List V}(I:Inv X pins Y H s)(h:H p=some (.lst xs)):
  ∃(its:List Value) (n:Nat),Vals xs its/\s.heap.get? p=some { cls:=.type "list",data:=.seq its.toArray n }/\xs.length<=sizeLine:=by
 obtain ⟨z,its,n,r,e⟩:=I.hok p _ h;exact ⟨its,n,r,e,z⟩
theorem Inv.lstUpd{pins:List (Addr×Obj)}{Y:St}{H:Hp}{s:Shared}{p:Addr}{xs ys:List V}{its its':List Value}{n n':Nat}{f:Obj->Obj}(I:Inv X pins Y H s)(h:H p=some (.lst xs))
  (ho:s.heap.get? p=some { cls:=.type "list",data:=.seq its.toArray n }) (hf:f { cls:=.type "list",data:=.seq its.toArray n }={ cls:=.type "list",data:=.seq its'.toArray n' }) (r:Vals ys its') (hz:ys.length<=sizeLine) (t:Nat):
  Inv X pins Y (upd H p (.lst ys)) { s with heap:=s.heap.update p f,toks:=t }:=by
 have e:(s.heap.update p f).get? p=some { cls:=.type "list",data:=.seq its'.toArray n' }:=by rw[Heap.get?_update_self f ho (by rw[hf] <;> rfl),hf]
 refine I.write (x:=p) (e:=p) (by rw[h];trivial) (.inl rfl) (λb u hb q=>(Heap.get?_update_other _ _ (Ne.symm hb)).trans q) ⟨_,e⟩ ?_;exact ⟨hz,its',n',r,e⟩
def Q0:V->V->V->Hp->(Hp->Prop)->Prop:=λo i v H Q=>∃p xs k j,o=.ref p/\i=.int k/\H p=some (.lst xs)/\ixN xs.length k=some j/\Q (upd H p (.lst (xs.set j v)))
theorem set_list:pN X Q0:=by
 intro pins s Y H o i v ov iv u Q I ro ri rv h;obtain ⟨p,xs,k,j,rfl,rfl,hp,hj,q⟩:=h;cases ro;obtain ⟨t,rfl⟩:=ri;obtain ⟨its,n,r,ho,hz⟩:=I.lst hp;obtain ⟨h1,h2,h3,h4⟩:=Be hj;have hl:=r.length;have hn:=gA;have I':Inv X pins Y (upd H p (.lst (xs.set j v))) { s with heap:=s.heap.update p (Obj.mapSeq (·.setIfInBounds j u)) }:=
  I.lstUpd hp ho (QZ its n j u) (r.set rv j) (by rw[cm];exact hz) s.toks
 by_cases h0:0<=k
 ·have hk:k.toNat=j:=by
   rw[seqIndex_of h0 h4]at h1;exact cy h1
  exact PySem.W.ki_setAt ho h0 (by omega) (by rw[am,<-hl];exact h4) (by rw[hk];exact ⟨_,I',q⟩)
 ·have hk:(k+(its.toArray.size:Int)).toNat=j:=by
   rw[seqIndex_neg (by omega) h3]at h1;rw[am,<-hl];exact cy h1
  exact PySem.W.ki_setBack ho (by omega) (by rw[am,<-hl];exact h3) (by omega) (by rw[hk];exact ⟨_,I',q⟩)
theorem Bj(lo hi:Option Int)(n:Nat):(sliceBounds lo hi none n).1=((HT.sIx n 0 lo:Nat):Int)/\(sliceBounds lo hi none n).2.1=((HT.sIx n n hi:Nat):Int)/\(sliceBounds lo hi none n).2.2=1:=by
 refine ⟨?_,?_,rfl⟩
 ·cases lo with
  |none=>simp[sliceBounds,HT.sIx]
  |some i=>
   simp only[sliceBounds,HT.sIx,Option.getD_none,show (1:Int) > 0 by decide,if_true];by_cases h:i < 0
   ·simp only[h,if_true] <;> omega
   ·simp only[h,if_false] <;> omega
 ·cases hi with
  |none=>simp[sliceBounds,HT.sIx]
  |some i=>
   simp only[sliceBounds,HT.sIx,Option.getD_none,show (1:Int) > 0 by decide,if_true];by_cases h:i < 0
   ·simp only[h,if_true] <;> omega
   ·simp only[h,if_false] <;> omega
theorem Q3(its:List Value)(lo hi:Option Int):slicePick its.toArray lo hi none=((its.drop (HT.sIx its.length 0 lo)).take (HT.sIx its.length its.length hi - HT.sIx its.length 0 lo)).toArray:=by obtain ⟨h1,h2,h3⟩:=Bj lo hi its.toArray.size;unfold slicePick;rw[h1,h2,h3];simp only[sliceRange_one,pick_run,am] <;> rfl
def Q4(K:PF):V->Option Int->Option Int->Hp->VK->Prop:=λx lo hi H Q=>∃a xs,x=.ref a/\SqL K H a xs/\∀p,H p=none->Q (.ref p) (upd H p (.lst (dX xs lo hi)))
theorem Bk:SlR X (Q4 X.K):=by intro pins s Y H x v vl vu lo hi sl Q I rx hs pl pu h;obtain ⟨a,xs,rfl,hx,q⟩:=h;cases rx;obtain ⟨its,r,ht,hz⟩:=I.list hx;have hlen:=r.length;refine ⟨"list",_,slot_list_getitem.lookup,ht.isList.typeIs,?_⟩;refine wpAny_getItem_list_slice ht.isList hs pl pu .none (by simp) ?_ (by rw[am] <;> omega);rw[Q3,<-hlen];refine ⟨.ref (~~~s),_,I.laid (t':=s.toks) (o:=.lst (dX xs lo hi)) (λb ob q=>ah _ q) (ax _) ?_,rfl,q _ (I.hok.fresh (ax _))⟩;exact ⟨bv (Bd xs lo hi) hz,_,0,(r.drop (HT.sIx xs.length 0 lo)).take (HT.sIx xs.length xs.length hi - HT.sIx xs.length 0 lo),a7 _ rfl⟩
theorem Bl:bH X (.builtin "len") (λxs H Q=>∃p ys,xs=[.ref p]/\(SqL X.K H p ys\/SqT X.K H p ys)/\Q (.int ys.length) H):=by
 intro pins s Y H xs us Q I r h;obtain ⟨p,ys,rfl,hq,q⟩:=h;obtain ⟨u,rfl,rx⟩:=vals1 r;cases rx;have hn:=gA;rcases hq with hq |hq
 ·obtain ⟨its,r',pl,hz⟩:=I.list hq;have hlen:=r'.length;exact Calls.call_len_list pl.isList (by simp only[am] <;> omega) ⟨.int ys.length,H,I.tok _,⟨s.toks+1,by rw[am,hlen]⟩,q⟩
 ·obtain ⟨its,r',pl,hz⟩:=I.tuple hq;have hlen:=r'.length;exact len_tuple pl (by simp only[am] <;> omega) ⟨.int ys.length,H,I.tok _,⟨s.toks+1,by rw[am,hlen]⟩,q⟩
theorem Q5:bH X (.builtin "len") (λxs H Q=>∃z,xs=[.str z]/\z.length<=sizeLine/\Q (.int z.length) H):=by intro pins s Y H xs us Q I r h;obtain ⟨z,rfl,hz,q⟩:=h;obtain ⟨u,rfl,t,rfl⟩:=vals1 r;have hn:=gA;exact len_str (by omega) ⟨.int z.length,H,I.tok _,⟨_,rfl⟩,q⟩
theorem Bm:bH X (.type "list") (λxs H Q=>∃p ys,xs=[.ref p]/\(SqL X.K H p ys\/SqT X.K H p ys)/\∀l,H l=none->Q (.ref l) (upd H l (.lst ys))):=by
 intro pins s Y H xs us Q I r h;obtain ⟨p,ys,rfl,hq,q⟩:=h;obtain ⟨u,rfl,rx⟩:=vals1 r;cases rx;have fin:∀(its:List Value),Vals ys its->ys.length<=sizeLine->∀(h':Heap)(c':Nat),(∀b o',s.heap.get? b=some o'->h'.get? b=some o')->
   h'.get? (~~~s)=some { cls:=.type "list",dict:=none,data:=.seq its.toArray c',slots:=#[] }->EP X pins Y Q (.ref (~~~s)) { s with heap:=h' }:=λits r' hz h' c' kp e=>
  ⟨.ref (~~~s),_,I.laid (t':=s.toks) kp (ax _) (show ObjOk X.prog X.w _ h' _ (.lst ys) from ⟨hz,its,c',r',e⟩),rfl,q _ (I.hok.fresh (ax _))⟩
 rcases hq with hq |hq
 ·obtain ⟨its,r',pl,hz⟩:=I.list hq;have hlen:=r'.length;obtain ⟨o,ho,hc,n,hd⟩:=pl.isList;exact call_list_seq p (.inl rfl) ho hc hd (λh' c' kp e=>fin its r' hz h' c' kp e) (by simp only[am] <;> omega)
 ·obtain ⟨its,r',pl,hz⟩:=I.tuple hq;have hlen:=r'.length;obtain ⟨o,ho,hc,n,hd⟩:=pl;exact call_list_seq p (.inr rfl) ho hc hd (λh' c' kp e=>fin its r' hz h' c' kp e) (by simp only[am] <;> omega)
theorem Bo:bH X (.type "tuple") (λxs H Q=>∃p ys,xs=[.ref p]/\((SqL X.K H p ys/\∀l,H l=none->Q (.ref l) (upd H l (.tup ys)))\/(SqT X.K H p ys/\Q (.ref p) H))):=by
 intro pins s Y H xs us Q I r h;obtain ⟨p,ys,rfl,h⟩:=h;obtain ⟨u,rfl,rx⟩:=vals1 r;cases rx;rcases h with ⟨hq,q⟩ |⟨hq,q⟩
 ·obtain ⟨its,r',pl,hz⟩:=I.list hq;have hlen:=r'.length;refine call_tuple_list pl.isList (λh' kp=>?_) (by simp only[am] <;> omega);have I1:Inv X pins Y H { s with heap:=h' }:=I.kept (t':=s.toks) kp;have I2:Inv X pins Y (upd H h'.objs.size (.tup ys)) { s with heap:=h'.push { cls:=.type "tuple",data:=.seq its.toArray } }:=
   I1.laid (t':=s.toks) (λb o e=>ah _ e) (ax _) (show ObjOk X.prog X.w _ _ _ (.tup ys) from ⟨hz,its,r',IsTup.new _ _⟩)
  exact ⟨.ref h'.objs.size,_,I2,rfl,q _ (I1.hok.fresh (ax _))⟩
 ·obtain ⟨its,r',pl,hz⟩:=I.tuple hq;exact call_tuple_same pl ⟨.ref p,H,I,rfl,q⟩
def tyV(K:PF)(T:String)(x:V)(H:Hp):Prop:=match x with
 |.str _=>T="str"
 |.int _=>T="int"
 |.ref p=>(T="list"/\∃xs,SqL K H p xs)\/(T="tuple"/\∃o,K.lookup p=some o/\o.cls=.type "tuple"/\o.dict=none)\/
   (T="dict"/\((∃kvs,H p=some (.dK kvs))\/∃kvs,H p=some (.dT kvs)))\/(T="set"/\∃S n,H p=some (.set S n))
 |_=>False
theorem Q6{pins:List (Addr×Obj)}{Y:St}{H:Hp}{s:Shared}{T:String}{x:V}{v:Value}(I:Inv X pins Y H s)(r:RelV x v)(ty:tyV X.K T x H):
  s.TypeIs v T/\∀a,v=.ref a->∃ob,s.heap.get? a=some ob/\ob.dict=none:=by
 cases x with
 |str z=>
  obtain ⟨t,rfl⟩:=r;cases (show T="str" from ty);exact ⟨typeIs_str s z t,λ_ e=>nomatch e⟩
 |int i=>
  obtain ⟨t,rfl⟩:=r;cases (show T="int" from ty);exact ⟨typeIs_int s i t,λ_ e=>nomatch e⟩
 |ref p=>
  cases r;rcases ty with ⟨rfl,xs,hq⟩ |⟨rfl,o,hk,hc,hd⟩ |⟨rfl,hk⟩ |⟨rfl,S,n,hk⟩
  ·obtain ⟨its,_,pl,_⟩:=I.list hq;refine ⟨pl.isList.typeIs,λa e=>?_⟩;cases e;obtain ⟨o,n,e,c,hd,_⟩:=pl;exact ⟨o,e,hd⟩
  ·refine ⟨⟨o,I.kIn p o hk,hc⟩,λa e=>?_⟩;cases e;exact ⟨o,I.kIn _ o hk,hd⟩
  ·have z:∃o,s.heap.get? p=some o/\o.ExactDict:=by
    rcases hk with ⟨kvs,hk⟩ |⟨kvs,hk⟩
    ·obtain ⟨_,_,_,_,o,_,_,e,ex,_⟩:=I.hok p _ hk;exact ⟨o,e,ex⟩
    ·obtain ⟨_,_,_,_,o,_,_,e,ex,_⟩:=I.hok p _ hk;exact ⟨o,e,ex⟩
   obtain ⟨o,e,ex⟩:=z;refine ⟨⟨o,e,ex.1⟩,λa e2=>?_⟩;cases e2;exact ⟨o,e,ex.2.1⟩
  ·obtain ⟨o,_,_,_,e,ex,_⟩:=I.hok p _ hk;refine ⟨⟨o,e,ex.1⟩,λa e2=>?_⟩;cases e2;exact ⟨o,e,ex.2.1⟩
 |_=>exact False.elim ty
def tBM(K:PF)(T:String)(r:V->List V->Hp->VK->Prop)(to:TE)(t:TA):TE:=λY H Q=>to Y H λx H1=>tyV K T x H1/\t Y H1 λxs H2=>r x xs H2 Q
variable {o e:Expr} {es:List Expr} {to:TE} {t:TA} {name:Str} {apos cpos:Pos} {T id:String} {r:V->List V->Hp->VK->Prop}
theorem pY (pa:PlainAttrs T) (slot:Slot T name id) (hty:typeOf (.builtin id)=pure (.type "method_descriptor")) (hm:MtR X id r) (ho:PE X o to) (ha:PA X (e::es) t)
  (hbase:attributeBase o name X.env (eval o X.env)=eval o X.env:=by rfl)
  (hfew:((backTo cpos (starEach (e::es) X.env)).all (λx=>!x.1)&&(backToKw cpos (keywordEach [] X.env)).all (λx=>x.1.isSome)
  &&decide ((e::es).length+([]:List Keyword).length+(if ([]:List Keyword).isEmpty then 0 else 1) < 30))=true:=by rfl)
  (hline:(apos.endLine==cpos.line)=true:=by rfl) (hs:starEach (e::es) X.env=(false,eval e X.env)::starEach es X.env:=by rfl) (hplain:(backTo cpos (starEach es X.env)).any (·.1)=false:=by rfl):
  PE X (.Call (.Attribute o name apos) (e::es) [] cpos) (tBM X.K T r to t):=by
 intro pins s Y H Q I h;refine wpAny_Call_method_late hbase hfew hline rfl (thn (ho pins s Y H _ I h) λv s1 ⟨x,H1,I1,r1,ty,q1⟩=>?_);obtain ⟨h1,h2⟩:=Q6 I1 r1 ty;refine ⟨T,id,pa,slot,hty,h1,h2,?_⟩;have hA:=ha cpos pins s1 Y H1 _ I1 q1;rw[hs]at hA ⊢;refine Calls.callWith_builtin (by show (false||(backTo cpos (starEach es X.env)).any (·.1))=false;rw[hplain] <;> rfl) (Calls.evalArgs_plain ?_);exact thn hA λus s2 ⟨vs,H2,I2,r2,q2⟩=>hm pins s2 Y H2 x vs v us Q I2 r1 r2 q2
end
def MtM(X:Cx)(id:String)(r:V->List V->Hp->VK->Prop):Prop:=
 ∀(pins:List (Addr×Obj))(s:Shared)(Y:St)(H:Hp)(x:V)(xs:List V)(v:Value)(us:List Value)(Q:VK),Inv X pins Y H s->RelV x v->Vals xs us->r x xs H Q->
  ↥X (call (.builtin id) (v::us)) (EP X pins Y Q) X.xe s
theorem Vals.one:∀{x:V}{us:List Value},Vals [x] us->∃u,us=[u]/\RelV x u
 |_,_,.cons r .nil=>⟨_,rfl,r⟩
section
variable {X:Cx} {pins:List (Addr×Obj)} {σ:St} {H:Hp} {s:Shared} {l b:Addr} {xs ys zs:List V}
theorem Inv.lset{its its':List Value}{n:Nat}{f:Array Value->Array Value}{t':Nat}(I:Inv X pins σ H s)(hH:H l=some (.lst xs))
  (e:s.heap.get? l=some { cls:=.type "list",data:=.seq its.toArray n }) (hf:f its.toArray=its'.toArray) (hv:Vals ys its') (hz:ys.length<=sizeLine):
  Inv X pins σ (upd H l (.lst ys)) { s with heap:=s.heap.update l (Obj.mapSeq f),toks:=t' }:=by
 have q:=PySem.IsL.update e f;rw[hf]at q;refine I.write (x:=l) (e:=l) (by rw[hH];exact trivial) (.inl rfl) (λb' u hb hu=>(Heap.get?_update_other s.heap (Obj.mapSeq f) (Ne.symm hb)).trans hu) ⟨_,q⟩ ?_;exact ⟨hz,its',_,hv,q⟩
theorem Inv.lnew{its:List Value}{t':Nat}(I:Inv X pins σ H s)(hv:Vals ys its)(hz:ys.length<=sizeLine):
  Inv X pins σ (upd H (~~~s) (.lst ys)) { s with heap:=s.heap.push { cls:=.type "list",data:=.seq its.toArray },toks:=t' }:=
 I.laid (λ_ _ q=>ah _ q) (ax _) ⟨hz,its,0,hv,a7 _ rfl⟩
theorem Inv.fresh(I:Inv X pins σ H s):H (~~~s)=none:=I.hok.fresh (ax _)
theorem Inv.lstM (I:Inv X pins σ H s) (hH:H l=some (.lst xs)):xs.length<=sizeLine/\∃(its:List Value) (n:Nat),Vals xs its/\xs.length=its.length/\s.heap.get? l=some { cls:=.type "list",data:=.seq its.toArray n }:=by obtain ⟨z,its,n,r,e⟩:=I.hok l _ hH;exact ⟨z,its,n,r,r.length,e⟩
theorem Q7{n:Nat}(h:n<=sizeLine):Builtin.List.listTooLong n=false:=by unfold Builtin.List.listTooLong;exact bn (by omega)
end
section
variable {X:Cx}
def Q8:V->List V->Hp->VK->Prop:=λx vs H Q=>∃l xs y,x=.ref l/\vs=[y]/\H l=some (.lst xs)/\xs.length < sizeLine/\Q .non (upd H l (.lst (xs++[y])))
theorem Q9:MtM X "list.append" Q8:=by intro pins s Y H x vs v us Q I rx rv h;obtain ⟨l,xs,y,rfl,rfl,hH,hz,q⟩:=h;cases rx;obtain ⟨u,rfl,ru⟩:=rv.one;obtain ⟨z,its,n,r,hl,e⟩:=I.lstM hH;refine call_meets F.slot_list_append ⟨_,e,rfl⟩ F.entry_list_append (F.args_list_append_2 _ _) (PySem.list_append l its.toArray n u (by rw[am];omega)) ⟨e,?_⟩;refine ⟨.non,_,I.lset (its':=its++[u]) hH e (by simp) (r.append (.cons ru .nil)) ?_,rfl,q⟩;rw[al,ek];omega
def Ra:V->List V->Hp->VK->Prop:=λx vs H Q=>∃l b xs zs,x=.ref l/\vs=[.ref b]/\H l=some (.lst xs)/\H b=some (.lst zs)/\xs.length+zs.length<=sizeLine/\Q .non (upd H l (.lst (xs++zs)))
theorem Rb:MtM X "list.extend" Ra:=by
 intro pins s Y H x vs v us Q I rx rv h;obtain ⟨l,b,xs,zs,rfl,rfl,hH,hB,hz,q⟩:=h;cases rx;obtain ⟨u,rfl,ru⟩:=rv.one;cases ru;obtain ⟨z,its,n,r,hl,e⟩:=I.lstM hH;obtain ⟨z2,its2,n2,r2,hl2,e2⟩:=I.lstM hB;have hsz:its.toArray.size+its2.toArray.size<=sizeLine:=by rw[am,am];omega
 have hlong:¬(!its.toArray.isEmpty&&Builtin.List.listTooLong (its.toArray.size+its2.toArray.size))=true:=by rw[Q7 hsz,fo];exact bd
 refine call_meets F.slot_list_extend ⟨_,e,rfl⟩ F.entry_list_extend (F.args_list_extend_2 _ _)
  (AutoSeq1.list_extend_list_list_0 l its.toArray n b its2.toArray n2 hlong (by rw[am];omega) (by omega)) ⟨e,e2,?_⟩
 refine ⟨.non,_,I.lset (its':=its++its2) hH e (by simp) (r.append r2) ?_,rfl,q⟩;rw[al];omega
theorem len_rep{α:Type}(xs:List α)(k:Nat):(List.replicate k xs).flatten.length=k * xs.length:=by
 induction k with
 |zero=>simp
 |succ k ih=>rw[ee,fy,al,ih,Nat.succ_mul,Nat.add_comm]
end
end L2
namespace Att
open PySem PySem.W PySem.Calls PyProof.Rows
theorem Rc{P:Params}{h:Heap}:∀(ns:List Int)(vs:List Value),WellAll P h vs (ns.map WData.int)->IntsAre vs ns:=by
 intro ns;induction ns with
 |nil=>
  intro vs w;rw[List.map_nil]at w;cases w;exact .nil
 |cons n ns ih=>
  intro vs w;rw[List.map_cons]at w;cases w with
  |cons a b=>
   cases a;exact .cons _ _ (ih _ b)
theorem Rf{l:OpenLaw}{n:Nat}(hn:l.most=some n){P:Params}{h:Heap}{args:List WData}{vals:List Value}
  (hpre:l.row.toRowW.claim.pre args=true) (hwl:WellAll P h vals args):
  ∃a vs ns,vals=[Value.ref a]/\args=[WData.list (ns.map WData.int)]/\h.get? a=some { cls:=.type "list",data:=.seq vs.toArray }/\IntsAre vs ns/\ns.length<=n:=by
 have hsh:WShape.hasAll [] args [.list .int]=true:=(pre_splitW hpre).1;have hc:l.pre.holds [] { args:=args }=true:=(pre_splitW hpre).2;obtain ⟨d,r,rfl,h1,h2⟩:=hasAllW_cons hsh;obtain rfl:=hasAllW_nil h2;obtain ⟨xs,rfl,h3⟩:=hasW_list h1;obtain ⟨ns,rfl⟩:=items_int h3;have hlen:ns.length<=n:=by
  unfold OpenLaw.pre at hc;have h4:(WTm.not (.lt (.lit (.int (n:Int))) (.len (.arg 0)))).holds [] { args:=[.list (ns.map .int)] }=true:=by have h4:=(holds_andW hc).1;rw[hn]at h4;exact h4
  have h5:=condW_of h4 (w_not (w_lt w_lit (w_len_list (w_arg rfl))));rw[List.length_map]at h5;refine Nat.le_of_not_lt λq=>?_;have q':(n:Int) < ((ns.length:Nat):Int):=by omega
  first
   | (rw[decide_eq_true q']at h5;exact absurd h5 (by decide))
   | (simp at h5;omega)
 cases hwl with
 |cons w1 w2=>
  cases w2;cases w1 with
  |list ho hall=>exact ⟨_,_,ns,rfl,rfl,ho,Rc ns _ hall,hlen⟩
theorem Rg(l:OpenLaw)(args:List WData):l.row.toRowW.claim.post args (.bool true) args=true:=
 postW_of (r:=l.row.toRowW) (X:=(true==true))
  (show WShape.has [] (.bool true) .bool=true by first |rfl |decide |simp[WShape.has,WShape.arms,WShape.armsAll])
  (show (WTm.eq .res (.lit (.bool true))).value [] { args:=args,res:=some (.bool true),after:=args }=some (.bool (true==true)) from w_eq_bool (w_res rfl) w_lit) rfl
theorem attach_call{l:OpenLaw}{n:Nat}{q:Program}{loose:List Str}{XP:(Str->Option Value)->Heap->Prop}{YP:World->Heap->Prop}{d:DefRec}
  (hn:l.most=some n) (hdf:d.params.defaults=[])
  (call:∀(w:World)(s₀ s₁:Shared)(mg mb:Str->Option Value)(fa:Addr)(o:Obj)(pm cd doc:Value)(a:Addr)(vs:List Value)(ns:List Int),
   Ground q loose [] XP w s₀ mg mb s₁.heap->YP w s₁.heap->
   s₁.heap.get? fa=some o->o.data=.func (docDef d.name d.params d.body d.scope pm cd doc)->s₁.heap.CodeRec cd d.name->mg d.name=some (.ref fa)->
   s₁.heap.get? a=some { cls:=.type "list",data:=.seq vs.toArray }->IntsAre vs ns->ns.length<=n->s₁.gens=#[]->
   codeAny (model l.prog w) callerA (.call (.ref fa) ⟨[.ref a],[]⟩) (λr s'=>r=.ok (.ret (.bool true))/\OldK s₁.heap s'.heap/\s'.os=s₁.os/\AllBare s'.gens) s₁):
  WalkO q loose XP YP l.row.toRowW d [] (λf vs=>PySem.call f vs):=by
 intro w s₀ s₁ mg mb G Y fa o pm cd doc dV kV ho hd hcd hD hmg hg args vals as hpre hlay hrd hwl hlo;obtain rfl:dV=.none:=Dflts.none hD hdf;obtain rfl:kV=.none:=Dflts.noKw hD;obtain ⟨a,vs,ns,rfl,rfl,hobj,hints,hlen⟩:=Rf hn hpre hwl;refine enter_call (codeAny_mono (call w s₀ s₁ mg mb fa o pm cd doc a vs ns G Y ho (fd_plain hd) hcd hmg hobj hints hlen hg) λr s' hq=>?_);obtain ⟨rfl,h2,h3,h4⟩:=hq;exact ⟨.inl ⟨.bool true,.bool true,[],rfl,λ_=>rfl,.bool true,Rg l _,λ_=>⟨List.Pairwise.nil,λ_ hm=>(nomatch hm)⟩⟩,h2,h3,h4⟩
end Att
namespace L2
open PySem PySem.Spec PyProof.Rows
theorem uH:∀{vs:List Value}{ns:List Int},IntsAre vs ns->Vals (ns.map V.int) vs
 |_,_,.nil=>.nil
 |_,_,.cons n t h=>.cons ⟨t,rfl⟩ (uH h)
def Only(H:Hp):Prop:=∀b,H b=none\/∃o xs,H b=some (.frz o (.lst xs))
theorem Rh{P:Program}{w:World}{K:PF}{mg mb:Str->Option Value}{CX:CXT}{k:Nat}{fa a:Addr}{fd:FuncData}{x:Str}{sp:Sp}{s₁:Shared}{vs:List Value}{ns:List Int}
  (KX:K.In s₁.heap) (hns:s₁.heap.Ns mainGlobals mg) (hb:s₁.heap.Ns builtinsNs mb) (hbb:∀x:Str,x≠"__name__"->mb x=bootBuiltins x) (hlim:s₁.heap.NoLimit) (hg:s₁.gens=#[])
  (ha:s₁.heap.get? a=some { cls:=.type "list",data:=.seq vs.toArray }) (hi:IntsAre vs ns) (hl:ns.length<=sizeLine) (hr:Room k callerA)
  (F:∀base:Heap,K.In base->base.Ns mainGlobals mg->FnOk P w K mg base CX k fa fd [x] sp) (hbind:∀(s:Shared)(u:Value),BindsTo s fd ⟨[u],[]⟩ [(x,u)])
  (hsp:∀H:Hp,Only H->SqL K H a (ns.map V.int)->sp [.ref a] H (λv _=>v=.bl true) λ_ _ _=>False)
  (hCX:∀H e s',CX [] H s₁ (λ_ _ _=>False) e s'->False):
  codeAny (model P w) callerA (.call (.ref fa) ⟨[.ref a],[]⟩) (λr s'=>r=.ok (.ret (.bool true))/\OldK s₁.heap s'.heap/\s'.os=s₁.os/\AllBare s'.gens) s₁:=by
 have rv:=uH hi;have lenV:=hi.length
 -- from an abstract heap in which nothing but the script may be tracked
 have core:∀H:Hp,Only H->SqL K H a (ns.map V.int)->HOk P w H s₁.heap->(∀b,H b≠none->b=a)->(H a≠none->K.lookup a=none)->
   codeAny (model P w) callerA (.call (.ref fa) ⟨[.ref a],[]⟩) (λr s'=>r=.ok (.ret (.bool true))/\OldK s₁.heap s'.heap/\s'.os=s₁.os/\AllBare s'.gens) s₁:=by
  intro H hO hS hok hA hK;have base_of:∀{b:Addr}{o:Obj},s₁.heap.get? b=some o->H b=none->(dC s₁.heap H).get? b=some o:=λe n=>Nx e n;have noA:∀{b:Addr}{o:Obj}{es:Array DictEntry}{ep:Nat},s₁.heap.get? b=some o->o.data=.dict es ep->H b=none:=λ{b o es ep} e d=>by
   cases q:H b with
   |none=>rfl
   |some u=>
    have e':b=a:=hA b (by rw[q];simp);subst e';rw[ha]at e;cases e;have d':Data.seq vs.toArray _=Data.dict es ep:=d;cases d'
  have nsK:∀{b:Addr}{m:Str->Option Value},s₁.heap.Ns b m->(dC s₁.heap H).Ns b m:=λ{b m} ⟨o,es,ep,e,d,r⟩=>⟨o,es,ep,base_of e (noA e d),d,r⟩;have hKb:K.In (dC s₁.heap H):=λb o e=>base_of (KX b o e) (by
   cases q:H b with
   |none=>rfl
   |some u=>
    have e':b=a:=hA b (by rw[q];simp);subst e';rw[hK (by rw[q];simp)]at e;cases e)
  have hM:Mod K mg (dC s₁.heap H):=⟨hKb,nsK hns,⟨mb,nsK hb,hbb⟩,let ⟨mc,h1,h2⟩:=hlim;⟨mc,nsK h1,h2⟩⟩;have e0:Env0 P w K mg (dC s₁.heap H) callerA [] s₁ H:=⟨rfl,hM,λb o e=>Ny e,Nat.le_of_eq (Nv _ _),trivial,λb hb=>absurd (show b∈([]:List Addr) from hb) (by simp),hok,.of_eq hg⟩;refine codeAny_mono ((F _ hKb (nsK hns)).run callerA [] s₁ H ⟨[.ref a],[]⟩ [.ref a] [.ref a] _ _ hr e0 (hbind s₁ (.ref a)) (.cons rfl .nil) (hsp H hO hS)) λr s' h=>?_;cases r with
  |error e=>exact (hCX H e s' h).elim
  |ok fl=>
   cases fl with
   |next=>exact False.elim h
   |brk=>exact False.elim h
   |cont=>exact False.elim h
   |ret u=>
    obtain ⟨v,H',os,bare,un,hok',r',q⟩:=h;have q':v=.bl true:=q;subst q';obtain rfl:u=Value.bool true:=r';refine ⟨rfl,OldK.of_keep λb o e=>?_,os,bare⟩;cases q:H b with
    |none=>exact un.keep b o e q (by intro z;exact absurd (show b∈([]:List Addr) from z) (by simp)) (by simp)
    |some u=>
     rcases hO b with z |⟨ob,xs,z⟩
     ·rw[q]at z;cases z
     ·have z2:=un.frzs b ob _ z;obtain ⟨e1,_⟩:=hok b _ z;obtain ⟨e2,_⟩:=hok' b _ z2;rw[e]at e1;cases e1;exact e2
 cases hk:K.lookup a with
 |some o=>
  -- the script is one of the module's own objects
  have e:=KX a o hk;rw[ha]at e;cases e;refine core (λ_=>none) (λ_=>.inl rfl) (.inr ⟨_,vs.toArray,_,hk,rfl,rfl,rfl,by rw[am,lenV];exact hl,by simpa using rv⟩) (λb u z=>by have z':(none:Option HO)=some u:=z;cases z') (λb z=>absurd rfl z) λz=>absurd rfl z
 |none=>
  refine core (λb=>if b=a then some (.frz { cls:=.type "list",data:=.seq vs.toArray } (.lst (ns.map V.int))) else none) (λb=>?_) (.inl (.inr ⟨{ cls:=.type "list",data:=.seq vs.toArray },if_pos rfl⟩)) (λb u z=>?_) (λb z=>?_) λ_=>hk
  ·by_cases hb:b=a
   ·exact .inr ⟨_,_,if_pos hb⟩
   ·exact .inl (if_neg hb)
  ·by_cases hb:b=a
   ·have z':=(if_pos hb).symm.trans z;cases z';subst hb;exact ⟨ha,by rw[af];exact hl,vs,_,rv,ha⟩
   ·have z':=(if_neg hb).symm.trans z;cases z'
  ·by_cases hb:b=a
   ·exact hb
   ·exact absurd (if_neg hb) z
theorem Ri{l:PySem.W.OpenLaw}{n k:Nat}{q:Program}{loose:List Str}{XP:(Str->Option Value)->Heap->Prop}{YP:World->Heap->Prop}{d:DefRec}{K:Params->PF}{CX:World->CXT}{sp:World->Sp}{x:Str}
  (hn:l.most=some n) (hn2:n<=sizeLine) (hdf:d.params.defaults=[]) (hr:Room k callerA)
  (hY:∀(w:World)(h:Heap),YP w h->(K w.params).In h)
  (F:∀(w:World)(mg:Str->Option Value)(fa:Addr)(h:Heap),(K w.params).In h->h.Ns mainGlobals mg->mg d.name=some (.ref fa)->
   ∃fd:FuncData,(∀(s:Shared)(u:Value),BindsTo s fd ⟨[u],[]⟩ [(x,u)])/\
    ∀base:Heap,(K w.params).In base->base.Ns mainGlobals mg->FnOk l.prog w (K w.params) mg base (CX w) k fa fd [x] (sp w))
  (hsp:∀(w:World)(H:Hp)(a:Addr)(ns:List Int),ns.length<=n->Only H->SqL (K w.params) H a (ns.map V.int)->sp w [.ref a] H (λv _=>v=.bl true) λ_ _ _=>False)
  (hCX:∀(w:World)(H:Hp)(s:Shared)(e:Value)(s':Shared),CX w [] H s (λ_ _ _=>False) e s'->False):
  PySem.W.WalkO q loose XP YP l.row.toRowW d [] (λf vs=>PySem.call f vs):=by
 refine Att.attach_call hn hdf λw s₀ s₁ mg mb fa o pm cd doc a vs ns G Y ho hd hcd hmg hobj hints hlen hg=>?_;have KX:=hY w _ Y;obtain ⟨fd,hb,hF⟩:=F w mg fa _ KX G.T.g hmg;exact Rh KX G.T.g G.T.b G.T.builtins G.T.nolimit hg hobj hints (bv hlen hn2) hr hF hb (λH hO hS=>hsp w H a ns hlen hO hS) λH e s'=>hCX w H s₁ e s'
def j6(s:Stmt):Arguments:=match s with
 |.FunctionDef _ a _ _ _ _ _ _ _ _=>a
 |_=>{ posonlyargs:=[],args:=[],vararg:=none,kwonlyargs:=[],kw_defaults:=[],kwarg:=none,defaults:=[] }
def aG(s:Stmt):List Stmt:=match s with
 |.FunctionDef _ _ b _ _ _ _ _ _ _=>b
 |_=>[]
def ao(s:Stmt):Scope:=match s with
 |.FunctionDef _ _ _ _ _ _ sc _ _ _=>sc
 |_=>{ kind:=.function,names:=[],isGenerator:=false,isCoroutine:=false }
abbrev CX0:CXT:=λ_ _ _ _ _ _=>False
structure Fun(K:PF)(x qual:Str)(st:Stmt)(f:Addr)(fd:FuncData):Prop where
 ex:∃(oc:Value)(od:Option Addr)(kV doc pm:Value)(an:Option Addr)(cdv ct:Value)(osl:Array (Option Value)),
  fd=PySem.W.fnOf x qual (j6 st) (aG st) (ao st) .none kV doc pm an cdv ct/\K.lookup f=some ⟨oc,od,.func fd,osl⟩/\PySem.W.codeIn K cdv qual=true
 kp:PySem.W.keepIn K (.ref f)=true
section
variable {P:Program} {w:World} {K:PF} {mg:Str->Option Value} {base:Heap}
theorem Fun.binds{x qual:Str}{st:Stmt}{f:Addr}{fd:FuncData}{ps:List Str}(F:Fun K x qual st f fd)
  (h:∀(kV doc pm:Value)(an:Option Addr)(cdv ct:Value)(us:List Value),us.length=ps.length->bindArgs (PySem.W.fnOf x qual (j6 st) (aG st) (ao st) .none kV doc pm an cdv ct) ⟨us,[]⟩=pure (ps.zip us)):Binds K fd ps []:=by
 obtain ⟨oc,od,kV,doc,pm,an,cdv,ct,osl,rfl,lk,hcd⟩:=F.ex;exact .all (h kV doc pm an cdv ct)
theorem Rj{x qual:Str}{st:Stmt}{f:Addr}{oc:Value}{od an:Option Addr}{osl:Array (Option Value)}{kV doc pm cdv ct:Value}(l:K.lookup f=some ⟨oc,od,.func (PySem.W.fnOf x qual (j6 st) (aG st) (ao st) .none kV doc pm an cdv ct),osl⟩)
  (c:PySem.W.codeIn K cdv qual=true) (k:PySem.W.keepIn K (.ref f)=true):Fun K x qual st f (PySem.W.fnOf x qual (j6 st) (aG st) (ao st) .none kV doc pm an cdv ct):=⟨⟨oc,od,kV,doc,pm,an,cdv,ct,osl,rfl,l,c⟩,k⟩
end
theorem Rk{A:Around}{k:Nat}(hr:Room k A):A.units+1 < cLine:=Nat.lt_of_le_of_lt (Nat.add_le_add_left (by decide:1<=64) _) hr.units
section
variable {X:Cx}
theorem pv (i:Nat) {x:Str} {pos:Pos} (hN:X.N[i]?=some x:=by rfl) (hv:Vis X.env.scope x:=by first |exact Or.inl rfl |exact Or.inr (Or.inl rfl) |exact Or.inr (Or.inr rfl)) (hd:(x==("__debug__":Str))=false:=by decide)
  (hcd:(x==("__classdict__":Str))=false:=by decide):PE X (.Name x pos) (zQ i):=zR hN hv hd hcd
end
theorem Rm{A B:Prop}(h:B):if false=true then A else B:=by rw[if_neg bd];exact h
theorem Rn{A B:Prop}(h:A):if true=true then A else B:=by rw[if_pos rfl];exact h
end L2
set_option maxHeartbeats 4000000
namespace L2
open PySem PySem.Spec PyProof.Rows
section
variable {X:Cx} {pins:List (Addr×Obj)} {σ:St} {H:Hp} {s:Shared} {h':Heap}
theorem Inv.turnedL{t':Nat}{ch:List Addr}(I:Inv X pins σ H s)(hf:∀b∈ch,dD X pins H b)(k:∀b o,b∉ch->s.heap.get? b=some o->h'.get? b=some o):
  Inv X pins σ H { s with heap:=h',toks:=t' }:=by
 have nit:∀b u,H b=some u->b∉ch:=λb u e z=>by
  have q:=(hf b z).1;rw[q]at e;cases e
 refine I.step (g':=s.gens) (d':=s.drawn) (ch:=ch) (λb hb=>?_) (λb o _ _ hc e _=>k b o hc e) (λb o _ _ hc e _=>⟨o.slots,k b o hc e⟩) (λ_ _ _ _ n=>n)
  (λb o hc e=>⟨o,k b o hc e⟩) (λ_ _ e=>e) (λ_ _ _ e=>e) (λb ps e=>⟨#[],by rw[e];simp⟩) (λm hm=>?_) (λb u e=>?_) I.bare
 ·obtain ⟨_,f1,_,f3,f4,f5⟩:=hf b hb;exact ⟨f3,f1,f4,f5⟩
 ·obtain ⟨o,es,ep,ho,r⟩:=hm;exact ⟨o,es,ep,k _ o (λz=>(hf _ z).2.1 rfl) ho,r⟩
 ·refine (I.hok b u e).stay (λc v hc q=>k c v ?_ q) (λ_ q=>q) λ_ _ q=>q;rcases hc with z |z
  ·rw[z];exact nit b u e
  ·exact nit c _ z
theorem Inv.track{T:Addr}{o:HO}(I:Inv X pins σ H s)(hT:dD X pins H T)(new:ObjOk X.prog X.w (upd H T o) s.heap T o):Inv X pins σ (upd H T o) s:=by
 have hn:=hT.1;have hok:HOk X.prog X.w (upd H T o) s.heap:=λb u e=>by
  by_cases hb:b=T
  ·subst hb;rw[bD]at e;cases e;exact new
  ·rw[aH hb]at e;exact (I.hok b u e).stay (λc v _ q=>q) (λc q=>by rw[aH (aU q hn)];exact q) λc xs q=>by rw[aH (aU q hn)];exact q
 obtain ⟨hp,g,d,tk,os⟩:=s;refine I.step (h':=hp) (g':=g) (d':=d) (t':=tk) (ch:=[T]) (λb hb=>?_) (λb o _ _ _ e _=>e) (λb o _ _ _ e _=>⟨o.slots,e⟩) (λb u hc _ n=>?_)
  (λb o _ e=>⟨o,e⟩) (λb xs e=>by rw[aH (aU e hn)];exact e) (λb u v e=>by rw[aH (aU e hn)];exact e) (λb ps e=>⟨#[],by rw[aH (aU e hn),e];simp⟩) (λm hm=>hm) hok I.bare
 ·have e:b=T:=by simpa using hb
  subst e;obtain ⟨_,f1,_,f3,f4,f5⟩:=hT;exact ⟨f3,f1,f4,f5⟩
 ·rw[aH (by simpa using hc)];exact n
end
theorem Ro{J:It}{n:Nat}{g:TG}{tb:TS}{D:Ends}{Y:St}{H:Hp}(Pv:Nat->St->Hp->Prop)(h0:Pv 0 Y H)
  (go:∀i Y H,i < n->Pv i Y H->J.go i H) (stop:∀Y H,Pv n Y H->J.stop n H)
  (hs:∀i Y H x H',i < n->Pv i Y H->J.yld i H x H'->g x Y H' λσ2 H2=>tb { D with nx:=Pv (i+1),ct:=Pv (i+1),bk:=D.nx } σ2 H2) (hd:∀Y H,Pv n Y H->D.nx Y H):
  ∃W:Nat->Nat->St->Hp->Prop,(∃m,W 0 m Y H)/\∀i m Y H,W i m Y H->
   (J.stop i H/\D.nx Y H)\/(J.go i H/\∃N:St->Hp->Prop,(∀σ' H',N σ' H'->∃m',m' < m/\W (i+1) m' σ' H')/\∀x H',J.yld i H x H'->g x Y H' λσ2 H2=>tb { D with nx:=N,ct:=N,bk:=D.nx } σ2 H2):=by
 refine ⟨λi m Y H=>m=n - i/\i<=n/\Pv i Y H,⟨n,by simp,eS _,h0⟩,?_⟩;rintro i m Y H ⟨rfl,hi,p⟩;by_cases hlt:i < n
 ·exact .inr ⟨go i Y H hlt p,Pv (i+1),λσ' H' p'=>⟨n - (i+1),by omega,rfl,hlt,p'⟩,λx H' y=>hs i Y H x H' hlt p y⟩
 ·have e:i=n:=by omega
  subst e;exact .inl ⟨stop Y H p,hd Y H p⟩
def Its(x:Str):It:=⟨λi _=>i < x.cps.size,λi H v H'=>H'=H/\∃c,x.cps[i]?=some c/\v=.str ⟨#[c]⟩,λi _=>i=x.cps.size⟩
theorem Bp{prog:Program}{w:World}{A:Around}(hh:A.handled=none)(I:Addr)(x:Str)(t:Tok):
  Walks prog w A I [I] [I] x.cps.size (SignAt x) (λi h=>h.IsStrIter I (strIterType x) x t i):=by
 unfold strIterType;split
 ·exact Walks.strAscii hh I x t
 ·exact Walks.strWide hh I x t
theorem uI{P:Program}{w:World}{K:PF}{tg:Expr}(it:Addr)(x:Str)(t:Tok):Turn P w K tg (Its x) [it] it (λi h=>h.IsStrIter it (strIterType x) x t i) where
 mem:=by simp
 obj:=λi h st b hb=>by
  have e:b=it:=by simpa using hb
  subst e;obtain ⟨o,e,c,d⟩:=st;exact ⟨o,e,λv z=>by rw[d]at z;cases z⟩
 keep:=λi h h' st k=>let ⟨o,ho,r⟩:=st;⟨o,k it (by simp) o ho,r⟩
 item:=by intro X hP hw hK hc i pins s Y H E I hf st hg;subst hP hw hK;obtain ⟨f0,f1,f2,f3,f4,f5⟩:=hf it (by simp);have W:=Bp (prog:=X.prog) (w:=X.w) (I.ok.hd hc) it x t;refine W.item i s _ _ hg st λv h' tk hv st' kk=>?_;obtain ⟨c,u,e,rfl⟩:=hv;have I1:Inv X pins Y H { s with heap:=h',toks:=tk }:=I.turned (λb o hb e=>kk b o (by simpa using hb) e) f0 f1 f3 f4 f5;obtain ⟨o,eo,cc,d⟩:=id st';exact ⟨_,rfl,j0 (s:={ s with heap:=h',toks:=tk }) (n:=strIterType x) eo cc d (by unfold strIterType;split <;> decide) ⟨.str ⟨#[c]⟩,H,I1,⟨u,rfl⟩,⟨rfl,c,e,rfl⟩,st',λb hb=>(hf b hb).1⟩⟩
 done:=by intro X hP hw hK hc i pins s Y H E I hf st hg;subst hP hw hK;obtain ⟨f0,f1,f2,f3,f4,f5⟩:=hf it (by simp);have W:=Bp (prog:=X.prog) (w:=X.w) (I.ok.hd hc) it x t;have hg':i=x.cps.size:=hg;subst hg';exact W.done s _ _ st λh' tk kk=>⟨rfl,I.turned (λb o hb e=>kk b o (by simpa using hb) e) f0 f1 f3 f4 f5⟩
 self:=λA i s Q E st h=>by
  unfold strIterType at st;split at st
  ·exact wpAny_pyIter_striter_ascii st h
  ·exact wpAny_pyIter_striter_wide st h
def bV(env:Env):List (Str×NameKind)->List (Str×Addr)->List (Str×Addr)
 |[],cs=>cs
 | (n,k)::r,cs=>bV env r (if (k==.free)=true then (match env.cells.lookup n with |some c=>(n,c)::cs |none=>cs) else cs)
theorem uJ{env:Env}:∀{l:List (Str×NameKind)}{cs:List (Str×Addr)},(∀x c,cs.lookup x=some c->env.cells.lookup x=some c)->∀x c,(bV env l cs).lookup x=some c->env.cells.lookup x=some c
 |[],_,h,x,c,e=>h x c e
 | (n,k)::r,cs,h,x,c,e=>by
  refine uJ (l:=r) (cs:=_) ?_ x c e;intro y d q;by_cases hk:(k==NameKind.free)=true
  ·rw[if_pos hk]at q;cases hn:env.cells.lookup n with
   |none=>rw[hn]at q;exact h y d q
   |some c'=>
    rw[hn]at q;simp only[List.lookup_cons]at q;cases hy:y==n with
    |true=>
     rw[hy]at q;have e1:y=n:=eq_of_beq hy;rw[e1,hn];exact q
    |false=>rw[hy]at q;exact h y d q
  ·rw[if_neg hk]at q;exact h y d q
theorem Bq{env:Env}{x:Str}:∀{l:List (Str×NameKind)}{cs:List (Str×Addr)},(cs.lookup x).isSome=true->((bV env l cs).lookup x).isSome=true
 |[],_,h=>h
 | (n,k)::r,cs,h=>by
  refine Bq (l:=r) (cs:=_) ?_;by_cases hk:(k==NameKind.free)=true
  ·rw[if_pos hk];cases hn:env.cells.lookup n with
   |none=>exact h
   |some c'=>
    simp only[List.lookup_cons];cases hy:x==n with
    |true=>rfl
    |false=>exact h
  ·rw[if_neg hk];exact h
theorem uK{env:Env}{x:Str}(hx:(env.cells.lookup x).isSome=true):∀{l:List (Str×NameKind)}{cs:List (Str×Addr)},(x,NameKind.free)∈l->((bV env l cs).lookup x).isSome=true
 | (n,k)::r,cs,h=>by
  rcases bP.mp h with e |h
  ·cases e;refine Bq (l:=r) (cs:=_) ?_;rw[if_pos (show (NameKind.free==NameKind.free)=true by decide)];obtain ⟨c,hc⟩:=bB.mp hx;rw[hc];simp
  ·exact uK hx (l:=r) h
theorem uL{scope:Scope}{env:Env}(h:∀y∈scope.names,y.2=NameKind.free->(env.cells.lookup y.1).isSome=true):closureFor scope env=pure (bV env scope.names []):=by
 simp only[closureFor];generalize ([]:List (Str×Addr))=cs;generalize scope.names=l at h;induction l generalizing cs with
 |nil=>rfl
 |cons y r ih=>
  obtain ⟨n,k⟩:=y;have ih':=λcs=>ih cs λy hy=>h y (bm _ hy);rw[List.forIn_cons];by_cases hk:(k==NameKind.free)=true
  ·have hk':k=NameKind.free:=eq_of_beq hk;obtain ⟨c,hc⟩:=bB.mp (h (n,k) bq hk');have e1:bV env ((n,k)::r) cs=bV env r ((n,c)::cs):=by
    rw[bV,if_pos hk];show bV env r (match env.cells.lookup n with |some c=>(n,c)::cs |none=>cs)=_;have hc':env.cells.lookup n=some c:=hc;rw[hc']
   have e2:cellOf env n=pure c:=by unfold cellOf;have hc':env.cells.lookup n=some c:=hc;rw[hc']
   rw[e1,<-ih' ((n,c)::cs)];simp only[hk,if_true,e2];rfl
  ·have e1:bV env ((n,k)::r) cs=bV env r cs:=by rw[bV,if_neg hk]
   rw[e1,<-ih' cs];simp only[hk,if_false];rfl
theorem pZ{env:Env}{x:Str}:∀{names:List (Str×NameKind)},
  (names.map λ(n,k)=>if (k==NameKind.free&&env.scope.kind==.function&&env.kindOf n==some .cell) then (n,NameKind.cell) else (n,k)).lookup x=
   (names.lookup x).map λk=>if (k==NameKind.free&&env.scope.kind==.function&&env.kindOf x==some .cell)=true then NameKind.cell else k
 |[]=>rfl
 | (n,k)::r=>by
  have ih:=@pZ env x r;rw[bi];have hh:∀(c:Prop)[Decidable c],(if c then (n,NameKind.cell) else (n,k))=(n,if c then NameKind.cell else k):=λc _=>by split <;> rfl
  show List.lookup x ((if (k==NameKind.free&&env.scope.kind==.function&&env.kindOf n==some .cell)=true then (n,NameKind.cell) else (n,k))::_)=_;rw[hh];simp only[List.lookup_cons];cases hx:x==n with
  |true=>
   have e1:x=n:=eq_of_beq hx;subst e1;rfl
  |false=>exact ih
abbrev Cx.comp(X:Cx)(N':List Str)(scope:Scope)(cl:List (Str×Addr))(C:Addr)(s₁:Shared)(H₁:Hp)(fp:List Addr)(pn:List (Addr×Obj)):Cx where
 prog:=X.prog
 w:=X.w
 K:=X.K
 mg:=X.mg
 base:=X.base
 A:=X.A
 N:=N'
 s₀:=s₁
 H₀:=H₁
 env:=compEnvC scope cl C X.env
 outer:=X.stack
 stack:=X.stack
 ex:=fp
 fn:=λ_=>false
 calm:=X.calm
 pn:=pn
 xe:=λ_ _=>False
def PIf(X:Cx)(ifs:List Expr)(t:TT):Prop:=
 ∀(pins:List (Addr×Obj))(s:Shared)(Y:St)(H:Hp)(Q:Bool->Hp->Prop),Inv X pins Y H s->t Y H Q->
  ↥X (forIn ifs true λc r=>if r=true then do let ok <-isTrue c X.env (eval c X.env);pure (ForInStep.yield ok) else pure (ForInStep.yield r)) (TP X pins Y Q) X.xe s
def Rp:TT:=λ_ H Q=>Q true H
theorem Rq{X:Cx}:PIf X [] Rp:=λ_ _ _ H _ I h=>wpAny_tests_nil ⟨H,I,h⟩
theorem Br{X:Cx}{c:Expr}{t:TT}(h:PT X c t):PIf X [c] t:=λpins s Y H Q I q=>wpAny_tests_one (h pins s Y H Q I q)
def cO(cap:List (Option Nat))(Y:St):St:=cap.map λo=>match o with |none=>none |some j=>(Y[j]?).join
def Caps(X:Cx)(scope:Scope):List Str->List (Option Nat)->Prop
 |[],[]=>True
 |_::N',none::cap=>Caps X scope N' cap
 |x::N',some j::cap=>(X.N[j]?=some x/\scope.names.lookup x=some NameKind.free)/\Caps X scope N' cap
 |_,_=>False
theorem Caps.len{X:Cx}{scope:Scope}:∀{N':List Str}{cap:List (Option Nat)},Caps X scope N' cap->cap.length=N'.length
 |[],[],_=>rfl
 |_::N',none::cap,h=>by
  have:=Caps.len (N':=N') (cap:=cap) h;simp[this]
 |_::N',some _::cap,h=>by
  have:=Caps.len (N':=N') (cap:=cap) h.2;simp[this]
 |[],_::_,h=>False.elim h
 |_::_,[],h=>False.elim h
theorem Caps.at{X:Cx}{scope:Scope}:∀{N':List Str}{cap:List (Option Nat)}{i:Nat}{x:Str}{v:V}{Y:St},Caps X scope N' cap->N'[i]?=some x->(cO cap Y)[i]?=some (some v)->
  ∃j:Nat,X.N[j]?=some x/\scope.names.lookup x=some NameKind.free/\Y[j]?=some (some v)
 |[],[],i,x,v,Y,_,e,_=>by simp at e
 |y::N',none::cap,0,x,v,Y,h,e,q=>by simp[cO]at q
 |y::N',some j::cap,0,x,v,Y,h,e,q=>by
  have e1:y=x:=by simpa using e
  subst e1;have q1:(Y[j]?).join=some v:=by simpa [cO] using q
  refine ⟨j,h.1.1,h.1.2,?_⟩;cases z:Y[j]? with
  |none=>rw[z]at q1;cases q1
  |some o=>rw[z]at q1;exact eg some q1
 |y::N',none::cap,i+1,x,v,Y,h,e,q=>Caps.at (N':=N') (cap:=cap) (i:=i) h (by simpa using e) (by simpa [cO] using q)
 |y::N',some _::cap,i+1,x,v,Y,h,e,q=>Caps.at (N':=N') (cap:=cap) (i:=i) h.2 (by simpa using e) (by simpa [cO] using q)
 |[],_::_,_,_,_,_,h,_,_=>False.elim h
 |_::_,[],_,_,_,_,h,_,_=>False.elim h
def Rt(X:Cx)(N':List Str)(scope:Scope)(tg:Expr)(ifs:List Expr)(elt:Expr)(J:It)(σ0:St)(H1:Hp)(Q:VK):Prop:=
 ∃W:Nat->Nat->List V->St->Hp->Prop,(∃m,W 0 m [] σ0 H1)/\∀i m ys σ' H',W i m ys σ' H'->
  (J.stop i H'/\ys.length<=sizeLine/\∀D,H' D=none->Q (.ref D) (upd H' D (.lst ys)))\/
  (J.go i H'/\ys.length < sizeLine/\∀cl C s₁ H₁ fp pn,∃g tt te,PG (X.comp N' scope cl C s₁ H₁ fp pn) tg g/\PIf (X.comp N' scope cl C s₁ H₁ fp pn) ifs tt/\PE (X.comp N' scope cl C s₁ H₁ fp pn) elt te/\
   ∀x H2,J.yld i H' x H2->g x σ' H2 λσ3 H3=>tt σ3 H3 λb H4=>if b=true then te σ3 H4 λy H5=>∃m',m' < m/\W (i+1) m' (ys++[y]) σ3 H5 else ∃m',m' < m/\W (i+1) m' ys σ3 H4)
def Bt(X:Cx)(N':List Str)(scope:Scope)(tg:Expr)(ifs:List Expr)(elt:Expr)(wi:TI)(cap:List (Option Nat)):TE:=λY H Q=>wi Y H λJ H1=>Rt X N' scope tg ifs elt J (cO cap Y) H1 Q
section
variable {prog:Program} {w:World} {A:Around} {R:Result->Shared->Prop} {s:Shared}
theorem Ru{elt target iter:Expr}{ifs:List Expr}{scope:Scope}{pos:Pos}{it acc:Value}{env:Env}(I:Nat->Shared->Prop)
  (turn:∀n s,I n s->wpAny (model prog w) A (pyNext it) (λr s₁=>match r with
   |none=>R (.ok .next) s₁
   |some v=>wpAny (model prog w) A (letOwnedTupleGo target it v) (λ_ s₁'=>wpAny (model prog w) A (assign target env v) (λ_ s₂=>
     wpAny (model prog w) A (forIn ifs true λc r=>if r=true then do let ok <-isTrue c env (eval c env);pure (ForInStep.yield ok) else pure (ForInStep.yield r)) (λok s₃=>
      if ok=true then wpAny (model prog w) A (eval elt env) (λx s₄=>
       wpAny (model prog w) A (call (.builtin "list.append") [acc,x]) (λ_ s₅=>∃m,m < n/\I m s₅) (λ_ _=>False) s₄) (λ_ _=>False) s₃
      else ∃m,m < n/\I m s₃) (λ_ _=>False) s₂) (λ_ _=>False) s₁') (λ_ _=>False) s₁) (λ_ _=>False) s)
  (n:Nat) (h:I n s):codeAny (model prog w) A (.compLoop (.ListComp elt [⟨target,iter,ifs,0⟩] scope pos) 0 it acc env) R s:=by
 refine codeAny_loop rfl I (λn s hI=>?_) n h;show wpAny _ A ((compTurn (.ListComp elt [⟨target,iter,ifs,0⟩] scope pos) 0 it acc env).onRaise (λx=>do noteFrame x env;theTreesLotGoes x)) _ _ s;refine wpAny_noted ?_;rw[compTurn_list];refine ab (wpAny_standAt (ab (ca (turn n s hI) (λr s₁ h₁=>?_) λ_ _ h'=>False.elim h')));cases r with
 |none=>exact av h₁
 |some v=>
  refine ab (ca h₁ (λ_ s₁' h₁'=>?_) λ_ _ h'=>False.elim h');refine ab (ca h₁' (λ_ s₂ h₂=>ab (ca h₂ (λok s₃ h₃=>?_) λ_ _ h'=>False.elim h')) λ_ _ h'=>False.elim h');cases ok with
  |false=>exact av ⟨rfl,h₃⟩
  |true=>
   exact ab (ab (ca h₃ (λx s₄ h₄=>ab (ca h₄ (λ_ s₅ h₅=>av (av ⟨rfl,h₅⟩)) λ_ _ h'=>False.elim h')) λ_ _ h'=>False.elim h'))
end
abbrev tx(l:List Nat):Str:=⟨l.toArray⟩
theorem bW(l:List Nat):(tx l).length=l.length:=by simp[Str.length]
theorem p6(a b:List Nat):tx a++tx b=tx (a++b):=by show (⟨a.toArray++b.toArray⟩:Str)=⟨(a++b).toArray⟩;simp
theorem iw{a b:List Nat}(h:tx a=tx b):a=b:=by have:=eg (λx:Str=>x.cps.toList) h;simpa using this
theorem uM(x:Str):x=tx x.cps.toList:=by cases x;simp
section
variable {X:Cx}
theorem Bu:∀{ys:List Str}{us:List Value},Vals (ys.map V.str) us->StrsAre us ys
 |[],us,r=>by
  rw[fi]at r;cases r;exact .nil
 |y::ys,us,r=>by
  rw[bi]at r;cases r with
  |cons r1 r2=>
   obtain ⟨t,e⟩:=r1;subst e;exact .cons y t (Bu r2)
def rJoin(K:PF):V->List V->Hp->VK->Prop:=λx vs H Q=>∃z p ys,x=.str z/\vs=[.ref p]/\SqL K H p (ys.map V.str)/\(ys.map (·.length)).sum+ys.length * z.length<=16777216/\Q (.str (Str.join z ys)) H
theorem Rv:MtR X "str.join" (rJoin X.K):=by intro pins s Y H x xs v us Q I rx rs h;obtain ⟨z,p,ys,rfl,rfl,hq,hb,q⟩:=h;obtain ⟨t,rfl⟩:=rx;obtain ⟨u,rfl,ru⟩:=vals1 rs;cases ru;obtain ⟨its,rv,pl,hz⟩:=I.list hq;refine join_list pl.isList (by simpa using Bu rv) hb λt' k=>⟨.str _,H,I.tok _,⟨_,rfl⟩,?_⟩;have e:Txt.join z ys=Str.join z ys:=StrLaws.glued_eq_join z ys;rw[e];exact q
def Rw(K:PF):List V->Hp->VK->Prop:=λxs H Q=>∃x n t b,xs=[x,.ty n]/\TyOf K H x t/\PySem.W.kitOne K t (.type n)=some b/\Q (.bl b) H
theorem Rx:bH X (.builtin "isinstance") (Rw X.K):=by intro pins s Y H xs us Q I r h;obtain ⟨x,n,t,b,rfl,ty,e,q⟩:=h;obtain ⟨u,w',rfl,rx,ry⟩:=vals2 r;cases ry;exact Qo I rx ty e λtk=>⟨.bl b,H,I.tok _,rfl,q⟩
theorem Ry:bootBuiltins "bool"=some (.type "bool"):=by ac_rfl
theorem Bv:bootBuiltins "int"=some (.type "int"):=by ac_rfl
theorem Bw:bootBuiltins "str"=some (.type "str"):=by ac_rfl
theorem Bx:bootBuiltins "list"=some (.type "list"):=by ac_rfl
theorem Rz:bootBuiltins "isinstance"=some (.builtin "isinstance"):=by ac_rfl
theorem RB {x:Str} {T:String} {pos:Pos} (hg:Gl X x) (hm:X.mg x=none) (hv:bootBuiltins x=some (.type T)) (hn:x≠"__name__":=by decide) (hd:(x==("__debug__":Str))=false:=by decide):PE X (.Name x pos) (tC (.ty T)):=
 N5 hg hm hv (v:=.ty T) rfl hn hd
theorem RC:OpR X (binaryOp .Mult) (λx y H Q=>∃i n,x=.str i/\y=.int n/\MulOk i n/\Q (.str (Txt.mul i n)) H):=by intro pins s Y H x y v u Q I rx ry h;obtain ⟨i,n,rfl,rfl,hok,q⟩:=h;obtain ⟨t,rfl⟩:=rx;obtain ⟨t',rfl⟩:=ry;exact SB.mul hok λt' k=>⟨.str _,H,I.tok _,⟨_,rfl⟩,q⟩
end
def uN(X:Cx)(st:List Stmt)(t:TS):Prop:=
 ∀(pins:List (Addr×Obj))(s:Shared)(Y:St)(H:Hp)(D:Ends),1<=s.toks->Inv X pins Y H s->t D Y H->↥X (execs st X.env) (SP X pins D) X.xe s
def PE1(X:Cx)(e:Expr)(t:TE):Prop:=
 ∀(pins:List (Addr×Obj))(s:Shared)(Y:St)(H:Hp)(Q:VK),1<=s.toks->Inv X pins Y H s->t Y H Q->↥X (eval e X.env) (EP X pins Y Q) X.xe s
theorem RD{X:Cx}{e:Expr}{te:TE}{pos:Pos}(he:PE1 X e te):uN X [.Return (some e) pos] (zX te):=by intro pins s Y H D h1 I h;refine wpAny_execs_cons (wpAny_Return_some (thn (he pins s Y H _ h1 I h) λv s1 ⟨x,H1,I1,r1,q1⟩=>?_));exact ⟨x,Y,H1,I1,r1,q1⟩
theorem uO{c d:Nat}:∀l:List Nat,c∉l->l.map (λa=>if a=c then d else a)=l
 |[],_=>rfl
 |a::r,h=>by
  have h1:a≠c:=λe=>h (by rw[e];exact bq);rw[bi,if_neg h1,uO r λz=>h (bm _ z)]
theorem By(c d:Nat):∀parts:List Str,(∀p∈parts,c∉p.cps.toList)->(Str.join ⟨#[c]⟩ parts).cps.toList.map (λa=>if a=c then d else a)=(Str.join ⟨#[d]⟩ parts).cps.toList
 |[],_=>rfl
 |[x],h=>by
  simp only[Str.join];exact uO _ (h x bq)
 |x::y::r,h=>by
  have ih:=By c d (y::r) λp hp=>h p (bm _ hp);have e:∀z:Str,Str.join z (x::y::r)=x++z++Str.join z (y::r):=λz=>by simp only[Str.join]
  have ap:∀u v:Str,(u++v).cps.toList=u.cps.toList++v.cps.toList:=λu v=>by
   show (u.cps++v.cps).toList=_;simp
  rw[e,e,ap,ap,ap,ap,b4,b4,ih,uO _ (h x bq)];simp
theorem RG(l:List Nat)(c d:Nat):Txt.replace (tx l) (tx [c]) (tx [d])=tx (l.map λa=>if a=c then d else a):=by
 have e:(Txt.replace (tx l) ⟨#[c]⟩ ⟨#[d]⟩).cps.toList=l.map λa=>if a=c then d else a:=by rw[StrLaws.replace_one,<-By c d _ (StrLaws.split_free (tx l) c),StrLaws.join_split]
 rw[uM (Txt.replace (tx l) (tx [c]) (tx [d]))];exact eg tx e
section
variable {X:Cx}
theorem RJ{o:Expr}{to:TE}{y z:Str}{ky kz:Nat}{py pz apos cpos:Pos}(ho:PE X o to)(hyz:(y==z)=false)
  (hbase:attributeBase o "replace" X.env (eval o X.env)=eval o X.env:=by rfl)
  (hfew:((backTo cpos (starEach [.Constant (.str y) ky py,.Constant (.str z) kz pz] X.env)).all (λx=>!x.1)&&(backToKw cpos (keywordEach [] X.env)).all (λx=>x.1.isSome)
  &&decide (([.Constant (.str y) ky py,.Constant (.str z) kz pz]:List Expr).length+([]:List Keyword).length+(if ([]:List Keyword).isEmpty then 0 else 1) < 30))=true:=by rfl)
  (hline:(apos.endLine==cpos.line)=true:=by rfl):
  PE1 X (.Call (.Attribute o "replace" apos) [.Constant (.str y) ky py,.Constant (.str z) kz pz] [] cpos)
   (λY H Q=>to Y H λv H1=>∃x,v=.str x/\x.length+(x.length+1) * z.length<=16777216/\Q (.str (Txt.replace x y z)) H1):=by
 intro pins s Y H Q h1 I h;refine wpAny_Call_method_late hbase hfew hline rfl (ca (wpAny_toks_of (n:=1) h1 (ho pins s Y H _ I h)) (λv s1 h2=>?_) (λ_ _ e=>e.2));obtain ⟨t1,v',H1,I1,r1,x,e,hb,q⟩:=h2;subst e;obtain ⟨t,rfl⟩:=r1;refine ⟨"str","str.replace",F.plainAttrs_str,F.slot_str_replace,F.type_str_replace,typeIs_str _ _ _,(λ_ e=>nomatch e),?_⟩;refine Calls.callWith_builtin (by rfl) (Calls.evalArgs_plain ?_);show wpAny _ _ (spliced [(false,eval (.Constant (.str y) ky py) X.env),(false,eval (.Constant (.str z) kz pz) X.env)]) _ _ s1;refine Calls.spliced_cons (Calls.Constant_str (Calls.spliced_cons (Calls.Constant_str (Calls.spliced_nil ?_))));exact SC.replace (by show @Ne Nat s1.toks 0;omega) (by show @Ne Nat (s1.toks+1) 0;omega) (by show @Ne Nat s1.toks (s1.toks+1);omega) hyz hb λt' k=>⟨.str _,H1,I1.tok _,⟨_,rfl⟩,q⟩
end
theorem RK{CX:CXT}{P:Program}{w:World}{K:PF}{mg:Str->Option Value}{base:Heap}{k:Nat}{f:Addr}{name qual:Str}{params:Arguments}{body:List Stmt}{scope:Scope}{dV kV doc pm cdv ct oc:Value}{an od:Option Addr}
  {osl:Array (Option Value)} {N:List Str} {x:Str} {sp:Sp} (lk:K.lookup f=some ⟨oc,od,.func (PySem.W.fnOf name qual params body scope dV kV doc pm an cdv ct),osl⟩) (hcd:PySem.W.codeIn K cdv qual=true) (S:FnScope N [x] scope)
  (hx:scope.names.lookup x=some .local) (hnc:∀y∈scope.names,y.2≠NameKind.cell) (hcf:∀n,cellsFrom n scope.names []=[])
  (len:∀vs H Q E,sp vs H Q E->vs.length=[x].length)
  (hbody:∀(A:Around)(outer:List Env)(s:Shared)(H:Hp)(vs:List V)(Q:VK)(E:XK),Room k (A.deeper (envOfC qual scope (~~~s) f cdv))->sp vs H Q E->
   ∃t,uN (di CX P w K mg base N qual scope f cdv A outer s H E) body t/\t { nx:=λ_ H'=>Q .non H',rt:=Q } (start N vs) H):
  FnOk P w K mg base CX (k+1) f (PySem.W.fnOf name qual params body scope dV kV doc pm an cdv ct) [x] sp:=by
 refine ⟨len,λA outer s H args us vs Q E hr e0 hb r hsp=>?_⟩;have hl:=len _ _ _ _ hsp;have KX:K.In s.heap:=e0.mod.kin.keeps λb o e=>(e0.bs b o e).1;have lim:s.heap.NoLimit:=e0.mod.nolimit.keeps λb o e=>(e0.bs b o e).1;obtain ⟨u,rfl⟩:∃u,us=[u]:=by
  have h2:=r.length;rw[hl]at h2;match us,h2 with
  |[u],_=>exact ⟨u,rfl⟩
 refine codeAny_call_function hr.depth (KX _ _ lk) rfl S.co S.gen rfl (PySem.W.codeRec_of KX hcd) (hb _ _ _ _ ?_);refine wpAny_newFunctionEnv (binds:=[x].zip [u]) hnc (λy hy=>?_) (λh' hns hsb=>?_) S.kind
 ·have e:y=(x,u):=by simpa using hy
  rw[e];exact hx
 have envEq:newEnv scope (~~~s) mainGlobals [] (qual++Str.ofString ".<locals>.") (some f) cdv none builtinsNs=envOfC qual scope (~~~s) f cdv:=by unfold envOfC newEnv;rw[hcf]
 have kp:∀b o,s.heap.get? b=some o->h'.get? b=some o:=λb o e=>hsb.extBut b o (b5 (ay e)) (ah _ e);have mEq:bindL (envOfC qual scope (~~~s) f cdv).kindOf ([x].zip [u]) (λ_=>none)=λy=>(([x].zip [u]).reverse).lookup y:=by
  funext y;have hk:(envOfC qual scope (~~~s) f cdv).kindOf x=some .local:=hx;show bindL (envOfC qual scope (~~~s) f cdv).kindOf [(x,u)] (λ_=>none) y=List.lookup y [(x,u)];unfold bindL;rw[if_pos hk];unfold bindL;by_cases hy:y=x
  ·subst hy;simp
  ·have:(y==x)=false:=by simpa using hy
   simp[hy,List.lookup_cons,this]
 have xx:InCallC s (~~~s) (bindL (envOfC qual scope (~~~s) f cdv).kindOf ([x].zip [u]) λ_=>none) (cellsFrom ((~~~s)+1) scope.names []) (bindC (envOfC qual scope (~~~s) f cdv).kindOf ([x].zip [u]) λ_=>none)
   { s with heap:=h',toks:=s.toks+([x].zip [u]).length }:=by
  rw[mEq,hcf];exact ⟨⟨⟨h',_,rfl⟩,hns,kp,ax _⟩,(λn c e=>by simp at e),List.Pairwise.nil,(λn c e=>nomatch e)⟩
 show _/\codeAny (model P w) A (.func body (newEnv scope (~~~s) mainGlobals [] (qual++Str.ofString ".<locals>.") (some f) cdv none builtinsNs)) _ _;rw[envEq];refine ⟨lim.keeps kp,codeAny_func ?_⟩;obtain ⟨t,ht,hq⟩:=hbody A outer s H vs Q E (hr.deeper _) hsp;have I:Inv (di CX P w K mg base N qual scope f cdv A outer s H E) [] (start N vs) H { s with heap:=h',toks:=s.toks+([x].zip [u]).length }:=Ax S hr.hd e0 hl r xx;refine ca (ht [] _ (start N vs) H _ (Nat.le_add_left 1 s.toks) I hq) (λfl s' hs=>?_) λe s' hs=>hs;have fin:∀{σ':St}{H':Hp}{v:V}{u:Value},Inv (di CX P w K mg base N qual scope f cdv A outer s H E) [] σ' H' s'->RelV v u->Q v H'->CE outer P w H s Q u s':=
  λ{σ' H' v u} J rv q=>⟨v,H',J.os,J.bare,J.base,J.hok,rv,q⟩
 cases fl with
 |ret u=>
  obtain ⟨v,σ',H',J,rv,q⟩:=hs;exact fin J rv q
 |next=>
  obtain ⟨σ',H',J,q⟩:=hs;exact fin (v:=V.non) (u:=Value.none) J rfl q
 |brk=>
  obtain ⟨_,_,_,q⟩:=hs;exact False.elim q
 |cont=>
  obtain ⟨_,_,_,q⟩:=hs;exact False.elim q
theorem Fun.ok1{P:Program}{w:World}{K:PF}{mg:Str->Option Value}{base:Heap}{x qual:Str}{st:Stmt}{f:Addr}{fd:FuncData}{N:List Str}{y:Str}{k:Nat}{sp:Sp}(F:Fun K x qual st f fd)(S:FnScope N [y] (ao st))
  (hx:(ao st).names.lookup y=some .local) (hnc:∀z∈(ao st).names,z.2≠NameKind.cell) (hcf:∀n,cellsFrom n (ao st).names []=[]) (len:∀vs H Q E,sp vs H Q E->vs.length=[y].length)
  (hbody:∀(cdv:Value)(A:Around)(outer:List Env)(s:Shared)(H:Hp)(vs:List V)(Q:VK)(E:XK),Room k (A.deeper (envOfC qual (ao st) (~~~s) f cdv))->sp vs H Q E->
   ∃t,uN (di CX0 P w K mg base N qual (ao st) f cdv A outer s H E) (aG st) t/\t { nx:=λ_ H'=>Q .non H',rt:=Q } (start N vs) H):FnOk P w K mg base CX0 (k+1) f fd [y] sp:=by
 obtain ⟨oc,od,kV,doc,pm,an,cdv,ct,osl,rfl,lk,hcd⟩:=F.ex;exact RK lk hcd S hx hnc hcf len λA outer s H vs Q E hr hsp=>hbody cdv A outer s H vs Q E hr hsp
open Builtin Builtin.Str
theorem RL{prog:Program}{w:World}{A:Around}(hh:A.handled=none)(it:Addr)(x:Str)(t:Tok):
  Draws prog w A it [it] x.cps.size (λi v=>∃c u,x.cps[i]?=some c/\v=.str ⟨#[c]⟩ u) (λi h=>h.IsStrIter it (strIterType x) x t i):=by
 unfold strIterType;split
 ·exact Draws.strAscii hh it x t
 ·exact Draws.strWide hh it x t
structure ZApart(z TI TO i1 i2:Addr):Prop where
 TIz:TI≠z
 TOz:TO≠z
 i1z:i1≠z
 i2z:i2≠z
 TITO:TI≠TO
 TIi1:TI≠i1
 TIi2:TI≠i2
 TOi1:TO≠i1
 TOi2:TO≠i2
 i12:i1≠i2
section
variable {X:Cx}
theorem BJ:∀{bs:List Bool}{us:List Value}{i:Nat}{v:Value},Vals (bs.map V.bl) us->us[i]?=some v->∃b,bs[i]?=some b/\v=.bool b
 |[],us,i,v,r,e=>by
  rw[fi]at r;cases r;simp at e
 |b::bs,us,i,v,r,e=>by
  rw[bi]at r;cases r with
  |cons r1 r2=>
   cases i with
   |zero=>
    cases (show _=Value.bool b from r1);exact ⟨b,rfl,by simpa using e.symm⟩
   |succ i=>exact BJ (i:=i) r2 (by simpa using e)
theorem RM:bootBuiltins "all"=some (.builtin "all"):=by ac_rfl
theorem RN:bootBuiltins "zip"=some (.type "zip"):=by ac_rfl
theorem all_range(bs:List Bool)(n:Nat)(hn:n=bs.length):((List.range n).all λi=>(bs[i]?).getD true)=bs.all id:=by
 subst hn;rw[e8,bX,bX];constructor
 ·intro h b hb;obtain ⟨i,hi,e⟩:=List.mem_iff_getElem.mp hb;have:=h i (List.mem_range.mpr hi);rw[ai hi,e]at this;simpa using this
 ·intro h i hi;have hi':=List.mem_range.mp hi;rw[ai hi'];simpa using h _ (ce hi')
theorem RP (hc:X.calm=true):bH X (.builtin "all") (λxs H Q=>∃(p:Addr) (bs:List Bool),xs=[.ref p]/\SqL X.K H p (bs.map V.bl)/\Q (.bl (bs.all id)) H):=by
 intro pins s Y H xs us Q I r h;obtain ⟨p,bs,rfl,hq,q⟩:=h;obtain ⟨u,rfl,ru⟩:=vals1 r;cases ru;obtain ⟨its,rv,pl,hz⟩:=I.list hq;have hl:=pl.isList;have hlt:p < (~~~s):=by obtain ⟨_,e,_⟩:=hl;exact ay e
 refine call_all_walk (wpAny_pyIter_list hl ?_);refine ⟨(~~~s),[(~~~s),p],[(~~~s)],its.toArray.size,_,_,λi=>(bs[i]?).getD true,rfl,Walks.list (A:=X.A.in1) (I.ok.hd hc) _ p (b5 hlt) its.toArray,
  ⟨⟨_,a7 _ rfl,rfl,rfl⟩,hl.push _⟩,λi v s' Q' E' hP hQ=>?_,λh' tk hk=>?_⟩
 ·obtain ⟨b,e,rfl⟩:=BJ rv (i:=i) (v:=v) (by simpa using hP);simp only[e,Option.getD_some]at hQ;exact dv hQ
 ·have e:=all_range bs its.toArray.size (by rw[am,<-rv.length,af]);rw[e];exact ⟨.bl _,H,I.kept (λb o q=>hk b o (λhm=>by rw[aI.mp hm]at q;exact cr _ (ay q)) (ah _ q)),rfl,q⟩
theorem RQ:OpR X (compareOp .Is) (λx y H Q=>∃i j,x=.bl i/\y=.bl j/\Q (.bl (i==j)) H):=by intro pins s Y H x y v u Q I rx ry h;obtain ⟨i,j,rfl,rfl,q⟩:=h;cases rx;cases ry;exact is_bool ⟨.bl _,H,I,rfl,q⟩
theorem RT:bH X (.type "int") (λxs H Q=>∃z n,xs=[.str z]/\PySem.intText? z=some n/\z.length<=640/\Q (.int n) H):=by intro pins s Y H xs us Q I r h;obtain ⟨z,n,rfl,hn,hl,q⟩:=h;obtain ⟨u,rfl,t,rfl⟩:=vals1 r;exact PySem.W.KIN.call_text hn hl ⟨.int n,H,I.tok _,⟨_,rfl⟩,q⟩
def RV:V->Option Int->Option Int->Hp->VK->Prop:=λx lo hi H Q=>∃z,x=.str z/\z.length<=sizeLine/\Q (.str (Txt.slice z lo hi)) H
theorem RW:SlR X RV:=by
 intro pins s Y H x v vl vu lo hi sl Q I rx hs pl pu h;obtain ⟨z,rfl,hz,q⟩:=h;obtain ⟨t,rfl⟩:=rx;refine ⟨"str",_,slot_str_getitem.lookup,typeIs_str _ _ _,?_⟩;obtain ⟨l,el,e1⟩:∃l:Option (Int×Tok),vl=partValue l/\l.map (·.1)=lo:=by
  cases pl with
  |none=>exact ⟨none,rfl,rfl⟩
  |int i t=>exact ⟨some (i,t),rfl,rfl⟩
 obtain ⟨u,eu,e2⟩:∃u:Option (Int×Tok),vu=partValue u/\u.map (·.1)=hi:=by
  cases pu with
  |none=>exact ⟨none,rfl,rfl⟩
  |int i t=>exact ⟨some (i,t),rfl,rfl⟩
 subst el eu e1 e2;refine wpAny_getItem_str_slice (l:=l) (u:=u) (st:=none) hs rfl ?_;unfold sliceMade;unfold Txt.slice at q;show (if ((1:Int)==1&&(slicePicked z l u none).length==z.length)=true then Made.val (.str z t) else Made.str ⟨((slicePicked z l u none).filterMap (z.cps[·]?)).toArray⟩).post _ _;have ep:slicePicked z l u none=Builtin.Str.strSliceIndices (l.map (·.1)) (u.map (·.1)) 1 z.length:=rfl;rw[ep];by_cases hc:((1:Int)==1&&(Builtin.Str.strSliceIndices (l.map (·.1)) (u.map (·.1)) 1 z.length).length==z.length)=true
 ·rw[if_pos hc]at q ⊢;exact ⟨.str z,H,I,⟨t,rfl⟩,q⟩
 ·rw[if_neg hc]at q ⊢;refine ⟨?_,⟨.str _,H,I.tok _,⟨_,rfl⟩,q⟩⟩;show (List.filterMap _ _).toArray.size<=sizeLine;rw[am];have h1:=sliceIndices_le (l.map (·.1)) (u.map (·.1)) z.length;have h2:=List.length_filterMap_le (λx=>z.cps[x]?) (Builtin.Str.strSliceIndices (l.map (·.1)) (u.map (·.1)) 1 z.length);omega
end
theorem RX{X:Cx}{elt tg iter:Expr}{ifs:List Expr}{scope:Scope}{pos:Pos}{wi:TI}{pins:List (Addr×Obj)}{s:Shared}{Y:St}{H:Hp}{Q:VK}{RR:Value->Addr->Result->Shared->Prop}(N':List Str)(cap:List (Option Nat))(hc:X.calm=true)(hi:PI X tg iter wi)(hcap:Caps X scope N' cap)
  (hcell:scope.names.all (λy=>y.2 != NameKind.cell)=true)
  (hfr:scope.names.all (λy=>y.2 != NameKind.free||(X.env.kindOf y.1==some NameKind.cell||X.env.kindOf y.1==some NameKind.free))=true)
  (hkind:scope.kind=.function) (I:Inv X pins Y H s) (h:Bt X N' scope tg ifs elt wi cap Y H Q)
  (fin:∀(D C:Addr)(H':Hp)(s4:Shared)(m:Str->Option Value),Inv X pins Y H' s4->Q (.ref D) H'->s4.heap.Ns C m->dD X pins H' C->RR (.ref D) C (.ok .next) s4):
  ↥X (eval iter X.env) (λx s₁=>↥X (pyIter x) (λit s₂=>↥X (newList []) (λacc s₃=>
   ↥X (newFunctionEnv scope X.env.globals (bV X.env scope.names []) [] X.env.qual none .none (some X.env)) (λcenv s₄=>
    codeAny (model X.prog X.w) X.A (.compStart (.ListComp elt [⟨tg,iter,ifs,0⟩] scope pos) 0 it acc { cenv with scope:=relabel scope X.env }) (RR acc cenv.locals) s₄) X.xe s₃) X.xe s₂) X.xe s₁) X.xe s:=by
 have hcell':∀y∈scope.names,y.2≠NameKind.cell:=λy hy=>by
  have:=bX.mp hcell y hy;simpa using this
 have hfr':∀y∈scope.names,y.2=NameKind.free->(X.env.kindOf y.1=some NameKind.cell\/X.env.kindOf y.1=some NameKind.free):=λy hy hl=>by
  have:=bX.mp hfr y hy;simpa [hl] using this
 have hcs:∀y∈scope.names,y.2=NameKind.free->(X.env.cells.lookup y.1).isSome=true:=λy hy hl=>by
  obtain ⟨c,e⟩:=I.ok.has y.1 (hfr' y hy hl);rw[e];rfl
 have clsub:∀x c,(bV X.env scope.names []).lookup x=some c->X.env.cells.lookup x=some c:=uJ (λx c e=>by simp at e);have clhas:∀x,scope.names.lookup x=some NameKind.free->∃c,(bV X.env scope.names []).lookup x=some c:=λx e=>by
  have hm:=ck e;exact bB.mp (uK (hcs _ hm rfl) hm)
 have rel:∀x,(relabel scope X.env).names.lookup x=(scope.names.lookup x).map λk=>if (k==NameKind.free&&X.env.scope.kind==.function&&X.env.kindOf x==some .cell)=true then NameKind.cell else k:=λx=>pZ
 have relfree:∀x,((relabel scope X.env).names.lookup x=some NameKind.cell\/(relabel scope X.env).names.lookup x=some NameKind.free)->scope.names.lookup x=some NameKind.free:=λx e=>by
  rw[rel x]at e;cases z:scope.names.lookup x with
  |none=>rw[z]at e;rcases e with e |e <;> cases e
  |some k=>
   have nk:=hcell' _ (ck z);rw[z]at e;cases k with
   |free=>rfl
   |cell=>exact absurd rfl nk
   | «local»=>rcases e with e |e <;> simp[show (NameKind.«local»==NameKind.free)=false by decide]at e
   |globalExplicit=>rcases e with e |e <;> simp[show (NameKind.globalExplicit==NameKind.free)=false by decide]at e
   |globalImplicit=>rcases e with e |e <;> simp[show (NameKind.globalImplicit==NameKind.free)=false by decide]at e
 generalize hcl:bV X.env scope.names []=cl at clsub clhas;refine thn (hi pins s Y H _ I h) λxv s0 h0=>thn h0 λitv s2 h2=>?_;obtain ⟨it,fp,tn,J,H2,e,I2,T,st2,f2,W,⟨m0,w0⟩,turn⟩:=h2;subst e;refine ef (wpAny_newFunctionEnv hcell' (by intro y hy;simp at hy) (λh₁ hns₁ hsb₁=>?_) hkind);dsimp only at hns₁ hsb₁ ⊢;generalize hH2:s2.heap.push { cls:=.type "list",dict:=none,data:=.seq ([]:List Value).toArray }=HP at hns₁ hsb₁ ⊢;have hC:HP.objs.size=s2.heap.objs.size+1:=by rw[<-hH2,de]
 have hDC:s2.heap.objs.size≠HP.objs.size:=by rw[hC];exact b5 (Nat.lt_succ_self _)
 have below:∀b,b < s2.heap.objs.size->b≠HP.objs.size/\b≠s2.heap.objs.size:=λb hb=>⟨by rw[hC];exact b5 (Nat.lt_succ_of_lt hb),b5 hb⟩;have old:∀b o,s2.heap.get? b=some o->h₁.get? b=some o:=λb o e=>hsb₁.extBut b o (below b (ay e)).1 (ah _ (hH2 ▸ ah _ e));have hacc:h₁.get? s2.heap.objs.size=some { cls:=.type "list",data:=.seq ([]:List Value).toArray 0 }:=hsb₁.extBut _ _ hDC (ah _ (hH2 ▸ a7 _ rfl));have hst₁:tn 0 h₁:=T.keep _ _ _ st2 λb _ o e=>old b o e;have fplt:∀b∈fp,b < s2.heap.objs.size:=λb hb=>by
  obtain ⟨o,e,_⟩:=T.obj _ _ st2 b hb;exact ay e
 have fslt:∀b∈frs X.stack,b < s2.heap.objs.size:=λb hb=>by
  obtain ⟨_,o,e,_⟩:=I2.stack.mem hb;exact ay e
 have celllt:∀x c,cl.lookup x=some c->c < s2.heap.objs.size:=λx c e=>by
  obtain ⟨v,q⟩:=I2.cell x c (clsub x c e);exact q.lt
 have hDf:H2 s2.heap.objs.size=none:=I2.hok.fresh (ax _);have hCf:H2 HP.objs.size=none:=I2.hok.fresh (by rw[hC];exact dn _);have nofs:∀b∈fp,b∉frs X.stack:=λb hb z=>by
  obtain ⟨_,f1,f2',_⟩:=f2 b hb;rcases bP.mp (I2.stkSub b z) with e |e
  ·exact f1 e
  ·exact f2' e
 have ok':(X.comp N' scope cl HP.objs.size s2 H2 fp (X.pn++pins)).Ok:=
  ⟨I2.ok.mod,hkind,I2.ok.glob,I2.ok.blt,(by show s2.heap.objs.size<=HP.objs.size;rw[hC];exact dn _),
   λx y c e1 e2=>I2.ok.inj x y c (clsub x c e1) (clsub y c e2),λx hx=>clhas x (relfree x hx),λx c hf _=>(by cases hf),I2.ok.hd,I2.ok.frames,.inl rfl,
   λb hb=>⟨(below b (fplt b hb)).1,λx c e=>(f2 b hb).2.2.2.2.1 x c (clsub x c e)⟩,I2.bs,bv I2.ok.bsz I2.sz,
   λb o e hb=>(by
    rcases (f2 b hb).2.2.2.1 with z |z
    ·exact I2.ok.noex b o e z
    ·exact absurd (bp (ay e) (bv I2.ok.bsz z)) (cr _)),
   nofs,I2.stack,I2.stkFree⟩
 have pnOk:∀p∈X.pn++pins,p.1 < s2.heap.objs.size/\p.1∉frs X.stack:=λp hp=>by
  obtain ⟨e,_,n1,n2,_⟩:=I2.pin p hp;refine ⟨ay e,λz=>?_⟩;rcases bP.mp (I2.stkSub _ z) with e |e
  ·exact n1 e
  ·exact n2 e
 have I0:∀t,Inv (X.comp N' scope cl HP.objs.size s2 H2 fp (X.pn++pins)) [(s2.heap.objs.size,{ cls:=.type "list",data:=.seq ([]:List Value).toArray 0 })] (cO cap Y) H2 { s2 with heap:=h₁,toks:=t }:=λt=>
  ⟨ok',rfl,I2.bare,Un.kept old,⟨_,hns₁,λi x v e1 e2 _=>by
    obtain ⟨j,nj,fr,sj⟩:=hcap.at e1 e2;obtain ⟨m,_,hl⟩:=I2.loc;have hk:=hfr' (x,NameKind.free) (ck fr) rfl;obtain ⟨u,r,l⟩:=hl j x v nj sj (by rcases hk with hk |hk;exact .inr (.inl hk);exact .inr (.inr hk));refine ⟨u,r,.inr ⟨?_,?_⟩⟩
    ·show (relabel scope X.env).names.lookup x=some .cell\/(relabel scope X.env).names.lookup x=some .free;rw[rel x,fr,d4];by_cases hh:(NameKind.free==NameKind.free&&X.env.scope.kind==ScopeKind.function&&X.env.kindOf x==some NameKind.cell)=true
     ·exact .inl (by rw[if_pos hh])
     ·exact .inr (by rw[if_neg hh])
    ·obtain ⟨c,ec⟩:=clhas x fr;have ec':=clsub x c ec;rcases l with ⟨k1,_⟩ |⟨_,c',e',q⟩
     ·rcases hk with hk |hk <;> (rw[hk]at k1;cases k1)
     ·have ecc:X.env.cells.lookup x=some c:=ec';rw[e']at ecc;cases ecc;obtain ⟨o,ho,hd⟩:=q;exact ⟨_,ec,o,old _ _ ho,hd⟩⟩,
   λx c e=>(by obtain ⟨v,o,ho,hd⟩:=I2.cell x c (clsub x c e);exact ⟨v,o,old _ _ ho,hd⟩),hCf,λx c e=>I2.freeC x c (clsub x c e),
   λp hp=>by
    rcases a8.mp hp with z |z
    ·obtain ⟨e,n0,_,_,d⟩:=I2.pin p z;exact ⟨old _ _ e,n0,(below _ (pnOk p z).1).1,(pnOk p z).2,d⟩
    ·have e:p=_:=aI.mp z;subst e;exact ⟨hacc,hDf,hDC,λz=>absurd (fslt _ z) (cr _),λv z=>by have z':Data.seq _ _=Data.cell v:=z;cases z'⟩,
   I2.hok.kept old,by show (cO cap Y).length=N'.length;unfold cO;rw[af];exact hcap.len⟩
 have fpok:∀{H':Hp}{o:Obj},(∀b∈fp,H' b=none)->∀b∈fp,dD (X.comp N' scope cl HP.objs.size s2 H2 fp (X.pn++pins)) [(s2.heap.objs.size,o)] H' b:=λhn b hb=>
  ⟨hn b hb,(below b (fplt b hb)).1,nofs b hb,.inl hb,λx c e=>(f2 b hb).2.2.2.2.1 x c (clsub x c e),λp hp=>by
   rcases a8.mp hp with z |z
   ·exact (f2 b hb).2.2.2.2.2 p z
   ·have e:p=_:=aI.mp z;subst e;exact Ne.symm (below b (fplt b hb)).2⟩
 have loop:∀s₃:Shared,s₃={ s2 with heap:=h₁,toks:=s2.toks+([]:List (Str×Value)).length }->
   codeAny (model X.prog X.w) X.A (.compLoop (.ListComp elt [⟨tg,iter,ifs,0⟩] scope pos) 0 (.ref it) (.ref s2.heap.objs.size) (compEnvC scope cl HP.objs.size X.env))
    (RR (.ref s2.heap.objs.size) HP.objs.size) s₃:=by
  rintro s₃ rfl;refine Ru
   (λk s'=>∃(i:Nat) (ys:List V) (its:List Value) (n:Nat) (σ':St) (H':Hp),Inv (X.comp N' scope cl HP.objs.size s2 H2 fp (X.pn++pins)) [(s2.heap.objs.size,{ cls:=.type "list",data:=.seq its.toArray n })] σ' H' s'/\Vals ys its/\
    tn i s'.heap/\(∀b∈fp,H' b=none)/\W i k ys σ' H') ?_ m0 ⟨0,[],[],0,_,H2,I0 _,.nil,hst₁,λb hb=>(f2 b hb).1,w0⟩
  rintro k s3 ⟨i,ys,its,n,σ3,H3,I3,rv3,st3,fr3,w3⟩;rcases turn i k ys σ3 H3 w3 with ⟨stop,hz,qn⟩ |⟨go,hz,step⟩
  ·refine thn (T.done (X.comp N' scope cl HP.objs.size s2 H2 fp (X.pn++pins)) rfl rfl rfl hc i _ s3 σ3 H3 _ I3 (fpok fr3) st3 stop) λr s4 ⟨hr,I4⟩=>?_;subst hr;obtain ⟨m,hn,_⟩:=I4.loc;obtain ⟨pD,nD,_,_,_⟩:=I4.pin (s2.heap.objs.size,{ cls:=.type "list",data:=.seq its.toArray n }) (aE _ (aI.mpr rfl));have nC:H3 HP.objs.size=none:=I4.free;have u:Un (frs X.stack) fp H2 H3 s2.heap s4.heap:=I4.base;refine fin s2.heap.objs.size HP.objs.size (upd H3 s2.heap.objs.size (.lst ys)) s4 m ?_ (qn _ nD) hn ?_
   ·refine I2.call' (s':=s4) (ch:=fp) I4.os ?_ ?_ I4.bare λb hb=>⟨(f2 b hb).2.2.2.1,(f2 b hb).2.1,(f2 b hb).2.2.2.2.1,(f2 b hb).2.2.2.2.2⟩
    ·refine ⟨λb o e n0 hb hx=>u.keep b o e n0 hb hx,λb o e n0 hb hx=>u.slot b o e n0 hb hx,λb o e n0 hx=>?_,λb o e hx=>u.there b o e hx,λb xs e=>?_,λb o v e=>?_,λb ps e=>?_⟩
     ·rw[aH (below b (ay e)).2];exact u.free b o e n0 hx
     ·rw[aH (aU e hDf)];exact u.tups b xs e
     ·rw[aH (aU e hDf)];exact u.frzs b o v e
     ·rw[aH (aU e hDf)];exact u.tbls b ps e
    ·intro b o e;by_cases hb:b=s2.heap.objs.size
     ·subst hb;rw[bD]at e;cases e;exact ⟨hz,its,n,rv3,pD⟩
     ·rw[aH hb]at e;exact (I4.hok b o e).stay (λc v _ q=>q) (λc q=>by rw[aH (aU q nD)];exact q) λc xs q=>by rw[aH (aU q nD)];exact q
   ·have hle:s2.heap.objs.size<=HP.objs.size:=by rw[hC];exact dn _
    exact I2.fpOk hle (by rw[aH (Ne.symm hDC)];exact nC)
  ·refine thn (T.item (X.comp N' scope cl HP.objs.size s2 H2 fp (X.pn++pins)) rfl rfl rfl hc i _ s3 σ3 H3 _ I3 (fpok fr3) st3 go) λr s4 ⟨u,hr,h4⟩=>?_;subst hr;refine thn h4 λ_ s5 ⟨x,H5,I5,r5,y5,st5,fr5⟩=>?_;obtain ⟨g,tt,te,hg,ht,he,body⟩:=step cl HP.objs.size s2 H2 fp (X.pn++pins);have I5':=I5.pinned (fpok fr5) (T.obj _ _ st5);have tail:∀{σ7:St}{H7:Hp}{s7:Shared}{po:Obj},Inv (X.comp N' scope cl HP.objs.size s2 H2 fp (X.pn++pins)) ([(s2.heap.objs.size,po)]++jd fp s5.heap) σ7 H7 s7->tn (i+1) s7.heap/\∀b∈fp,H7 b=none:=λ{σ7 H7 s7 po} I7=>by
    refine ⟨T.keep _ _ _ st5 λb hb o e=>(I7.pin (b,o) (aE _ (aE _ (je hb e)))).1,λb hb=>?_⟩;obtain ⟨o,e,d⟩:=T.obj _ _ st5 b hb;exact (I7.pin (b,o) (aE _ (aE _ (je hb e)))).2.1
   refine thn (hg _ s5 σ3 H5 x u _ I5' r5 (body x H5 y5)) λ_ s6 ⟨σ6,H6,I6,q6⟩=>?_;refine thn (ht _ s6 σ6 H6 _ I6 q6) λok s7 ⟨H7,I7,q7⟩=>?_;cases ok with
   |false=>
    obtain ⟨m',hm,w7⟩:=q7;obtain ⟨t7,n7⟩:=tail I7;exact ⟨m',hm,i+1,ys,its,n,σ6,H7,I7.unpinned,rv3,t7,n7,w7⟩
   |true=>
    refine thn (he _ s7 σ6 H7 _ I7 q7) λv s8 ⟨y,H8,I8,r8,m',hm,w8⟩=>?_;obtain ⟨t8,n8⟩:=tail I8;obtain ⟨pD,nD,_,_,_⟩:=I8.pin (s2.heap.objs.size,{ cls:=.type "list",data:=.seq its.toArray n }) (aE _ (List.mem_append_left _ (aI.mpr rfl)));have hl:=rv3.length;refine append_at (hsz:=by rw[am];omega) pD λh9 hs9 hD9=>?_;have I8a:Inv (X.comp N' scope cl HP.objs.size s2 H2 fp (X.pn++pins)) [] σ6 H8 s8:=I8.pins_of λp hp=>nomatch hp;have I9:Inv (X.comp N' scope cl HP.objs.size s2 H2 fp (X.pn++pins)) [] σ6 H8 { s8 with heap:=h9 }:=I8a.turned (t':=s8.toks) (it:=s2.heap.objs.size) (λb o hb e=>hs9.extBut b o hb e) nD hDC (.inr (ax _))
     (λx c e z=>absurd (celllt x c e) (by rw[z];exact cr _)) (λp hp z=>by
      rcases a8.mp hp with hp |hp
      ·exact absurd (pnOk p hp).1 (by rw[z];exact cr _)
      ·exact nomatch hp)
    have hD9':h9.get? s2.heap.objs.size=some { cls:=.type "list",data:=.seq (its++[v]).toArray (n+1) }:=by rw[hD9,List.push_toArray]
    refine ⟨m',hm,i+1,ys++[y],its++[v],n+1,σ6,H8,I9.pins_of λp hp=>?_,rv3.append (.cons r8 .nil),T.keep _ _ _ t8 λb hb o e=>hs9.extBut b o (below b (fplt b hb)).2 e,n8,w8⟩;have e:p=_:=aI.mp hp;subst e;exact ⟨hD9',nD,hDC,λz=>absurd (fslt _ z) (cr _),λv z=>by have z':Data.seq _ _=Data.cell v:=z;cases z'⟩
 exact codeAny_compStart_list (loop _ rfl) (T.self X.A 0 _ _ _ hst₁ (loop _ rfl))
theorem RZ{X:Cx}{elt tg iter:Expr}{ifs:List Expr}{scope:Scope}{pos:Pos}{wi:TI}(N':List Str)(cap:List (Option Nat))(hc:X.calm=true)(hi:PI X tg iter wi)(hcap:Caps X scope N' cap)
  (hcell:scope.names.all (λy=>y.2 != NameKind.cell)=true) (hnames:scope.names.all (λy=>y.2 != NameKind.local||scope.names.lookup y.1==some NameKind.local)=true)
  (hfr:scope.names.all (λy=>y.2 != NameKind.free||(X.env.kindOf y.1==some NameKind.cell||X.env.kindOf y.1==some NameKind.free))=true)
  (hkind:scope.kind=.function) (hs:∀x,foldedSetIterable iter X.env x=pure x):
  PE X (.ListComp elt [⟨tg,iter,ifs,0⟩] scope pos) (Bt X N' scope tg ifs elt wi cap):=by
 intro pins s Y H Q I h;have hnames':∀y∈scope.names,y.2=NameKind.local->scope.names.lookup y.1=some NameKind.local:=λy hy hl=>by
  have:=bX.mp hnames y hy;simpa [hl] using this
 have hcs:∀y∈scope.names,y.2=NameKind.free->(X.env.cells.lookup y.1).isSome=true:=λy hy hl=>by
  have:=bX.mp hfr y hy;obtain ⟨c,e⟩:=I.ok.has y.1 (by simpa [hl] using this);rw[e];rfl
 rw[eval_ListComp];refine wpAny_comprehension_free (use:=none) (Q:=EP X pins Y Q) rfl hs (uL hcs) hkind hnames'
  (RX (RR:=λacc C=>compPost (model X.prog X.w) X.A X.xe none (EP X pins Y Q) acc C) N' cap hc hi hcap hcell hfr hkind I h λL C H' s4 m I4 q hn fC=>?_)
 obtain ⟨f0,f1,f2,f3,f4,f5⟩:=fC;exact ⟨m,hn,λh' hs'=>⟨.ref L,H',I4.turned (t':=s4.toks) (it:=C) (λb o hb e=>hs'.extBut b o hb e) f0 f1 f3 f4 f5,rfl,q⟩⟩
section
variable {X:Cx}
theorem R0:OpR X (compareOp .IsNot) (λx y H Q=>∃i j,x=.bl i/\y=.bl j/\Q (.bl (i != j)) H):=by intro pins s Y H x y v u Q I rx ry h;obtain ⟨i,j,rfl,rfl,q⟩:=h;cases rx;cases ry;exact isnot_bool ⟨.bl _,H,I,rfl,q⟩
end
def noStar:Expr->Bool
 |.Starred ..=>false
 |_=>true
theorem cY(e:Expr)(es:List Expr)(env:Env)(h:noStar e=true):starEach (e::es) env=(false,eval e env)::starEach es env:=by cases e <;> first |rfl |cases h
variable {X:Cx} {e st:Expr} {te ts:TE} {p2 pos:Pos}
def Tr(h0:Heap)(H:Hp)(h:Heap)(a:Addr)(c:Value):Prop:=
 ∃oe vs T oT ts,h.get? a=some oe/\oe.cls=c/\oe.data=.fields vs/\vs[1]?=some (.ref T)/\T≠a/\h.get? T=some oT/\oT.data=.fields ts/\ts[3]?=some .none/\
  h0.get? a=none/\h0.get? T=none/\H a=none/\H T=none
def CX1(P:Program)(w:World):CXT:=λouter H s E e s'=>
 ∃(a:Addr)(c:Value)(H':Hp),e=.ref a/\s'.os=s.os/\AllBare s'.gens/\Un (frs outer) [] H H' s.heap s'.heap/\HOk P w H' s'.heap/\Tr s.heap H' s'.heap a c/\E c none H'
section
variable {X:Cx} {pins:List (Addr×Obj)} {σ:St} {H:Hp} {s:Shared}
theorem BK{P:Program}{w:World}(Y:Cx):j4 (CX1 P w) Y λ_ _ _=>False:=λ_ _ _ _ _ _ _ h=>by
 obtain ⟨_,_,_,_,_,_,_,_,_,q⟩:=h;exact q.elim
end
abbrev veM:List Value:=[.type "ValueError",.type "Exception",.type "BaseException",.type "object"]
def R1:List Value->Bool
 |[.type a,.type b,.type c,.type d]=>a=="ValueError"&&b=="Exception"&&c=="BaseException"&&d=="object"
 |_=>false
def BL:Value->Bool
 |.str _ _=>true
 |_=>false
def nsB(K:PF)(N:Addr):Bool:=match K.lookup N with
 |some ⟨_,_,.dict es _,_⟩=>es.toList.all (λe=>BL e.key)&&quietNames.all λn=>(nsFind es n).isNone
 |_=>false
def R3(K:PF)(A:Addr):Bool:=match K.lookup A with
 |some ⟨_,_,.cls cd,_⟩=>nsB K cd.ns
 |_=>false
def uP(K:PF):List Value->Bool
 |[]=>false
 |v::tl=>(match v with |.ref A=>R3 K A&&uP K tl |_=>R1 (v::tl))
def isRef(C:Addr):Value->Bool
 |.ref a=>a==C
 |_=>false
def isNew:Option Value->Bool
 |some (.builtin s)=>s=="ValueError.__new__"
 |_=>false
def BP:Value->Bool
 |.type s=>s=="type"
 |_=>false
def p7(K:PF)(C:Addr):Bool:=match K.lookup C with
 |some ⟨ty,_,.cls cd,⟨[_,_,_,_,k,_]⟩⟩=>BP ty&&isNew k&&nsB K cd.ns&&!cd.hasDel&&(match cd.mro with |v::tl=>isRef C v&&uP K tl |[]=>false)
 |_=>false
section
variable {X:Cx}
theorem digits_le:∀n:Fin 100,(Str.ofString (toString (n.val:Int))).length<=3:=by ac_rfl
def Throws(X:Cx)(E:XK):Prop:=∀(pins:List (Addr×Obj))(Y:St)(H:Hp)(s:Shared)(h':Heap)(a:Addr)(c:Value)(args:List Value),Inv X pins Y H s->s.heap.MadeExcOf h' a c args->E c none H->X.xe (.ref a) { s with heap:=h' }
end
section
variable {X:Cx}
variable {pins:List (Addr×Obj)} {σ:St} {H:Hp} {s:Shared}
structure Caught(X:Cx)(H:Hp)(s:Shared)(H':Hp)(a:Addr)(c:Value)(s':Shared):Prop where
 os:s'.os=s.os
 bare:AllBare s'.gens
 un:Un (frs X.stack) [] H H' s.heap s'.heap
 hok:HOk X.prog X.w H' s'.heap
 tr:Tr s.heap H' s'.heap a c
variable {H':Hp} {a:Addr} {c:Value} {s':Shared}
end
open Builtin.ObjectAttr Builtin.Getset_descriptor
open PySem.W (findIn mroIn clsIn typeIn Looks InstAt looks_findIn looks_mroIn looks_typeIn)
def uQ(K:PF)(D:Addr):Bool:=
 findIn K (.ref D) "__class__"==some (some (.builtin "object.__class__"))&&findIn K (.ref D) "__getattribute__"==some (some (.builtin "BaseException.__getattribute__"))&&findIn K (.ref D) "__getattr__"==some none &&
  mroIn K D (.type "object")==some true&&mroIn K D (.type "BaseException")==some true&&(clsIn K D).isSome
open PySem.W (findIn mroIn clsIn typeIn Looks looks_findIn looks_mroIn looks_typeIn)
section
variable {X:Cx}
def XO(H:Hp)(a c:Addr):Prop:=∃o y,H a=some (.frz o (.own y))/\o.cls=.ref c
def valOf:V->Value
 |.ref a=>.ref a
 |.ty n=>.type n
 |_=>.none
end
section
variable {X:Cx}
def XP(X:Cx)(pins:List (Addr×Obj))(ex:Value->St->Hp->Prop)(Y:St)(e:Value)(s1:Shared):Prop:=∃a c H1 s0 H',e=.ref a/\Inv X pins Y H1 s0/\Caught X H1 s0 H' a c s1/\ex c Y H'
def BR (K:PF) (C:Addr):Bool:=typeIn K (.ref C)==some (.type "type")&&(clsIn K C).isSome&&mroIn K C (.type "BaseException")==some true
end
open PySem.SeqAt
section
variable {X:Cx}
theorem R4:OpR X (binaryOp .FloorDiv) (rI (λ_ j=>0 < j/\j < 1152921504606846976) λi j=>.int (i / j)):=opI λi j _ _ _ _ _ hc q=>by
 have h1:(0:Int) < j:=hc.1;have h2:j < 1152921504606846976:=hc.2;refine floordiv_int (by omega) (by rw[Int.fdiv_eq_ediv_of_nonneg i (by omega)];exact q) (.inl (PyProof.noPylong_of_log2 ?_));have:j.natAbs.log2 < 60:=(Nat.log2_lt (by omega)).mpr (by show j.natAbs < 1152921504606846976;omega);omega
def uR(m:Nat):Str:=Str.ofString (toString (m:Int))
theorem R5{m:Nat}(h:m < 100):(m:Int).natAbs.log2 < 1920:=by have:(m:Int).natAbs=m:=Int.natAbs_natCast m;rw[this];exact Nat.lt_of_le_of_lt (Nat.log2_le_self m) (by omega)
theorem R6:bH X (.type "str") (λxs H Q=>∃m:Nat,xs=[.int m]/\m < 100/\Q (.str (uR m)) H):=by intro pins s Y H xs us Q I r h;obtain ⟨m,rfl,hm,q⟩:=h;obtain ⟨u,rfl,ru⟩:=vals1 r;obtain ⟨t,rfl⟩:=ru;exact PySem.P.str_of_int (R5 hm) ⟨.str _,H,I.tok _,⟨_,rfl⟩,q⟩
end
end L2
namespace HT
open PySem PySem.Spec PyProof.Rows Builtin
end HT
namespace L2
open PySem PySem.Spec PyProof.Rows
section
variable {X:Cx}
def agB(K:PF):R2:=λx y H Q=>∃(l:Addr)(k:Int)(xs:List V),x=.ref l/\y=.int k/\SqT K H l xs/\xs≠[]/\2<=k/\k<=1000/\xs.length * k.toNat<=sizeLine/\∀p,H p=none->Q (.ref p) (upd H p (.tup (List.replicate k.toNat xs).flatten))
end
end L2
namespace HT
open PySem PySem.Spec PyProof.Rows Builtin
end HT
namespace L2
open PySem PySem.Spec PyProof.Rows
section
variable {X:Cx}
def agC(K:PF):R2:=λx y H Q=>∃(l:Addr)(k:Int)(xs:List V),x=.ref l/\y=.int k/\SqL K H l xs/\0<=k/\k<=1000/\xs.length * k.toNat<=sizeLine/\∀p,H p=none->Q (.ref p) (upd H p (.lst (List.replicate k.toNat xs).flatten))
end
end L2
namespace PySem
end PySem
namespace L2
open PySem PySem.Spec PyProof.Rows
end L2
namespace PyProof.Rows
open PySem
theorem R7 {prog:Program} {w:World} {A:Around} {E:Value->Shared->Prop} {s:Shared} {it:Addr} {T:String} {o:Obj} {items:List Value} {n:Nat} {ns:List Int} {Q:Value->Shared->Prop} (hT:T="list"\/T="tuple")
  (ho:s.heap.get? it=some o) (hc:o.cls=.type T) (hd:o.data=.seq items.toArray n) (hI:IntsAre items ns) (h64:items.length < 64)
  (h:∀(h1 h':Heap) (e:Nat) (out:Array Value) (ns':List Int),IntsAre out.toList ns'->ns'.Perm ns->ns'.Pairwise (·<=·)->(∀b o',s.heap.get? b=some o'->h1.get? b=some o')->(∀b o',h1.get? b=some o'->h'.get? b=some o')->h'.get? h1.objs.size=some (seqObj "list" out e)->Q (.ref h1.objs.size) { s with heap:=h' }):
  wpAny (model prog w) A (call (.builtin "sorted") [.ref it]) Q E s:=by
 refine Calls.call_function_entry kind_sorted plain_sorted entry_sorted (args_sorted1 _) ?_;unfold Builtin.«sorted»;refine wpAny_bind (m:=checkCount "sorted" 1 1 _) (wpAny_pure ?_);refine wpAny_bind (wpAny_collect_seq it hT ho hc hd (λh1 k1=>?_) (by rw[List.size_toArray,sizeLine_eq];omega));refine wpAny_bind (wpAny_newList ?_);have e1:items.toArray.toList=items:=by simp
 rw[e1];have hoL:(h1.push (seqObj "list" items.toArray 0)).get? h1.objs.size=some (seqObj "list" items.toArray 0):=Heap.get?_push_size _ rfl;show wpAny _ _ _ _ _ { s with heap:=h1.push (seqObj "list" items.toArray 0) };refine wpAny_bind (wpAny_holding (wpAny_call_entry slot_list_sort ⟨_,hoL,rfl⟩ entry_list_sort (list_sort_tree hoL hI h64 λout ns' a1 a2 a3=>⟨_,rfl,?_⟩) (args_list_sort _)));obtain ⟨e,he⟩:=sortedHeap_at (vs:=items) (out:=out) hoL;refine wpAny_pure ⟨_,rfl,h h1 _ e out ns' a1 a2 a3 k1 (λb o' hb1=>?_) he⟩;rw[sortedHeap_old (Nat.ne_of_lt (Heap.lt_size hb1)) (by rw[size_push'];exact Nat.lt_succ_of_lt (Heap.lt_size hb1))];exact Heap.get?_push_of_some _ hb1
end PyProof.Rows
namespace L2
open PySem PySem.Spec PyProof.Rows
theorem agD {X:Cx}:bH X (.builtin "sorted") (λxs H Q=>∃(p:Addr) (ns:List Int),xs=[.ref p]/\SqT X.K H p (ns.map V.int)/\ns.length < 64/\∀ns':List Int,ns'.Perm ns->ns'.Pairwise (·<=·)->∀l,H l=none->Q (.ref l) (upd H l (.lst (ns'.map V.int)))):=by
 intro pins s Y H xs us Q I r h;obtain ⟨p,ns,rfl,hq,h64,q⟩:=h;obtain ⟨u,rfl,ru⟩:=vals1 r;cases ru;obtain ⟨its,rv,⟨o,ho,hc,n,hd⟩,hz⟩:=I.tuple hq;have hlen:its.length=ns.length:=by rw[<-rv.length];simp
 refine R7 (.inr rfl) ho hc hd (intsAre_of rv) (by omega) λh1 h' e out ns' a1 a2 a3 k1 k2 he=>?_;have I1:Inv X pins Y H { s with heap:=h1 }:=I.kept (t':=s.toks) k1;have hsz:(ns'.map V.int).length<=sizeLine:=by rw[af,a2.length_eq,fq];omega
 exact ⟨.ref h1.objs.size,_,I1.laid (t':=s.toks) k2 (ax _) (show ObjOk X.prog X.w _ _ _ (.lst (ns'.map V.int)) from ⟨hsz,out.toList,e,uH a1,by rw[Array.toArray_toList];exact he⟩),rfl,q ns' a2 a3 _ (I1.hok.fresh (ax _))⟩
section
variable {prog:Program} {w:World} {A:Around} {R:Result->Shared->Prop} {s:Shared}
def jh(e:Expr)(d:Nat)(target iter:Expr)(em:Value->Env->Sem Fin->Sem Fin):Prop:=
 ∀it acc env,compTurn e d it acc env=(standAt iter.pos >>= λ_=>pyNext it >>= λr=>match r with
   |none=>pure (.done .next)
   |some v=>letOwnedTupleGo target it v >>= λ_=>assign target env v >>= λ_=>em acc env (again (.compLoop e d it acc env)))
def emE (elt:Expr) (acc:Value) (env:Env) (k:Sem Fin):Sem Fin:=(eval elt env >>= λx=>call (.builtin "list.append") [acc,x] >>= λ_=>pure ()) >>= λ_=>k
def emG(e:Expr)(d:Nat)(iter:Expr)(acc:Value)(env:Env)(k:Sem Fin):Sem Fin:=
 eval iter env >>= λx=>standAt iter.pos >>= λ_=>foldedSetIterable iter env x >>= λx=>holding [x] (pyIter x) >>= λit=>runOwn (.compStart e d it acc env) env >>= λ_=>k
theorem agE(elt t1 i1 t2 i2 t3 i3:Expr)(scope:Scope)(pos:Pos):jh (.ListComp elt [⟨t1,i1,[],0⟩,⟨t2,i2,[],0⟩,⟨t3,i3,[],0⟩] scope pos) 0 t1 i1 (emG (.ListComp elt [⟨t1,i1,[],0⟩,⟨t2,i2,[],0⟩,⟨t3,i3,[],0⟩] scope pos) 1 i2):=λ_ _ _=>rfl
theorem R8{elt:Expr}{gens:List Comprehension}{scope:Scope}{pos:Pos}{d:Nat}{target iter:Expr}{em:Value->Env->Sem Fin->Sem Fin}{it acc:Value}{env:Env}(hT:jh (.ListComp elt gens scope pos) d target iter em)(I:Nat->Shared->Prop)
  (turn:∀n s,I n s->wpAny (model prog w) A (pyNext it) (λr s₁=>match r with
   |none=>R (.ok .next) s₁
   |some v=>wpAny (model prog w) A (letOwnedTupleGo target it v) (λ_ s₁'=>wpAny (model prog w) A (assign target env v) (λ_ s₂=>
     ∀(k:Sem Fin)(Q:Fin->Shared->Prop)(E:Value->Shared->Prop),(∀s₅,(∃m,m < n/\I m s₅)->wpAny (model prog w) A k Q E s₅)->wpAny (model prog w) A (em acc env k) Q E s₂) (λ_ _=>False) s₁') (λ_ _=>False) s₁) (λ_ _=>False) s)
  (n:Nat) (h:I n s):codeAny (model prog w) A (.compLoop (.ListComp elt gens scope pos) d it acc env) R s:=by
 refine codeAny_loop rfl I (λn s hI=>?_) n h;show wpAny _ A ((compTurn (.ListComp elt gens scope pos) d it acc env).onRaise (λx=>do noteFrame x env;theTreesLotGoes x)) _ _ s;refine wpAny_noted ?_;rw[hT];refine ab (wpAny_standAt (ab (ca (turn n s hI) (λr s₁ h₁=>?_) λ_ _ h'=>False.elim h')));cases r with
 |none=>exact av h₁
 |some v=>
  refine ab (ca h₁ (λ_ s₁' h₁'=>?_) λ_ _ h'=>False.elim h');exact ab (ca h₁' (λ_ s₂ h₂=>h₂ _ _ _ λs₃ h₃=>av ⟨rfl,h₃⟩) λ_ _ h'=>False.elim h')
end
abbrev TM:=List V->St->Hp->(List V->St->Hp->Prop)->Prop
def lob (its:List Value) (n:Nat):Obj:={ cls:=.type "list",data:=.seq its.toArray n }
structure AccOk(X:Cx)(a:Addr):Prop where
 new:a∈X.ex\/X.s₀.heap.objs.size<=a
 cel:∀x c,X.env.cells.lookup x=some c->c≠a
 pin:∀p∈X.pn,p.1≠a
def PM(X:Cx)(lim:Bool)(a:Addr)(em:Sem Fin->Sem Fin)(t:TM):Prop:=
 ∀(pins:List (Addr×Obj))(its:List Value)(n:Nat)(ys:List V)(Y:St)(H:Hp)(s:Shared)(K:List V->St->Hp->Prop),Inv X ((a,lob its n)::pins) Y H s->(∀p∈pins,p.1≠a)->Vals ys its->(lim=true->ys.length < sizeLine)->t ys Y H K->
  ∀(k:Sem Fin)(Q:Fin->Shared->Prop)(E:Value->Shared->Prop),(∀s' its' n' ys' σ' H',Inv X ((a,lob its' n')::pins) σ' H' s'->Vals ys' its'->K ys' σ' H'->↥X k Q E s')->↥X (em k) Q E s
def tmE(te:TE):TM:=λys Y H K=>ys.length < sizeLine/\te Y H λy H'=>K (ys++[y]) Y H'
theorem R9{X:Cx}{a:Addr}{elt:Expr}{te:TE}(hx:X.xe=λ_ _=>False)(ha:AccOk X a)(he:PE X elt te):PM X false a (emE elt (.ref a) X.env) (tmE te):=by
 intro pins its n ys Y H s K I hp rv _ h kk Q E hk;obtain ⟨hz,h⟩:=h;have h0:=he _ s Y H _ I h;rw[hx]at h0;refine ab (ab (ca h0 (λv s8 h8=>?_) λ_ _ z=>False.elim z));obtain ⟨y,H8,I8,r8,k8⟩:=h8;obtain ⟨pD,nD,lD,fD,cD⟩:=I8.pin (a,lob its n) (aE _ bq);have hl:=rv.length;refine ab (append_at (hsz:=by rw[am];omega) pD λh9 hs9 hD9=>av ?_);have I8a:Inv X pins Y H8 s8:=I8.pins_of λp hp=>I8.pin p (aE _ (bm _ hp));have I9:Inv X pins Y H8 { s8 with heap:=h9 }:=I8a.turned (t':=s8.toks) (it:=a) (λb o hb e=>hs9.extBut b o hb e) nD lD ha.new ha.cel (λp hp'=>by
  rcases a8.mp hp' with z |z
  ·exact ha.pin p z
  ·exact hp p z)
 have hD9':h9.get? a=some (lob (its++[v]) (n+1)):=by rw[hD9,List.push_toArray];rfl
 refine hk _ (its++[v]) (n+1) (ys++[y]) Y H8 (I9.pins_of λp hp'=>?_) (rv.append (.cons r8 .nil)) k8;rcases bP.mp hp' with e |z
 ·subst e;exact ⟨hD9',nD,lD,fD,λv z=>by have z':Data.seq _ _=Data.cell v:=z;cases z'⟩
 ·exact I9.pin p (aE _ z)
def emT(ifs:List Expr)(elt:Expr)(acc:Value)(env:Env)(k:Sem Fin):Sem Fin:=
 (forIn ifs true λc r=>if r=true then do let ok <-isTrue c env (eval c env);pure (ForInStep.yield ok) else pure (ForInStep.yield r)) >>= λok=>if ok=true then emE elt acc env k else k
theorem BV(elt tg iter:Expr)(ifs:List Expr)(scope:Scope)(pos:Pos):jh (.ListComp elt [⟨tg,iter,ifs,0⟩] scope pos) 0 tg iter (emT ifs elt):=λ_ _ _=>rfl
def tmT(tt:TT)(te:TE):TM:=λys Y H K=>tt Y H λb H4=>if b=true then te Y H4 λy H5=>K (ys++[y]) Y H5 else K ys Y H4
theorem Sd{X:Cx}{a:Addr}{elt:Expr}{ifs:List Expr}{tt:TT}{te:TE}(hx:X.xe=λ_ _=>False)(ha:AccOk X a)(ht:PIf X ifs tt)(he:PE X elt te):PM X true a (emT ifs elt (.ref a) X.env) (tmT tt te):=by
 intro pins its n ys Y H s K I hp rv hl h kk Q E hk;have h0:=ht _ s Y H _ I h;rw[hx]at h0;refine ab (ca h0 (λb s4 h4=>?_) λ_ _ z=>False.elim z);obtain ⟨H4,I4,q4⟩:=h4;cases b with
 |false=>exact hk s4 its n ys Y H4 I4 rv q4
 |true=>exact R9 hx ha he pins its n ys Y H4 s4 K I4 hp rv (λz=>nomatch z) ⟨hl rfl,q4⟩ kk Q E hk
def BW(lim:Bool)(X:Cx)(N':List Str)(scope:Scope)(tg:Expr)(em:Value->Env->Sem Fin->Sem Fin)(J:It)(σ0:St)(H1:Hp)(Q:VK):Prop:=
 ∃W:Nat->Nat->List V->St->Hp->Prop,(∃m,W 0 m [] σ0 H1)/\∀i m ys σ' H',W i m ys σ' H'->
  (J.stop i H'/\ys.length<=sizeLine/\∀D,H' D=none->Q (.ref D) (upd H' D (.lst ys)))\/
  (J.go i H'/\(lim=true->ys.length < sizeLine)/\∀cl C s₁ H₁ fp pn,∃g tm,PG (X.comp N' scope cl C s₁ H₁ fp pn) tg g/\(∀a,AccOk (X.comp N' scope cl C s₁ H₁ fp pn) a->PM (X.comp N' scope cl C s₁ H₁ fp pn) lim a (em (.ref a) (X.comp N' scope cl C s₁ H₁ fp pn).env) tm)/\
   ∀x H2,J.yld i H' x H2->g x σ' H2 λσ3 H3=>tm ys σ3 H3 λys' σ4 H4=>∃m',m' < m/\W (i+1) m' ys' σ4 H4)
def uT(lim:Bool)(X:Cx)(N':List Str)(scope:Scope)(tg:Expr)(em:Value->Env->Sem Fin->Sem Fin)(wi:TI)(cap:List (Option Nat)):TE:=λY H Q=>wi Y H λJ H1=>BW lim X N' scope tg em J (cO cap Y) H1 Q
theorem BX{X:Cx}{elt tg iter:Expr}{ifs:List Expr}{lim:Bool}{rest:List Comprehension}{em:Value->Env->Sem Fin->Sem Fin}{scope:Scope}{pos:Pos}{wi:TI}{pins:List (Addr×Obj)}{s:Shared}{Y:St}{H:Hp}{Q:VK}{RR:Value->Addr->Result->Shared->Prop}(N':List Str)(cap:List (Option Nat))(hc:X.calm=true)(hi:PI X tg iter wi)(hcap:Caps X scope N' cap)
  (hcell:scope.names.all (λy=>y.2 != NameKind.cell)=true)
  (hfr:scope.names.all (λy=>y.2 != NameKind.free||(X.env.kindOf y.1==some NameKind.cell||X.env.kindOf y.1==some NameKind.free))=true)
  (hkind:scope.kind=.function) (hT:jh (.ListComp elt (⟨tg,iter,ifs,0⟩::rest) scope pos) 0 tg iter em) (I:Inv X pins Y H s) (h:uT lim X N' scope tg em wi cap Y H Q)
  (fin:∀(D C:Addr)(H':Hp)(s4:Shared)(m:Str->Option Value),Inv X pins Y H' s4->Q (.ref D) H'->s4.heap.Ns C m->dD X pins H' C->RR (.ref D) C (.ok .next) s4):
  ↥X (eval iter X.env) (λx s₁=>↥X (pyIter x) (λit s₂=>↥X (newList []) (λacc s₃=>
   ↥X (newFunctionEnv scope X.env.globals (bV X.env scope.names []) [] X.env.qual none .none (some X.env)) (λcenv s₄=>
    codeAny (model X.prog X.w) X.A (.compStart (.ListComp elt (⟨tg,iter,ifs,0⟩::rest) scope pos) 0 it acc { cenv with scope:=relabel scope X.env }) (RR acc cenv.locals) s₄) X.xe s₃) X.xe s₂) X.xe s₁) X.xe s:=by
 have hcell':∀y∈scope.names,y.2≠NameKind.cell:=λy hy=>by
  have:=bX.mp hcell y hy;simpa using this
 have hfr':∀y∈scope.names,y.2=NameKind.free->(X.env.kindOf y.1=some NameKind.cell\/X.env.kindOf y.1=some NameKind.free):=λy hy hl=>by
  have:=bX.mp hfr y hy;simpa [hl] using this
 have hcs:∀y∈scope.names,y.2=NameKind.free->(X.env.cells.lookup y.1).isSome=true:=λy hy hl=>by
  obtain ⟨c,e⟩:=I.ok.has y.1 (hfr' y hy hl);rw[e];rfl
 have clsub:∀x c,(bV X.env scope.names []).lookup x=some c->X.env.cells.lookup x=some c:=uJ (λx c e=>by simp at e);have clhas:∀x,scope.names.lookup x=some NameKind.free->∃c,(bV X.env scope.names []).lookup x=some c:=λx e=>by
  have hm:=ck e;exact bB.mp (uK (hcs _ hm rfl) hm)
 have rel:∀x,(relabel scope X.env).names.lookup x=(scope.names.lookup x).map λk=>if (k==NameKind.free&&X.env.scope.kind==.function&&X.env.kindOf x==some .cell)=true then NameKind.cell else k:=λx=>pZ
 have relfree:∀x,((relabel scope X.env).names.lookup x=some NameKind.cell\/(relabel scope X.env).names.lookup x=some NameKind.free)->scope.names.lookup x=some NameKind.free:=λx e=>by
  rw[rel x]at e;cases z:scope.names.lookup x with
  |none=>rw[z]at e;rcases e with e |e <;> cases e
  |some k=>
   have nk:=hcell' _ (ck z);rw[z]at e;cases k with
   |free=>rfl
   |cell=>exact absurd rfl nk
   | «local»=>rcases e with e |e <;> simp[show (NameKind.«local»==NameKind.free)=false by decide]at e
   |globalExplicit=>rcases e with e |e <;> simp[show (NameKind.globalExplicit==NameKind.free)=false by decide]at e
   |globalImplicit=>rcases e with e |e <;> simp[show (NameKind.globalImplicit==NameKind.free)=false by decide]at e
 generalize hcl:bV X.env scope.names []=cl at clsub clhas;refine thn (hi pins s Y H _ I h) λxv s0 h0=>thn h0 λitv s2 h2=>?_;obtain ⟨it,fp,tn,J,H2,e,I2,T,st2,f2,W,⟨m0,w0⟩,turn⟩:=h2;subst e;refine ef (wpAny_newFunctionEnv hcell' (by intro y hy;simp at hy) (λh₁ hns₁ hsb₁=>?_) hkind);dsimp only at hns₁ hsb₁ ⊢;generalize hH2:s2.heap.push { cls:=.type "list",dict:=none,data:=.seq ([]:List Value).toArray }=HP at hns₁ hsb₁ ⊢;have hC:HP.objs.size=s2.heap.objs.size+1:=by rw[<-hH2,de]
 have hDC:s2.heap.objs.size≠HP.objs.size:=by rw[hC];exact b5 (Nat.lt_succ_self _)
 have below:∀b,b < s2.heap.objs.size->b≠HP.objs.size/\b≠s2.heap.objs.size:=λb hb=>⟨by rw[hC];exact b5 (Nat.lt_succ_of_lt hb),b5 hb⟩;have old:∀b o,s2.heap.get? b=some o->h₁.get? b=some o:=λb o e=>hsb₁.extBut b o (below b (ay e)).1 (ah _ (hH2 ▸ ah _ e));have hacc:h₁.get? s2.heap.objs.size=some { cls:=.type "list",data:=.seq ([]:List Value).toArray 0 }:=hsb₁.extBut _ _ hDC (ah _ (hH2 ▸ a7 _ rfl));have hst₁:tn 0 h₁:=T.keep _ _ _ st2 λb _ o e=>old b o e;have fplt:∀b∈fp,b < s2.heap.objs.size:=λb hb=>by
  obtain ⟨o,e,_⟩:=T.obj _ _ st2 b hb;exact ay e
 have fslt:∀b∈frs X.stack,b < s2.heap.objs.size:=λb hb=>by
  obtain ⟨_,o,e,_⟩:=I2.stack.mem hb;exact ay e
 have celllt:∀x c,cl.lookup x=some c->c < s2.heap.objs.size:=λx c e=>by
  obtain ⟨v,q⟩:=I2.cell x c (clsub x c e);exact q.lt
 have hDf:H2 s2.heap.objs.size=none:=I2.hok.fresh (ax _);have hCf:H2 HP.objs.size=none:=I2.hok.fresh (by rw[hC];exact dn _);have nofs:∀b∈fp,b∉frs X.stack:=λb hb z=>by
  obtain ⟨_,f1,f2',_⟩:=f2 b hb;rcases bP.mp (I2.stkSub b z) with e |e
  ·exact f1 e
  ·exact f2' e
 have ok':(X.comp N' scope cl HP.objs.size s2 H2 fp (X.pn++pins)).Ok:=
  ⟨I2.ok.mod,hkind,I2.ok.glob,I2.ok.blt,(by show s2.heap.objs.size<=HP.objs.size;rw[hC];exact dn _),
   λx y c e1 e2=>I2.ok.inj x y c (clsub x c e1) (clsub y c e2),λx hx=>clhas x (relfree x hx),λx c hf _=>(by cases hf),I2.ok.hd,I2.ok.frames,.inl rfl,
   λb hb=>⟨(below b (fplt b hb)).1,λx c e=>(f2 b hb).2.2.2.2.1 x c (clsub x c e)⟩,I2.bs,bv I2.ok.bsz I2.sz,
   λb o e hb=>(by
    rcases (f2 b hb).2.2.2.1 with z |z
    ·exact I2.ok.noex b o e z
    ·exact absurd (bp (ay e) (bv I2.ok.bsz z)) (cr _)),
   nofs,I2.stack,I2.stkFree⟩
 have pnOk:∀p∈X.pn++pins,p.1 < s2.heap.objs.size/\p.1∉frs X.stack:=λp hp=>by
  obtain ⟨e,_,n1,n2,_⟩:=I2.pin p hp;refine ⟨ay e,λz=>?_⟩;rcases bP.mp (I2.stkSub _ z) with e |e
  ·exact n1 e
  ·exact n2 e
 have I0:∀t,Inv (X.comp N' scope cl HP.objs.size s2 H2 fp (X.pn++pins)) [(s2.heap.objs.size,{ cls:=.type "list",data:=.seq ([]:List Value).toArray 0 })] (cO cap Y) H2 { s2 with heap:=h₁,toks:=t }:=λt=>
  ⟨ok',rfl,I2.bare,Un.kept old,⟨_,hns₁,λi x v e1 e2 _=>by
    obtain ⟨j,nj,fr,sj⟩:=hcap.at e1 e2;obtain ⟨m,_,hl⟩:=I2.loc;have hk:=hfr' (x,NameKind.free) (ck fr) rfl;obtain ⟨u,r,l⟩:=hl j x v nj sj (by rcases hk with hk |hk;exact .inr (.inl hk);exact .inr (.inr hk));refine ⟨u,r,.inr ⟨?_,?_⟩⟩
    ·show (relabel scope X.env).names.lookup x=some .cell\/(relabel scope X.env).names.lookup x=some .free;rw[rel x,fr,d4];by_cases hh:(NameKind.free==NameKind.free&&X.env.scope.kind==ScopeKind.function&&X.env.kindOf x==some NameKind.cell)=true
     ·exact .inl (by rw[if_pos hh])
     ·exact .inr (by rw[if_neg hh])
    ·obtain ⟨c,ec⟩:=clhas x fr;have ec':=clsub x c ec;rcases l with ⟨k1,_⟩ |⟨_,c',e',q⟩
     ·rcases hk with hk |hk <;> (rw[hk]at k1;cases k1)
     ·have ecc:X.env.cells.lookup x=some c:=ec';rw[e']at ecc;cases ecc;obtain ⟨o,ho,hd⟩:=q;exact ⟨_,ec,o,old _ _ ho,hd⟩⟩,
   λx c e=>(by obtain ⟨v,o,ho,hd⟩:=I2.cell x c (clsub x c e);exact ⟨v,o,old _ _ ho,hd⟩),hCf,λx c e=>I2.freeC x c (clsub x c e),
   λp hp=>by
    rcases a8.mp hp with z |z
    ·obtain ⟨e,n0,_,_,d⟩:=I2.pin p z;exact ⟨old _ _ e,n0,(below _ (pnOk p z).1).1,(pnOk p z).2,d⟩
    ·have e:p=_:=aI.mp z;subst e;exact ⟨hacc,hDf,hDC,λz=>absurd (fslt _ z) (cr _),λv z=>by have z':Data.seq _ _=Data.cell v:=z;cases z'⟩,
   I2.hok.kept old,by show (cO cap Y).length=N'.length;unfold cO;rw[af];exact hcap.len⟩
 have fpok:∀{H':Hp}{o:Obj},(∀b∈fp,H' b=none)->∀b∈fp,dD (X.comp N' scope cl HP.objs.size s2 H2 fp (X.pn++pins)) [(s2.heap.objs.size,o)] H' b:=λhn b hb=>
  ⟨hn b hb,(below b (fplt b hb)).1,nofs b hb,.inl hb,λx c e=>(f2 b hb).2.2.2.2.1 x c (clsub x c e),λp hp=>by
   rcases a8.mp hp with z |z
   ·exact (f2 b hb).2.2.2.2.2 p z
   ·have e:p=_:=aI.mp z;subst e;exact Ne.symm (below b (fplt b hb)).2⟩
 have loop:∀s₃:Shared,s₃={ s2 with heap:=h₁,toks:=s2.toks+([]:List (Str×Value)).length }->
   codeAny (model X.prog X.w) X.A (.compLoop (.ListComp elt (⟨tg,iter,ifs,0⟩::rest) scope pos) 0 (.ref it) (.ref s2.heap.objs.size) (compEnvC scope cl HP.objs.size X.env))
    (RR (.ref s2.heap.objs.size) HP.objs.size) s₃:=by
  rintro s₃ rfl;refine R8 hT
   (λk s'=>∃(i:Nat) (ys:List V) (its:List Value) (n:Nat) (σ':St) (H':Hp),Inv (X.comp N' scope cl HP.objs.size s2 H2 fp (X.pn++pins)) [(s2.heap.objs.size,{ cls:=.type "list",data:=.seq its.toArray n })] σ' H' s'/\Vals ys its/\
    tn i s'.heap/\(∀b∈fp,H' b=none)/\W i k ys σ' H') ?_ m0 ⟨0,[],[],0,_,H2,I0 _,.nil,hst₁,λb hb=>(f2 b hb).1,w0⟩
  rintro k s3 ⟨i,ys,its,n,σ3,H3,I3,rv3,st3,fr3,w3⟩;rcases turn i k ys σ3 H3 w3 with ⟨stop,hz,qn⟩ |⟨go,hlim,step⟩
  ·refine thn (T.done (X.comp N' scope cl HP.objs.size s2 H2 fp (X.pn++pins)) rfl rfl rfl hc i _ s3 σ3 H3 _ I3 (fpok fr3) st3 stop) λr s4 ⟨hr,I4⟩=>?_;subst hr;obtain ⟨m,hn,_⟩:=I4.loc;obtain ⟨pD,nD,_,_,_⟩:=I4.pin (s2.heap.objs.size,{ cls:=.type "list",data:=.seq its.toArray n }) (aE _ (aI.mpr rfl));have nC:H3 HP.objs.size=none:=I4.free;have u:Un (frs X.stack) fp H2 H3 s2.heap s4.heap:=I4.base;refine fin s2.heap.objs.size HP.objs.size (upd H3 s2.heap.objs.size (.lst ys)) s4 m ?_ (qn _ nD) hn ?_
   ·refine I2.call' (s':=s4) (ch:=fp) I4.os ?_ ?_ I4.bare λb hb=>⟨(f2 b hb).2.2.2.1,(f2 b hb).2.1,(f2 b hb).2.2.2.2.1,(f2 b hb).2.2.2.2.2⟩
    ·refine ⟨λb o e n0 hb hx=>u.keep b o e n0 hb hx,λb o e n0 hb hx=>u.slot b o e n0 hb hx,λb o e n0 hx=>?_,λb o e hx=>u.there b o e hx,λb xs e=>?_,λb o v e=>?_,λb ps e=>?_⟩
     ·rw[aH (below b (ay e)).2];exact u.free b o e n0 hx
     ·rw[aH (aU e hDf)];exact u.tups b xs e
     ·rw[aH (aU e hDf)];exact u.frzs b o v e
     ·rw[aH (aU e hDf)];exact u.tbls b ps e
    ·intro b o e;by_cases hb:b=s2.heap.objs.size
     ·subst hb;rw[bD]at e;cases e;exact ⟨hz,its,n,rv3,pD⟩
     ·rw[aH hb]at e;exact (I4.hok b o e).stay (λc v _ q=>q) (λc q=>by rw[aH (aU q nD)];exact q) λc xs q=>by rw[aH (aU q nD)];exact q
   ·have hle:s2.heap.objs.size<=HP.objs.size:=by rw[hC];exact dn _
    exact I2.fpOk hle (by rw[aH (Ne.symm hDC)];exact nC)
  ·refine thn (T.item (X.comp N' scope cl HP.objs.size s2 H2 fp (X.pn++pins)) rfl rfl rfl hc i _ s3 σ3 H3 _ I3 (fpok fr3) st3 go) λr s4 ⟨u,hr,h4⟩=>?_;subst hr;refine thn h4 λ_ s5 ⟨x,H5,I5,r5,y5,st5,fr5⟩=>?_;obtain ⟨g,tm,hg,hm,body⟩:=step cl HP.objs.size s2 H2 fp (X.pn++pins);have acc:AccOk (X.comp N' scope cl HP.objs.size s2 H2 fp (X.pn++pins)) s2.heap.objs.size:=
    ⟨.inr (ax _),λx c e z=>absurd (celllt x c e) (by rw[z];exact cr _),λp hp z=>absurd (pnOk p hp).1 (by rw[z];exact cr _)⟩
   have I5':=I5.pinned (fpok fr5) (T.obj _ _ st5);refine thn (hg _ s5 σ3 H5 x u _ I5' r5 (body x H5 y5)) λ_ s6 ⟨σ6,H6,I6,q6⟩=>?_;intro kk Q' E' hk';refine hm _ acc (jd fp s5.heap) its n ys σ6 H6 s6 _ I6 (λp hp' e=>?_) rv3 hlim q6 kk Q' E' λs7 its' n' ys' σ7 H7 I7 rv7 ⟨m',hm',w7⟩=>hk' s7 ⟨m',hm',i+1,ys',its',n',σ7,H7,I7.pins_of λp hp'=>?_,rv7,?_,λb hb=>?_,w7⟩
   ·exact (below p.1 (fplt p.1 (Ab hp').1)).2 e
   ·refine I7.pin p (aE _ ?_);rw[aI.mp hp'];exact bq
   ·exact T.keep _ _ _ st5 λb hb o e=>(I7.pin (b,o) (aE _ (bm _ (je hb e)))).1
   ·obtain ⟨o,e,_⟩:=T.obj _ _ st5 b hb;exact (I7.pin (b,o) (aE _ (bm _ (je hb e)))).2.1
 exact codeAny_compStart_list (loop _ rfl) (T.self X.A 0 _ _ _ hst₁ (loop _ rfl))
theorem Sg{X:Cx}{elt tg iter:Expr}{ifs:List Expr}{lim:Bool}{rest:List Comprehension}{em:Value->Env->Sem Fin->Sem Fin}{scope:Scope}{pos:Pos}{wi:TI}(N':List Str)(cap:List (Option Nat))(hc:X.calm=true)(hi:PI X tg iter wi)(hcap:Caps X scope N' cap)
  (hcell:scope.names.all (λy=>y.2 != NameKind.cell)=true) (hnames:scope.names.all (λy=>y.2 != NameKind.local||scope.names.lookup y.1==some NameKind.local)=true)
  (hfr:scope.names.all (λy=>y.2 != NameKind.free||(X.env.kindOf y.1==some NameKind.cell||X.env.kindOf y.1==some NameKind.free))=true)
  (hkind:scope.kind=.function) (hs:∀x,foldedSetIterable iter X.env x=pure x) (hT:jh (.ListComp elt (⟨tg,iter,ifs,0⟩::rest) scope pos) 0 tg iter em):
  PE X (.ListComp elt (⟨tg,iter,ifs,0⟩::rest) scope pos) (uT lim X N' scope tg em wi cap):=by
 intro pins s Y H Q I h;have hnames':∀y∈scope.names,y.2=NameKind.local->scope.names.lookup y.1=some NameKind.local:=λy hy hl=>by
  have:=bX.mp hnames y hy;simpa [hl] using this
 have hcs:∀y∈scope.names,y.2=NameKind.free->(X.env.cells.lookup y.1).isSome=true:=λy hy hl=>by
  have:=bX.mp hfr y hy;obtain ⟨c,e⟩:=I.ok.has y.1 (by simpa [hl] using this);rw[e];rfl
 rw[eval_ListComp];refine wpAny_comprehension_free (use:=none) (Q:=EP X pins Y Q) rfl hs (uL hcs) hkind hnames'
  (BX (RR:=λacc C=>compPost (model X.prog X.w) X.A X.xe none (EP X pins Y Q) acc C) N' cap hc hi hcap hcell hfr hkind hT I h λL C H' s4 m I4 q hn fC=>?_)
 obtain ⟨f0,f1,f2,f3,f4,f5⟩:=fC;exact ⟨m,hn,λh' hs'=>⟨.ref L,H',I4.turned (t':=s4.toks) (it:=C) (λb o hb e=>hs'.extBut b o hb e) f0 f1 f3 f4 f5,rfl,q⟩⟩
theorem Sq{X:Cx}{elt tg iter:Expr}{ifs:List Expr}{lim:Bool}{rest:List Comprehension}{em:Value->Env->Sem Fin->Sem Fin}{scope:Scope}{pos py spos:Pos}{wi:TI}{i:Nat}{y:Str}(hT:jh (.ListComp elt (⟨tg,iter,ifs,0⟩::rest) scope pos) 0 tg iter em)(hN:X.N.Nodup)(hiy:X.N[i]?=some y)(hy:Loc X.env.scope y)(N':List Str)(cap:List (Option Nat))(hc:X.calm=true)(hi:PI X tg iter wi)(hcap:Caps X scope N' cap)
  (hcell:scope.names.all (λy=>y.2 != NameKind.cell)=true:=by rfl) (hnames:scope.names.all (λy=>y.2 != NameKind.local||scope.names.lookup y.1==some NameKind.local)=true:=by rfl)
  (hfr:scope.names.all (λy=>y.2 != NameKind.free||(X.env.kindOf y.1==some NameKind.cell||X.env.kindOf y.1==some NameKind.free))=true:=by rfl)
  (hkind:scope.kind=.function:=by rfl) (hs:∀x,foldedSetIterable iter X.env x=pure x:=by intro _;rfl)
  (hsw:swapsWith (.ListComp elt (⟨tg,iter,ifs,0⟩::rest) scope pos) (some (.Name y py)) spos.line X.env=pure true:=by rfl)
  (hf:X.fn y=true\/X.env.scope.names.lookup y=some .local:=by first |exact .inl rfl |exact .inr rfl |assumption):
  PS X (.Assign [.Name y py] (.ListComp elt (⟨tg,iter,ifs,0⟩::rest) scope pos) spos) (pP (uT lim X N' scope tg em wi cap) (jZ i)):=by
 intro pins s Y H D I h;have hnames':∀y∈scope.names,y.2=NameKind.local->scope.names.lookup y.1=some NameKind.local:=λy hy hl=>by
  have:=bX.mp hnames y hy;simpa [hl] using this
 have hcs:∀y∈scope.names,y.2=NameKind.free->(X.env.cells.lookup y.1).isSome=true:=λy hy hl=>by
  have:=bX.mp hfr y hy;obtain ⟨c,e⟩:=I.ok.has y.1 (by simpa [hl] using this);rw[e];rfl
 rw[exec_Assign_Name_used _ _ _ _ hsw];refine ab (wpAny_standAt (ab ?_));show wpAny _ X.A (do let _ <-comprehension (.ListComp elt (⟨tg,iter,ifs,0⟩::rest) scope pos) scope X.env _ (newList []) false (eval iter X.env) (some (assign (.Name y py) X.env))) _ _ s;refine ab (ca (wpAny_comprehension_free (use:=some (assign (.Name y py) X.env)) (Q:=λ_ s'=>SP X pins D .next s') rfl hs (uL hcs) hkind hnames'
  (BX (RR:=λacc C=>compPost (model X.prog X.w) X.A X.xe (some (assign (.Name y py) X.env)) (λ_ s'=>SP X pins D .next s') acc C) N' cap hc hi hcap hcell hfr hkind hT I h λL C H' s4 m I4 q hn fC=>?_)) (λ_ s' hq=>av (av hq)) λ_ _ e=>e)
 obtain ⟨oC,es,ep,eC,rC⟩:=id hn;obtain ⟨f0,f1,f2,f3,f4,f5⟩:=fC;have ncell:∀v,oC.data≠.cell v:=λv z=>by rw[rC.1]at z;cases z
 have I5:Inv X (pins++[(C,oC)]) Y H' s4:=I4.pins_of λp hp=>by
  rcases a8.mp hp with z |z
  ·exact I4.pin p (aE _ z)
  ·have e:p=_:=aI.mp z;subst e;exact ⟨eC,f0,f1,f2,ncell⟩
 refine wpAny_assign_Name (pM I5 hN hiy hy (v:=.ref L) (u:=.ref L) rfl (λs5 I6=>?_) hf);have eC5:s5.heap.get? C=some oC:=(I6.pin (C,oC) (aE _ (aE _ (aI.mpr rfl)))).1;have I7:Inv X pins (Y.set i (some (.ref L))) H' s5:=I6.pins_of λp hp=>I6.pin p (aE _ (List.mem_append_left _ hp));refine ⟨m,⟨oC,es,ep,eC5,rC⟩,λh'' hs''=>?_⟩;exact ⟨_,H',I7.turned (t':=s5.toks) (it:=C) (λb o hb e=>hs''.extBut b o hb e) f0 f1 f3 f4 f5,q⟩
open HT
end L2
namespace PySem
open Sem (wp)
open Builtin Builtin.Str
open AutoSeq1 (wpAny_loadPart')
end PySem
namespace RF
open PySem L2 PySem.Builtin PySem.Builtin.Str PySem.StrLaws
def p8(c:Nat):List Nat->List (List Nat)
 |[]=>[[]]
 |x::r=>if x=c then []::p8 c r else (x::(p8 c r).headD [])::(p8 c r).tail
end RF
namespace L2
open PySem PySem.Spec PyProof.Rows
open Builtin Builtin.ObjectAttr
open PySem.W (findIn mroIn clsIn typeIn Looks InstAt looks_findIn looks_mroIn looks_typeIn looks_clsIn takerIn takesIn hasDictIn looks_takesIn check_slot osa_eq)
def exO(C l:Addr)(dx:Option Addr):Obj:=⟨.ref C,dx,.fields #[.ref l,.none,.none,.none,.bool false,.none],#[]⟩
open PySem.W (findIn mroIn clsIn typeIn takerIn specialIn findCls readsIn)
def Ss(f:Addr):Option Value->Bool
 |some (.ref a)=>a==f
 |_=>false
def Su(K:PF)(N f:Addr):Bool:=match K.lookup N with
 |some ⟨_,_,.dict es _,_⟩=>es.toList.all (λe=>BL e.key)&&Ss f (nsFind es "__init__")
 |_=>false
def Sv(K:PF)(C f:Addr):Bool:=match K.lookup C with
 |some ⟨ty,_,.cls cd,⟨[_,_,_,_,k,_]⟩⟩=>BP ty&&isNew k&&Su K cd.ns f&&!cd.hasDel&&(match cd.mro with |v::tl=>isRef C v&&uP K tl |[]=>false)
 |_=>false
def BZ(e C l:Addr)(dx:Option Addr):Heap->Prop:=λh=>h.get? e=some (exO C l dx)
section
variable {prog:Program} {w:World} {A:Around} {E:Value->Shared->Prop} {s:Shared} {a:Addr} {ks:List Str} {L:Bool} {k:Str} {tk:Tok}
def putK(ks:List Str)(k:Str):List Str:=if k∈ks then ks else ks++[k]
end
def met(val:Nat->Str)(i:Nat):List Str:=(List.range i).foldl (λks j=>putK ks (val j)) []
section
variable {prog:Program} {w:World} {A:Around} {E:Value->Shared->Prop} {s:Shared} {κ:PyProof.Rows.KeyKind}
def okK(κ:PyProof.Rows.KeyKind)(p:Keyed):Prop:=∃a,κ.keyOf p.1=some a
def okA(κ:PyProof.Rows.KeyKind)(xs:Array Keyed):Prop:=∀p,p∈xs.toList->okK κ p
theorem nb{a b:Nat}(h:¬(a==b)=true):a≠b:=λz=>h (aT.mpr z)
end
section
variable {κ:Type} [DecidableEq κ]
def bI(kvs:List (κ×V))(k:κ):Option V:=(kvs.find? λkv=>decide (kv.1=k)).map (·.2)
def putD(kvs:List (κ×V))(k:κ)(v:V):List (κ×V):=
 if (kvs.any λkv=>decide (kv.1=k))=true then kvs.map (λkv=>if kv.1=k then (kv.1,v) else kv) else kvs++[(k,v)]
theorem dF{p:κ×V}{r:List (κ×V)}{k:κ}(e:p.1=k):bI (p::r) k=some p.2:=by simp[bI,d5,e]
theorem dG{p:κ×V}{r:List (κ×V)}{k:κ}(e:¬p.1=k):bI (p::r) k=bI r k:=by simp[bI,d5,e]
theorem qb(k:κ):∀kvs:List (κ×V),(kvs.any λkv=>decide (kv.1=k))=(bI kvs k).isSome
 |[]=>rfl
 |p::r=>by
  rw[List.any_cons];by_cases e:p.1=k
  ·simp only[dF e,bo e,Bool.true_or,Option.isSome_some]
  ·rw[dG e,bn e,Bool.false_or];exact qb k r
theorem Ca(k j:κ)(y:V):∀kvs:List (κ×V),bI (kvs.map λkv=>if kv.1=k then (kv.1,y) else kv) j=(bI kvs j).map λx=>if j=k then y else x
 |[]=>rfl
 |p::r=>by
  have ih:=Ca k j y r;rw[bi];by_cases h:p.1=k
  ·rw[if_pos h];by_cases e:p.1=j
   ·rw[dF (p:=(p.1,y)) e,dF e,d4,if_pos (e.symm.trans h)]
   ·rw[dG (p:=(p.1,y)) e,dG e,ih]
  ·rw[if_neg h];by_cases e:p.1=j
   ·rw[dF (p:=p) e,dF e,d4,if_neg (λz=>h (e.trans z))]
   ·rw[dG (p:=p) e,dG e,ih]
theorem Cd(k j:κ)(y:V):∀kvs:List (κ×V),bI kvs k=none->bI (kvs++[(k,y)]) j=if j=k then some y else bI kvs j
 |[],_=>by
  by_cases e:k=j
  ·rw[if_pos e.symm];exact dF (p:=(k,y)) e
  ·rw[if_neg (λz=>e z.symm)];exact dG (p:=(k,y)) e
 |p::r,hn=>by
  rw[List.cons_append];have hk:¬p.1=k:=λz=>by rw[dF z]at hn;cases hn
  rw[dG hk]at hn;have ih:=Cd k j y r hn;by_cases e:p.1=j
  ·rw[dF e,dF e,if_neg (λz=>hk (e.trans z))]
  ·rw[dG e,dG e,ih]
theorem Sw(kvs:List (κ×V))(k j:κ)(y:V):bI (putD kvs k y) j=if j=k then some y else bI kvs j:=by
 unfold putD;by_cases a:(kvs.any λkv=>decide (kv.1=k))=true
 ·rw[if_pos a,Ca];rw[qb]at a;by_cases e:j=k
  ·obtain ⟨x,hx⟩:=bB.mp a;rw[if_pos e,e,hx,d4,if_pos rfl]
  ·rw[if_neg e];cases bI kvs j with
   |none=>rfl
   |some x=>rw[d4,if_neg e]
 ·rw[if_neg a];refine Cd k j y kvs ?_;rw[qb]at a;cases q:bI kvs k with
  |none=>rfl
  |some x=>rw[q]at a;exact (a rfl).elim
theorem length_putD(kvs:List (κ×V))(k:κ)(v:V):(putD kvs k v).length<=kvs.length+1:=by
 unfold putD;split
 ·rw[af];omega
 ·rw[al,cS,fb];omega
theorem RelO.isSome_eq{o:Option V}{u:Option Value}(r:RelO o u):o.isSome=u.isSome:=by
 cases o with
 |none=>cases u with
  |none=>rfl
  |some _=>exact (show False from r).elim
 |some _=>cases u with
  |none=>exact (show False from r).elim
  |some _=>rfl
theorem RelO.getD{o:Option V}{u:Option Value}{d:V}{d':Value}(r:RelO o u)(rd:RelV d d'):RelV (o.getD d) (u.getD d'):=by
 cases o with
 |none=>cases u with
  |none=>exact rd
  |some _=>exact (show False from r).elim
 |some _=>cases u with
  |none=>exact (show False from r).elim
  |some _=>exact r
theorem KV.val{kvs:List (κ×V)}{vs:List (κ×Value)}(r:KV kvs vs)(k:κ):RelO (bI kvs k) (valueAt vs k):=by
 unfold KV at r;induction r with
 |nil=>exact eR
 | @cons p q ps qs h t ih=>
  obtain ⟨h1,h2⟩:=h;by_cases e:p.1=k
  ·have e':q.1=k:=h1.symm.trans e;have b:valueAt (q::qs) k=some q.2:=by simp[valueAt,d5,e']
   rw[dF e,b];exact h2
  ·have e':¬q.1=k:=λz=>e (h1.trans z);have b:valueAt (q::qs) k=valueAt qs k:=by simp[valueAt,d5,e']
   rw[dG e,b];exact ih
theorem KV.any{kvs:List (κ×V)}{vs:List (κ×Value)}(r:KV kvs vs)(k:κ):(kvs.any λkv=>decide (kv.1=k))=vs.any λkv=>decide (kv.1=k):=by
 unfold KV at r;induction r with
 |nil=>rfl
 |cons h t ih=>rw[List.any_cons,List.any_cons,ih,h.1]
theorem KV.repl{kvs:List (κ×V)}{vs:List (κ×Value)}(r:KV kvs vs)(k:κ){y:V}{u:Value}(ry:RelV y u):
  KV (kvs.map λkv=>if kv.1=k then (kv.1,y) else kv) (vs.map λkv=>if kv.1=k then (kv.1,u) else kv):=by
 unfold KV at r ⊢;induction r with
 |nil=>exact .nil
 | @cons p q ps qs h t ih=>
  rw[bi,bi];refine .cons ?_ ih;obtain ⟨h1,h2⟩:=h;by_cases e:p.1=k
  ·rw[if_pos e,if_pos (h1.symm.trans e)];exact ⟨h1,ry⟩
  ·rw[if_neg e,if_neg (λz=>e (h1.trans z))];exact ⟨h1,h2⟩
theorem KV.put{kvs:List (κ×V)}{vs:List (κ×Value)}(r:KV kvs vs)(k:κ){y:V}{u:Value}(ry:RelV y u):KV (putD kvs k y) (stored vs k u):=by
 unfold putD stored;rw[r.any k];by_cases e:(vs.any λkv=>decide (kv.1=k))=true
 ·rw[if_pos e,if_pos e];exact r.repl k ry
 ·rw[if_neg e,if_neg e];exact Paired.snoc r ⟨rfl,ry⟩
theorem KV.keys{kvs:List (κ×V)}{vs:List (κ×Value)}(r:KV kvs vs):kvs.map (·.1)=vs.map (·.1):=by
 unfold KV at r;induction r with
 |nil=>rfl
 |cons h t ih=>rw[bi,bi,ih,h.1]
theorem KV.length{kvs:List (κ×V)}{vs:List (κ×Value)}(r:KV kvs vs):kvs.length=vs.length:=Paired.length r
end
theorem qe{P:Program}{w:World}{k:Key}{u:Value}(r:RelV (kV k) u):(bN P w).is k u=true:=by
 cases k with
 |inl i=>obtain ⟨t,e⟩:=(show ∃t,u=Value.int i t from r);subst e;exact zN P w i t
 |inr x=>obtain ⟨t,e⟩:=(show ∃t,u=Value.str x t from r);subst e;exact zO P w x t
theorem Ce{P:Program}{w:World}:∀{ks:List Key}{us:List Value},Vals (ks.map kV) us->ItemsAre (bN P w) ks us
 |[],_,r=>by rw[fi]at r;cases r;exact .nil
 |k::ks,_,r=>by
  rw[bi]at r;cases r with
  |cons h t=>exact .cons (qe h) (Ce t)
abbrev KT(H:Hp):List (List Key×V)->List (List Key×Addr×Value)->Prop:=Paired λp q=>p.1=q.1/\H q.2.1=some (.tup (p.1.map kV))/\RelV p.2 q.2.2
theorem KT.val{H:Hp}{kvs:List (List Key×V)}{xs:List (List Key×Addr×Value)}(r:KT H kvs xs)(k:List Key):RelO (bI kvs k) ((atKey xs k).map (·.2)):=by
 induction r with
 |nil=>exact eR
 | @cons p q ps qs h t ih=>
  obtain ⟨h1,_,h2⟩:=h;by_cases e:p.1=k
  ·have e':q.1=k:=h1.symm.trans e;have b:atKey (q::qs) k=some q.2:=by simp[atKey,d5,e']
   rw[dF e,b];exact h2
  ·have e':¬q.1=k:=λz=>e (h1.trans z);have b:atKey (q::qs) k=atKey qs k:=by simp[atKey,d5,e']
   rw[dG e,b];exact ih
theorem KT.repl{H:Hp}{kvs:List (List Key×V)}{xs:List (List Key×Addr×Value)}(r:KT H kvs xs)(k:List Key){y:V}{u:Value}(ry:RelV y u):
  KT H (kvs.map λkv=>if kv.1=k then (kv.1,y) else kv) (xs.map (putAt k u)):=by
 induction r with
 |nil=>exact .nil
 | @cons p q ps qs h t ih=>
  rw[bi,bi];refine .cons ?_ ih;obtain ⟨h1,h2,h3⟩:=h;unfold putAt;by_cases e:p.1=k
  ·rw[if_pos e,if_pos (h1.symm.trans e)];exact ⟨h1,h2,ry⟩
  ·rw[if_neg e,if_neg (λz=>e (h1.trans z))];exact ⟨h1,h2,h3⟩
theorem KT.put{H:Hp}{kvs:List (List Key×V)}{xs:List (List Key×Addr×Value)}(r:KT H kvs xs)(k:List Key){b:Addr}{y:V}{u:Value}(hb:H b=some (.tup (k.map kV)))(ry:RelV y u):
  KT H (putD kvs k y) (storedH xs k b u):=by
 have e:(kvs.any λkv=>decide (kv.1=k))=(atKey xs k).isSome:=by rw[qb,(r.val k).isSome_eq,Option.isSome_map]
 unfold putD storedH;rw[e];by_cases q:(atKey xs k).isSome=true
 ·rw[if_pos q,if_pos q];exact r.repl k ry
 ·rw[if_neg q,if_neg q];exact Paired.snoc r ⟨rfl,hb,ry⟩
theorem KT.keeps{H H':Hp}{kvs:List (List Key×V)}{xs:List (List Key×Addr×Value)}(r:KT H kvs xs)(ht:∀b ys,H b=some (.tup ys)->H' b=some (.tup ys)):KT H' kvs xs:=
 Paired.mapP r λ_ _ z=>⟨z.1,ht _ _ z.2.1,z.2.2⟩
section
variable {P:Program} {w:World} {H:Hp} {h:Heap} {a:Addr}
theorem Cg{u:HO}(ok:HOk P w H h)(e:Rd H a u):ObjOk P w H h a u:=e.ok ok
theorem uU{kvs:List (Key×V)}(ok:HOk P w H h)(e:Rd H a (.dK kvs)):kvs.length<=sizeLine/\(a==sysModules)=false/\∃vs,KV kvs vs/\h.DictOf (bN P w) a vs:=
 show ObjOk P w H h a (.dK kvs) from Cg ok e
theorem uV{kvs:List (Key×V)}(ok:HOk P w H h)(e:H a=some (.dK kvs)):kvs.length<=sizeLine/\(a==sysModules)=false/\∃vs,KV kvs vs/\h.DictOf (bN P w) a vs:=uU ok (.inl e)
theorem uW{ks:List Key}(ok:HOk P w H h)(e:H a=some (.tup (ks.map kV))):(tupleKind (bN P w)).is h ks a:=by obtain ⟨_,its,r,o,h1,h2,n,h3⟩:=(show ObjOk P w H h a (.tup (ks.map kV)) from ok a _ e);exact ⟨o,its.toArray,n,h1,h2,h3,by simpa using Ce r⟩
theorem uX{kvs:List (List Key×V)}(ok:HOk P w H h)(e:Rd H a (.dT kvs)):kvs.length<=sizeLine/\(a==sysModules)=false/\
  ∃xs,KT H kvs xs/\h.DictOfH (tupleKind (bN P w)) a xs:=by
 obtain ⟨z,y,xs,r,o,es,ep,h1,h2,h3,h4,h5⟩:=(show ObjOk P w H h a (.dT kvs) from Cg ok e);refine ⟨z,y,xs,r,o,es,ep,h1,h2,h3,h4,λx hx=>?_,h5⟩;have all:∀{l:List (List Key×V)}{m:List (List Key×Addr×Value)},KT H l m->∀x∈m,(tupleKind (bN P w)).is h x.1 x.2.1:=by
  intro l m q;induction q with
  |nil=>intro x hx;exact nomatch hx
  | @cons p q ps qs hq t ih=>
   intro x hx;rcases bP.mp hx with e |hx
   ·subst e;exact uW ok (by rw[<-hq.1];exact hq.2.1)
   ·exact ih x hx
 exact all r x hx
theorem Sy{kvs:List (List Key×V)}(ok:HOk P w H h)(e:H a=some (.dT kvs)):kvs.length<=sizeLine/\(a==sysModules)=false/\
  ∃xs,KT H kvs xs/\h.DictOfH (tupleKind (bN P w)) a xs:=uX ok (.inl e)
end
def qg(H:Hp)(a:Addr)(y:V)(r:Option V):Prop:=
 (∃kvs k,Rd H a (.dK kvs)/\y=kV k/\r=bI kvs k)\/∃kvs k b,Rd H a (.dT kvs)/\y=.ref b/\H b=some (.tup (k.map kV))/\r=bI kvs k
def DPut(H:Hp)(a:Addr)(y v:V)(H':Hp):Prop:=
 (∃kvs k,H a=some (.dK kvs)/\y=kV k/\kvs.length < sizeLine/\H'=upd H a (.dK (putD kvs k v)))\/
 ∃kvs k b,H a=some (.dT kvs)/\y=.ref b/\H b=some (.tup (k.map kV))/\kvs.length < sizeLine/\H'=upd H a (.dT (putD kvs k v))
theorem DPut.k{H:Hp}{a:Addr}{kvs:List (Key×V)}{k:Key}{v:V}(e:H a=some (.dK kvs))(hl:kvs.length < sizeLine):DPut H a (kV k) v (upd H a (.dK (putD kvs k v))):=.inl ⟨kvs,k,e,rfl,hl,rfl⟩
section
variable {X:Cx} {pins:List (Addr×Obj)} {σ:St} {H:Hp} {s:Shared} {a:Addr} {y v:V} {u r:Value} {o:Option V} {A:Around} {E:Value->Shared->Prop}
theorem Inv.big(I:Inv X pins σ H s):sysModules < (~~~s):=by have h:mainGlobals < (~~~s):=(I.mod.glob.keeps I.bk).lt;exact Nat.lt_trans (by decide) h
theorem SJ{Q:Value->Shared->Prop}(hu:A.units+1 < cLine)(I:Inv X pins σ H s)(g:qg H a y (some v))(ry:RelV y u)(h:∀w' s',Inv X pins σ H s'->RelV v w'->Q w' s'):
  wpAny (model X.prog X.w) A (getItem (.ref a) u) Q E s:=by
 rcases g with ⟨kvs,k,e,ey,l⟩ |⟨kvs,k,b,e,ey,eb,l⟩
 ·subst ey;obtain ⟨z,hd,vs,rel,dd⟩:=uU I.hok e;obtain ⟨w',hw,rw'⟩:=RelO.some_of (v:=v) (o:=valueAt vs k) (by rw[l];exact rel.val k);exact wpAny_getItem_of (qe ry) dd.mapOf hw (h w' _ (I.tok _) rw')
 ·subst ey;cases (show u=Value.ref b from ry);obtain ⟨z,hd,xs,rel,dd⟩:=uX I.hok e;obtain ⟨w',hw,rw'⟩:=RelO.some_of (v:=v) (o:=(atKey xs k).map (·.2)) (by rw[l];exact rel.val k);obtain ⟨p,hp,hp2⟩:=ar.mp hw;refine wpAny_getItem_heap (tupleKind_room_in1 hu) (uW I.hok eb) dd hp ?_;rw[hp2];exact h w' _ (I.tok _) rw'
theorem uY{h':Heap}{t':Nat}{ob:HO}(I:Inv X pins σ H s)(mu:Mut (H a))(hs:Heap.SameBut a s.heap h')(he:∃q,h'.get? a=some q)(new:ObjOk X.prog X.w (upd H a ob) h' a ob):
  Inv X pins σ (upd H a ob) { s with heap:=h',toks:=t' }:=
 I.write (x:=a) (e:=a) mu (.inl rfl) (λb q hb z=>(hs.2 b hb).trans z) he new
theorem SM{P:Program}{w:World}{H':Hp}{h':Heap}{kvs:List (Key×V)}{vs:List (Key×Value)}(z:kvs.length<=sizeLine)(hd:(a==sysModules)=false)(rel:KV kvs vs)(dd:h'.DictOf (bN P w) a vs):
  ObjOk P w H' h' a (.dK kvs):=⟨z,hd,vs,rel,dd⟩
theorem SN{H':Hp}{Q:Unit->Shared->Prop}(hu:A.units+1 < cLine)(I:Inv X pins σ H s)(g:DPut H a y v H')(ry:RelV y u)(rv:RelV v r)(h:∀s',Inv X pins σ H' s'->Q () s'):
  wpAny (model X.prog X.w) A (setItem (.ref a) u r) Q E s:=by
 rcases g with ⟨kvs,k,e,ey,l,eH⟩ |⟨kvs,k,b,e,ey,eb,l,eH⟩
 ·subst ey eH;obtain ⟨z,hd,vs,rel,dd⟩:=uV I.hok e;have hz:vs.length<=sizeLine:=by rw[<-rel.length];exact z
  have hl:(putD kvs k v).length<=sizeLine:=by have:=length_putD kvs k v;omega
  refine wpAny_setItem_pairs (hsz:=hz) (qe ry) dd λh' dd' hs=>h _ ?_;have he:∃q,h'.get? a=some q:=let ⟨q,_,_,hq,_⟩:=dd';⟨q,hq⟩;exact uY I (by rw[e];exact eR) hs he (SM hl hd (rel.put k rv) dd')
 ·subst ey eH;cases (show u=Value.ref b from ry);obtain ⟨z,hd,xs,rel,dd⟩:=Sy I.hok e;have hz:xs.length<=sizeLine:=by rw[<-Paired.length rel];exact z
  have hl:(putD kvs k v).length<=sizeLine:=by have:=length_putD kvs k v;omega
  refine wpAny_setItem_heap (hsz:=hz) (tupleKind_room_in1 hu) (uW I.hok eb) dd λh' dd' hs=>h _ ?_;obtain ⟨q,es,ep,hq,h2,h3,h4,_,h5⟩:=dd';refine uY I (by rw[e];exact eR) hs ⟨q,hq⟩ ⟨hl,hd,_,(rel.put k eb rv).keeps λc ys ec=>?_,q,es,ep,hq,h2,h3,h4,h5⟩;rw[aH (uB ec e (λz=>nomatch z))];exact ec
end
def Ci(i:Expr):Prop:=∀ov iv,subscripted i false ov iv=operate [ov,iv] (getItem ov iv)
theorem SQ{prog:Program}{w:World}{A:Around}{E:Value->Shared->Prop}{s:Shared}{env:Env}{value slice:Expr}{pos:Pos}{T id:String}{Q:Value->Shared->Prop}
  (hl:typeLookup (.type T) "__getitem__"=pure (some (.builtin id))) (hs:Ci slice)
  (h:wpAny (model prog w) A (eval value env) (λo s₁=>wpAny (model prog w) A (eval slice env) (λi s₂=>s₂.TypeIs o T/\wpAny (model prog w) A (getItem o i) Q E s₂) E s₁) E s):
  wpAny (model prog w) A (eval (.Subscript value slice pos) env) Q E s:=by
 refine Subscript_ (ca h (λo s₁ h₁=>ca h₁ (λi s₂ h₂=>?_) λ_ _ x=>x) λ_ _ x=>x);obtain ⟨hT,h₂⟩:=h₂;unfold subscriptTail;refine ab ?_;rw[getitemInPython_of_ne hT.not_modules];refine ab (wpAny_specialOf hT hl ?_);have fin:wpAny (model prog w) A (subscripted slice false o i) (λr s₃=>wpAny (model prog w) A (letTemporaryGo value o r >>= λ_=>pure r) Q E s₃) E s₂:=by rw[hs o i];exact wpAny_operating (ca h₂ (λr s₃ h₃=>ab (wpAny_letTemporaryGo (av h₃))) λ_ _ x=>x)
 first
  |exact av (ab fin)
  |exact ab (av (ab fin))
  |exact ab fin
theorem SX {X:Cx} {pins:List (Addr×Obj)} {Y:St} {H:Hp} {s:Shared} {a:Addr} {y:V} {o:Option V} (I:Inv X pins Y H s) (g:qg H a y o):s.TypeIs (.ref a) "dict":=by
 rcases g with ⟨kvs,k,e,_,_⟩ |⟨kvs,k,b,e,_,_,_⟩
 ·obtain ⟨_,_,vs,_,dd⟩:=uU I.hok e;exact dd.typeIs
 ·obtain ⟨_,_,xs,_,dd⟩:=uX I.hok e;exact dd.typeIs
def S5(td ty:TE):TE:=λY H Q=>td Y H λx H1=>ty Y H1 λy H2=>∃a v,x=.ref a/\qg H2 a y (some v)/\Q v H2
def S6(td ty tv:TE):TS:=λD Y H=>tv Y H λv H1=>td Y H1 λx H2=>ty Y H2 λy H3=>∃a H4,x=.ref a/\DPut H3 a y v H4/\D.nx Y H4
section
variable {X:Cx} {o i e value:Expr} {pos pos' tpos:Pos} {td ty tv:TE}
theorem Cj(hu:X.A.units+1 < cLine)(ho:PE X o td)(hi:PE X i ty)(hs:Ci i):PE X (.Subscript o i pos) (S5 td ty):=by intro pins s Y H Q I h;refine SQ PySem.F.slot_dict_getitem.lookup hs (thn (ho pins s Y H _ I h) λu s1 ⟨x,H1,I1,rx,q1⟩=>thn (hi pins s1 Y H1 _ I1 q1) λiv s2 ⟨y,H2,I2,ry,a,v,ex,g,q2⟩=>?_);subst ex;obtain rfl:u=Value.ref a:=rx;exact ⟨SX I2 g,SJ hu I2 g ry λw' s3 I3 rw'=>⟨v,H2,I3,rw',q2⟩⟩
theorem Ck(hu:X.A.units+1 < cLine)(ho:PE X o td)(hi:PE X i ty)(hv:PE X value tv)(hs:swapsWith value (some (.Subscript o i pos')) pos.line X.env=pure false):
  PS X (.Assign [.Subscript o i pos'] value pos) (S6 td ty tv):=by
 intro pins s Y H D I h;refine wpAny_Assign_Subscript (thn (hv pins s Y H _ I h) λr s1 ⟨v,H1,I1,rv,q1⟩=>thn (ho pins s1 Y H1 _ I1 q1) λu s2 ⟨x,H2,I2,rx,q2⟩=>thn (hi pins s2 Y H2 _ I2 q2) λiv s3 ⟨y,H3,I3,ry,a,H4,ex,g,q3⟩=>?_) hs;subst ex;obtain rfl:u=Value.ref a:=rx;exact SN hu I3 g ry rv λs4 I4=>⟨Y,H4,I4,q3⟩
end
theorem S7 {P:Program} {w:World} {H:Hp} (h:Heap) (hb:sysModules < h.objs.size):ObjOk P w H (h.push { cls:=.type "dict",data:=.dict #[] }) h.objs.size (.dK []):=
 ⟨eS _,b9.mpr (Ne.symm (b5 hb)),[],.nil,Heap.DictOf.new h⟩
def S8:TE:=λ_ H Q=>∀p,H p=none->Q (.ref p) (upd H p (.dK []))
section
variable {X:Cx} {pos:Pos}
theorem S9:PE X (.Dict [] [] pos) S8:=λpins s Y H Q I h=>
 wpAny_Dict_empty ⟨.ref (~~~s),_,I.laid (a:=(~~~s)) (o:=.dK []) (t':=s.toks) (λ_ _ q=>ah _ q) (ax _) (S7 s.heap I.big),rfl,h _ (I.hok.fresh (ax _))⟩
end
end L2
namespace PyProof.Rows
open PySem PySem.W
structure Ord(n:Nat)(r:Nat->Nat->Bool):Prop where
 tr:∀i j k,i < n->j < n->k < n->r i j=true->r j k=true->r i k=true
 tot:∀i j,i < n->j < n->i≠j->r i j=false->r j i=true
 asm:∀i j,i < n->j < n->r i j=true->r j i=false
def TW{α:Type}(n:Nat)(r:Nat->Nat->Bool):KasT α->(α->Prop)->Prop
 |.ret a,Q=>Q a
 |.ask i j k,Q=>i < n/\j < n/\TW n r (k (r i j)) Q
theorem TW.bind{α β:Type}{n:Nat}{r:Nat->Nat->Bool}{f:α->KasT β}{Q:β->Prop}:∀(t:KasT α),TW n r t (λa=>TW n r (f a) Q)->TW n r (t.bind f) Q
 |.ret _,h=>h
 |.ask i j k,⟨h1,h2,h⟩=>⟨h1,h2,TW.bind (k (r i j)) h⟩
theorem TW.run{α:Type}{n:Nat}{r:Nat->Nat->Bool}{cmp:Nat->Nat->(Bool->Shared->Prop)->Shared->Prop}{Q:α->Prop}{G:α->Shared->Prop}{s:Shared}(hc:∀i j (C:Bool->Shared->Prop),i < n->j < n->C (r i j) s->cmp i j C s)(hq:∀a,Q a->G a s):∀(t:KasT α),TW n r t Q->t.kasWp cmp G s
 |.ret _,h=>hq _ h
 |.ask i j k,⟨h1,h2,h⟩=>hc i j _ h1 h2 (TW.run hc hq (k (r i j)) h)
section
variable {n:Nat} {r:Nat->Nat->Bool}
def PrA(n:Nat)(p:Array Nat):Prop:=p.Perm (List.range n).toArray
abbrev gD(p:Array Nat)(i:Nat):Nat:=p.getD i 0
theorem PrA.size{p:Array Nat}(h:PrA n p):p.size=n:=by have:=Array.Perm.size_eq h;simpa using this
theorem uZ{p:Array Nat}{i:Nat}(hi:i < p.size):p[i]?=some (gD p i):=by rw[Array.getElem?_eq_getElem hi];simp[gD,Array.getD,hi]
theorem qi{p q:Array Nat}{i j:Nat}(h:p[i]?=q[j]?):gD p i=gD q j:=by simp only[gD,Array.getD_eq_getD_getElem?,h]
theorem PrA.lt{p:Array Nat}(h:PrA n p){i:Nat}(hi:i < n):gD p i < n:=by
 have hs:=h.size;have hm:gD p i∈p.toList:=by have e:=uZ (p:=p) (i:=i) (by omega);rw[<-Array.getElem?_toList]at e;exact List.mem_of_getElem? e
 have:=(Array.perm_iff_toList_perm.mp h).mem_iff.mp hm;simpa using this
theorem PrA.ne{p:Array Nat}(h:PrA n p){i j:Nat}(hi:i < n)(hj:j < n)(hne:i≠j):gD p i≠gD p j:=by intro e;have hs:=h.size;have hn:p.toList.Nodup:=(Array.perm_iff_toList_perm.mp h).nodup_iff.mpr (by simpa using List.nodup_range);have e1:=uZ (p:=p) (i:=i) (by omega);have e2:=uZ (p:=p) (i:=j) (by omega);rw[e]at e1;rw[<-Array.getElem?_toList]at e1 e2;exact hne ((List.getElem?_inj (by simpa using (by omega:i < p.size)) hn).mp (e1.trans e2.symm))
def SP(r:Nat->Nat->Bool)(p:Array Nat)(m:Nat):Prop:=∀i j,i < j->j < m->r (gD p i) (gD p j)=true
def DP(r:Nat->Nat->Bool)(p:Array Nat)(m:Nat):Prop:=∀i j,i < j->j < m->r (gD p j) (gD p i)=true
theorem u5(O:Ord n r){p:Array Nat}(h:PrA n p){Q:Nat->Prop}:∀(f a:Nat),1<=a->a+f<=n->SP r p a->(∀m,a<=m->m<=a+f->SP r p m->(m=a+f\/r (gD p m) (gD p (m - 1))=true)->Q m)->TW n r (kas_asc p f a) Q
 |0,a,_,_,hs,q=>q a (Nat.le_refl _) (Nat.le_refl _) hs (.inl rfl)
 |f+1,a,h1,ha,hs,q=>by
  refine ⟨h.lt (by omega),h.lt (by omega),?_⟩;cases e:r (p.getD a 0) (p.getD (a - 1) 0) with
  |true=>exact q a (Nat.le_refl _) (by omega) hs (.inr e)
  |false=>
   have e':=O.tot _ _ (h.lt (by omega)) (h.lt (by omega)) (h.ne (by omega) (by omega) (by omega:a≠a - 1)) e;refine u5 O h f (a+1) (by omega) (by omega) (λi j hij hj=>?_) λm m1 m2 ms mo=>q m (by omega) (by omega) ms (mo.imp (by omega) id);by_cases hja:j < a
   ·exact hs i j hij hja
   ·have:j=a:=by omega
    subst this;by_cases hi:i=j - 1
    ·subst hi;exact e'
    ·exact O.tr _ _ _ (h.lt (by omega)) (h.lt (by omega)) (h.lt (by omega)) (hs i (j - 1) (by omega) (by omega)) e'
theorem Cm(O:Ord n r){p:Array Nat}(h:PrA n p){Q:Array Nat×Nat×Nat->Prop}:∀(f a:Nat),1<=a->a+f<=n->DP r p a->(∀m,a<=m->m<=n->DP r p m->Q (p,m,0))->TW n r (kas_desc f p a 0) Q
 |0,a,_,ha,hs,q=>q a (Nat.le_refl _) (by omega) hs
 |f+1,a,h1,ha,hs,q=>by
  refine ⟨h.lt (by omega),h.lt (by omega),?_⟩;cases e:r (p.getD a 0) (p.getD (a - 1) 0) with
  |true=>
   refine Cm O h f (a+1) (by omega) (by omega) (λi j hij hj=>?_) λm m1 m2 ms=>q m (by omega) (by omega) ms;by_cases hja:j < a
   ·exact hs i j hij hja
   ·have:j=a:=by omega
    subst this;by_cases hi:i=j - 1
    ·subst hi;exact e
    ·exact O.tr _ _ _ (h.lt (by omega)) (h.lt (by omega)) (h.lt (by omega)) e (hs i (j - 1) (by omega) (by omega))
  |false=>
   have e':=O.tot _ _ (h.lt (by omega)) (h.lt (by omega)) (h.ne (by omega) (by omega) (by omega:a≠a - 1)) e;refine ⟨h.lt (by omega),h.lt (by omega),?_⟩;have e'':r (p.getD (a - 1) 0) (p.getD a 0)=true:=e';rw[e''];exact q a (Nat.le_refl _) (by omega) hs
theorem Cp{p:Array Nat}(h:PrA n p)(m:Nat):PrA n (kas_rev p 0 m):=(mirror_perm _ _ _ _).trans h
theorem Tc{p:Array Nat}(h:PrA n p){m:Nat}(hm:m<=n)(hs:DP r p m):SP r (kas_rev p 0 m) m:=by
 intro i j hij hj;have g:∀k,k < m->gD (kas_rev p 0 m) k=gD p (m - 1 - k):=λk hk=>qi (by
  have:=getElem?_mirror_all (xs:=p) (i:=0) (j:=m) (by rw[h.size];exact hm) k;rw[if_pos ⟨Nat.zero_le _,hk⟩]at this;rw[show 0+m - 1 - k=m - 1 - k by omega]at this;exact this)
 rw[g i (by omega),g j hj];exact hs _ _ (by omega) (by omega)
theorem Td(O:Ord n r){p:Array Nat}(h:PrA n p)(h1:1<=n){Q:Nat×Array Nat->Prop}(q:∀m p',PrA n p'->1<=m->m<=n->SP r p' m->Q (m,p')):TW n r (kas_count n p) Q:=by
 refine TW.bind _ (u5 O h (n - 1) 1 (Nat.le_refl _) (by omega) (λi j hij hj=>by omega) λm m1 m2 ms mo=>?_);by_cases hm:m=n
 ·rw[if_pos (by simpa using hm)];exact q m p h (by omega) (by omega) ms
 ·rw[if_neg (by simpa using hm)];by_cases hg:m > 1
  ·rw[if_pos hg];refine ⟨h.lt (by omega),h.lt (by omega),?_⟩;have e:r (p.getD 0 0) (p.getD (m - 1) 0)=true:=ms 0 (m - 1) (by omega) (by omega);rw[e];exact q m p h (by omega) (by omega) ms
  ·rw[if_neg hg];have e1:m=1:=by omega
   subst e1;have e:r (gD p 1) (gD p 0)=true:=mo.resolve_left (by omega);refine TW.bind _ (Cm O h (n - (1+1)) (1+1) (by omega) (by omega) (λi j hij hj=>?_) λm' m1' m2' hs=>?_)
   ·have:i=0:=by omega
    have:j=1:=by omega
    subst_vars;exact e
   ·rw[if_neg (by simp)];refine TW.bind _ (u5 O (Cp h m') (n - m') m' (by omega) (by omega) (Tc h m2' hs) λm3 a1 a2 a3 _=>?_);exact q m3 _ (Cp h m') (by omega) (by omega) a3
theorem u6(O:Ord n r){p:Array Nat}(h:PrA n p){k:Nat}(hk:k < n)(hs:SP r p k){Q:Nat->Prop}:∀(f l u:Nat),l<=u->u<=k->u - l<=f->(∀i,i < l->r (gD p i) (gD p k)=true)->(∀i,u<=i->i < k->r (gD p k) (gD p i)=true)->
  (∀m,m<=k->(∀i,i < m->r (gD p i) (gD p k)=true)->(∀i,m<=i->i < k->r (gD p k) (gD p i)=true)->Q m)->TW n r (kas_place p k f l u) Q
 |0,l,u,h1,h2,h3,a,b,q=>q l (by omega) a λi hi=>b i (by omega)
 |f+1,l,u,h1,h2,h3,a,b,q=>by
  unfold kas_place;by_cases hg:l≥u
  ·rw[if_pos hg];exact q l (by omega) a λi hi=>b i (by omega)
  ·rw[if_neg hg];refine ⟨h.lt (by omega),h.lt (by omega),?_⟩;cases e:r (p.getD k 0) (p.getD ((l+u) / 2) 0) with
   |true=>
    refine u6 O h hk hs f l ((l+u) / 2) (by omega) (by omega) (by omega) a (λi h1 h2=>?_) q;by_cases hi:i=(l+u) / 2
    ·subst hi;exact e
    ·exact O.tr _ _ _ (h.lt (by omega)) (h.lt (by omega)) (h.lt (by omega)) e (hs _ i (by omega) (by omega))
   |false=>
    have e':=O.tot _ _ (h.lt (by omega)) (h.lt (by omega)) (h.ne (by omega) (by omega) (by omega:k≠(l+u) / 2)) e;refine u6 O h hk hs f ((l+u) / 2+1) u (by omega) (by omega) (by omega) (λi h1=>?_) b q;by_cases hi:i=(l+u) / 2
    ·subst hi;exact e'
    ·exact O.tr _ _ _ (h.lt (by omega)) (h.lt (by omega)) (h.lt (by omega)) (hs i _ (by omega) (by omega)) e'
theorem Cq(O:Ord n r){Q:Array Nat->Prop}:∀(f:Nat)(p:Array Nat)(k:Nat),PrA n p->SP r p k->k+f=n->(∀p',PrA n p'->SP r p' n->Q p')->TW n r (kas_bin f p k) Q
 |0,p,k,h,hs,e,q=>q p h (by rw[<-e];exact hs)
 |f+1,p,k,h,hs,e,q=>by
  refine TW.bind _ (u6 O h (by omega) hs k 0 k (by omega) (by omega) (by omega) (λi hi=>by omega) (λi h1 h2=>by omega) λl hl a b=>?_);refine Cq O f _ (k+1) ((bubble_perm _ _ _).trans h) (λi j hij hj=>?_) (by omega) q;have g:∀x,gD (bubble p k (k - l)) x=if x=l then gD p k else if l < x/\x<=k then gD p (x - 1) else gD p x:=λx=>by
   have:=getElem?_bubble (xs:=p) (src:=k) (by rw[h.size];omega) (k - l) (by omega) x;rw[show k - (k - l)=l by omega]at this;by_cases h1:x=l
   ·rw[if_pos h1]at this ⊢;exact qi this
   ·rw[if_neg h1]at this ⊢;by_cases h2:l < x/\x<=k
    ·rw[if_pos h2]at this ⊢;exact qi this
    ·rw[if_neg h2]at this ⊢;exact qi this
  rw[g i,g j]
  repeat' split
  all_goals first
   | (exfalso;omega)
   |exact a _ (by omega)
   |exact b _ (by omega) (by omega)
   |exact hs _ _ (by omega) (by omega)
theorem Te(O:Ord n r)(h1:1<=n){Q:Array Nat->Prop}(q:∀p,PrA n p->SP r p n->Q p):TW n r (kas_sort n) Q:=by
 refine TW.bind _ (Td O (Array.Perm.refl _) h1 λm p' hp m1 m2 ms=>?_);dsimp only;by_cases hm:m < n
 ·rw[if_pos hm];refine Cq O _ _ _ hp ?_ (by omega) q;rw[show max m 1=m by omega];exact ms
 ·rw[if_neg hm];have:m=n:=by omega
  subst this;exact q p' hp ms
end
end PyProof.Rows
namespace PyProof.Rows
open PySem PySem.W
def TupAt (h:Heap) (v:Value) (k:Str×Int):Prop:=∃b o n t u,v=.ref b/\h.get? b=some o/\o.cls=.type "tuple"/\o.data=.seq #[.str k.1 t,.int k.2 u] n
def TupsAt(h:Heap)(vs:List Value)(ks:List (Str×Int)):Prop:=vs.length=ks.length/\∀(i:Nat) v k,vs[i]?=some v->ks[i]?=some k->TupAt h v k
def kLt(ks:List (Str×Int))(i j:Nat):Bool:=match ks[i]?,ks[j]? with
 |some a,some b=>decide (a.1.cps.toList < b.1.cps.toList)
 |_,_=>false
theorem kLt_at{ks:List (Str×Int)}{i j:Nat}(hi:i < ks.length)(hj:j < ks.length):kLt ks i j=decide (ks[i].1.cps.toList < ks[j].1.cps.toList):=by unfold kLt;rw[List.getElem?_eq_getElem hi,List.getElem?_eq_getElem hj]
theorem Cr{a b:Str}(h:a.cps.toList=b.cps.toList):a=b:=by cases a;cases b;simp only[Array.toList_inj]at h;subst h;rfl
theorem Tf{ks:List (Str×Int)}(hn:(ks.map (·.1)).Nodup):Ord ks.length (kLt ks) where
 tr:=λi j k hi hj hk a b=>by
  rw[kLt_at hi hj]at a;rw[kLt_at hj hk]at b;rw[kLt_at hi hk];exact decide_eq_true (List.lt_trans (of_decide_eq_true a) (of_decide_eq_true b))
 tot:=λi j hi hj hne a=>by
  rw[kLt_at hi hj]at a;rw[kLt_at hj hi];have a':=of_decide_eq_false a;refine decide_eq_true ?_;rcases List.le_total ks[i].1.cps.toList ks[j].1.cps.toList with h |h
  ·refine absurd ?_ hne;have e:ks[i].1.cps.toList=ks[j].1.cps.toList:=List.le_antisymm h (List.not_lt.mp a');have e2:=Cr e;have hi':i < (ks.map (·.1)).length:=by rw[List.length_map];exact hi
   refine (List.getElem?_inj hi' hn).mp ?_;rw[List.getElem?_map,List.getElem?_map,List.getElem?_eq_getElem hi,List.getElem?_eq_getElem hj];simp[e2]
  ·refine Classical.byContradiction λhh=>?_;have e:ks[i].1.cps.toList=ks[j].1.cps.toList:=List.le_antisymm (List.not_lt.mp hh) (List.not_lt.mp a');refine hne ?_;have e2:=Cr e;have hi':i < (ks.map (·.1)).length:=by rw[List.length_map];exact hi
   refine (List.getElem?_inj hi' hn).mp ?_;rw[List.getElem?_map,List.getElem?_map,List.getElem?_eq_getElem hi,List.getElem?_eq_getElem hj];simp[e2]
 asm:=λi j hi hj a=>by
  rw[kLt_at hi hj]at a;rw[kLt_at hj hi];exact decide_eq_false λh=>List.lt_asymm (of_decide_eq_true a) h
section
variable {prog:Program} {w:World} {A:Around} {E:Value->Shared->Prop} {s:Shared}
theorem Th{x y:Value}{a b:Str×Int}{Q:Bool->Shared->Prop}(hx:TupAt s.heap x a)(hy:TupAt s.heap y b)(hab:a.1=b.1->a=b)(h:Q (decide (a.1.cps.toList < b.1.cps.toList)) s):wpAny (model prog w) A (keyLt' (tuples' true) x y) Q E s:=by
 obtain ⟨p,o,n,t,u,rfl,ho,_,hd⟩:=hx;obtain ⟨p',o',n',t',u',rfl,ho',_,hd'⟩:=hy;refine kat_lt ho hd ho' hd' (kat_cons (eqBool_str ?_));by_cases e:a.1=b.1
 ·rw[e,BEq.rfl];have e2:=hab e;refine kat_yes (kat_cons (wpAny_eqBool_int ?_));rw[e2,BEq.rfl];refine kat_yes (kat_nil ?_);rw[e]at h;rw[decide_eq_false (List.lt_irrefl _)]at h;exact h
 ·rw[beq_eq_false_iff_ne.mpr e];exact kat_no (oneLt_str h)
theorem TupsAt.kat{h:Heap}:∀{vs:List Value}{ks:List (Str×Int)},TupsAt h vs ks->∃fs,KatTups h vs fs/\fs.length=vs.length/\∀v∈fs,∃k t,v=Value.str k t
 |[],_,_=>⟨[],trivial,rfl,λ_ h=>nomatch h⟩
 |v::vs,[],⟨e,_⟩=>by simp at e
 |v::vs,k::ks,⟨e,hk⟩=>by
  obtain ⟨fs,h1,h2,h3⟩:=TupsAt.kat (vs:=vs) (ks:=ks) ⟨by simpa using e,λi v' k' a b=>hk (i+1) v' k' (by simpa using a) (by simpa using b)⟩;obtain ⟨b,o,n,t,u,rfl,ho,hc,hd⟩:=hk 0 v k rfl rfl;refine ⟨.str k.1 t::fs,KatTups.cons ho hc hd rfl h1,by simp[h2],λx hx=>?_⟩;rcases List.mem_cons.mp hx with rfl |hx
  ·exact ⟨_,_,rfl⟩
  ·exact h3 x hx
theorem TupsAt.keep {h h':Heap} {vs:List Value} {ks:List (Str×Int)} (x:TupsAt h vs ks) (k:∀b o,h.get? b=some o->o.cls=.type "tuple"->h'.get? b=some o):TupsAt h' vs ks:=
 ⟨x.1,λi v kk a b=>by
  obtain ⟨p,o,n,t,u,e,ho,hc,hd⟩:=x.2 i v kk a b;exact ⟨p,o,n,t,u,e,k p o ho hc,hc,hd⟩⟩
def dY(vs:List Value)(p:List Nat):List Value:=p.map λi=>vs.getD i Value.none
theorem Ti {a:Addr} {vs:List Value} {ks:List (Str×Int)} {n:Nat} {P:Fin->Shared->Prop} (ho:s.heap.get? a=some (seqObj "list" vs.toArray n)) (ht:TupsAt s.heap vs ks) (hn:(ks.map (·.1)).Nodup) (h64:vs.length < 64)
  (h:∀p:List Nat,p.Perm (List.range ks.length)->p.Pairwise (λi j=>kLt ks i j=true)->P (.done (.ret .none)) { s with heap:=sortedHeap s.heap a vs (dY vs p).toArray }):
  wpAny (model prog w) A (Builtin.«list.sort» ⟨[.ref a],[]⟩) P E s:=by
 rw[list_sort_plain];have ha:a < (~~~s):=Heap.lt_size ho;refine wpAny_bind (listItems_at ho rfl ?_);refine wpAny_bind (listUpdate_at ho rfl ?_);obtain ⟨e1,ho1⟩:∃e1,(s.heap.update a (Obj.mapSeq λ_=>#[])).get? a=some (seqObj "list" #[] e1):=⟨_,get?_update_seq ho (λ_=>#[])⟩;refine wpAny_bind (seqEpoch_at ho1 rfl ?_);refine wpAny_bind (wpAny_newTuple ?_);refine wpAny_bind (wpAny_newList ?_);refine wpAny_holding ?_;have ho6:(((s.heap.update a (Obj.mapSeq λ_=>#[])).push (seqObj "tuple" vs.toArray 0)).push (seqObj "list" #[] 0)).get? a=some (seqObj "list" #[] e1):=by rw[Heap.get?_push_ne _ _ _ (by rw[size_push',Heap.size_update];exact Nat.ne_of_lt (Nat.lt_succ_of_lt ha)),Heap.get?_push_ne _ _ _ (by rw[Heap.size_update];exact Nat.ne_of_lt ha)];exact ho1
 show wpAny (model prog w) A _ P E { s with heap:=((s.heap.update a (Obj.mapSeq λ_=>#[])).push (seqObj "tuple" vs.toArray 0)).push (seqObj "list" #[] 0) };dsimp only;have hsz:vs.toArray.size=vs.length:=by simp
 have hvk:=ht.1;have ht6:TupsAt (((s.heap.update a (Obj.mapSeq λ_=>#[])).push (seqObj "tuple" vs.toArray 0)).push (seqObj "list" #[] 0)) vs ks:=ht.keep λb o hb hc=>by
  have hne:b≠a:=by rintro rfl;rw[ho]at hb;cases hb;exact absurd hc (by intro z;injection z with z;exact absurd z (by decide))
  exact Heap.get?_push_of_some _ (Heap.get?_push_of_some _ (by rw[Heap.get?_update_ne _ _ _ _ hne];exact hb))
 by_cases h2:vs.toArray.size < 2
 ·rw[if_pos h2,if_pos h2];refine wpAny_bind (wpAny_pure ?_);rw[StateT.run_pure];refine wpAny_bind (wpAny_pure ?_);dsimp only;refine wpAny_bind (seqEpoch_at ho6 rfl ?_);refine wpAny_bind (listUpdate_at ho6 rfl ?_ (hsz2:=by rw[Array.size_map];show (pairsOf vs).size<=_;rw[pairsOf_size,sizeLine_eq];omega));simp only[bne_self_eq_false,Bool.false_eq_true,if_false];have hh:=h (List.range ks.length) (List.Perm.refl _) (by
   have hk2:ks.length < 2:=by omega
   match ks,hk2 with
   |[],_=>exact List.Pairwise.nil
   |[_],_=>exact List.pairwise_singleton _ _)
  have eo:(dY vs (List.range ks.length)).toArray=(arrOf (SortSt.mk' general' (vs.toArray.zip vs.toArray) #[] 7 none)).map (·.2):=by
   show _=(vs.toArray.zip vs.toArray).map (·.2);rw[<-hvk];apply Array.toList_inj.mp;have e1:dY vs (List.range vs.length)=vs:=List.ext_getElem (by simp[dY]) λi h1 h2=>by simp[dY,h2]
   rw[e1];simp[List.map_snd_zip]
  rw[eo]at hh;exact wpAny_pure hh
 ·rw[if_neg h2,if_neg h2];obtain ⟨fs,k1,k2,k3⟩:=ht6.kat;have hM:∀v∈fs,Looks (model prog w) (((s.heap.update a (Obj.mapSeq λ_=>#[])).push (seqObj "tuple" vs.toArray 0)).push (seqObj "list" #[] 0)) (typeOf v) (.type "str"):=λv hv=>by
   obtain ⟨k,t,rfl⟩:=k3 v hv;exact Looks.of_pure rfl
  refine wpAny_bind (kat_kind (s:={ s with heap:=((s.heap.update a (Obj.mapSeq λ_=>#[])).push (seqObj "tuple" vs.toArray 0)).push (seqObj "list" #[] 0) }) k1 (by omega) hM (by decide) ?_);refine wpAny_bind (wpAny_mono (kat_run (ks:=vs) (vs:=vs) (E:=E) (s:={ s with heap:=((s.heap.update a (Obj.mapSeq λ_=>#[])).push (seqObj "tuple" vs.toArray 0)).push (seqObj "list" #[] 0) })
   (Q:=λst' s'=>s'={ s with heap:=((s.heap.update a (Obj.mapSeq λ_=>#[])).push (seqObj "tuple" vs.toArray 0)).push (seqObj "list" #[] 0) }/\∃p:Array Nat,PrA vs.length p/\SP (kLt ks) p vs.length/\(arrOf st').map (·.2)=(dY vs p.toList).toArray/\failedOf st'=none)
   (G:=λp s'=>s'={ s with heap:=((s.heap.update a (Obj.mapSeq λ_=>#[])).push (seqObj "tuple" vs.toArray 0)).push (seqObj "list" #[] 0) }/\PrA vs.length p/\SP (kLt ks) p vs.length)
   rfl (by omega) h64 (λp st' s' a1 a2 a3 a4=>⟨a4.1,p,a4.2.1,a4.2.2,kat_snds rfl a2,a3⟩) ?_) ?_ λ_ _ e=>e)
  ·refine TW.run (n:=vs.length) (r:=kLt ks) (λi j C hi hj hC=>?_) (λp hp=>⟨rfl,hp⟩) _ (Te (by rw[hvk];exact Tf hn) (by omega) λp p1 p2=>⟨p1,p2⟩);unfold kas_ask;have hi':i < ks.length:=by omega
   have hj':j < ks.length:=by omega
   have gi:vs.getD i Value.none=vs[i]:=by simp[hi]
   have gj:vs.getD j Value.none=vs[j]:=by simp[hj]
   rw[gi,gj];refine Th (ht6.2 i _ _ (List.getElem?_eq_getElem hi) (List.getElem?_eq_getElem hi')) (ht6.2 j _ _ (List.getElem?_eq_getElem hj) (List.getElem?_eq_getElem hj')) (λe=>?_) ?_
   ·have:i=j:=(List.getElem?_inj (by rw[List.length_map];exact hi') hn).mp (by
     rw[List.getElem?_map,List.getElem?_map,List.getElem?_eq_getElem hi',List.getElem?_eq_getElem hj'];simp[e])
    subst this;rfl
   ·rw[<-kLt_at hi' hj'];exact hC
  ·rintro ⟨⟨⟩,st'⟩ s' ⟨rfl,p,hp,hs,har,hf⟩;dsimp only;rw[har];refine wpAny_bind (seqEpoch_at ho6 rfl ?_);have hpl:p.toList.length=vs.length:=by rw[Array.length_toList,hp.size]
   refine wpAny_bind (listUpdate_at ho6 rfl ?_ (hsz2:=by rw[List.size_toArray];unfold dY;rw[List.length_map,hpl,sizeLine_eq];omega));rw[hf];simp only[bne_self_eq_false,Bool.false_eq_true,if_false];refine wpAny_pure (h p.toList (by have:=Array.perm_iff_toList_perm.mp hp;rw[hvk]at this;simpa using this) ?_);rw[List.pairwise_iff_getElem];intro i j hi hj hij;have:=hs i j hij (by omega);rw[Array.length_toList]at hi hj;simp only[gD,Array.getD,hi,hj,dif_pos]at this;simpa using this
theorem Tj{l:Addr}{vs:List Value}{ks:List (Str×Int)}{Q:Value->Shared->Prop}(hl:s.heap.IsList l vs.toArray)(ht:TupsAt s.heap vs ks)(hn:(ks.map (·.1)).Nodup)(h64:vs.length < 64)
  (h:∀(p:List Nat) (h':Heap) (e:Nat),p.Perm (List.range ks.length)->p.Pairwise (λi j=>kLt ks i j=true)->(∀b o,s.heap.get? b=some o->h'.get? b=some o)->h'.get? ((~~~s)+1)=some (seqObj "list" (dY vs p).toArray e)->Q (.ref ((~~~s)+1)) { s with heap:=h' }):
  wpAny (model prog w) A (call (.builtin "sorted") [.ref l]) Q E s:=by
 refine Calls.call_function_entry kind_sorted plain_sorted entry_sorted (args_sorted1 _) ?_;unfold Builtin.«sorted»;refine wpAny_bind (m:=checkCount "sorted" 1 1 _) (wpAny_pure ?_);refine wpAny_bind (collect_list hl ?_);refine wpAny_bind (wpAny_newList ?_);have hsz:((s.heap.push (seqObj "list" #[] 0)).update (~~~s) (Obj.mapSeq (·++vs.toArray))).objs.size=(~~~s)+1:=by rw[Heap.size_update,size_push']
 have hoL:(((s.heap.push (seqObj "list" #[] 0)).update (~~~s) (Obj.mapSeq (·++vs.toArray))).push (seqObj "list" vs.toArray 0)).get? ((~~~s)+1)=some (seqObj "list" vs.toArray 0):=by rw[<-hsz];exact Heap.get?_push_size _ rfl
 have keep:∀b o,s.heap.get? b=some o->(((s.heap.push (seqObj "list" #[] 0)).update (~~~s) (Obj.mapSeq (·++vs.toArray))).push (seqObj "list" vs.toArray 0)).get? b=some o:=λb o q=>by
  have hlt:b < (~~~s):=Heap.lt_size q;rw[Heap.get?_push_ne _ _ _ (by rw[hsz];exact Nat.ne_of_lt (Nat.lt_succ_of_lt hlt)),Heap.get?_update_ne _ _ _ _ (Nat.ne_of_lt hlt),Heap.get?_push_ne _ _ _ (Nat.ne_of_lt hlt)];exact q
 show wpAny _ _ _ _ _ { s with heap:=((s.heap.push (seqObj "list" #[] 0)).update (~~~s) (Obj.mapSeq (·++vs.toArray))).push (seqObj "list" vs.toArray 0) };rw[hsz];refine wpAny_bind (wpAny_holding (wpAny_call_entry slot_list_sort ⟨_,hoL,rfl⟩ entry_list_sort (Ti (s:={ s with heap:=((s.heap.push (seqObj "list" #[] 0)).update (~~~s) (Obj.mapSeq (·++vs.toArray))).push (seqObj "list" vs.toArray 0) }) hoL (ht.keep λb o q _=>keep b o q) hn h64 λp p1 p2=>⟨_,rfl,?_⟩) (args_list_sort _)));obtain ⟨e,he⟩:=sortedHeap_at (vs:=vs) (out:=(dY vs p).toArray) hoL;refine wpAny_pure ⟨_,rfl,h p _ e p1 p2 (λb o hb=>?_) he⟩;have hlt:b < (~~~s):=Heap.lt_size hb;rw[sortedHeap_old (Nat.ne_of_lt (Nat.lt_succ_of_lt hlt)) (Nat.lt_of_lt_of_le hlt (by rw[size_push',hsz];exact Nat.le_add_right _ 2))];exact keep b o hb
end
end PyProof.Rows
namespace L2
open PySem PySem.Spec PyProof.Rows
open Sem (wp)
open PySem.W (KdlSrc kdl_call kdl_hint_dict)
section
variable {prog:Program} {w:World} {A:Around} {E:Value->Shared->Prop} {s:Shared} {d it:Addr} {es:Array DictEntry} {ep i:Nat}
def DE(h:Heap)(d:Addr)(es:Array DictEntry)(ep:Nat):Prop:=∃o,h.get? d=some o/\o.ExactDict/\o.data=.dict es ep
theorem DE.ty (x:DE s.heap d es ep):s.TypeIs (.ref d) "dict":=by obtain ⟨o,ho,hc,hd⟩:=x;exact ⟨o,ho,hc.1⟩
theorem Tn{Q:Value->Shared->Prop}(hd:(d==sysModules)=false)(x:DE s.heap d es ep)
  (q:Q (.ref (~~~s)) { s with heap:=s.heap.push { cls:=.type "dict_keyiterator",data:=.fields #[.ref d,.int 0 0,.int es.size 0,.int ep 0] } }):wpAny (model prog w) A (pyIter (.ref d)) Q E s:=by
 have ty:=x.ty;obtain ⟨o,ho,hc,dat⟩:=x;refine wpAny_pyIter_slot ty F.slot_dict_iter (dQ F.slot_dict_iter ty F.entry_dict_iter ?_ (F.args_dict_iter_1 _));unfold Builtin.«dict.__iter__» Builtin.Dict.dictSlotNone;refine ab (ab (wpAny_notOrdered_dict ty ?_));show wpAny _ _ (pure (Value.ref d)) _ _ s;refine av ?_;show wpAny _ _ (Builtin.Dict.showsAll d >>= _) _ _ s;unfold Builtin.Dict.showsAll;rw[hd];refine ab (av (ab (wpAny_dictEntries ho dat (ab (wpAny_dictEpoch ho dat (ab (ef (av ⟨_,rfl,"dict_keyiterator",_,⟨_,a7 _ rfl,rfl⟩,dy.lookup,q⟩))))))))
theorem Tp{Q:Option Value->Shared->Prop}(hit:s.heap.IsKeyIter it d i es.size ep)(x:DE s.heap d es ep)(hi:i < es.size)
  (q:∀h',h'.IsKeyIter it d (i+1) es.size ep->Heap.SameBut it s.heap h'->Q (some es[i].key) { s with heap:=h' }):wpAny (model prog w) A (pyNext (.ref it)) Q E s:=by
 have ty:=hit.typeIs;obtain ⟨o,ho,hc,hd⟩:=id hit;obtain ⟨od,hod,_,dat⟩:=x;have hn:¬((i:Int) < 0):=by omega
 have own:Builtin.Dict_items.ownsTuple "dict_keyiterator"=false:=by decide
 unfold pyNext;refine ab (wpAny_attempt (dc (name:=Str.ofString "__next__") ty dy (dQ dy ty F.entry_dict_keyiterator_next ?_ (F.args_dict_keyiterator_next_1 _))));refine ab (av (ab (ab ?_)));first |refine ab (eK ty (av ?_)) |refine ab (fe ty (av ?_))
 refine ab (wpAny_fieldsOf ho hd ?_);simp only[own,Bool.false_eq_true,if_false];show wpAny _ _ (if (Value.ref d==Value.none)=true then _ else _) _ _ s;rw[if_neg (show ¬((Value.ref d==Value.none)=true) from bd)];refine ab (av (ab (wpAny_dictEntries hod dat ?_)));rw[if_neg (by simp)];refine ab (av (ab (wpAny_dictEpoch hod dat ?_)));rw[if_neg (by simp)];refine av ?_;simp only[hn,if_false,br,Array.getElem?_eq_getElem hi];refine ab ?_;first |refine ab (eK ty (av ?_)) |refine ab (fe ty (av ?_))
 refine ab (wpAny_isOneOf_keyiter ty ?_);show wpAny _ _ (setField (.ref it) 1 (rawInt ((i:Int)+1)) >>= _) _ _ s;refine ab (wpAny_setField ho hd (by simp) ?_);have hit':(s.heap.update it (Obj.mapFields (·.setIfInBounds 1 (rawInt ((i:Int)+1))))).IsKeyIter it d (i+1) es.size ep:=
  ⟨_,Heap.get?_update_self _ ho (Obj.isFreed_of_fields (Obj.data_mapFields hd _)),(Obj.cls_mapFields ..).trans hc,by rw[Obj.data_mapFields hd];simp[rawInt]⟩
 refine ab (dL (ab (wpAny_isOneOf_keyiter (s:={ s with heap:=s.heap.update it (Obj.mapFields (·.setIfInBounds 1 (rawInt ((i:Int)+1)))) }) hit'.typeIs ?_)));show wpAny _ _ (pure es[i].key) _ _ _;exact av (av ⟨_,rfl,av (q _ hit' (Heap.SameBut.update ..))⟩)
theorem Tq{Q:Option Value->Shared->Prop}(hh:A.handled=none)(hit:s.heap.IsKeyIter it d es.size es.size ep)(x:DE s.heap d es ep)
  (q:∀h',Heap.ExtBut it s.heap h'->Q none { s with heap:=h' }):wpAny (model prog w) A (pyNext (.ref it)) Q E s:=by
 have ty:=hit.typeIs;obtain ⟨o,ho,hc,hd⟩:=id hit;obtain ⟨od,hod,_,dat⟩:=x;have hn:¬((es.size:Int) < 0):=by omega
 have own:Builtin.Dict_items.ownsTuple "dict_keyiterator"=false:=by decide
 unfold pyNext;refine ab (wpAny_attempt (dc (name:=Str.ofString "__next__") ty dy (dQ dy ty F.entry_dict_keyiterator_next ?_ (F.args_dict_keyiterator_next_1 _))));refine ab (av (ab (ab ?_)));first |refine ab (eK ty (av ?_)) |refine ab (fe ty (av ?_))
 refine ab (wpAny_fieldsOf ho hd ?_);simp only[own,Bool.false_eq_true,if_false];show wpAny _ _ (if (Value.ref d==Value.none)=true then _ else _) _ _ s;rw[if_neg (show ¬((Value.ref d==Value.none)=true) from bd)];refine ab (av (ab (wpAny_dictEntries hod dat ?_)));rw[if_neg (by simp)];refine ab (av (ab (wpAny_dictEpoch hod dat ?_)));rw[if_neg (by simp)];refine av ?_;simp only[hn,if_false,br,Array.getElem?_eq_none (ax es.size)];refine ab ?_;first |refine ab (eK ty (av ?_)) |refine ab (fe ty (av ?_))
 show wpAny _ _ (setField (.ref it) 0 .none >>= _) _ _ s;refine ab (wpAny_setField ho hd (by simp) ?_);show wpAny _ _ (newExc (.type "StopIteration") [] >>= _) _ _ _;refine ab ?_;simp only[newExc,newTuple];refine ab (ef ?_ (by size_fits));refine ab (m:=firstArgMember _ _) (wpAny_of_eq (a:=Value.none) (by first |rfl | (simp only[firstArgMember];rfl)) ?_);refine ef ?_ (by size_fits);simp only[raiseNew];refine ab (wpAny_handled ?_);rw[show A.in1.handled=none from hh];refine ab (av (wpAny_throw ?_));refine ab (wpAny_isInstance (T:="StopIteration") (b:=true) ⟨_,a7 _ rfl,rfl⟩ isSubtype_stop ?_);exact av (q _ (((Heap.SameBut.update ..).extBut.push _).push _))
end
section
variable {X:Cx}
def Tt:V->List V->Hp->VK->Prop:=λx vs H Q=>∃a kvs k d,x=.ref a/\vs=[kV k,d]/\H a=some (.dK kvs)/\Q ((bI kvs k).getD d) H
theorem Tu:MtR X "dict.get" Tt:=by
 intro pins s Y H x vs v us Q I rx rv h;obtain ⟨a,kvs,k,d,rfl,rfl,hH,q⟩:=h;cases rx;obtain ⟨u1,u2,rfl,r1,r2⟩:∃u1 u2,us=[u1,u2]/\RelV (kV k) u1/\RelV d u2:=by
  cases rv with
  |cons r1 t=>cases t with
   |cons r2 t=>cases t;exact ⟨_,_,rfl,r1,r2⟩
 obtain ⟨z,hd,vs,rel,dd⟩:=uV I.hok hH;refine call_meetsIn PySem.F.slot_dict_get dd.typeIs PySem.F.entry_dict_get (PySem.F.args_dict_get_3 _ _ _) (meets_dict_get_default (bN X.prog X.w) a (qe r1) hd u2) ⟨_,dd.mapOf,?_⟩;exact ⟨_,H,I.tok _,(rel.val k).getD r2,q⟩
def ItK(a:Addr)(o:Obj)(kvs:List (Key×V)):It:=
 ⟨λi H=>H a=some (.frz o (.dK kvs))/\i < kvs.length,λi H x H'=>H'=H/\∃kv,kvs[i]?=some kv/\x=kV kv.1,λi H=>H a=some (.frz o (.dK kvs))/\i=kvs.length⟩
theorem Tv{P:Program}{w:World}{k:Key}{u:Value}(h:(bN P w).is k u=true):RelV (kV k) u:=by
 cases k with
 |inl i=>
  cases u with
  |int j t=>
   have:=h;have e:i=j:=by have z:=(bN P w).is_eq_decide (zN P w j t) (Sum.inl i);rw[h]at z;have:=ci z.symm;cases this;rfl
   subst e;exact ⟨t,rfl⟩
  |_=>exact absurd h (by simp[bN,gw,Value.isInt,Value.isStrOf])
 |inr x=>
  cases u with
  |str y t=>
   have e:x=y:=by have z:=(bN P w).is_eq_decide (zO P w y t) (Sum.inr x);rw[h]at z;have:=ci z.symm;cases this;rfl
   subst e;exact ⟨t,rfl⟩
  |_=>exact absurd h (by simp[bN,gw,Value.isInt,Value.isStrOf])
theorem pairs_at{P:Program}{w:World}{es:List DictEntry}{vs:List (Key×Value)}(h:Pairs (bN P w) es vs):∀{i:Nat}{e:DictEntry},es[i]?=some e->∃kv,vs[i]?=some kv/\(bN P w).is kv.1 e.key=true:=by
 induction h with
 |nil=>intro i e he;simp at he
 |cons h1 _ _ ih=>
  intro i e he;cases i with
  |zero=>cases he;exact ⟨_,rfl,h1⟩
  |succ i=>exact ih (by simpa using he)
theorem Tw{kvs:List (Key×V)}{vs:List (Key×Value)}(r:KV kvs vs){i:Nat}{kv:Key×Value}(h:vs[i]?=some kv):∃p,kvs[i]?=some p/\p.1=kv.1:=by
 have e:=KV.keys r;have h1:(vs.map (·.1))[i]?=some kv.1:=by rw[aw,h];rfl
 rw[<-e,aw]at h1;obtain ⟨p,hp,hp2⟩:=ar.mp h1;exact ⟨p,hp,hp2⟩
theorem Tz{P:Program}{w:World}{K:PF}{tg:Expr}(a it:Addr)(o:Obj)(kvs:List (Key×V))(es:Array DictEntry)(ep:Nat)(hd:o.data=.dict es ep)(hl:es.size=kvs.length):Turn P w K tg (ItK a o kvs) [it] it (λi h=>h.IsKeyIter it a i es.size ep) where
 mem:=by simp
 obj:=λi h st b hb=>by
  have e:b=it:=by simpa using hb
  subst e;obtain ⟨o,e,c,d⟩:=st;exact ⟨o,e,λv z=>by rw[d]at z;cases z⟩
 keep:=λi h h' st k=>by
  obtain ⟨o,e,c,d⟩:=st;exact ⟨o,k it (by simp) o e,c,d⟩
 item:=by intro X hP hw hK hc i pins s Y H E I hf st hg;subst hP hw hK;obtain ⟨hq,hi⟩:=hg;obtain ⟨ho,z,hsm,vs,rel,o',es',ep',ho',hx,hd',hko,hp,hnd⟩:=(show ObjOk X.prog X.w H s.heap a (.frz o (.dK kvs)) from I.hok a _ hq);rw[ho]at ho';cases ho';rw[hd]at hd';cases hd';obtain ⟨f0,f1,f2,f3,f4,f5⟩:=hf it (by simp);refine Tp (d:=a) (es:=es) (ep:=ep) st ⟨o,ho,hx,hd⟩ (by omega) λh' st' sb=>?_;have I1:Inv X pins Y H { s with heap:=h' }:=I.turned (t':=s.toks) (λb o hb e=>(sb.2 b hb).trans e) f0 f1 f3 f4 f5;obtain ⟨o2,e2,c2,d2⟩:=id st';obtain ⟨kv,hk1,hk2⟩:=pairs_at hp (i:=i) (e:=es[i]'(by omega)) (by rw[fw,Array.getElem?_eq_getElem]);obtain ⟨p,hp1,hp2⟩:=Tw rel hk1;exact ⟨_,rfl,j0 (s:={ s with heap:=h' }) e2 c2 d2 (by decide) ⟨kV p.1,H,I1,by rw[hp2];exact Tv hk2,⟨rfl,p,hp1,rfl⟩,st',λb hb=>(hf b hb).1⟩⟩
 done:=by
  intro X hP hw hK hc i pins s Y H E I hf st hg;subst hP hw hK;obtain ⟨hq,hi⟩:=hg;obtain ⟨ho,z,hsm,vs,rel,o',es',ep',ho',hx,hd',hko,hp,hnd⟩:=(show ObjOk X.prog X.w H s.heap a (.frz o (.dK kvs)) from I.hok a _ hq);rw[ho]at ho';cases ho';rw[hd]at hd';cases hd';obtain ⟨f0,f1,f2,f3,f4,f5⟩:=hf it (by simp);have hlt:i=es.size:=by omega
  subst hlt;exact Tq (I.ok.hd hc) st ⟨o,ho,hx,hd⟩ λh' eb=>⟨rfl,I.turned (t':=s.toks) (λb o hb e=>eb b o hb e) f0 f1 f3 f4 f5⟩
 self:=λ_ _ _ _ _ st h=>wpAny_pyIter_keyiter st h
def TF(tl:TE):TI:=λY H R=>tl Y H λx H1=>∃a kvs,x=.ref a/\H1 a=some (.dK kvs)/\∀o,R (ItK a o kvs) (upd H1 a (.frz o (.dK kvs)))
theorem TJ{tg l:Expr}{tl:TE}(hl:PE X l tl):PI X tg l (TF tl):=by
 intro pins s Y H R I h;refine thn (hl pins s Y H _ I h) λv s1 ⟨x,H1,I1,r1,q1⟩=>?_;obtain ⟨a,kvs,e,hq,q⟩:=q1;subst e;cases r1;obtain ⟨z,hsm,vs,rel,dd⟩:=uV I1.hok hq;obtain ⟨o,es,ep,ho,hx,hd,hko,hp,hnd⟩:=id dd;refine Tn hsm ⟨o,ho,hx,hd⟩ ?_;have I2:Inv X pins Y (upd H1 a (.frz o (.dK kvs))) { s1 with heap:=s1.heap,toks:=s1.toks }:=uY (t':=s1.toks) I1 (by rw[hq];exact eR) (Heap.SameBut.refl _ _) ⟨o,ho⟩ ⟨ho,z,hsm,vs,rel,dd⟩;have hsz:es.size=kvs.length:=by rw[<-c5,hp.length,rel.length]
 refine ⟨s1.heap.objs.size,[s1.heap.objs.size],_,_,_,rfl,I2.kept (t':=s1.toks) λb o e=>ah _ e,Tz a _ o kvs es ep hd hsz,⟨_,a7 _ rfl,rfl,rfl⟩,λb hb=>?_,q o⟩;have e:b=s1.heap.objs.size:=by simpa using hb
 subst e;exact I2.fpOk (ax _) (I2.hok.fresh (ax _))
theorem TQ:bH X (.builtin "sorted") (λxs H Q=>∃(p:Addr) (bs:List Addr) (ks:List (Str×Int)),xs=[.ref p]/\SqL X.K H p (bs.map V.ref)/\bs.length=ks.length/\(∀(i:Nat) (b:Addr) (k:Str×Int),bs[i]?=some b->ks[i]?=some k->H b=some (.tup [.str k.1,.int k.2]))/\(ks.map (·.1)).Nodup/\ks.length < 64/\
  ∀ps:List Nat,ps.Perm (List.range ks.length)->ps.Pairwise (λi j=>kLt ks i j=true)->∀l,H l=none->Q (.ref l) (upd H l (.lst (ps.map λi=>V.ref (bs.getD i 0))))):=by
 intro pins s Y H xs us Q I r h;obtain ⟨p,bs,ks,rfl,hq,hlb,hb,hn,h64,q⟩:=h;obtain ⟨u,rfl,ru⟩:=vals1 r;cases ru;obtain ⟨its,rv,pl,hz⟩:=I.list hq;have hlen:its.length=bs.length:=by rw[<-rv.length];simp
 have hat:∀(i:Nat)(b:Addr),bs[i]?=some b->its[i]?=some (.ref b):=λi b hbi=>by
  obtain ⟨u,hu,ru⟩:=rv.get (i:=i) (x:=.ref b) (by rw[aw,hbi];rfl);rw[hu,show u=Value.ref b from ru]
 have ht:TupsAt s.heap its ks:=⟨by omega,λi v k hv hk=>by
  have hi:i < bs.length:=by have:=(ag.mp hv).1;omega
  have e:=hat i _ (ai hi);rw[hv]at e;cases e;obtain ⟨_,us,rr,o,h1,h2,n,h3⟩:=(show ObjOk X.prog X.w H s.heap bs[i] (.tup [.str k.1,.int k.2]) from I.hok _ _ (hb i _ k (ai hi) hk));obtain ⟨t,u,rfl⟩:∃t u,us=[Value.str k.1 t,.int k.2 u]:=by
   cases rr with
   |cons r1 tt=>cases tt with
    |cons r2 tt=>
     cases tt;obtain ⟨t,rfl⟩:=r1;obtain ⟨u,rfl⟩:=r2;exact ⟨t,u,rfl⟩
  exact ⟨_,o,n,t,u,rfl,h1,h2,h3⟩⟩
 refine Tj pl.isList ht hn (by omega) λps h' e p1 p2 kp he=>?_;have hps:∀i∈ps,i < bs.length:=λi hi=>by have:=p1.mem_iff.mp hi;rw[List.mem_range]at this;omega
 have hsz:(ps.map λi=>V.ref (bs.getD i 0)).length<=sizeLine:=by rw[af,p1.length_eq,List.length_range,fq];omega
 refine ⟨.ref ((~~~s)+1),_,I.laid (t':=s.toks) kp (dn _) (show ObjOk X.prog X.w _ _ _ (.lst _) from ⟨hsz,dY its ps,e,?_,he⟩),rfl,q ps p1 p2 _ (I.hok.fresh (dn _))⟩;unfold dY;have:∀qs:List Nat,(∀i∈qs,i < bs.length)->Vals (qs.map λi=>V.ref (bs.getD i 0)) (qs.map λi=>its.getD i Value.none):=by
  intro qs;induction qs with
  |nil=>intro _;exact .nil
  |cons i qs ih=>
   intro hh;refine .cons ?_ (ih λj hj=>hh j (bm _ hj));have hi:=hh i bq;have:=hat i _ (ai hi);show its.getD i Value.none=Value.ref (bs.getD i 0);rw[dA,this,dA,ai hi];rfl
 exact this ps hps
end
end L2
namespace RF
open PySem PySem.Spec PyProof.Rows L2
inductive D where
 |non |bl (b:Bool) |int (i:Int) |str (l:List Nat) |tup (xs:List D) |lst (xs:List D) |ref (a:Addr) |scr (ns:List Int) |exn (C:String) |exa (C f:String) (d:D) |obj (C f:String) (q:Addr)
 deriving Inhabited
inductive DO where
 |lst (xs:List D)
 deriving Inhabited
abbrev DH:=Addr->Option DO
def aX(G:DH)(a:Addr)(o:DO):DH:=λb=>if b=a then some o else G b
def iy(G:DH)(a:Addr):DH:=λb=>if b=a then none else G b
theorem bF{G:DH}{a:Addr}{o:DO}:aX G a o a=some o:=if_pos rfl
theorem dj{G:DH}{a b:Addr}{o:DO}(h:b≠a):aX G a o b=G b:=if_neg h
theorem u9{G:DH}{a:Addr}:iy G a a=none:=if_pos rfl
theorem vd{G:DH}{a b:Addr}(h:b≠a):iy G a b=G b:=if_neg h
theorem TV{G:DH}{a:Addr}{o u:DO}:aX (aX G a o) a u=aX G a u:=by funext b;unfold aX;split <;> rfl
theorem Cu{G:DH}{a:Addr}{o:DO}(h:G a=none):iy (aX G a o) a=G:=by
 funext b;unfold aX iy;split
 ·rename_i e;rw[e,h]
 ·rename_i e;exact if_neg e
theorem vf{G:DH}{a b:Addr}{o:DO}(h:G a=some o)(h':G b=none):a≠b:=by intro e;subst e;rw[h]at h';cases h'
abbrev sz:Nat:=1000000
abbrev FZ:=Addr->Prop
def FzL(H:Hp)(F:FZ)(a:Addr)(vs:List V):Prop:=F a/\H a=some (.lst vs)
theorem FzL.sq{K:PF}{H:Hp}{F:FZ}{a:Addr}{vs:List V}(h:FzL H F a vs):SqL K H a vs:=.inl (.inl h.2)
structure TpT(K:PF)(H:Hp)(a:Addr)(vs:List V):Prop where
 it:H a=some (.tup vs)
theorem TpT.sq{K:PF}{H:Hp}{a:Addr}{vs:List V}(h:TpT K H a vs):SqT K H a vs:=.inl (.inl h.it)
def ScL(K:PF)(H:Hp)(a:Addr)(vs:List V):Prop:=
 (∃o,H a=some (.frz o (.lst vs)))\/
  ∃(o:Obj) (its:Array Value) (n:Nat),K.lookup a=some o/\o.cls=.type "list"/\o.dict=none/\o.data=.seq its n/\its.size<=sizeLine/\Vals vs its.toList
theorem ScL.sq{K:PF}{H:Hp}{a:Addr}{vs:List V}(h:ScL K H a vs):SqL K H a vs:=by
 rcases h with ⟨o,h⟩ |h
 ·exact .inl (.inr ⟨o,h⟩)
 ·exact .inr h
def FzO(H:Hp)(F:FZ)(a c dx:Addr)(f:Str)(q:Addr):Prop:=F a/\H a=some (.ins c dx [(f,.ref q)])
mutual
def Rep(K:PF)(H:Hp)(F:FZ):D->V->Prop
 |.non,v=>v=.non
 |.bl b,v=>v=.bl b
 |.int i,v=>v=.int i
 |.str l,v=>v=.str (tx l)/\l.length<=sz
 |.tup ds,v=>∃a vs,v=.ref a/\TpT K H a vs/\Reps K H F ds vs
 |.lst ds,v=>∃a vs,v=.ref a/\FzL H F a vs/\Reps K H F ds vs
 |.ref a,v=>v=.ref a
 |.scr ns,v=>∃a,v=.ref a/\ScL K H a (ns.map V.int)
 |.obj C f q,v=>∃a c dx,v=.ref a/\FzO H F a c dx (Str.ofString f) q/\PySem.W.nsIn K mainGlobals (Str.ofString C)=some (some (.ref c))
 |.exa C f d,v=>∃a c dx ob od,∃(y:Addr)(u:V),v=.ref a/\(H a=some (.frz ob (.own y))/\ob.cls=.ref c/\ob.dict=some dx/\PySem.W.notCls ob=true)/\H dx=some (.frz od (.xd [(Str.ofString f,u)]))/\Rep K H F d u/\PySem.W.nsIn K mainGlobals (Str.ofString C)=some (some (.ref c))
 |.exn C,v=>∃a c,v=.ref a/\XO H a c/\PySem.W.nsIn K mainGlobals (Str.ofString C)=some (some (.ref c))
def Reps(K:PF)(H:Hp)(F:FZ):List D->List V->Prop
 |[],vs=>vs=[]
 |d::ds,vs=>∃v r,vs=v::r/\Rep K H F d v/\Reps K H F ds r
end
structure Ext(H:Hp)(F:FZ)(H':Hp)(F':FZ):Prop where
 sub:∀a,F a->F' a
 keep:∀a,F a->H' a=H a
 tups:∀a xs,H a=some (.tup xs)->H' a=some (.tup xs)
 frzs:∀a o u,H a=some (.frz o u)->H' a=some (.frz o u)
theorem Ext.refl(H:Hp)(F:FZ):Ext H F H F:=⟨λ_ h=>h,λ_ _=>rfl,λ_ _ h=>h,λ_ _ _ h=>h⟩
theorem Ext.trans{H H1 H2:Hp}{F F1 F2:FZ}(a:Ext H F H1 F1)(b:Ext H1 F1 H2 F2):Ext H F H2 F2:=
 ⟨λc h=>b.sub c (a.sub c h),λc h=>(b.keep c (a.sub c h)).trans (a.keep c h),λc xs h=>b.tups c xs (a.tups c xs h),λc o u h=>b.frzs c o u (a.frzs c o u h)⟩
section
variable {K:PF} {H H':Hp} {F F':FZ}
theorem TpT.ext{a:Addr}{vs:List V}(x:Ext H F H' F')(h:TpT K H a vs):TpT K H' a vs:=⟨x.tups _ _ h.it⟩
theorem FzL.ext{a:Addr}{vs:List V}(x:Ext H F H' F')(h:FzL H F a vs):FzL H' F' a vs:=⟨x.sub _ h.1,(x.keep _ h.1).trans h.2⟩
theorem ScL.ext{a:Addr}{vs:List V}(x:Ext H F H' F')(h:ScL K H a vs):ScL K H' a vs:=by
 rcases h with ⟨o,h⟩ |h
 ·exact .inl ⟨o,x.frzs _ _ _ h⟩
 ·exact .inr h
mutual
theorem Rep.ext(x:Ext H F H' F'):∀{d:D}{v:V},Rep K H F d v->Rep K H' F' d v
 |.non,_,h=>h
 |.bl _,_,h=>h
 |.int _,_,h=>h
 |.str _,_,h=>h
 |.tup _,_,⟨a,vs,e,q,r⟩=>⟨a,vs,e,TpT.ext x q,Reps.ext x r⟩
 |.lst _,_,⟨a,vs,e,q,r⟩=>⟨a,vs,e,FzL.ext x q,Reps.ext x r⟩
 |.ref _,_,h=>h
 |.scr _,_,⟨a,e,q⟩=>⟨a,e,ScL.ext x q⟩
 |.obj _ _ _,_,⟨a,c,dx,e,⟨hf,hh⟩,n⟩=>⟨a,c,dx,e,⟨x.sub _ hf,(x.keep _ hf).trans hh⟩,n⟩
 |.exn _,_,⟨a,c,e,⟨o,y,q,hc⟩,n⟩=>⟨a,c,e,⟨o,y,x.frzs _ _ _ q,hc⟩,n⟩
 |.exa _ _ _,_,⟨a,c,dx,ob,od,y,u,e,⟨q,h1,h2,h3⟩,qd,r,n⟩=>⟨a,c,dx,ob,od,y,u,e,⟨x.frzs _ _ _ q,h1,h2,h3⟩,x.frzs _ _ _ qd,Rep.ext x r,n⟩
theorem Reps.ext(x:Ext H F H' F'):∀{ds:List D}{vs:List V},Reps K H F ds vs->Reps K H' F' ds vs
 |[],_,h=>h
 |_::_,_,⟨v,r,e,h,t⟩=>⟨v,r,e,Rep.ext x h,Reps.ext x t⟩
end
theorem Reps.nil:Reps K H F [] []:=rfl
theorem Reps.cons{d:D}{v:V}{ds:List D}{vs:List V}(h:Rep K H F d v)(t:Reps K H F ds vs):Reps K H F (d::ds) (v::vs):=⟨v,vs,rfl,h,t⟩
theorem Reps.length:∀{ds:List D}{vs:List V},Reps K H F ds vs->ds.length=vs.length
 |[],_,h=>by cases h;rfl
 |_::_,_,⟨v,r,e,_,t⟩=>by subst e;simp[Reps.length t]
theorem Reps.append:∀{ds es:List D}{vs us:List V},Reps K H F ds vs->Reps K H F es us->Reps K H F (ds++es) (vs++us)
 |[],_,_,_,h,t=>by cases h;exact t
 |_::_,_,_,_,⟨v,r,e,h,t⟩,t'=>by subst e;exact ⟨v,_,rfl,h,Reps.append t t'⟩
theorem Reps.get:∀{ds:List D}{vs:List V}{i:Nat}{d:D},Reps K H F ds vs->ds[i]?=some d->∃v,vs[i]?=some v/\Rep K H F d v
 |[],_,_,_,_,e=>by simp at e
 |_::_,_,0,_,⟨v,r,e,h,t⟩,q=>by subst e;simp at q;subst q;exact ⟨v,rfl,h⟩
 |_::_,_,i+1,d,⟨v,r,e,h,t⟩,q=>by
  subst e;obtain ⟨u,h1,h2⟩:=Reps.get (i:=i) (d:=d) t (by simpa using q);exact ⟨u,by simpa using h1,h2⟩
theorem Reps.set{d:D}{v:V}(r:Rep K H F d v):∀{ds:List D}{vs:List V}(i:Nat),Reps K H F ds vs->Reps K H F (ds.set i d) (vs.set i v)
 |[],_,_,h=>by cases h;exact rfl
 |_::_,_,0,⟨v',r',e,h,t⟩=>by subst e;exact ⟨_,_,rfl,r,t⟩
 |_::_,_,i+1,⟨v',r',e,h,t⟩=>by subst e;exact ⟨_,_,rfl,h,Reps.set r i t⟩
theorem Reps.take:∀{ds:List D}{vs:List V}(n:Nat),Reps K H F ds vs->Reps K H F (ds.take n) (vs.take n)
 |_,_,0,_=>rfl
 |[],_,_+1,h=>by cases h;exact rfl
 |_::_,_,n+1,⟨v',r',e,h,t⟩=>by subst e;exact ⟨_,_,rfl,h,Reps.take n t⟩
theorem Reps.drop:∀{ds:List D}{vs:List V}(n:Nat),Reps K H F ds vs->Reps K H F (ds.drop n) (vs.drop n)
 |_,_,0,h=>h
 |[],_,_+1,h=>by cases h;exact rfl
 |_::_,_,n+1,⟨v',r',e,h,t⟩=>by subst e;exact Reps.drop n t
theorem Reps.cut{ds:List D}{vs:List V}(h:Reps K H F ds vs)(lo hi:Option Int):
  Reps K H F ((ds.drop (HT.sIx ds.length 0 lo)).take (HT.sIx ds.length ds.length hi - HT.sIx ds.length 0 lo)) (dX vs lo hi):=by
 unfold dX;rw[<-h.length];exact (h.drop _).take _
theorem Reps.rep{ds:List D}{vs:List V}(h:Reps K H F ds vs):∀k:Nat,Reps K H F (List.replicate k ds).flatten (List.replicate k vs).flatten
 |0=>rfl
 |k+1=>by
  rw[ee,ee,fy,fy];exact Reps.append h (Reps.rep h k)
end
def TX(K:PF)(H:Hp)(F:FZ)(a:Addr):DO->Prop
 |.lst ds=>∃vs,H a=some (.lst vs)/\Reps K H F ds vs
structure R(K:PF)(H:Hp)(F:FZ)(G:DH):Prop where
 fz:∀a,F a->G a=none/\∃o,H a=some o
 ob:∀a o,G a=some o->TX K H F a o
section
variable {K:PF} {H:Hp} {F:FZ} {G:DH} {p:Addr} {vs:List V} {ds:List D}
theorem R.lst(r:R K H F G)(h:G p=some (.lst ds)):∃vs,H p=some (.lst vs)/\Reps K H F ds vs:=r.ob p _ h
theorem R.free(r:R K H F G)(h:H p=none):G p=none:=by
 cases e:G p with
 |none=>rfl
 |some o=>
  cases o with
  |lst ds=>obtain ⟨vs,q,_⟩:=r.lst e;rw[h]at q;cases q
theorem R.notF(r:R K H F G)(h:H p=none):¬F p:=λf=>by
 obtain ⟨_,vs,q⟩:=r.fz p f;rw[h]at q;cases q
theorem dm{o:HO}(r:R K H F G)(h:H p=none):Ext H F (upd H p o) F:=
 ⟨λ_ f=>f,λa f=>aH λe=>r.notF h (by rw[<-e];exact f),λa xs q=>by rw[aH (aU q h)];exact q,λa ob u q=>by rw[aH (aU q h)];exact q⟩
theorem R.new{o:HO}(r:R K H F G)(h:H p=none):R K (upd H p o) F G:=by
 have x:Ext H F (upd H p o) F:=dm r h;refine ⟨λa f=>⟨(r.fz a f).1,?_⟩,λa u e=>?_⟩
 ·obtain ⟨_,vs,q⟩:=r.fz a f;exact ⟨vs,by rw[x.keep a f];exact q⟩
 ·cases u with
  |lst ds=>
   obtain ⟨vs,q,t⟩:=r.lst e;exact ⟨vs,by rw[aH (aU q h)];exact q,Reps.ext x t⟩
theorem R.newL(r:R K H F G)(h:H p=none)(t:Reps K H F ds vs):R K (upd H p (.lst vs)) F (aX G p (.lst ds)):=by
 have x:Ext H F (upd H p (.lst vs)) F:=dm r h;have r':R K (upd H p (.lst vs)) F G:=r.new h;refine ⟨λa f=>⟨?_,(r'.fz a f).2⟩,λa u e=>?_⟩
 ·rw[dj λe=>r.notF h (by rw[<-e];exact f)];exact (r.fz a f).1
 ·by_cases ha:a=p
  ·subst ha;rw[bF]at e;cases e;exact ⟨vs,bD,Reps.ext x t⟩
  ·rw[dj ha]at e;exact r'.ob a u e
theorem qj(r:R K H F G)(h:H p=none):Ext H F (upd H p (.lst vs)) (λa=>F a\/a=p):=
 ⟨λ_ f=>.inl f,(dm r h).keep,(dm r h).tups,(dm r h).frzs⟩
theorem R.newF(r:R K H F G)(h:H p=none):R K (upd H p (.lst vs)) (λa=>F a\/a=p) G:=by
 have x:Ext H F (upd H p (.lst vs)) (λa=>F a\/a=p):=qj r h;refine ⟨λa f=>?_,λa u e=>?_⟩
 ·rcases f with f |f
  ·obtain ⟨g,vs',q⟩:=r.fz a f;exact ⟨g,vs',by rw[x.keep a f];exact q⟩
  ·subst f;exact ⟨r.free h,_,bD⟩
 ·cases u with
  |lst ds=>
   obtain ⟨vs',q,t⟩:=r.lst e;exact ⟨vs',by rw[aH (aU q h)];exact q,Reps.ext x t⟩
theorem TY(r:R K H F G)(h:H p=none)(t:Reps K H F ds vs):Rep K (upd H p (.lst vs)) (λa=>F a\/a=p) (.lst ds) (.ref p):=
 ⟨p,vs,rfl,⟨.inr rfl,bD⟩,Reps.ext (qj r h) t⟩
theorem vg(r:R K H F G)(h:H p=none)(t:Reps K H F ds vs):Rep K (upd H p (.tup vs)) F (.tup ds) (.ref p):=
 ⟨p,vs,rfl,⟨bD⟩,Reps.ext (dm r h) t⟩
theorem ql{ds0:List D}{o:HO}(r:R K H F G)(h:G p=some (.lst ds0)):Ext H F (upd H p o) F:=by
 obtain ⟨vs0,q,_⟩:=r.lst h;refine ⟨λ_ f=>f,λa f=>aH λe=>?_,λa xs z=>?_,λa ob u z=>?_⟩
 ·subst e;rw[(r.fz a f).1]at h;cases h
 ·rw[aH (uB z q (by intro w;cases w))];exact z
 ·rw[aH (uB z q (by intro w;cases w))];exact z
theorem R.write{ds0:List D}(r:R K H F G)(h:G p=some (.lst ds0))(t:Reps K H F ds vs):R K (upd H p (.lst vs)) F (aX G p (.lst ds)):=by
 have x:Ext H F (upd H p (.lst vs)) F:=ql r h;refine ⟨λa f=>⟨?_,?_⟩,λa u e=>?_⟩
 ·rw[dj λe=>by subst e;rw[(r.fz a f).1]at h;cases h];exact (r.fz a f).1
 ·obtain ⟨_,vs',q⟩:=r.fz a f;exact ⟨vs',by rw[x.keep a f];exact q⟩
 ·by_cases ha:a=p
  ·subst ha;rw[bF]at e;cases e;exact ⟨vs,bD,Reps.ext x t⟩
  ·rw[dj ha]at e;cases u with
   |lst ds'=>
    obtain ⟨vs',q,t'⟩:=r.lst e;exact ⟨vs',by rw[aH ha];exact q,Reps.ext x t'⟩
theorem vh:Ext H F H (λa=>F a\/a=p):=⟨λ_ f=>.inl f,λ_ _=>rfl,λ_ _ h=>h,λ_ _ _ h=>h⟩
theorem R.frz(r:R K H F G)(h:G p=some (.lst ds)):R K H (λa=>F a\/a=p) (iy G p):=by
 have x:Ext H F H (λa=>F a\/a=p):=vh;refine ⟨λa f=>?_,λa u e=>?_⟩
 ·rcases f with f |f
  ·obtain ⟨g,vs',q⟩:=r.fz a f;refine ⟨?_,vs',q⟩;by_cases ha:a=p
   ·rw[ha];exact u9
   ·rw[vd ha];exact g
  ·subst f;obtain ⟨vs,q,_⟩:=r.lst h;exact ⟨u9,_,q⟩
 ·by_cases ha:a=p
  ·rw[ha,u9]at e;cases e
  ·rw[vd ha]at e;cases u with
   |lst ds'=>
    obtain ⟨vs',q,t'⟩:=r.lst e;exact ⟨vs',q,Reps.ext x t'⟩
theorem T3(r:R K H F G)(h:G p=some (.lst ds)):Rep K H (λa=>F a\/a=p) (.lst ds) (.ref p):=by obtain ⟨vs,q,t⟩:=r.lst h;exact ⟨p,vs,rfl,⟨.inr rfl,q⟩,Reps.ext vh t⟩
end
def view(G:DH):D->D
 |.ref p=>match G p with |some (.lst ds)=>.lst ds |none=>.ref p
 |d=>d
theorem Rep.list{K:PF}{H:Hp}{F:FZ}{G:DH}{d:D}{v:V}{ds:List D}(r:R K H F G)(h:Rep K H F d v)(e:view G d=.lst ds):∃a vs,v=.ref a/\SqL K H a vs/\Reps K H F ds vs:=by
 cases d with
 |lst xs=>
  have e':D.lst xs=.lst ds:=e;cases e';obtain ⟨a,vs,e1,q,t⟩:=h;exact ⟨a,vs,e1,q.sq,t⟩
 |ref p=>
  have hv:v=.ref p:=h;unfold view at e;cases g:G p with
  |none=>simp only[g]at e;cases e
  |some o=>
   cases o with
   |lst xs=>
    simp only[g]at e;cases e;obtain ⟨vs,q,t⟩:=r.lst g;exact ⟨p,vs,hv,.inl (.inl q),t⟩
 |_=>cases (show _=D.lst ds from e)
theorem gB{G:DH}{d:D}{ds:List D}(e:view G d=.tup ds):d=.tup ds:=by
 cases d with
 |ref p=>
  unfold view at e;cases g:G p with
  |none=>simp only[g]at e;cases e
  |some o=>cases o;simp only[g]at e;cases e
 |_=>exact e
theorem fL{G:DH}{d:D}{l:List Nat}(e:view G d=.str l):d=.str l:=by
 cases d with
 |ref p=>
  unfold view at e;cases g:G p with
  |none=>simp only[g]at e;cases e
  |some o=>cases o;simp only[g]at e;cases e
 |_=>exact e
theorem fM{G:DH}{d:D}{l:Int}(e:view G d=.int l):d=.int l:=by
 cases d with
 |ref p=>
  unfold view at e;cases g:G p with
  |none=>simp only[g]at e;cases e
  |some o=>cases o;simp only[g]at e;cases e
 |_=>exact e
theorem T4{G:DH}{d:D}{l:Bool}(e:view G d=.bl l):d=.bl l:=by
 cases d with
 |ref p=>
  unfold view at e;cases g:G p with
  |none=>simp only[g]at e;cases e
  |some o=>cases o;simp only[g]at e;cases e
 |_=>exact e
abbrev ak:=List (Option D)
def EnvR(K:PF)(H:Hp)(F:FZ):ak->L2.St->Prop
 |[],X=>X=[]
 |o::Y,X=>∃u τ,X=u::τ/\(∀d,o=some d->∃v,u=some v/\Rep K H F d v)/\EnvR K H F Y τ
section
variable {K:PF} {H H':Hp} {F F':FZ}
theorem EnvR.ext(x:Ext H F H' F'):∀{Y:ak}{X:L2.St},EnvR K H F Y X->EnvR K H' F' Y X
 |[],_,h=>h
 |_::_,_,⟨u,τ,e,h,t⟩=>⟨u,τ,e,λd q=>by obtain ⟨v,e1,r⟩:=h d q;exact ⟨v,e1,Rep.ext x r⟩,EnvR.ext x t⟩
theorem EnvR.get:∀{Y:ak}{X:L2.St}{i:Nat}{d:D},EnvR K H F Y X->Y[i]?=some (some d)->∃v,X[i]?=some (some v)/\Rep K H F d v
 |[],_,_,_,_,e=>by simp at e
 |_::_,_,0,d,⟨u,τ,e,h,t⟩,q=>by
  subst e;obtain ⟨v,e1,r⟩:=h d (by simpa using q);exact ⟨v,by simp[e1],r⟩
 |_::_,_,i+1,d,⟨u,τ,e,h,t⟩,q=>by
  subst e;obtain ⟨v,e1,r⟩:=EnvR.get (i:=i) (d:=d) t (by simpa using q);exact ⟨v,by simpa using e1,r⟩
theorem EnvR.set{d:D}{v:V}(r:Rep K H F d v):∀{Y:ak}{X:L2.St}(i:Nat),EnvR K H F Y X->EnvR K H F (Y.set i (some d)) (X.set i (some v))
 |[],_,_,h=>by cases h;exact rfl
 |_::_,_,0,⟨u,τ,e,h,t⟩=>by subst e;exact ⟨_,_,rfl,λd' q=>⟨v,rfl,by cases q;exact r⟩,t⟩
 |_::_,_,i+1,⟨u,τ,e,h,t⟩=>by subst e;exact ⟨_,_,rfl,h,EnvR.set r i t⟩
theorem EnvR.none:∀(n:Nat),EnvR K H F (List.replicate n Option.none) (List.replicate n Option.none)
 |0=>rfl
 |n+1=>⟨_,_,rfl,λd q=>(nomatch q),EnvR.none n⟩
theorem EnvR.start:∀{ds:List D}{vs:List V}(n:Nat),Reps K H F ds vs->EnvR K H F (ds.map some++List.replicate n Option.none) (vs.map some++List.replicate n Option.none)
 |[],_,n,h=>by cases h;exact EnvR.none n
 |d::ds,_,n,⟨v,r,e,h,t⟩=>by
  subst e;exact ⟨_,_,rfl,λd' q=>⟨v,rfl,by cases q;exact h⟩,EnvR.start n t⟩
theorem EnvR.cap{Y:ak}{X:L2.St}(h:EnvR K H F Y X):∀(cap:List (Option Nat)),EnvR K H F (cap.map λo=>match o with |Option.none=>Option.none |some j=>(Y[j]?).join) (cO cap X)
 |[]=>rfl
 |Option.none::cap=>⟨_,_,rfl,λd q=>(nomatch q),EnvR.cap h cap⟩
 |some j::cap=>by
  refine ⟨_,_,rfl,λd q=>?_,EnvR.cap h cap⟩;have q':(Y[j]?).join=some d:=q;have z:Y[j]?=some (some d):=by
   cases e:Y[j]? with
   |none=>rw[e]at q';cases q'
   |some o=>rw[e]at q';exact eg some q'
  obtain ⟨v,e1,r⟩:=h.get z;exact ⟨v,by show (X[j]?).join=some v;rw[e1];rfl,r⟩
end
mutual
def deq:D->D->Bool
 |.non,.non=>true
 |.bl a,.bl b=>a==b
 |.bl a,.int b=>(if a then 1 else 0)==b
 |.int a,.bl b=>a==(if b then 1 else 0)
 |.int a,.int b=>a==b
 |.str a,.str b=>a==b
 |.tup a,.tup b=>bZ a b
 |.lst a,.lst b=>bZ a b
 |_,_=>false
def bZ:List D->List D->Bool
 |[],[]=>true
 |a::as,b::bs=>deq a b&&bZ as bs
 |_,_=>false
end
mutual
/-- no tracked object within -/
def nr:D->Bool
 |.tup a=>nrs a
 |.lst a=>nrs a
 |.ref _=>false
 |.scr _=>false
 |.exn _=>false
 |.exa _ _ _=>false
 |.obj _ _ _=>false
 |_=>true
def nrs:List D->Bool
 |[]=>true
 |a::as=>nr a&&nrs as
end
mutual
def dpt:D->Nat
 |.tup a=>aV a+1
 |.lst a=>aV a+1
 |_=>0
def aV:List D->Nat
 |[]=>0
 |a::as=>max (dpt a) (aV as)
end
def truth:D->Option Bool
 |.non=>some false
 |.bl b=>some b
 |.int i=>some (i != 0)
 |.str l=>some (!l.isEmpty)
 |.tup l=>some (!l.isEmpty)
 |.lst l=>some (!l.isEmpty)
 |_=>none
def cut{α:Type}(xs:List α)(lo hi:Option Int):List α:=(xs.drop (HT.sIx xs.length 0 lo)).take (HT.sIx xs.length xs.length hi - HT.sIx xs.length 0 lo)
def reps{α:Type}(xs:List α)(n:Nat):List α:=(List.replicate n xs).flatten
def mk(fz:Bool)(xs:List D)(G:DH)(k:D->DH->Prop):Prop:=
 match fz with
 |true=>k (.lst xs) G
 |false=>∀p,G p=none->k (.ref p) (aX G p (.lst xs))
def ji(fz:Bool)(a b:D)(G:DH)(k:D->DH->Prop):Prop:=
 match a with
 |.int i=>(match b with |.int j=>k (.int (i+j)) G |_=>False)
 |.str x=>(match b with |.str y=>x.length+y.length<=sz/\k (.str (x++y)) G |_=>False)
 |.lst x=>(match b with |.lst y=>x.length+y.length<=sz/\mk fz (x++y) G k |_=>False)
 |.tup x=>(match b with |.tup y=>x.length+y.length<=sz/\k (.tup (x++y)) G |_=>False)
 |_=>False
def gC(a b:D)(p:Int->Int->Prop):Prop:=
 match a with
 |.int i=>(match b with |.int j=>p i j |_=>False)
 |_=>False
def jj(fz:Bool)(a b:D)(G:DH)(k:D->DH->Prop):Prop:=
 match b with
 |.int n=>(match a with |.int i=>CMul i n/\k (.int (i * n)) G |.str x=>0<=n/\n<=1000/\x.length * n.toNat<=sz/\k (.str (reps x n.toNat)) G |_=>False)
 |_=>False
def cP(op:Operator)(fz:Bool)(a b:D)(G:DH)(k:D->DH->Prop):Prop:=
 match op with
 |.Add=>ji fz a b G k
 |.Sub=>gC a b λi j=>k (.int (i - j)) G
 |.Mult=>jj fz a b G k
 |.FloorDiv=>gC a b λi j=>(0 < j/\j < 1152921504606846976)/\k (.int (i / j)) G
 |.Mod=>gC a b λi j=>0 < j/\k (.int (i % j)) G
 |.Pow=>gC a b λi j=>pR i j/\k (.int (i ^ j.toNat)) G
 |_=>False
def isIn(x:D)(ys:List D):Bool:=ys.any λy=>deq y x
def Cv(a b:D):Prop:=nr a=true/\nr b=true/\min (dpt a) (dpt b)<=60
def inG(a:D)(l:List D):Prop:=nr a=true/\nrs l=true/\aV l<=60
def jk(a b:D)(k:Bool->Prop):Prop:=
 match a,b with
 |.int i,.int j=>k (decide (i < j))
 |.str i,.str j=>k (decide (i < j))
 |_,_=>False
def jl(a b:D)(k:Bool->Prop):Prop:=
 match a,b with
 |.int i,.int j=>k (decide (i<=j))
 |.str i,.str j=>k (!decide (j < i))
 |_,_=>False
def jm(a b:D)(k:Bool->Prop):Prop:=
 match a,b with
 |.int i,.int j=>k (decide (j < i))
 |_,_=>False
def jn(a b:D)(k:Bool->Prop):Prop:=
 match a,b with
 |.int i,.int j=>k (decide (j<=i))
 |_,_=>False
def vm(a:D):Bool:=match a with |.non=>true |_=>false
def jo(a b:D)(k:Bool->Prop):Prop:=
 match b with
 |.non=>k (vm a)
 |.bl b=>(match a with |.bl a=>k (a==b) |_=>False)
 |_=>False
def jq(a b:D)(k:Bool->Prop):Prop:=
 match b with
 |.non=>k (!vm a)
 |.bl b=>(match a with |.bl a=>k (a != b) |_=>False)
 |_=>False
def fO(a b:D)(k:Bool->Prop):Prop:=
 match b with
 |.str l=>(match a with |.str [c]=>k (l.contains c) |_=>False)
 |.lst l=>inG a l/\k (isIn a l)
 |.tup l=>inG a l/\k (isIn a l)
 |_=>False
def aW(op:CmpOp)(a b:D)(k:Bool->Prop):Prop:=
 match op with
 |.Eq=>Cv a b/\k (deq a b)
 |.NotEq=>Cv a b/\k (!deq a b)
 |.Lt=>jk a b k
 |.LtE=>jl a b k
 |.Gt=>jm a b k
 |.GtE=>jn a b k
 |.Is=>jo a b k
 |.IsNot=>jq a b k
 |.In=>fO a b k
 |.NotIn=>fO a b λc=>k (!c)
def cB(a i:D)(k:D->Prop):Prop:=
 match a,i with
 |.lst ds,.int i=>match atI ds i with |some d=>k d |none=>False
 |.tup ds,.int i=>match atI ds i with |some d=>k d |none=>False
 |.str l,.int i=>match atI l i with |some c=>k (.str [c]) |none=>False
 |_,_=>False
def dZ(fz:Bool)(a:D)(lo hi:Option Int)(G:DH)(k:D->DH->Prop):Prop:=
 match a with
 |.lst ds=>mk fz (cut ds lo hi) G k
 |.scr ns=>mk fz ((cut ns lo hi).map .int) G k
 |.tup ds=>k (.tup (cut ds lo hi)) G
 |.str l=>k (.str (cut l lo hi)) G
 |_=>False
def qm(fz:Bool)(a y:D)(G:DH)(k:D->DH->Prop):Prop:=
 match a with
 |.lst ds=>y=.int (-1)/\mk fz ds.reverse G k
 |.tup ds=>y=.int (-1)/\k (.tup ds.reverse) G
 |_=>False
def bools:List D->Option (List Bool)
 |[]=>some []
 |.bl b::r=>match bools r with |some s=>some (b::s) |none=>none
 |_=>none
def cC:List D->Option (List Int)
 |[]=>some []
 |.int b::r=>match cC r with |some s=>some (b::s) |none=>none
 |_=>none
def bh:List D->Option (List (List Nat))
 |[]=>some []
 |.str b::r=>match bh r with |some s=>some (b::s) |none=>none
 |_=>none
def d7(s:List Nat):List (List Nat)->List Nat
 |[]=>[]
 |[x]=>x
 |x::y::r=>x++s++d7 s (y::r)
inductive Bf where
 |len |all |int |tuple |sum |min |max |str |abs |min2
inductive Lf where
 |list |sorted
inductive Mf where
 |join |append |extend
def vo(as:List D)(k:D->Prop):Prop:=
 match as with
 |[.lst ds]=>k (.int ds.length)
 |[.tup ds]=>k (.int ds.length)
 |[.str l]=>k (.int l.length)
 |_=>False
def qp(as:List D)(k:D->Prop):Prop:=
 match as with
 |[.lst ds]=>match bools ds with |some bs=>k (.bl (bs.all id)) |none=>False
 |_=>False
def qt(as:List D)(k:D->Prop):Prop:=
 match as with
 |[.bl b]=>k (.int (if b then 1 else 0))
 |[.int i]=>k (.int i)
 |[.str l]=>match PySem.intText? (tx l) with |some n=>l.length<=640/\k (.int n) |none=>False
 |_=>False
def vp(as:List D)(k:D->Prop):Prop:=
 match as with
 |[.lst ds]=>k (.tup ds)
 |[.tup ds]=>k (.tup ds)
 |_=>False
def vq(as:List D)(k:D->Prop):Prop:=
 match as with
 |[.lst ds]=>match cC ds with |some ns=>k (.int ns.sum) |none=>False
 |_=>False
def j7(as:List D)(k:D->Prop):Prop:=
 match as with
 |[.lst ds]=>match cC ds with
  |some ns=>ns≠[]/\∀m,m∈ns->(∀a,a∈ns->m<=a)->k (.int m)
  |none=>match bh ds with
   |some ls=>∀m,m∈ls->(∀a,a∈ls->¬a < m)->k (.str m)
   |none=>False
 |_=>False
def Cw(as:List D)(k:D->Prop):Prop:=match as with
 |[.int a]=>k (.int (if a < 0 then -a else a))
 |_=>False
def Cy(as:List D)(k:D->Prop):Prop:=match as with
 |[.int a,.int b]=>k (.int (if b < a then b else a))
 |_=>False
def Cz(as:List D)(k:D->Prop):Prop:=
 match as with
 |[.int a,.int b]=>k (.int (if b > a then b else a))
 |_=>False
def gF(m:Nat):List Nat:=(uR m).cps.toList
def vy(as:List D)(k:D->Prop):Prop:=
 match as with
 |[.int i]=>(0<=i/\i < 100)/\k (.str (gF i.toNat))
 |_=>False
def opB:Bf->List D->(D->Prop)->Prop
 |.len=>vo
 |.all=>qp
 |.int=>qt
 |.tuple=>vp
 |.sum=>vq
 |.min=>j7
 |.max=>Cz
 |.abs=>Cw
 |.min2=>Cy
 |.str=>vy
def vz(as:List D)(k:List D->Prop):Prop:=
 match as with
 |[.lst ds]=>k ds
 |[.tup ds]=>k ds
 |[.str l]=>k (l.map λc=>.str [c])
 |_=>False
def qu(as:List D)(k:List D->Prop):Prop:=
 match as with
 |[.lst ds]=>match bh ds with |some ls=>ls.length < 64/\∀ls':List (List Nat),ls'.Perm ls->PyProof.Rows.sortedS (ls'.map tx)=true->k (ls'.map D.str) |none=>False
 |[.tup ds]=>match cC ds with |some ns=>ns.length < 64/\∀ns':List Int,ns'.Perm ns->ns'.Pairwise (·<=·)->k (ns'.map D.int) |none=>False
 |_=>False
def putN(ks:List (List Nat))(k:List Nat):List (List Nat):=if k∈ks then ks else ks++[k]
def qw(ls:List (List Nat)):List (List Nat):=ls.foldl putN []
def j8(d:D)(k:List D->Prop):Prop:=
 match d with
 |.lst ds=>match bh ds with |some ls=>(ls.length<=1000/\(qw ls).length<=64)/\∀ls':List (List Nat),ls'.Perm (qw ls)->k (ls'.map D.str) |none=>False
 |_=>False
def cQ:Lf->List D->(List D->Prop)->Prop
 |.list=>vz
 |.sorted=>qu
def isT(t:String)(d:D):Option Bool:=
 match d with
 |.non=>some false
 |.bl _=>some (t=="bool"||t=="int")
 |.int _=>some (t=="int")
 |.str _=>some (t=="str")
 |.tup _=>some (t=="tuple")
 |.lst _=>some (t=="list")
 |_=>none
def fP (t:String):Bool:=t=="bool"||t=="int"||t=="str"||t=="tuple"||t=="list"
def qx(o:D)(as:List D)(G:DH)(k:D->DH->Prop):Prop:=
 match o,as with
 |.str s,[.lst ds]=>match bh ds with |some ls=>((ls.map (·.length)).sum+ls.length * s.length<=sz)/\k (.str (d7 s ls)) G |none=>False
 |_,_=>False
def qy(o:D)(as:List D)(G:DH)(k:D->DH->Prop):Prop:=
 match o,as with
 |.ref p,[x]=>match G p with |some (.lst ds)=>ds.length < sz/\k .non (aX G p (.lst (ds++[x]))) |none=>False
 |_,_=>False
def qz(o:D)(as:List D)(G:DH)(k:D->DH->Prop):Prop:=
 match o,as with
 |.ref p,[.lst xs]=>match G p with |some (.lst ds)=>ds.length+xs.length < sz/\k .non (aX G p (.lst (ds++xs))) |none=>False
 |_,_=>False
def agF(o:D)(as:List D)(G:DH)(k:D->DH->Prop):Prop:=
 match o,as with
 |.ref p,[.int i,x]=>match G p with |some (.lst ds)=>ds.length < sz/\0<=i/\i<=1000000/\k .non (aX G p (.lst (ds.take i.toNat++x::ds.drop i.toNat))) |none=>False
 |_,_=>False
def agG(o:D)(as:List D)(G:DH)(k:D->DH->Prop):Prop:=
 match o,as with
 |.ref p,[.int i]=>match G p with |some (.lst ds)=>0<=i/\i<=1000000/\(match ds[i.toNat]? with |some y=>k y (aX G p (.lst (ds.eraseIdx i.toNat))) |none=>False) |none=>False
 |_,_=>False
def agH(o:D)(as:List D)(G:DH)(k:D->DH->Prop):Prop:=
 match o,as with
 |.lst ds,[.bl true]=>match bools ds with |some bs=>k (.int (bs.count true:Nat)) G |none=>False
 |_,_=>False
def agI(o:D)(as:List D)(G:DH)(k:D->DH->Prop):Prop:=
 match o,as with
 |.lst ds,[.bl true]=>match bools ds with |some bs=>true∈bs/\k (.int (bs.idxOf true:Nat)) G |none=>False
 |_,_=>False
def agJ(o:D)(as:List D)(G:DH)(k:D->DH->Prop):Prop:=
 match o,as with
 |.str l,[.str [c]]=>k (.int (-1)) G/\∀i:Nat,l[i]?=some c->k (.int (i:Int)) G
 |_,_=>False
def agK(o:D)(as:List D)(G:DH)(k:D->DH->Prop):Prop:=
 match o,as with
 |.str l,[.str [c]]=>(c < 256/\l.length+2<=sz)/\k (.lst ((p8 c l).map .str)) G
 |_,_=>False
def T5:D->Prop
 |.lst _=>True
 |_=>False
def recv(m:Mf)(o:D)(G:DH):Prop:=
 match m,o with
 |.join,.str _=>True
 |.append,.ref p=>match G p with |some (.lst _)=>True |none=>False
 |.extend,.ref p=>match G p with |some (.lst _)=>True |none=>False
 |_,_=>False
def opM:Mf->D->List D->DH->(D->DH->Prop)->Prop
 |.join,o,as,G,k=>qx o (as.map (view G)) G k
 |.append,o,as,G,k=>qy o as G k
 |.extend,o,as,G,k=>qz o (as.map (view G)) G k
def gG (C C':String):Bool:=C==C'||C'=="SieveError"||C'=="ValueError"
def CG(C:String)(xs:List String)(d:D)(k:Bool->Prop):Prop:=match d with
 |.exn c=>xs.contains c=true/\k (gG c C)
 |.exa c _ _=>xs.contains c=true/\k (gG c C)
 |_=>False
def okA(d:D):Prop:=match d with
 |.int i=>0<=i/\i < 100
 |.str l=>l.length<=1000
 |_=>False
def CJ(C f:String)(d:D)(k:D->Prop):Prop:=match d with
 |.exa C' f' v=>C'=C/\f'=f/\k v
 |_=>False
mutual
inductive Tg where
 |nm (i:Nat)
 |tp (ts:Tgs)
inductive Tgs where
 |nil
 |cons (t:Tg) (r:Tgs)
end
mutual
inductive Ex where
 |var (i:Nat)
 |cst (d:D)
 |glb (x:String) (d:D)
 |bin (op:Operator) (fz:Bool) (a b:Ex)
 |neg (a:Ex)
 |cmp (op:CmpOp) (a b:Ex)
 |chn (op op':CmpOp) (a b c:Ex)
 |not (a:Ex)
 |boo (isAnd:Bool) (e:Ex) (es:Exs)
 |ife (c:Tx) (a b:Ex)
 |tup (es:Exs)
 |lst (fz:Bool) (es:Exs)
 |idx (a i:Ex)
 |slc (fz:Bool) (a:Ex) (lo hi:Ox)
 |call (f:String) (es:Exs)
 |bcl (f:Bf) (es:Exs)
 |lcl (fz:Bool) (f:Lf) (es:Exs)
 |isi (a:Ex) (t:String)
 |mth (m:Mf) (o:Ex) (es:Exs)
 |comp (fz:Bool) (elt:Ex) (tg:Tg) (it:It') (cond:Tx) (N:List String) (cap:List (Option Nat))
 |frz (a:Ex)
inductive Exs where
 |nil
 |cons (e:Ex) (es:Exs)
/-- a test -/
inductive Tx where
 |val (e:Ex)
 |not (t:Tx)
 |boo (isAnd:Bool) (t:Tx) (ts:Txs)
 |yes
inductive Txs where
 |nil
 |cons (t:Tx) (ts:Txs)
/-- a bound of a slice -/
inductive Ox where
 |no
 |ob (e:Ex)
/-- what a loop walks -/
inductive It' where
 |seq (e:Ex)
 |rng (a:Ex)
 |enm (e:Ex)
 |zip (a b:Ex)
end
mutual
inductive Sx where
 |exp (e:Ex)
 |asg (t:Tg) (e:Ex)
 |set (o i e:Ex)
 |aug (i:Nat) (op:Operator) (e:Ex)
 |augs (o i:Ex) (op:Operator) (e:Ex)
 |ret (e:Ex)
 |rtn
 |ite (c:Tx) (a b:Sxs)
 |for_ (t:Tg) (it:It') (body:Sxs)
 |pas
 |brk
 |cnt
 |nev
inductive Sxs where
 |nil
 |cons (s:Sx) (r:Sxs)
end
structure Xn where
 cls:String
 fld:D
structure Spec where
 A:Type
 pre:List D->DH->A->Prop
 post:A->D->DH->Prop
 exc:A->Xn->DH->Prop
abbrev EK:=Xn->DH->Prop
def Spec.t(S:Spec)(ds:List D)(G:DH)(Q:D->DH->Prop)(E:EK):Prop:=
 ∃a,S.pre ds G a/\(∀d G',S.post a d G'->Q d G')/\∀x G',S.exc a x G'->E x G'
theorem Spec.mono{S:Spec}{ds:List D}{G:DH}{Q Q':D->DH->Prop}{E E':EK}(h:S.t ds G Q E)(hq:∀d G',Q d G'->Q' d G')(he:∀x G',E x G'->E' x G'):S.t ds G Q' E':=by obtain ⟨a,h1,h2,h3⟩:=h;exact ⟨a,h1,λd G' q=>hq _ _ (h2 d G' q),λx G' q=>he _ _ (h3 x G' q)⟩
abbrev aj:=String->Spec
def agL(C f:String)(d:D)(k:Addr->Prop):Prop:=match d with |.obj C' f' q=>C'=C/\f'=f/\k q |_=>False
def agM(C m:String)(d:D):Prop:=match d with |.obj C' f' _=>C'=C/\(Str.ofString m==Str.ofString f')=false |_=>False
def agN(d:D)(G:DH)(k:D->DH->Prop):Prop:=match d with |.ref p=>(match G p with |some (.lst ds)=>(match ds[ds.length - 1]? with |some y=>k y (aX G p (.lst ds.dropLast)) |none=>False) |none=>False) |_=>False
def agO(d:D)(k:List Nat->Prop):Prop:=match d with |.str l=>l.length<=1000/\k l |_=>False
def agP(i:D)(l:List Nat)(k:List Nat->Prop):Prop:=match i with |.int n=>(match atI [48,49] n with |some c=>k (l.map λa=>if a=42 then c else a) |none=>False) |_=>False
def T6(i j:Nat)(d:D)(Y:ak)(G:DH)(k:ak->DH->Prop):Prop:=
 match d with
 |.lst ds=>ds≠[]/\∀xs y,ds=xs++[y]->k ((Y.set i (some (.lst xs))).set j (some y)) G
 |_=>False
mutual
def aY:Tg->D->ak->DH->(ak->Prop)->Prop
 |.nm i,d,Y,_,k=>k (Y.set i (some d))
 |.tp ts,d,Y,G,k=>match d with |.tup ds=>bO ts ds Y G k |.lst ds=>bO ts ds Y G k |_=>False
def bO:Tgs->List D->ak->DH->(ak->Prop)->Prop
 |.nil,ds,Y,_,k=>match ds with |[]=>k Y |_=>False
 |.cons t r,ds,Y,G,k=>match ds with |d::ds=>aY t d Y G (λρ'=>bO r ds ρ' G k) |[]=>False
end
abbrev Hld:=List (Addr×List D)
def held:Hld->DH->Prop
 |[],_=>True
 | (a,ds)::r,G=>G a=some (.lst ds)/\held r G
def compLoop(step:D->ak->DH->(Option D->ak->DH->Prop)->Prop)(g:Hld):List D->List D->ak->DH->(List D->DH->Prop)->Prop
 |[],acc,_,G,k=>held g G/\acc.length<=sz/\k acc G
 |d::ds,acc,Y,G,k=>held g G/\acc.length < sz/\step d Y G (λo ρ' G'=>match o with |some y=>compLoop step g ds (acc++[y]) ρ' G' k |none=>compLoop step g ds acc ρ' G' k)
def vA(step:D->List D->ak->DH->(List D->ak->DH->Prop)->Prop)(g:Hld):List D->List D->ak->DH->(List D->ak->DH->Prop)->Prop
 |[],acc,Y,G,k=>held g G/\k acc Y G
 |d::ds,acc,Y,G,k=>held g G/\step d acc Y G (λacc' ρ' G'=>vA step g ds acc' ρ' G' k)
def dH:Nat->List D->List D
 |_,[]=>[]
 |i,d::ds=>.tup [.int i,d]::dH (i+1) ds
def b7:List D->List D->List D
 |a::as,b::bs=>.tup [a,b]::b7 as bs
 |_,_=>[]
def itemsOf(G:DH):D->Option (List D×Hld)
 |.lst ds=>some (ds,[])
 |.tup ds=>some (ds,[])
 |.str l=>some (l.map λc=>.str [c],[])
 |.ref p=>match G p with |some (.lst ds)=>some (ds,[(p,ds)]) |none=>none
 |_=>none
def aZ(lo:Int)(n:Nat):List D:=(List.range n).map λi=>.int (lo+(i:Nat))
def agQ(lo:Int)(n:Nat):List D:=(List.range n).map λi=>.int (lo - (i:Nat))
def noE:EK:=λ_ _=>False
mutual
def wpE(Z:aj):Ex->EK->ak->DH->(D->DH->Prop)->Prop
 |.var i,_,Y,G,k=>match Y[i]? with |some (some d)=>k d G |_=>False
 |.cst d,_,_,G,k=>k d G
 |.glb _ d,_,_,G,k=>k d G
 |.bin op fz a b,E,Y,G,k=>wpE Z a E Y G λx G1=>wpE Z b E Y G1 λy G2=>cP op fz (view G2 x) (view G2 y) G2 k
 |.neg a,E,Y,G,k=>wpE Z a E Y G λx G1=>match x with |.int i=>k (.int (-i)) G1 |_=>False
 |.cmp op a b,E,Y,G,k=>wpE Z a E Y G λx G1=>wpE Z b E Y G1 λy G2=>aW op (view G2 x) (view G2 y) λc=>k (.bl c) G2
 |.chn op op' a b c,E,Y,G,k=>wpE Z a E Y G λx G1=>wpE Z b E Y G1 λy G2=>aW op (view G2 x) (view G2 y) λt=>
   match t with
   |true=>wpE Z c E Y G2 λz G3=>aW op' (view G3 y) (view G3 z) λt'=>k (.bl t') G3
   |false=>k (.bl false) G2
 |.not a,E,Y,G,k=>wpE Z a E Y G λx G1=>match truth (view G1 x) with |some b=>k (.bl (!b)) G1 |none=>False
 |.boo isAnd e es,E,Y,G,k=>wpE Z e E Y G λd G1=>match d with |.bl b=>wpB Z es isAnd b E Y G1 (λc G2=>k (.bl c) G2) |_=>False
 |.ife c a b,E,Y,G,k=>wpT Z c E Y G λt G1=>match t with |true=>wpE Z a E Y G1 k |false=>wpE Z b E Y G1 k
 |.tup es,E,Y,G,k=>bc Z es E Y G λds G1=>ds.length<=sz/\k (.tup ds) G1
 |.lst fz es,E,Y,G,k=>bc Z es E Y G λds G1=>ds.length<=sz/\mk fz ds G1 k
 |.idx a i,E,Y,G,k=>wpE Z a E Y G λx G1=>wpE Z i E Y G1 λy G2=>cB (view G2 x) y λd=>k d G2
 |.slc fz a lo hi,E,Y,G,k=>wpE Z a E Y G λx G1=>wpO Z lo E Y G1 λl G2=>wpO Z hi E Y G2 λh G3=>dZ fz (view G3 x) l h G3 k
 |.call f es,E,Y,G,k=>bc Z es E Y G λds G1=>(Z f).t ds G1 k E
 |.bcl f es,E,Y,G,k=>bc Z es E Y G λds G1=>opB f (ds.map (view G1)) λd=>k d G1
 |.lcl fz f es,E,Y,G,k=>bc Z es E Y G λds G1=>cQ f (ds.map (view G1)) λxs=>mk fz xs G1 k
 |.isi a t,E,Y,G,k=>wpE Z a E Y G λx G1=>match isT t (view G1 x) with |some b=>k (.bl b) G1 |none=>False
 |.mth m o es,E,Y,G,k=>wpE Z o E Y G λx G1=>recv m x G1/\bc Z es E Y G1 λds G2=>opM m x ds G2 k
 |.comp fz elt tg it cond _ cap,E,Y,G,k=>wpI Z it E Y G λitems g G1=>
   compLoop (λd ρ' G' k'=>aY tg d ρ' G' λρ1=>wpT Z cond noE ρ1 G' λb G2=>match b with |true=>wpE Z elt noE ρ1 G2 λy G3=>k' (some y) ρ1 G3 |false=>k' none ρ1 G2)
    g items [] (cap.map λo=>match o with |none=>none |some j=>(Y[j]?).join) G1 λds G2=>mk fz ds G2 k
 |.frz a,E,Y,G,k=>wpE Z a E Y G λx G1=>match x with |.ref p=>(match G1 p with |some (.lst ds)=>k (.lst ds) (iy G1 p) |none=>False) |d=>k d G1
/-- a test -/
def wpT(Z:aj):Tx->EK->ak->DH->(Bool->DH->Prop)->Prop
 |.not a,E,Y,G,k=>wpT Z a E Y G λb G1=>k (!b) G1
 |.boo isAnd e es,E,Y,G,k=>wpT Z e E Y G λb G1=>fQ Z es isAnd b E Y G1 k
 |.yes,_,_,G,k=>k true G
 |.val x,E,Y,G,k=>wpE Z x E Y G λd G1=>match truth (view G1 d) with |some b=>k b G1 |none=>False
def wpF(Z:aj):Exs->EK->ak->DH->(List Nat->DH->Prop)->Prop
 |.nil,_,_,G,k=>k [] G
 |.cons e es,E,Y,G,k=>wpE Z e E Y G λd G1=>match d with
  |.str l=>l.length<=1000/\wpF Z es E Y G1 λx G2=>k (l++x) G2
  |.int i=>(0<=i/\i < 100)/\wpF Z es E Y G1 λx G2=>k (gF i.toNat++x) G2
  |_=>False
def bc(Z:aj):Exs->EK->ak->DH->(List D->DH->Prop)->Prop
 |.nil,_,_,G,k=>k [] G
 |.cons e es,E,Y,G,k=>wpE Z e E Y G λd G1=>bc Z es E Y G1 λds G2=>k (d::ds) G2
/-- and,or as values:truths alone;b:the one ahead -/
def wpB(Z:aj):Exs->Bool->Bool->EK->ak->DH->(Bool->DH->Prop)->Prop
 |.nil,_,b,_,_,G,k=>k b G
 |.cons e es,isAnd,b,E,Y,G,k=>match isAnd,b with
  |true,false=>k false G
  |false,true=>k true G
  |_,_=>wpE Z e E Y G λd G1=>match d with |.bl b'=>wpB Z es isAnd b' E Y G1 k |_=>False
def fQ(Z:aj):Txs->Bool->Bool->EK->ak->DH->(Bool->DH->Prop)->Prop
 |.nil,_,b,_,_,G,k=>k b G
 |.cons e es,isAnd,b,E,Y,G,k=>match isAnd,b with
  |true,false=>k false G
  |false,true=>k true G
  |_,_=>wpT Z e E Y G λb' G1=>fQ Z es isAnd b' E Y G1 k
/-- a bound of a slice -/
def wpO(Z:aj):Ox->EK->ak->DH->(Option Int->DH->Prop)->Prop
 |.no,_,_,G,k=>k none G
 |.ob x,E,Y,G,k=>wpE Z x E Y G λd G1=>match d with |.int i=>k (some i) G1 |_=>False
def wpI(Z:aj):It'->EK->ak->DH->(List D->Hld->DH->Prop)->Prop
 |.seq e,E,Y,G,k=>wpE Z e E Y G λd G1=>match itemsOf G1 d with |some ds=>k ds.1 ds.2 G1 |none=>False
 |.rng a,E,Y,G,k=>wpE Z a E Y G λd G1=>match d with |.int n=>(-(2 ^ 62)<=n/\n < 2 ^ 62)/\k (aZ 0 n.toNat) [] G1 |_=>False
 |.enm e,E,Y,G,k=>wpE Z e E Y G λd G1=>match itemsOf G1 d with |some ds=>k (dH 0 ds.1) ds.2 G1 |none=>False
 |.zip a b,E,Y,G,k=>wpE Z a E Y G λx G1=>wpE Z b E Y G1 λy G2=>match itemsOf G2 x,itemsOf G2 y with |some ds,some es=>k (b7 ds.1 es.1) (ds.2++es.2) G2 |_,_=>False
end
structure En where
 nx:ak->DH->Prop
 rt:D->DH->Prop
 bk:ak->DH->Prop
 ct:ak->DH->Prop
def forLoop(step:D->ak->DH->(ak->DH->Prop)->Prop)(g:Hld):List D->ak->DH->(ak->DH->Prop)->Prop
 |[],Y,G,k=>held g G/\k Y G
 |d::ds,Y,G,k=>held g G/\step d Y G λρ' G'=>forLoop step g ds ρ' G' k
def whileLoop(test:ak->DH->(Bool->DH->Prop)->Prop)(body:ak->DH->(ak->DH->Prop)->Prop):Nat->ak->DH->(ak->DH->Prop)->Prop
 |0,_,_,_=>False
 |n+1,Y,G,k=>test Y G λb G1=>match b with |true=>body Y G1 λρ' G'=>whileLoop test body n ρ' G' k |false=>k Y G1
def d8(o i x:D)(G:DH)(k:DH->Prop):Prop:=
 match o,i with
 |.ref p,.int i=>match G p with |some (.lst ds)=>(match ixN ds.length i with |some j=>k (aX G p (.lst (ds.set j x))) |none=>False) |none=>False
 |_,_=>False
def dI(op:Operator)(a b:D)(k:D->Prop):Prop:=
 match op,a,b with
 |.Add,.int i,.int j=>k (.int (i+j))
 |.Add,.str x,.str y=>x.length+y.length<=sz/\k (.str (x++y))
 |.Sub,.int i,.int j=>k (.int (i - j))
 |_,_,_=>False
def CN:D->Bool
 |.int i=>decide (0<=i)&&decide (i < 100)
 |_=>false
def wpM(Z:aj):Exs->EK->ak->DH->(DH->Prop)->Prop
 |.nil,_,_,G,k=>k G
 |.cons e es,E,Y,G,k=>wpE Z e E Y G λd G1=>CN d=true/\wpM Z es E Y G1 k
mutual
def wpS(Z:aj):Sx->EK->ak->DH->En->Prop
 |.exp e,E,Y,G,D=>wpE Z e E Y G λ_ G1=>D.nx Y G1
 |.asg t e,E,Y,G,D=>wpE Z e E Y G λd G1=>aY t d Y G1 λρ'=>D.nx ρ' G1
 |.set o i e,E,Y,G,D=>wpE Z e E Y G λx G1=>wpE Z o E Y G1 λa G2=>wpE Z i E Y G2 λy G3=>d8 a y x G3 λG4=>D.nx Y G4
 |.aug i op e,E,Y,G,D=>match Y[i]? with
  |some (some a)=>wpE Z e E Y G λb G1=>dI op a b λc=>D.nx (Y.set i (some c)) G1
  |_=>False
 |.augs o i op e,E,Y,G,D=>wpE Z o E Y G λa G1=>wpE Z i E Y G1 λy G2=>cB (view G2 a) y λold=>wpE Z e E Y G2 λb G3=>dI op old b λc=>d8 a y c G3 λG4=>D.nx Y G4
 |.ret e,E,Y,G,D=>wpE Z e E Y G D.rt
 |.rtn,_,_,G,D=>D.rt .non G
 |.ite c a b,E,Y,G,D=>wpT Z c E Y G λt G1=>match t with |true=>au Z a E Y G1 D |false=>au Z b E Y G1 D
 |.for_ t it body,E,Y,G,D=>wpI Z it E Y G λitems g G1=>
   forLoop (λd ρ' G' k=>aY t d ρ' G' λρ1=>au Z body E ρ1 G' { D with nx:=k,ct:=k,bk:=D.nx }) g items Y G1 D.nx
 |.pas,_,Y,G,D=>D.nx Y G
 |.brk,_,Y,G,D=>D.bk Y G
 |.cnt,_,Y,G,D=>D.ct Y G
 |.nev,_,_,_,_=>False
def au(Z:aj):Sxs->EK->ak->DH->En->Prop
 |.nil,_,Y,G,D=>D.nx Y G
 |.cons s r,E,Y,G,D=>wpS Z s E Y G { D with nx:=λρ' G'=>au Z r E ρ' G' D }
end
theorem vB{Z:aj}{a}{E}{Y}{G}{k}:wpT Z (.not a) E Y G k=(wpT Z a E Y G λb G1=>k (!b) G1):=rfl
theorem vC{Z:aj}{isAnd}{e}{es}{E}{Y}{G}{k}:wpT Z (.boo isAnd e es) E Y G k=(wpT Z e E Y G λb G1=>fQ Z es isAnd b E Y G1 k):=rfl
theorem vD{Z:aj}{E}{Y}{G}{k}:wpT Z .yes E Y G k=(k true G):=rfl
theorem j9{Z:aj}{x}{E}{Y}{G}{k}:wpT Z (.val x) E Y G k=(wpE Z x E Y G λd G1=>match truth (view G1 d) with |some b=>k b G1 |none=>False):=rfl
theorem jr{Z:aj}{E}{Y}{G}{k}:bc Z .nil E Y G k=(k [] G):=rfl
theorem iz{Z:aj}{e}{es}{E}{Y}{G}{k}:bc Z (.cons e es) E Y G k=(wpE Z e E Y G λd G1=>bc Z es E Y G1 λds G2=>k (d::ds) G2):=rfl
theorem vG{Z:aj}{isAnd:Bool}{b:Bool}{E}{Y}{G}{k}:wpB Z .nil isAnd b E Y G k=(k b G):=rfl
theorem qC{Z:aj}{e}{es}{isAnd:Bool}{b:Bool}{E}{Y}{G}{k}:wpB Z (.cons e es) isAnd b E Y G k=(match isAnd,b with
  |true,false=>k false G
  |false,true=>k true G
  |_,_=>wpE Z e E Y G λd G1=>match d with |.bl b'=>wpB Z es isAnd b' E Y G1 k |_=>False):=rfl
theorem vH{Z:aj}{isAnd:Bool}{b:Bool}{E}{Y}{G}{k}:fQ Z .nil isAnd b E Y G k=(k b G):=rfl
theorem qD{Z:aj}{e}{es}{isAnd:Bool}{b:Bool}{E}{Y}{G}{k}:fQ Z (.cons e es) isAnd b E Y G k=(match isAnd,b with
  |true,false=>k false G
  |false,true=>k true G
  |_,_=>wpT Z e E Y G λb' G1=>fQ Z es isAnd b' E Y G1 k):=rfl
theorem vI{Z:aj}{E}{Y}{G}{k}:wpO Z .no E Y G k=(k none G):=rfl
theorem vJ{Z:aj}{x}{E}{Y}{G}{k}:wpO Z (.ob x) E Y G k=(wpE Z x E Y G λd G1=>match d with |.int i=>k (some i) G1 |_=>False):=rfl
theorem vK{Z:aj}{e}{E}{Y}{G}{k}:wpI Z (.seq e) E Y G k=(wpE Z e E Y G λd G1=>match itemsOf G1 d with |some ds=>k ds.1 ds.2 G1 |none=>False):=rfl
theorem vL{Z:aj}{a}{E}{Y}{G}{k}:wpI Z (.rng a) E Y G k=(wpE Z a E Y G λd G1=>match d with |.int n=>(-(2 ^ 62)<=n/\n < 2 ^ 62)/\k (aZ 0 n.toNat) [] G1 |_=>False):=rfl
theorem vM{Z:aj}{e}{E}{Y}{G}{k}:wpI Z (.enm e) E Y G k=(wpE Z e E Y G λd G1=>match itemsOf G1 d with |some ds=>k (dH 0 ds.1) ds.2 G1 |none=>False):=rfl
theorem vN{Z:aj}{a}{b}{E}{Y}{G}{k}:wpI Z (.zip a b) E Y G k=(wpE Z a E Y G λx G1=>wpE Z b E Y G1 λy G2=>match itemsOf G2 x,itemsOf G2 y with |some ds,some es=>k (b7 ds.1 es.1) (ds.2++es.2) G2 |_,_=>False):=rfl
theorem kh{Z:aj}{E}{Y}{G}{D}:au Z .nil E Y G D=(D.nx Y G):=rfl
theorem kj{Z:aj}{s}{r}{E}{Y}{G}{D}:au Z (.cons s r) E Y G D=(wpS Z s E Y G { D with nx:=λρ' G'=>au Z r E ρ' G' D }):=rfl
theorem vO{Z:aj}{i E Y G k}:wpE Z (.var i) E Y G k=(match Y[i]? with |some (some d)=>k d G |_=>False):=rfl
theorem jt{Z:aj}{d E Y G k}:wpE Z (.cst d) E Y G k=(k d G):=rfl
theorem vP{Z:aj}{u0 d E Y G k}:wpE Z (.glb u0 d) E Y G k=(k d G):=rfl
theorem vQ{Z:aj}{op fz a b E Y G k}:wpE Z (.bin op fz a b) E Y G k=(wpE Z a E Y G λx G1=>wpE Z b E Y G1 λy G2=>cP op fz (view G2 x) (view G2 y) G2 k):=rfl
theorem vR{Z:aj}{a E Y G k}:wpE Z (.neg a) E Y G k=(wpE Z a E Y G λx G1=>match x with |.int i=>k (.int (-i)) G1 |_=>False):=rfl
theorem qF{Z:aj}{op a b E Y G k}:wpE Z (.cmp op a b) E Y G k=(wpE Z a E Y G λx G1=>wpE Z b E Y G1 λy G2=>aW op (view G2 x) (view G2 y) λc=>k (.bl c) G2):=rfl
theorem qG{Z:aj}{op op' a b c E Y G k}:wpE Z (.chn op op' a b c) E Y G k=(wpE Z a E Y G λx G1=>wpE Z b E Y G1 λy G2=>aW op (view G2 x) (view G2 y) λt=>
   match t with
   |true=>wpE Z c E Y G2 λz G3=>aW op' (view G3 y) (view G3 z) λt'=>k (.bl t') G3
   |false=>k (.bl false) G2):=rfl
theorem vU{Z:aj}{a E Y G k}:wpE Z (.not a) E Y G k=(wpE Z a E Y G λx G1=>match truth (view G1 x) with |some b=>k (.bl (!b)) G1 |none=>False):=rfl
theorem vV{Z:aj}{isAnd e es E Y G k}:wpE Z (.boo isAnd e es) E Y G k=(wpE Z e E Y G λd G1=>match d with |.bl b=>wpB Z es isAnd b E Y G1 (λc G2=>k (.bl c) G2) |_=>False):=rfl
theorem vW{Z:aj}{c a b E Y G k}:wpE Z (.ife c a b) E Y G k=(wpT Z c E Y G λt G1=>match t with |true=>wpE Z a E Y G1 k |false=>wpE Z b E Y G1 k):=rfl
theorem vX{Z:aj}{es E Y G k}:wpE Z (.tup es) E Y G k=(bc Z es E Y G λds G1=>ds.length<=sz/\k (.tup ds) G1):=rfl
theorem vY{Z:aj}{fz es E Y G k}:wpE Z (.lst fz es) E Y G k=(bc Z es E Y G λds G1=>ds.length<=sz/\mk fz ds G1 k):=rfl
theorem vZ{Z:aj}{a i E Y G k}:wpE Z (.idx a i) E Y G k=(wpE Z a E Y G λx G1=>wpE Z i E Y G1 λy G2=>cB (view G2 x) y λd=>k d G2):=rfl
theorem v6{Z:aj}{fz a lo hi E Y G k}:wpE Z (.slc fz a lo hi) E Y G k=(wpE Z a E Y G λx G1=>wpO Z lo E Y G1 λl G2=>wpO Z hi E Y G2 λh G3=>dZ fz (view G3 x) l h G3 k):=rfl
theorem v7{Z:aj}{f es E Y G k}:wpE Z (.call f es) E Y G k=(bc Z es E Y G λds G1=>(Z f).t ds G1 k E):=rfl
theorem v8{Z:aj}{f es E Y G k}:wpE Z (.bcl f es) E Y G k=(bc Z es E Y G λds G1=>opB f (ds.map (view G1)) λd=>k d G1):=rfl
theorem v9{Z:aj}{fz f es E Y G k}:wpE Z (.lcl fz f es) E Y G k=(bc Z es E Y G λds G1=>cQ f (ds.map (view G1)) λxs=>mk fz xs G1 k):=rfl
theorem wg{Z:aj}{a t E Y G k}:wpE Z (.isi a t) E Y G k=(wpE Z a E Y G λx G1=>match isT t (view G1 x) with |some b=>k (.bl b) G1 |none=>False):=rfl
theorem CP{Z:aj}{E Y G k}:wpF Z .nil E Y G k=k [] G:=rfl
theorem CQ{Z:aj}{e es E Y G k}:wpF Z (.cons e es) E Y G k=(wpE Z e E Y G λd G1=>match d with
  |.str l=>l.length<=1000/\wpF Z es E Y G1 λx G2=>k (l++x) G2
  |.int i=>(0<=i/\i < 100)/\wpF Z es E Y G1 λx G2=>k (gF i.toNat++x) G2
  |_=>False):=rfl
theorem km{Z:aj}{m o es E Y G k}:wpE Z (.mth m o es) E Y G k=(wpE Z o E Y G λx G1=>recv m x G1/\bc Z es E Y G1 λds G2=>opM m x ds G2 k):=rfl
theorem wj{Z:aj}{a E Y G k}:wpE Z (.frz a) E Y G k=(wpE Z a E Y G λx G1=>match x with |.ref p=>(match G1 p with |some (.lst ds)=>k (.lst ds) (iy G1 p) |none=>False) |d=>k d G1):=rfl
theorem wk{Z:aj}{e E Y G D}:wpS Z (.exp e) E Y G D=(wpE Z e E Y G λ_ G1=>D.nx Y G1):=rfl
theorem kE{Z:aj}{t e E Y G D}:wpS Z (.asg t e) E Y G D=(wpE Z e E Y G λd G1=>aY t d Y G1 λρ'=>D.nx ρ' G1):=rfl
theorem wu{Z:aj}{o i e E Y G D}:wpS Z (.set o i e) E Y G D=(wpE Z e E Y G λx G1=>wpE Z o E Y G1 λa G2=>wpE Z i E Y G2 λy G3=>d8 a y x G3 λG4=>D.nx Y G4):=rfl
theorem ww{Z:aj}{i op e E Y G D}:wpS Z (.aug i op e) E Y G D=(match Y[i]? with
  |some (some a)=>wpE Z e E Y G λb G1=>dI op a b λc=>D.nx (Y.set i (some c)) G1
  |_=>False):=rfl
theorem wy{Z:aj}{o i op e E Y G D}:wpS Z (.augs o i op e) E Y G D=(wpE Z o E Y G λa G1=>wpE Z i E Y G1 λy G2=>cB (view G2 a) y λold=>wpE Z e E Y G2 λb G3=>dI op old b λc=>d8 a y c G3 λG4=>D.nx Y G4):=rfl
theorem wz{Z:aj}{e E Y G D}:wpS Z (.ret e) E Y G D=(wpE Z e E Y G D.rt):=rfl
theorem wA{Z:aj}{E Y G D}:wpS Z .rtn E Y G D=(D.rt .non G):=rfl
theorem wB{Z:aj}{c a b E Y G D}:wpS Z (.ite c a b) E Y G D=(wpT Z c E Y G λt G1=>match t with |true=>au Z a E Y G1 D |false=>au Z b E Y G1 D):=rfl
theorem wC{Z:aj}{E Y G D}:wpS Z .pas E Y G D=(D.nx Y G):=rfl
theorem wD{Z:aj}{E Y G D}:wpS Z .brk E Y G D=(D.bk Y G):=rfl
theorem wF{Z:aj}{E Y G D}:wpS Z .cnt E Y G D=(D.ct Y G):=rfl
theorem T7{Z:aj}{E Y G k}:wpM Z .nil E Y G k=k G:=rfl
theorem T8{Z:aj}{e es E Y G k}:wpM Z (.cons e es) E Y G k=(wpE Z e E Y G λd G1=>CN d=true/\wpM Z es E Y G1 k):=rfl
theorem wG{Z:aj}{E Y G D}:wpS Z .nev E Y G D=(False):=rfl
theorem wH{Z:aj}{fz elt tg it cond N cap E Y G k}:wpE Z (.comp fz elt tg it cond N cap) E Y G k=(wpI Z it E Y G λitems g G1=>
   compLoop (λd ρ' G' k'=>aY tg d ρ' G' λρ1=>wpT Z cond noE ρ1 G' λb G2=>match b with |true=>wpE Z elt noE ρ1 G2 λy G3=>k' (some y) ρ1 G3 |false=>k' none ρ1 G2)
    g items [] (cap.map λo=>match o with |none=>none |some j=>(Y[j]?).join) G1 λds G2=>mk fz ds G2 k):=rfl
theorem CW{Z:aj}{t it body E Y G D}:wpS Z (.for_ t it body) E Y G D=(wpI Z it E Y G λitems g G1=>
   forLoop (λd ρ' G' k=>aY t d ρ' G' λρ1=>au Z body E ρ1 G' { D with nx:=k,ct:=k,bk:=D.nx }) g items Y G1 D.nx):=rfl
section
variable {k k':D->DH->Prop} {G:DH}
theorem d9{fz:Bool}{xs:List D}(h:∀d G',k d G'->k' d G')(q:mk fz xs G k):mk fz xs G k':=by
 cases fz with
 |true=>exact h _ _ q
 |false=>exact λp hp=>h _ _ (q p hp)
theorem CZ{a b:D}{p:Int->Int->Prop}(h:gC a b p):∃i j,a=.int i/\b=.int j/\p i j:=by
 cases a with
 |int i=>cases b with
  |int j=>exact ⟨i,j,rfl,rfl,h⟩
  |_=>exact h.elim
 |_=>exact h.elim
theorem qH{a b:D}{p q:Int->Int->Prop}(h:∀i j,p i j->q i j)(z:gC a b p):gC a b q:=by obtain ⟨i,j,rfl,rfl,z⟩:=CZ z;exact h i j z
theorem Dc{op:Operator}{fz:Bool}{a b:D}(h:∀d G',k d G'->k' d G')(q:cP op fz a b G k):cP op fz a b G k':=by
 cases op with
 |Add=>
  have q:ji fz a b G k:=q;show ji fz a b G k';unfold ji at q ⊢;cases a with
  |int i=>cases b <;> first |exact h _ _ q |exact q
  |str i=>cases b <;> first |exact ⟨q.1,h _ _ q.2⟩ |exact q
  |lst i=>cases b <;> first |exact ⟨q.1,d9 h q.2⟩ |exact q
  |tup i=>cases b <;> first |exact ⟨q.1,h _ _ q.2⟩ |exact q
  |_=>exact q
 |Sub=>exact qH (λ_ _ z=>h _ _ z) q
 |Mult=>
  have q:jj fz a b G k:=q;show jj fz a b G k';unfold jj at q ⊢;cases b with
  |int n=>cases a <;> first |exact ⟨q.1,h _ _ q.2⟩ |exact ⟨q.1,q.2.1,q.2.2.1,h _ _ q.2.2.2⟩ |exact ⟨q.1,q.2.1,q.2.2.1,d9 h q.2.2.2⟩ |exact ⟨q.1,q.2.1,q.2.2.1,q.2.2.2.1,h _ _ q.2.2.2.2⟩ |exact q
  |_=>exact q
 |FloorDiv=>exact qH (λ_ _ z=>⟨z.1,h _ _ z.2⟩) q
 |Mod=>exact qH (λ_ _ z=>⟨z.1,h _ _ z.2⟩) q
 |Pow=>exact qH (λ_ _ z=>⟨z.1,h _ _ z.2⟩) q
 |_=>exact q
theorem De{a b:D}{k k':Bool->Prop}(h:∀c,k c->k' c)(q:fO a b k):fO a b k':=by
 unfold fO at q ⊢;split at q
 ·split at q
  ·exact h _ q
  ·exact q
 ·exact ⟨q.1,h _ q.2⟩
 ·exact ⟨q.1,h _ q.2⟩
 ·exact q
theorem iB{op:CmpOp}{a b:D}{k k':Bool->Prop}(h:∀c,k c->k' c)(q:aW op a b k):aW op a b k':=by
 cases op with
 |Eq=>exact ⟨q.1,h _ q.2⟩
 |NotEq=>exact ⟨q.1,h _ q.2⟩
 |Lt=>have q:jk a b k:=q;show jk a b k';unfold jk at q ⊢;split at q <;> first |exact h _ q |exact q
 |LtE=>have q:jl a b k:=q;show jl a b k';unfold jl at q ⊢;split at q <;> first |exact h _ q |exact q
 |Gt=>have q:jm a b k:=q;show jm a b k';unfold jm at q ⊢;split at q <;> first |exact h _ q |exact q
 |GtE=>have q:jn a b k:=q;show jn a b k';unfold jn at q ⊢;split at q <;> first |exact h _ q |exact q
 |Is=>
  have q:jo a b k:=q;show jo a b k';unfold jo at q ⊢;split at q
  ·exact h _ q
  ·split at q
   ·exact h _ q
   ·exact q
  ·exact q
 |IsNot=>
  have q:jq a b k:=q;show jq a b k';unfold jq at q ⊢;split at q
  ·exact h _ q
  ·split at q
   ·exact h _ q
   ·exact q
  ·exact q
 |In=>exact De h q
 |NotIn=>exact De (λc=>h _) q
theorem qI{a i:D}{k k':D->Prop}(h:∀c,k c->k' c)(q:cB a i k):cB a i k':=by
 unfold cB at q ⊢;split at q
 ·split at q
  ·exact h _ q
  ·exact q
 ·split at q
  ·exact h _ q
  ·exact q
 ·split at q
  ·exact h _ q
  ·exact q
 ·exact q
theorem Df{fz:Bool}{a:D}{lo hi:Option Int}(h:∀d G',k d G'->k' d G')(q:dZ fz a lo hi G k):dZ fz a lo hi G k':=by
 unfold dZ at q ⊢;split at q <;> first
  |exact d9 h q
  |exact h _ _ q
  |exact q.elim
theorem agR{fz:Bool}{a y:D}(h:∀d G',k d G'->k' d G')(q:qm fz a y G k):qm fz a y G k':=by
 unfold qm at q ⊢;split at q
 ·exact ⟨q.1,d9 h q.2⟩
 ·exact ⟨q.1,h _ _ q.2⟩
 ·exact q.elim
theorem Dg{f:Bf}{as:List D}{k k':D->Prop}(h:∀c,k c->k' c)(q:opB f as k):opB f as k':=by
 cases f with
 |len=>simp only[opB,vo]at q ⊢;split at q <;> first |exact h _ q |exact q.elim
 |all=>
  simp only[opB,qp]at q ⊢;split at q
  ·split at q
   ·exact h _ q
   ·exact q
  ·exact q
 |int=>
  simp only[opB,qt]at q ⊢;split at q
  ·exact h _ q
  ·exact h _ q
  ·split at q
   ·exact ⟨q.1,h _ q.2⟩
   ·exact q
  ·exact q
 |tuple=>simp only[opB,vp]at q ⊢;split at q <;> first |exact h _ q |exact q.elim
 |sum=>
  simp only[opB,vq]at q ⊢;split at q
  ·split at q
   ·exact h _ q
   ·exact q
  ·exact q
 |min=>
  simp only[opB,j7]at q ⊢;split at q
  ·split at q
   ·exact ⟨q.1,λm h1 h2=>h _ (q.2 m h1 h2)⟩
   ·split at q
    ·exact λm h1 h2=>h _ (q m h1 h2)
    ·exact q
  ·exact q
 |max=>simp only[opB,Cz]at q ⊢;split at q <;> first |exact h _ q |exact q.elim
 |abs=>simp only[opB,Cw]at q ⊢;split at q <;> first |exact h _ q |exact q.elim
 |min2=>simp only[opB,Cy]at q ⊢;split at q <;> first |exact h _ q |exact q.elim
 |str=>
  simp only[opB,vy]at q ⊢;split at q
  ·exact ⟨q.1,h _ q.2⟩
  ·exact q
theorem agS{d:D}{k k':List D->Prop}(h:∀c,k c->k' c)(q:j8 d k):j8 d k':=by
 unfold j8 at q ⊢;split at q
 ·split at q
  ·exact ⟨q.1,λls p=>h _ (q.2 ls p)⟩
  ·exact q
 ·exact q
theorem Dh{f:Lf}{as:List D}{k k':List D->Prop}(h:∀c,k c->k' c)(q:cQ f as k):cQ f as k':=by
 cases f with
 |list=>simp only[cQ,vz]at q ⊢;split at q <;> first |exact h _ q |exact q.elim
 |sorted=>
  simp only[cQ,qu]at q ⊢;split at q
  ·split at q
   ·exact ⟨q.1,λls p z=>h _ (q.2 ls p z)⟩
   ·exact q
  ·split at q
   ·exact ⟨q.1,λls p z=>h _ (q.2 ls p z)⟩
   ·exact q
  ·exact q
theorem qJ{m:Mf}{o:D}{as:List D}(h:∀d G',k d G'->k' d G')(q:opM m o as G k):opM m o as G k':=by
 cases m with
 |join=>
  simp only[opM,qx]at q ⊢;split at q
  ·split at q
   ·exact ⟨q.1,h _ _ q.2⟩
   ·exact q
  ·exact q
 |append=>
  simp only[opM,qy]at q ⊢;split at q
  ·split at q
   ·exact ⟨q.1,h _ _ q.2⟩
   ·exact q
  ·exact q
 |extend=>
  simp only[opM,qz]at q ⊢;split at q
  ·split at q
   ·exact ⟨q.1,h _ _ q.2⟩
   ·exact q
  ·exact q
theorem qK{o i x:D}{k k':DH->Prop}(h:∀G',k G'->k' G')(q:d8 o i x G k):d8 o i x G k':=by
 unfold d8 at q ⊢;split at q
 ·split at q
  ·split at q
   ·exact h _ q
   ·exact q
  ·exact q
 ·exact q
theorem qL{op:Operator}{a b:D}{k k':D->Prop}(h:∀c,k c->k' c)(q:dI op a b k):dI op a b k':=by
 unfold dI at q ⊢;split at q <;> first
  |exact h _ q
  |exact ⟨q.1,h _ q.2⟩
  |exact q.elim
mutual
theorem fU{k k':ak->Prop}(h:∀Y,k Y->k' Y):∀(t:Tg){d:D}{Y:ak},aY t d Y G k->aY t d Y G k'
 |.nm i,d,Y,q=>h _ q
 |.tp ts,d,Y,q=>by
  unfold aY at q ⊢;split at q
  ·exact wI h ts q
  ·exact wI h ts q
  ·exact q
theorem wI{k k':ak->Prop}(h:∀Y,k Y->k' Y):∀(ts:Tgs){ds:List D}{Y:ak},bO ts ds Y G k->bO ts ds Y G k'
 |.nil,ds,Y,q=>by
  unfold bO at q ⊢;split at q
  ·exact h _ q
  ·exact q
 |.cons t r,ds,Y,q=>by
  unfold bO at q ⊢;split at q
  ·exact fU (λρ' q'=>wI h r q') t q
  ·exact q
end
theorem qM{step step':D->ak->DH->(Option D->ak->DH->Prop)->Prop}(hs:∀d Y G (k k':Option D->ak->DH->Prop),(∀o ρ' G',k o ρ' G'->k' o ρ' G')->step d Y G k->step' d Y G k')
  {g:Hld} {k k':List D->DH->Prop} (h:∀ds G',k ds G'->k' ds G'):∀(ds acc:List D)(Y:ak)(G:DH),compLoop step g ds acc Y G k->compLoop step' g ds acc Y G k'
 |[],acc,Y,G,q=>⟨q.1,q.2.1,h _ _ q.2.2⟩
 |d::ds,acc,Y,G,q=>by
  refine ⟨q.1,q.2.1,hs d Y G _ _ (λo ρ' G' z=>?_) q.2.2⟩;cases o with
  |some y=>exact qM hs h ds (acc++[y]) ρ' G' z
  |none=>exact qM hs h ds acc ρ' G' z
theorem T9{step step':D->List D->ak->DH->(List D->ak->DH->Prop)->Prop}(hs:∀d acc Y G (k k':List D->ak->DH->Prop),(∀a ρ' G',k a ρ' G'->k' a ρ' G')->step d acc Y G k->step' d acc Y G k')
  {g:Hld} {k k':List D->ak->DH->Prop} (h:∀a Y G',k a Y G'->k' a Y G'):∀(ds acc:List D)(Y:ak)(G:DH),vA step g ds acc Y G k->vA step' g ds acc Y G k'
 |[],acc,Y,G,q=>⟨q.1,h _ _ _ q.2⟩
 |d::ds,acc,Y,G,q=>⟨q.1,hs d acc Y G _ _ (λa ρ' G' z=>T9 hs h ds a ρ' G' z) q.2⟩
theorem Di{step step':D->ak->DH->(ak->DH->Prop)->Prop}(hs:∀d Y G (k k':ak->DH->Prop),(∀ρ' G',k ρ' G'->k' ρ' G')->step d Y G k->step' d Y G k')
  {g:Hld} {k k':ak->DH->Prop} (h:∀Y G',k Y G'->k' Y G'):∀(ds:List D)(Y:ak)(G:DH),forLoop step g ds Y G k->forLoop step' g ds Y G k'
 |[],Y,G,q=>⟨q.1,h _ _ q.2⟩
 |d::ds,Y,G,q=>⟨q.1,hs d Y G _ _ (λρ' G' z=>Di hs h ds ρ' G' z) q.2⟩
theorem Ua{test test':ak->DH->(Bool->DH->Prop)->Prop}{body body':ak->DH->(ak->DH->Prop)->Prop}
  (ht:∀Y G (k k':Bool->DH->Prop),(∀b G',k b G'->k' b G')->test Y G k->test' Y G k') (hb:∀Y G (k k':ak->DH->Prop),(∀ρ' G',k ρ' G'->k' ρ' G')->body Y G k->body' Y G k')
  {k k':ak->DH->Prop} (h:∀Y G',k Y G'->k' Y G'):∀(n:Nat)(Y:ak)(G:DH),whileLoop test body n Y G k->whileLoop test' body' n Y G k'
 |0,Y,G,q=>q
 |n+1,Y,G,q=>ht Y G _ _ (λb G' z=>by
   cases b with
   |true=>exact hb Y G' _ _ (λρ' G'' z'=>Ua ht hb h n ρ' G'' z') z
   |false=>exact h _ _ z) q
end
section
variable {Z:aj} {G:DH}
mutual
theorem aL{E:EK}{Y:ak}:∀(x:Ex){G:DH}{k k':D->DH->Prop},(∀d G',k d G'->k' d G')->wpE Z x E Y G k->wpE Z x E Y G k'
 |.var i,G,k,k',h,q=>by
  rw[vO]at q ⊢;split at q
  ·exact h _ _ q
  ·exact q
 |.cst d,G,k,k',h,q=>by rw[jt]at q ⊢;exact h _ _ q
 |.glb x d,G,k,k',h,q=>by rw[vP]at q ⊢;exact h _ _ q
 |.bin op fz a b,G,k,k',h,q=>by
  rw[vQ]at q ⊢;exact aL a (λ_ _ q=>aL b (λ_ _ q=>Dc h q) q) q
 |.neg a,G,k,k',h,q=>by
  rw[vR]at q ⊢;refine aL a (λx _ q=>?_) q;split at q
  ·exact h _ _ q
  ·exact q
 |.cmp op a b,G,k,k',h,q=>by
  rw[qF]at q ⊢;exact aL a (λ_ _ q=>aL b (λ_ _ q=>iB (λ_ q=>h _ _ q) q) q) q
 |.chn op op' a b c,G,k,k',h,q=>by
  rw[qG]at q ⊢;refine aL a (λ_ _ q=>aL b (λ_ _ q=>iB (λt q=>?_) q) q) q;cases t with
  |true=>exact aL c (λ_ _ q=>iB (λ_ q=>h _ _ q) q) q
  |false=>exact h _ _ q
 |.not a,G,k,k',h,q=>by
  rw[vU]at q ⊢;refine aL a (λx _ q=>?_) q;split at q
  ·exact h _ _ q
  ·exact q
 |.boo isAnd e es,G,k,k',h,q=>by
  rw[vV]at q ⊢;refine aL e (λx _ q=>?_) q;split at q
  ·exact qN es (λ_ _ q=>h _ _ q) q
  ·exact q
 |.ife c a b,G,k,k',h,q=>by
  rw[vW]at q ⊢;refine eE c (λt _ q=>?_) q;cases t with
  |true=>exact aL a h q
  |false=>exact aL b h q
 |.tup es,G,k,k',h,q=>by
  rw[vX]at q ⊢;exact fV es (λ_ _ q=>⟨q.1,h _ _ q.2⟩) q
 |.lst fz es,G,k,k',h,q=>by
  rw[vY]at q ⊢;exact fV es (λ_ _ q=>⟨q.1,d9 h q.2⟩) q
 |.idx a i,G,k,k',h,q=>by
  rw[vZ]at q ⊢;exact aL a (λ_ _ q=>aL i (λ_ _ q=>qI (λ_ q=>h _ _ q) q) q) q
 |.slc fz a lo hi,G,k,k',h,q=>by
  rw[v6]at q ⊢;exact aL a (λ_ _ q=>wJ lo (λ_ _ q=>wJ hi (λ_ _ q=>Df h q) q) q) q
 |.call f es,G,k,k',h,q=>by
  rw[v7]at q ⊢;exact fV es (λ_ _ q=>Spec.mono q h λ_ _ z=>z) q
 |.bcl f es,G,k,k',h,q=>by
  rw[v8]at q ⊢;exact fV es (λ_ _ q=>Dg (λ_ q=>h _ _ q) q) q
 |.lcl fz f es,G,k,k',h,q=>by
  rw[v9]at q ⊢;exact fV es (λ_ _ q=>Dh (λ_ q=>d9 h q) q) q
 |.isi a t,G,k,k',h,q=>by
  rw[wg]at q ⊢;refine aL a (λx _ q=>?_) q;split at q
  ·exact h _ _ q
  ·exact q
 |.mth m o es,G,k,k',h,q=>by
  rw[km]at q ⊢;exact aL o (λ_ _ q=>⟨q.1,fV es (λ_ _ q=>qJ h q) q.2⟩) q
 |.comp fz elt tg it cond N cap,G,k,k',h,q=>by
  rw[wH]at q ⊢;refine kI it (λitems g G1 q=>?_) q;refine qM ?_ (λds G2 z=>d9 h z) items [] _ G1 q;intro d ρ' G' k k' hk z;refine fU (λρ1 z=>?_) tg z;refine eE cond (λb G2 z=>?_) z;cases b with
  |true=>exact aL elt (λy G3 z=>hk _ _ _ z) z
  |false=>exact hk _ _ _ z
 |.frz a,G,k,k',h,q=>by
  rw[wj]at q ⊢;refine aL a (λx G1 q=>?_) q;split at q
  ·split at q
   ·exact h _ _ q
   ·exact q
  ·exact h _ _ q
theorem eE{E:EK}{Y:ak}:∀(x:Tx){G:DH}{k k':Bool->DH->Prop},(∀d G',k d G'->k' d G')->wpT Z x E Y G k->wpT Z x E Y G k'
 |.not a,G,k,k',h,q=>by rw[vB]at q ⊢;exact eE a (λ_ _ q=>h _ _ q) q
 |.boo isAnd e es,G,k,k',h,q=>by rw[vC]at q ⊢;exact eE e (λ_ _ q=>qO es h q) q
 |.yes,G,k,k',h,q=>by rw[vD]at q ⊢;exact h _ _ q
 |.val a,G,k,k',h,q=>by
  rw[j9]at q ⊢;refine aL a (λx _ q=>?_) q;split at q
  ·exact h _ _ q
  ·exact q
theorem Dj{E:EK}{Y:ak}:∀(x:Exs){G:DH}{k k':List Nat->DH->Prop},(∀d G',k d G'->k' d G')->wpF Z x E Y G k->wpF Z x E Y G k'
 |.nil,G,k,k',h,q=>by rw[CP]at q ⊢;exact h _ _ q
 |.cons e es,G,k,k',h,q=>by
  rw[CQ]at q ⊢;refine aL e (λd _ q=>?_) q;split at q
  ·exact ⟨q.1,Dj es (λ_ _ q=>h _ _ q) q.2⟩
  ·exact ⟨q.1,Dj es (λ_ _ q=>h _ _ q) q.2⟩
  ·exact q
theorem fV{E:EK}{Y:ak}:∀(x:Exs){G:DH}{k k':List D->DH->Prop},(∀d G',k d G'->k' d G')->bc Z x E Y G k->bc Z x E Y G k'
 |.nil,G,k,k',h,q=>by rw[jr]at q ⊢;exact h _ _ q
 |.cons e es,G,k,k',h,q=>by rw[iz]at q ⊢;exact aL e (λ_ _ q=>fV es (λ_ _ q=>h _ _ q) q) q
theorem qN{E:EK}{Y:ak}:∀(x:Exs){isAnd b:Bool}{G:DH}{k k':Bool->DH->Prop},(∀d G',k d G'->k' d G')->wpB Z x isAnd b E Y G k->wpB Z x isAnd b E Y G k'
 |.nil,_,_,G,k,k',h,q=>by rw[vG]at q ⊢;exact h _ _ q
 |.cons e es,isAnd,b,G,k,k',h,q=>by
  rw[qC]at q ⊢;cases isAnd <;> cases b <;> first
   |exact h _ _ q
   | (refine aL e (λd _ q=>?_) q
      split at q
      ·exact qN es h q
      ·exact q)
theorem qO{E:EK}{Y:ak}:∀(x:Txs){isAnd b:Bool}{G:DH}{k k':Bool->DH->Prop},(∀d G',k d G'->k' d G')->fQ Z x isAnd b E Y G k->fQ Z x isAnd b E Y G k'
 |.nil,_,_,G,k,k',h,q=>by rw[vH]at q ⊢;exact h _ _ q
 |.cons e es,isAnd,b,G,k,k',h,q=>by
  rw[qD]at q ⊢;cases isAnd <;> cases b <;> first
   |exact h _ _ q
   |exact eE e (λd _ q=>qO es h q) q
theorem wJ{E:EK}{Y:ak}:∀(x:Ox){G:DH}{k k':Option Int->DH->Prop},(∀d G',k d G'->k' d G')->wpO Z x E Y G k->wpO Z x E Y G k'
 |.no,G,k,k',h,q=>by rw[vI]at q ⊢;exact h _ _ q
 |.ob a,G,k,k',h,q=>by
  rw[vJ]at q ⊢;refine aL a (λx _ q=>?_) q;split at q
  ·exact h _ _ q
  ·exact q
theorem kI{E:EK}{Y:ak}:∀(x:It'){G:DH}{k k':List D->Hld->DH->Prop},(∀d g G',k d g G'->k' d g G')->wpI Z x E Y G k->wpI Z x E Y G k'
 |.seq a,G,k,k',h,q=>by
  rw[vK]at q ⊢;refine aL a (λx _ q=>?_) q;split at q
  ·exact h _ _ _ q
  ·exact q
 |.rng a,G,k,k',h,q=>by
  rw[vL]at q ⊢;refine aL a (λx _ q=>?_) q;split at q
  ·exact ⟨q.1,h _ _ _ q.2⟩
  ·exact q
 |.enm a,G,k,k',h,q=>by
  rw[vM]at q ⊢;refine aL a (λx _ q=>?_) q;split at q
  ·exact h _ _ _ q
  ·exact q
 |.zip a b,G,k,k',h,q=>by
  rw[vN]at q ⊢;refine aL a (λx _ q=>aL b (λy _ q=>?_) q) q;split at q
  ·exact h _ _ _ q
  ·exact q
end
structure En.Le(D D':En):Prop where
 nx:∀Y G,D.nx Y G->D'.nx Y G
 rt:∀d G,D.rt d G->D'.rt d G
 bk:∀Y G,D.bk Y G->D'.bk Y G
 ct:∀Y G,D.ct Y G->D'.ct Y G
mutual
theorem wpS_mono{E:EK}:∀(x:Sx){Y:ak}{G:DH}{D D':En},D.Le D'->wpS Z x E Y G D->wpS Z x E Y G D'
 |.exp e,Y,G,D,D',h,q=>by rw[wk]at q ⊢;exact aL e (λ_ _ q=>h.nx _ _ q) q
 |.asg t e,Y,G,D,D',h,q=>by rw[kE]at q ⊢;exact aL e (λ_ _ q=>fU (λ_ q=>h.nx _ _ q) t q) q
 |.set o i e,Y,G,D,D',h,q=>by rw[wu]at q ⊢;exact aL e (λ_ _ q=>aL o (λ_ _ q=>aL i (λ_ _ q=>qK (λ_ q=>h.nx _ _ q) q) q) q) q
 |.aug i op e,Y,G,D,D',h,q=>by
  rw[ww]at q ⊢;split at q
  ·exact aL e (λ_ _ q=>qL (λ_ q=>h.nx _ _ q) q) q
  ·exact q
 |.augs o i op e,Y,G,D,D',h,q=>by
  rw[wy]at q ⊢;exact aL o (λ_ _ q=>aL i (λ_ _ q=>qI (λ_ q=>aL e (λ_ _ q=>qL (λ_ q=>qK (λ_ q=>h.nx _ _ q) q) q) q) q) q) q
 |.ret e,Y,G,D,D',h,q=>by rw[wz]at q ⊢;exact aL e (λ_ _ q=>h.rt _ _ q) q
 |.rtn,Y,G,D,D',h,q=>by rw[wA]at q ⊢;exact h.rt _ _ q
 |.ite c a b,Y,G,D,D',h,q=>by
  rw[wB]at q ⊢;refine eE c (λt _ q=>?_) q;cases t with
  |true=>exact eZ a h q
  |false=>exact eZ b h q
 |.for_ t it body,Y,G,D,D',h,q=>by
  rw[CW]at q ⊢;exact kI it (λitems g G1 q=>Di (λd ρ' G' k k' hk z=>fU (λρ1 z=>eZ body (D:={ D with nx:=k,ct:=k,bk:=D.nx }) (D':={ D' with nx:=k',ct:=k',bk:=D'.nx }) ⟨hk,h.rt,h.nx,hk⟩ z) t z) h.nx items Y G1 q) q
 |.pas,Y,G,D,D',h,q=>by rw[wC]at q ⊢;exact h.nx _ _ q
 |.brk,Y,G,D,D',h,q=>by rw[wD]at q ⊢;exact h.bk _ _ q
 |.cnt,Y,G,D,D',h,q=>by rw[wF]at q ⊢;exact h.ct _ _ q
 |.nev,Y,G,D,D',h,q=>by rw[wG]at q;exact q.elim
theorem eZ{E:EK}:∀(x:Sxs){Y:ak}{G:DH}{D D':En},D.Le D'->au Z x E Y G D->au Z x E Y G D'
 |.nil,Y,G,D,D',h,q=>by rw[kh]at q ⊢;exact h.nx _ _ q
 |.cons s r,Y,G,D,D',h,q=>by rw[kj]at q ⊢;exact wpS_mono s (D:={ D with nx:=λρ' G'=>au Z r E ρ' G' D }) (D':={ D' with nx:=λρ' G'=>au Z r E ρ' G' D' }) ⟨λ_ _ z=>eZ r h z,h.rt,h.bk,h.ct⟩ q
end
end
def PV(K:PF)(H:Hp)(F:FZ)(Q:VK):D->DH->Prop:=λd G'=>∀H' F' v,Ext H F H' F'->R K H' F' G'->Rep K H' F' d v->Q v H'
def PB(K:PF)(H:Hp)(F:FZ)(Q:Bool->Hp->Prop):Bool->DH->Prop:=λb G'=>∀H' F',Ext H F H' F'->R K H' F' G'->Q b H'
def PLs(K:PF)(H:Hp)(F:FZ)(Q:List V->Hp->Prop):List D->DH->Prop:=λds G'=>∀H' F' vs,Ext H F H' F'->R K H' F' G'->Reps K H' F' ds vs->Q vs H'
section
variable {K:PF} {H:Hp} {F:FZ} {G:DH} {Q:VK}
theorem PV.now{d:D}{v:V}(h:PV K H F Q d G)(r:R K H F G)(q:Rep K H F d v):Q v H:=h H F v (Ext.refl H F) r q
theorem gH{fz:Bool}{ds:List D}{vs:List V}(h:mk fz ds G (PV K H F Q))(r:R K H F G)(t:Reps K H F ds vs)(p:Addr)(hp:H p=none):Q (.ref p) (upd H p (.lst vs)):=by
 cases fz with
 |true=>exact h _ _ _ (qj r hp) (r.newF hp) (TY r hp t)
 |false=>exact h p (r.free hp) _ _ _ (dm r hp) (r.newL hp t) rfl
theorem qP{ds:List D}{vs:List V}(h:PV K H F Q (.tup ds) G)(r:R K H F G)(t:Reps K H F ds vs)(p:Addr)(hp:H p=none):Q (.ref p) (upd H p (.tup vs)):=
 h _ _ _ (dm r hp) (r.new hp) (vg r hp t)
end
theorem szl:sz<=sizeLine:=by rw[fq];decide
theorem dq{n:Nat}(h:n<=sz):n<=sizeLine:=bv h szl
def rB2(K:PF)(f:D->D->DH->(D->DH->Prop)->Prop):R2:=λx y H Q=>∃F G a b,R K H F G/\Rep K H F a x/\Rep K H F b y/\f (view G a) (view G b) G (PV K H F Q)
section
variable {X:Cx}
theorem Ub:OpR X (binaryOp .Add) (λx y H Q=>∃a b xs ys,x=.ref a/\y=.ref b/\SqL X.K H a xs/\SqL X.K H b ys/\xs.length+ys.length<=sizeLine/\∀p,H p=none->Q (.ref p) (upd H p (.lst (xs++ys)))):=by
 intro pins s Y H x y v u Q I rx ry h;obtain ⟨a,b,xs,ys,rfl,rfl,ha,hb,hz,q⟩:=h;cases rx;cases ry;obtain ⟨its,r1,p1,_⟩:=I.list ha;obtain ⟨its2,r2,p2,_⟩:=I.list hb;obtain ⟨⟨cls,dd,data,sl⟩,ho,hc,n,hd⟩:=p1.isList;obtain ⟨⟨cls2,dd2,data2,sl2⟩,ho2,hc2,n2,hd2⟩:=p2.isList;simp only at hc hd hc2 hd2;subst hc hd hc2 hd2;have e:its.toArray++its2.toArray=(its++its2).toArray:=by simp
 refine concat_meets ⟨_,ho,rfl⟩ ⟨_,ho2,rfl⟩ noFill_list_add seq_list_add PySem.F.slot_list_add PySem.F.entry_list_add (PySem.F.args_list_add_2 _ _)
  (list_addW a b its.toArray its2.toArray n n2 dd dd2 sl sl2 (by rw[am,am,<-r1.length,<-r2.length];exact hz)) ⟨ho,ho2,?_⟩
 rw[e];exact ⟨.ref _,_,I.lnew (t':=s.toks) (r1.append r2) (by rw[al];exact hz),rfl,q _ I.fresh⟩
theorem Uc:OpR X (binaryOp .Add) (λx y H Q=>∃a b ys,x=.ref a/\y=.ref b/\SqT X.K H a []/\SqT X.K H b ys/\Q (.ref b) H):=by
 intro pins s Y H x y v u Q I rx ry h;obtain ⟨a,b,ys,rfl,rfl,ha,hb,q⟩:=h;cases rx;cases ry;obtain ⟨its,r1,p1,_⟩:=I.tuple ha;obtain ⟨its2,r2,p2,_⟩:=I.tuple hb;obtain ⟨⟨cls,dd,data,sl⟩,ho,hc,n,hd⟩:=id p1;obtain ⟨⟨cls2,dd2,data2,sl2⟩,ho2,hc2,n2,hd2⟩:=id p2;simp only at hc hd hc2 hd2;subst hc hd hc2 hd2;cases r1;exact concat_meets ⟨_,ho,rfl⟩ ⟨_,ho2,rfl⟩ noFill_tuple_add seq_tuple_add PySem.F.slot_tuple_add PySem.F.entry_tuple_add (PySem.F.args_tuple_add_2 _ _)
   (tuple_addW0 a b _ its2.toArray n n2 dd dd2 sl sl2 (by simp)) ⟨ho,ho2,⟨.ref b,H,I,rfl,q⟩⟩
theorem Dk{K:PF}{H:Hp}{F:FZ}{ds:List D}{vs:List V}(t:Reps K H F ds vs):ds=[]↔vs=[]:=by
 have:=t.length;constructor
 ·intro e;subst e;exact db.mp this.symm
 ·intro e;subst e;exact db.mp this
theorem Ud{x:Str}{n:Nat}(h1:n<=1000)(h:x.length * n<=sz):MulOk x (n:Int):=by
 have h2:((x.length * n:Nat):Int)<=((1000000:Nat):Int):=Int.ofNat_le.mpr h;rw[Int.natCast_mul]at h2;refine ⟨?_,?_,?_⟩
 ·rw[bn (by omega),bn (by omega)];rfl
 ·intro hn _ hh;have hp:(0:Int) < n:=by omega
  have h3:(x.length:Int)<=(2 ^ 63 - 1) / n:=(Int.le_ediv_iff_mul_le hp).mpr (Int.le_trans h2 (by decide));exact absurd hh (Int.not_lt.mpr h3)
 ·intro _ _;unfold Builtin.Str.tooLong;rw[fq,br];exact bn (by have:sz=1000000:=rfl;omega)
theorem Dl(l:List Nat):∀(n:Nat)(acc:List Nat),(List.replicate n l.toArray).foldl (· ++ ·) acc.toArray=(acc++reps l n).toArray
 |0,acc=>by simp[reps]
 |n+1,acc=>by
  rw[ee,List.foldl_cons];have e:acc.toArray++l.toArray=(acc++l).toArray:=by simp
  rw[e,Dl l n (acc++l)];unfold reps;rw[ee,fy,List.append_assoc]
theorem Ue(n:Nat):reps ([]:List Nat) n=[]:=by
 unfold reps;induction n with
 |zero=>rfl
 |succ n ih=>rw[ee,fy,ih];rfl
theorem Ug{α:Type}(l:List α)(n:Nat):(reps l n).length=n * l.length:=len_rep l n
theorem Uh(l:List Nat)(n:Nat):Txt.mul (tx l) (n:Int)=tx (reps l n):=by
 unfold Txt.mul;by_cases h:(n:Int) < 1
 ·rw[if_pos h];have:n=0:=by omega
  subst this;rfl
 ·rw[if_neg h];by_cases h2:((n:Int)==1||(tx l).length==0)=true
  ·rw[if_pos h2];rw[cK]at h2;rcases h2 with h2 |h2
   ·have:n=1:=by have:=eq_of_beq h2;omega
    subst this;simp[reps]
   ·have h3:=eq_of_beq h2;rw[bW]at h3;have:l=[]:=db.mp h3;subst this;rw[Ue]
  ·rw[if_neg h2];have e:=Dl l n [];rw[List.nil_append]at e;exact eg Str.mk (by simpa using e)
theorem Ui(op:Operator)(fz:Bool):OpR X (binaryOp op) (rB2 X.K (cP op fz)):=by
 intro pins s Y H x y v u Q I rx ry h;obtain ⟨F,G,a,b,r,ra,rb,h⟩:=h;generalize ea:view G a=va at h;generalize eb:view G b=vb at h;have twoI:∀{p:Int->Int->Prop},gC va vb p->∃i j,x=.int i/\y=.int j/\p i j:=λ{p} h=>by
  obtain ⟨i,j,rfl,rfl,h⟩:=CZ h;cases fM ea;cases fM eb;exact ⟨i,j,ra,rb,h⟩
 cases op with
 |Add=>
  have h:ji fz va vb G _:=h;unfold ji at h;cases va with
  |int _=>cases vb with
   |int _=>
    cases fM ea;cases fM eb;have ha:x=.int _:=ra;have hb:y=.int _:=rb;subst ha;subst hb;exact Af pins s Y H _ _ v u Q I rx ry ⟨_,_,rfl,rfl,h.now r rfl⟩
   |_=>exact h.elim
  |str _=>cases vb with
   |str _=>
    cases fL ea;cases fL eb;obtain ⟨ha,la⟩:=ra;obtain ⟨hb,lb⟩:=rb;subst ha;subst hb;refine Qj pins s Y H _ _ v u Q I rx ry ⟨_,_,rfl,rfl,?_,?_⟩
    ·rw[bW,bW];exact dq h.1
    ·rw[p6];exact h.2.now r ⟨rfl,by rw[al];exact h.1⟩
   |_=>exact h.elim
  |lst _=>cases vb with
   |lst _=>
    obtain ⟨p,vs,rfl,q1,t1⟩:=Rep.list r ra ea;obtain ⟨p',vs',rfl,q2,t2⟩:=Rep.list r rb eb;exact Ub pins s Y H _ _ v u Q I rx ry ⟨p,p',vs,vs',rfl,rfl,q1,q2,by rw[<-t1.length,<-t2.length];exact dq h.1,gH h.2 r (t1.append t2)⟩
   |_=>exact h.elim
  |tup xs=>cases vb with
   |tup ys=>
    cases gB ea;cases gB eb;obtain ⟨p,vs,rfl,q1,t1⟩:=id ra;obtain ⟨p',vs',rfl,q2,t2⟩:=id rb;by_cases hx:vs=[]
    ·subst hx;have:xs=[]:=(Dk t1).mpr rfl;subst this;exact Uc pins s Y H _ _ v u Q I rx ry ⟨p,p',vs',rfl,rfl,q1.sq,q2.sq,h.2.now r rb⟩
    ·refine QS pins s Y H _ _ v u Q I rx ry ⟨p,p',vs,vs',rfl,rfl,q1.sq,q2.sq,hx,by rw[<-t1.length,<-t2.length];exact dq h.1,λe=>?_,λ_=>qP h.2 r (t1.append t2)⟩;subst e;have:ys=[]:=(Dk t2).mpr rfl;subst this;have h2:=h.2;rw[eI]at h2;exact h2.now r ra
   |_=>exact h.elim
  |_=>exact h.elim
 |Sub=>
  obtain ⟨i,j,rfl,rfl,h⟩:=twoI h;exact PJ pins s Y H _ _ v u Q I rx ry ⟨_,_,rfl,rfl,h.now r rfl⟩
 |Mult=>
  have h:jj fz va vb G _:=h;unfold jj at h;cases vb with
  |int _=>cases va with
   |int _=>
    cases fM ea;cases fM eb;have ha:x=.int _:=ra;have hb:y=.int _:=rb;subst ha;subst hb;exact PK pins s Y H _ _ v u Q I rx ry ⟨_,_,rfl,rfl,h.1,h.2.now r rfl⟩
   |str _=>
    cases fL ea;cases fM eb;obtain ⟨ha,la⟩:=ra;have hb:y=.int _:=rb;subst ha;subst hb;obtain ⟨h0,h1,h2,h3⟩:=h;obtain ⟨n,rfl⟩:=cp h0;rw[br]at h2 h3;refine RC pins s Y H _ _ v u Q I rx ry ⟨_,_,rfl,rfl,Ud (by omega) (by rw[bW];exact h2),?_⟩;rw[Uh];exact h3.now r ⟨rfl,by rw[Ug,Nat.mul_comm];exact h2⟩
   |_=>exact h.elim
  |_=>exact h.elim
 |FloorDiv=>
  obtain ⟨i,j,rfl,rfl,h⟩:=twoI h;exact R4 pins s Y H _ _ v u Q I rx ry ⟨_,_,rfl,rfl,h.1,h.2.now r rfl⟩
 |Mod=>
  obtain ⟨i,j,rfl,rfl,h⟩:=twoI h;exact PL pins s Y H _ _ v u Q I rx ry ⟨_,_,rfl,rfl,h.1,h.2.now r rfl⟩
 |Pow=>
  obtain ⟨i,j,rfl,rfl,h⟩:=twoI h;exact PN pins s Y H _ _ v u Q I rx ry ⟨_,_,rfl,rfl,h.1,h.2.now r rfl⟩
 |_=>exact h.elim
end
mutual
theorem wK:∀{d:D},nr d=true->deq d d=true
 |.non,_=>rfl
 |.bl b,_=>by simp[deq]
 |.int i,_=>by simp[deq]
 |.str l,_=>by simp[deq]
 |.tup xs,h=>by rw[deq];exact ju (by rw[nr]at h;exact h)
 |.lst xs,h=>by rw[deq];exact ju (by rw[nr]at h;exact h)
 |.ref a,h=>by rw[nr]at h;cases h
 |.scr a,h=>by rw[nr]at h;cases h
 |.exn a,h=>by rw[nr]at h;cases h
 |.exa _ _ _,h=>by rw[nr]at h;cases h
 |.obj _ _ _,h=>by rw[nr]at h;cases h
theorem ju:∀{ds:List D},nrs ds=true->bZ ds ds=true
 |[],_=>rfl
 |d::ds,h=>by
  rw[nrs,ae]at h;rw[bZ,wK h.1,ju h.2];rfl
end
theorem qQ:∀(xs ys:List D),bZ xs ys=((List.range (min xs.length ys.length)).all (λj=>deq (xs.getD j .non) (ys.getD j .non))&&xs.length==ys.length)
 |[],[]=>rfl
 |[],y::ys=>by simp[bZ]
 |x::xs,[]=>by simp[bZ]
 |x::xs,y::ys=>by
  have e:min (x::xs).length (y::ys).length=(min xs.length ys.length)+1:=by simp only[cS];omega
  rw[bZ,qQ xs ys,e,List.range_succ_eq_map,List.all_cons,List.all_map];simp only[List.getD_cons_zero,cS,Bool.and_assoc];congr 1;congr 1;rw[e8];simp
theorem Uj{xs ys:List D}(h:xs.length≠ys.length):bZ xs ys=false:=by rw[qQ];rw[show (xs.length==ys.length)=false from b9.mpr h,fo]
theorem kJ:∀{xs:List D}{i:Nat},nrs xs=true->nr (xs.getD i .non)=true
 |[],_,_=>rfl
 |x::xs,0,h=>by rw[nrs,ae]at h;exact h.1
 |x::xs,i+1,h=>by rw[nrs,ae]at h;rw[List.getD_cons_succ];exact kJ h.2
theorem kO:∀{xs:List D}{i:Nat},dpt (xs.getD i .non)<=aV xs
 |[],_=>eS _
 |x::xs,0=>by rw[aV,List.getD_cons_zero];omega
 |x::xs,i+1=>by rw[aV,List.getD_cons_succ];have:=@kO xs i;omega
section
variable {X:Cx} {pins:List (Addr×Obj)} {σ:L2.St} {H:Hp} {s:Shared} {F:FZ}
mutual
theorem qR(I:Inv X pins σ H s):∀{d d':D}{v:V},nr d=true->nr d'=true->Rep X.K H F d v->Rep X.K H F d' v->d=d'
 |.non,d',v,_,n',h,h'=>by
  have h:v=.non:=h;subst h;cases d' with
  |non=>rfl
  |bl _=>simp only[Rep]at h';cases h'
  |int _=>simp only[Rep]at h';cases h'
  |ref _=>simp only[Rep]at h';cases h'
  |scr _=>rw[nr]at n';cases n'
  |exn _=>rw[nr]at n';cases n'
  |exa _ _ _=>rw[nr]at n';cases n'
  |obj _ _ _=>rw[nr]at n';cases n'
  |str _=>simp only[Rep]at h';obtain ⟨e,_⟩:=h';cases e
  |tup _=>simp only[Rep]at h';obtain ⟨_,_,e,_⟩:=h';cases e
  |lst _=>simp only[Rep]at h';obtain ⟨_,_,e,_⟩:=h';cases e
 |.bl b,d',v,_,n',h,h'=>by
  have h:v=.bl b:=h;subst h;cases d' with
  |non=>simp only[Rep]at h';cases h'
  |bl _=>simp only[Rep]at h';cases h';rfl
  |int _=>simp only[Rep]at h';cases h'
  |ref _=>simp only[Rep]at h';cases h'
  |scr _=>rw[nr]at n';cases n'
  |exn _=>rw[nr]at n';cases n'
  |exa _ _ _=>rw[nr]at n';cases n'
  |obj _ _ _=>rw[nr]at n';cases n'
  |str _=>simp only[Rep]at h';obtain ⟨e,_⟩:=h';cases e
  |tup _=>simp only[Rep]at h';obtain ⟨_,_,e,_⟩:=h';cases e
  |lst _=>simp only[Rep]at h';obtain ⟨_,_,e,_⟩:=h';cases e
 |.int b,d',v,_,n',h,h'=>by
  have h:v=.int b:=h;subst h;cases d' with
  |non=>simp only[Rep]at h';cases h'
  |bl _=>simp only[Rep]at h';cases h'
  |int _=>simp only[Rep]at h';cases h';rfl
  |ref _=>simp only[Rep]at h';cases h'
  |scr _=>rw[nr]at n';cases n'
  |exn _=>rw[nr]at n';cases n'
  |exa _ _ _=>rw[nr]at n';cases n'
  |obj _ _ _=>rw[nr]at n';cases n'
  |str _=>simp only[Rep]at h';obtain ⟨e,_⟩:=h';cases e
  |tup _=>simp only[Rep]at h';obtain ⟨_,_,e,_⟩:=h';cases e
  |lst _=>simp only[Rep]at h';obtain ⟨_,_,e,_⟩:=h';cases e
 |.str l,d',v,_,n',h,h'=>by
  obtain ⟨h,_⟩:=h;subst h;cases d' with
  |str l'=>
   obtain ⟨e,_⟩:=h';injection e with e;rw[iw e]
  |non=>simp only[Rep]at h';cases h'
  |bl _=>simp only[Rep]at h';cases h'
  |int _=>simp only[Rep]at h';cases h'
  |ref _=>simp only[Rep]at h';cases h'
  |scr _=>rw[nr]at n';cases n'
  |exn _=>rw[nr]at n';cases n'
  |exa _ _ _=>rw[nr]at n';cases n'
  |obj _ _ _=>rw[nr]at n';cases n'
  |tup _=>simp only[Rep]at h';obtain ⟨_,_,e,_⟩:=h';cases e
  |lst _=>simp only[Rep]at h';obtain ⟨_,_,e,_⟩:=h';cases e
 |.tup xs,d',v,n,n',h,h'=>by
  obtain ⟨a,vs,e,q,t⟩:=h;subst e;cases d' with
  |tup ys=>
   obtain ⟨a',vs',e,q',t'⟩:=h';injection e with e;subst e;have:=I.tuple_inj q.sq q'.sq;subst this;rw[nr]at n n';rw[wL I n n' t t']
  |lst ys=>
   obtain ⟨a',vs',e,q',t'⟩:=h';injection e with e;subst e;obtain ⟨its,_,⟨o,e1,c1,_⟩,_⟩:=I.tuple q.sq;obtain ⟨its',_,⟨o',n',e2,c2,_⟩,_⟩:=I.list q'.sq;rw[e1]at e2;cases e2;rw[c1]at c2;exact absurd c2 (by ac_rfl)
  |ref _=>rw[nr]at n';cases n'
  |scr _=>rw[nr]at n';cases n'
  |exn _=>rw[nr]at n';cases n'
  |exa _ _ _=>rw[nr]at n';cases n'
  |obj _ _ _=>rw[nr]at n';cases n'
  |str _=>simp only[Rep]at h';obtain ⟨e,_⟩:=h';cases e
  |non=>simp only[Rep]at h';cases h'
  |bl _=>simp only[Rep]at h';cases h'
  |int _=>simp only[Rep]at h';cases h'
 |.lst xs,d',v,n,n',h,h'=>by
  obtain ⟨a,vs,e,q,t⟩:=h;subst e;cases d' with
  |lst ys=>
   obtain ⟨a',vs',e,q',t'⟩:=h';injection e with e;subst e;have:=I.list_inj q.sq q'.sq;subst this;rw[nr]at n n';rw[wL I n n' t t']
  |tup ys=>
   obtain ⟨a',vs',e,q',t'⟩:=h';injection e with e;subst e;obtain ⟨its,_,⟨o,e1,c1,_⟩,_⟩:=I.tuple q'.sq;obtain ⟨its',_,⟨o',n',e2,c2,_⟩,_⟩:=I.list q.sq;rw[e1]at e2;cases e2;rw[c1]at c2;exact absurd c2 (by ac_rfl)
  |ref _=>rw[nr]at n';cases n'
  |scr _=>rw[nr]at n';cases n'
  |exn _=>rw[nr]at n';cases n'
  |exa _ _ _=>rw[nr]at n';cases n'
  |obj _ _ _=>rw[nr]at n';cases n'
  |str _=>simp only[Rep]at h';obtain ⟨e,_⟩:=h';cases e
  |non=>simp only[Rep]at h';cases h'
  |bl _=>simp only[Rep]at h';cases h'
  |int _=>simp only[Rep]at h';cases h'
 |.ref a,d',v,n,_,_,_=>by rw[nr]at n;cases n
 |.scr a,d',v,n,_,_,_=>by rw[nr]at n;cases n
 |.exn a,d',v,n,_,_,_=>by rw[nr]at n;cases n
 |.exa _ _ _,d',v,n,_,_,_=>by rw[nr]at n;cases n
 |.obj _ _ _,d',v,n,_,_,_=>by rw[nr]at n;cases n
theorem wL(I:Inv X pins σ H s):∀{ds ds':List D}{vs:List V},nrs ds=true->nrs ds'=true->Reps X.K H F ds vs->Reps X.K H F ds' vs->ds=ds'
 |[],[],_,_,_,_,_=>rfl
 |[],_::_,_,_,_,h,⟨v,r,e,_⟩=>by have h:_=[]:=h;rw[h]at e;cases e
 |_::_,[],_,_,_,⟨v,r,e,_⟩,h=>by have h:_=[]:=h;rw[h]at e;cases e
 |d::ds,d'::ds',_,n,n',⟨v,r,e,h,t⟩,⟨v',r',e',h',t'⟩=>by
  subst e;injection e' with e1 e2;subst e1;subst e2;rw[nrs,ae]at n n';rw[qR I n.1 n'.1 h h',wL I n.2 n'.2 t t']
end
theorem qT{I:Inv X pins Y H s}{ds:List D}{vs:List V}{its:List Value}(t:Reps X.K H F ds vs)(r:Vals vs its)(j:Nat)(h:j < its.length):∃v,Rep X.K H F (ds.getD j .non) v/\RelV v its[j]:=by
 have hl:j < ds.length:=by rw[t.length,r.length];exact h
 have e1:ds[j]?=some (ds.getD j .non):=by rw[dA,ai hl];rfl
 obtain ⟨v,e2,r2⟩:=t.get e1;obtain ⟨u,e3,r3⟩:=r.get e2;rw[ai h]at e3;cases e3;exact ⟨v,r2,r3⟩
theorem Uk(a b:List Nat):(tx a==tx b)=(a==b):=by rw[e8,aT,aT];exact ⟨λh=>iw h,λh=>by rw[h]⟩
theorem Ul(I:Inv X pins Y H s){n:Nat}{A:Around}{xs ys:List D}{a a':Addr}{vs vs':List V}{its its':List Value}
  (ih:∀m,m < n->∀(A:Around)(d d':D)(v v':V)(u u':Value),A.units+m < cLine->min (dpt d) (dpt d')<=m->nr d=true->nr d'=true->Rep X.K H F d v->Rep X.K H F d' v'->RelV v u->RelV v' u'->
   SeqAt.RcAt A s u u' (deq d d')/\SeqAt.EqAt A s u u' (deq d d')/\SeqAt.RcNeAt A s u u' (!deq d d'))
  (hu:A.units+n < cLine) (hd:min (dpt (.tup xs)) (dpt (.tup ys))<=n) (n1:nr (.tup xs)=true) (n2:nr (.tup ys)=true) (h:Rep X.K H F (.tup xs) (.ref a)) (h':Rep X.K H F (.tup ys) (.ref a'))
  (pt:s.heap.IsTuple a its.toArray) (pt':s.heap.IsTuple a' its'.toArray) (rv:Vals vs its) (rv':Vals vs' its') (tt:Reps X.K H F xs vs) (tt':Reps X.K H F ys vs'):
  SeqAt.RcAt A s (.ref a) (.ref a') (deq (.tup xs) (.tup ys))/\SeqAt.EqAt A s (.ref a) (.ref a') (deq (.tup xs) (.tup ys))/\SeqAt.RcNeAt A s (.ref a) (.ref a') (!deq (.tup xs) (.tup ys)):=by
 have hd':min (aV xs+1) (aV ys+1)<=n:=by rw[dpt,dpt]at hd;exact hd
 have hn1:nrs xs=true:=by rw[nr]at n1;exact n1
 have hn2:nrs ys=true:=by rw[nr]at n2;exact n2
 have l1:its.toArray.size=xs.length:=by rw[am,<-rv.length,tt.length]
 have l2:its'.toArray.size=ys.length:=by rw[am,<-rv'.length,tt'.length]
 have he:∀j (h1:j < its.toArray.size) (h2:j < its'.toArray.size),SeqAt.EqAt A.in1 s its.toArray[j] its'.toArray[j] (deq (xs.getD j .non) (ys.getD j .non)):=by intro j h1 h2;obtain ⟨w1,q1,q2⟩:=qT (I:=I) tt rv j (by simpa using h1);obtain ⟨w2,q3,q4⟩:=qT (I:=I) tt' rv' j (by simpa using h2);have d1:=@kO xs j;have d2:=@kO ys j;exact (ih (n - 1) (by omega) A.in1 _ _ w1 w2 _ _ (by show A.units+1+(n - 1) < cLine;omega) (by omega) (kJ hn1) (kJ hn2) q1 q3 (by simpa using q2) (by simpa using q4)).2.1
 have e:deq (.tup xs) (.tup ys)=((List.range (min its.toArray.size its'.toArray.size)).all (λj=>deq (xs.getD j .non) (ys.getD j .non))&&its.toArray.size==its'.toArray.size):=by rw[deq,qQ,l1,l2]
 have rc:SeqAt.RcAt A s (.ref a) (.ref a') (deq (.tup xs) (.tup ys)):=by rw[e];exact .tuples pt pt' (by omega) he
 refine ⟨rc,?_,by rw[e];exact .tuples pt pt' (by omega) he⟩;by_cases z:a=a'
 ·subst z;have:=qR I n1 n2 h h';rw[<-this,wK n1];exact .same _
 ·exact .of_refs z rc
theorem Um(I:Inv X pins Y H s){n:Nat}{A:Around}{xs ys:List D}{a a':Addr}{vs vs':List V}{its its':List Value}
  (ih:∀m,m < n->∀(A:Around)(d d':D)(v v':V)(u u':Value),A.units+m < cLine->min (dpt d) (dpt d')<=m->nr d=true->nr d'=true->Rep X.K H F d v->Rep X.K H F d' v'->RelV v u->RelV v' u'->
   SeqAt.RcAt A s u u' (deq d d')/\SeqAt.EqAt A s u u' (deq d d')/\SeqAt.RcNeAt A s u u' (!deq d d'))
  (hu:A.units+n < cLine) (hd:min (dpt (.lst xs)) (dpt (.lst ys))<=n) (n1:nr (.lst xs)=true) (n2:nr (.lst ys)=true) (h:a=a'->xs=ys)
  (pt:s.heap.IsList a its.toArray) (pt':s.heap.IsList a' its'.toArray) (rv:Vals vs its) (rv':Vals vs' its') (tt:Reps X.K H F xs vs) (tt':Reps X.K H F ys vs'):
  SeqAt.RcAt A s (.ref a) (.ref a') (deq (.lst xs) (.lst ys))/\SeqAt.EqAt A s (.ref a) (.ref a') (deq (.lst xs) (.lst ys))/\SeqAt.RcNeAt A s (.ref a) (.ref a') (!deq (.lst xs) (.lst ys)):=by
 have hd':min (aV xs+1) (aV ys+1)<=n:=by rw[dpt,dpt]at hd;exact hd
 have hn1:nrs xs=true:=by rw[nr]at n1;exact n1
 have hn2:nrs ys=true:=by rw[nr]at n2;exact n2
 have l1:its.toArray.size=xs.length:=by rw[am,<-rv.length,tt.length]
 have l2:its'.toArray.size=ys.length:=by rw[am,<-rv'.length,tt'.length]
 have eqs:∀(rc:SeqAt.RcAt A s (.ref a) (.ref a') (deq (.lst xs) (.lst ys))),SeqAt.EqAt A s (.ref a) (.ref a') (deq (.lst xs) (.lst ys)):=λrc=>by
  by_cases z:a=a'
  ·have:=h z;subst z;subst this;rw[wK n1];exact .same _
  ·exact .of_refs z rc
 by_cases hl:xs.length=ys.length
 ·have he:∀j (h1:j < its.toArray.size) (h2:j < its'.toArray.size),SeqAt.EqAt A.in1 s its.toArray[j] its'.toArray[j] (deq (xs.getD j .non) (ys.getD j .non)):=by
   intro j h1 h2;obtain ⟨w1,q1,q2⟩:=qT (I:=I) tt rv j (by simpa using h1);obtain ⟨w2,q3,q4⟩:=qT (I:=I) tt' rv' j (by simpa using h2);have d1:=@kO xs j;have d2:=@kO ys j;exact (ih (n - 1) (by omega) A.in1 _ _ w1 w2 _ _ (by show A.units+1+(n - 1) < cLine;omega) (by omega) (kJ hn1) (kJ hn2) q1 q3 (by simpa using q2) (by simpa using q4)).2.1
  have e:deq (.lst xs) (.lst ys)=(List.range its.toArray.size).all (λj=>deq (xs.getD j .non) (ys.getD j .non)):=by rw[deq,qQ,l1,hl,Nat.min_self];simp
  have rc:SeqAt.RcAt A s (.ref a) (.ref a') (deq (.lst xs) (.lst ys)):=by rw[e];exact .lists pt pt' (by rw[l1,l2];exact hl) (by omega) he
  exact ⟨rc,eqs rc,by rw[e];exact .lists pt pt' (by rw[l1,l2];exact hl) (by omega) he⟩
 ·have e:deq (.lst xs) (.lst ys)=false:=by rw[deq];exact Uj hl
  have hne:(its.toArray.size != its'.toArray.size)=true:=by rw[l1,l2];simpa using hl
  have rc:SeqAt.RcAt A s (.ref a) (.ref a') (deq (.lst xs) (.lst ys)):=by rw[e];exact .lists_lengths pt pt' hne (by omega)
  exact ⟨rc,eqs rc,by rw[e];exact .lists_lengths pt pt' hne (by omega)⟩
inductive Sh (K:PF) (H:Hp) (F:FZ) (s:Shared):D->V->Value->Prop
 |non:Sh K H F s .non .non .none
 |bl {b:Bool}:Sh K H F s (.bl b) (.bl b) (.bool b)
 |int {i:Int} {t:Tok}:Sh K H F s (.int i) (.int i) (.int i t)
 |str {l:List Nat} {t:Tok}:Sh K H F s (.str l) (.str (tx l)) (.str (tx l) t)
 |tup {ds:List D} {a:Addr} {vs:List V} {its:List Value} (p:s.heap.IsTuple a its.toArray) (r:Vals vs its) (t:Reps K H F ds vs):Sh K H F s (.tup ds) (.ref a) (.ref a)
 |lst {ds:List D} {a:Addr} {vs:List V} {its:List Value} (p:s.heap.IsList a its.toArray) (r:Vals vs its) (t:Reps K H F ds vs):Sh K H F s (.lst ds) (.ref a) (.ref a)
theorem Dm(I:Inv X pins Y H s){d:D}{v:V}{u:Value}(n:nr d=true)(h:Rep X.K H F d v)(r:RelV v u):Sh X.K H F s d v u:=by
 cases d with
 |non=>have e:v=.non:=h;subst e;have e:u=Value.none:=r;subst e;exact .non
 |bl b=>have e:v=.bl b:=h;subst e;have e:u=Value.bool b:=r;subst e;exact .bl
 |int i=>have e:v=.int i:=h;subst e;obtain ⟨t,e⟩:∃t,u=Value.int i t:=r;subst e;exact .int
 |str l=>obtain ⟨e,_⟩:=h;subst e;obtain ⟨t,e⟩:∃t,u=Value.str (tx l) t:=r;subst e;exact .str
 |tup ds=>obtain ⟨a,vs,e,q,tt⟩:=h;subst e;have e:u=Value.ref a:=r;subst e;obtain ⟨its,rv,pt,_⟩:=I.tuple q.sq;exact .tup pt rv tt
 |lst ds=>obtain ⟨a,vs,e,q,tt⟩:=h;subst e;have e:u=Value.ref a:=r;subst e;obtain ⟨its,rv,pl,_⟩:=I.list q.sq;exact .lst pl.isList rv tt
 |_=>rw[nr]at n;cases n
theorem wM(I:Inv X pins Y H s):∀(n:Nat)(A:Around)(d d':D)(v v':V)(u u':Value),A.units+n < cLine->min (dpt d) (dpt d')<=n->nr d=true->nr d'=true->Rep X.K H F d v->Rep X.K H F d' v'->RelV v u->RelV v' u'->
  SeqAt.RcAt A s u u' (deq d d')/\SeqAt.EqAt A s u u' (deq d d')/\SeqAt.RcNeAt A s u u' (!deq d d'):=by
 intro n;induction n using Nat.strongRecOn with
 |_ n ih=>
  intro A d d' v v' u u' hu hd n1 n2 h h' r r';have hu0:A.units < cLine:=by omega
  have k2:=Dm I n2 h' r';cases Dm I n1 h r with
  |non=>
   cases k2 with
   |non=>exact ⟨.none_none,.same _,.none_none⟩
   |bl=>exact ⟨.none_bool _,.none_bool _,.none_bool _⟩
   |int=>exact ⟨.none_int _ _,.none_int _ _,.none_int _ _⟩
   |str=>exact ⟨.none_str _ _,.none_str _ _,.none_str _ _⟩
   |tup p' rv' tt'=>exact ⟨.none_tuple p' hu0,.none_tuple p' hu0,.none_tuple p' hu0⟩
   |lst p' rv' tt'=>exact ⟨.none_list p' hu0,.none_list p' hu0,.none_list p' hu0⟩
  |bl=>
   cases k2 with
   |non=>exact ⟨.bool_none _,.bool_none _,.bool_none _⟩
   |bl=>exact ⟨.bool_bool _ _,.bool_bool _ _,.bool_bool _ _⟩
   |int=>exact ⟨.bool_int _ _ _,.bool_int _ _ _,.bool_int _ _ _⟩
   |str=>exact ⟨.bool_str _ _ _,.bool_str _ _ _,.bool_str _ _ _⟩
   |tup p' rv' tt'=>exact ⟨.bool_tuple _ p' hu0,.bool_tuple _ p' hu0,.bool_tuple _ p' hu0⟩
   |lst p' rv' tt'=>exact ⟨.bool_list _ p' hu0,.bool_list _ p' hu0,.bool_list _ p' hu0⟩
  |int=>
   cases k2 with
   |non=>exact ⟨.int_none _ _,.int_none _ _,.int_none _ _⟩
   |bl=>exact ⟨.int_bool _ _ _,.int_bool _ _ _,.int_bool _ _ _⟩
   |int=>exact ⟨.int_int _ _ _ _,.int_int _ _ _ _,.int_int _ _ _ _⟩
   |str=>exact ⟨.int_str _ _ _ _,.int_str _ _ _ _,.int_str _ _ _ _⟩
   |tup p' rv' tt'=>exact ⟨.int_tuple _ _ p' hu0,.int_tuple _ _ p' hu0,.int_tuple _ _ p' hu0⟩
   |lst p' rv' tt'=>exact ⟨.int_list _ _ p' hu0,.int_list _ _ p' hu0,.int_list _ _ p' hu0⟩
  |str=>
   cases k2 with
   |non=>exact ⟨.str_none _ _,.str_none _ _,.str_none _ _⟩
   |bl=>exact ⟨.str_bool _ _ _,.str_bool _ _ _,.str_bool _ _ _⟩
   |int=>exact ⟨.str_int _ _ _ _,.str_int _ _ _ _,.str_int _ _ _ _⟩
   |str=>rw[deq,<-Uk];exact ⟨.str_str _ _ _ _,.str_str _ _ _ _,.str_str _ _ _ _⟩
   |tup p' rv' tt'=>exact ⟨.str_tuple _ _ p' hu0,.str_tuple _ _ p' hu0,.str_tuple _ _ p' hu0⟩
   |lst p' rv' tt'=>exact ⟨.str_list _ _ p' hu0,.str_list _ _ p' hu0,.str_list _ _ p' hu0⟩
  |tup p rv tt=>
   cases k2 with
   |non=>exact ⟨.tuple_none p hu0,.tuple_none p hu0,.tuple_none p hu0⟩
   |bl=>exact ⟨.tuple_bool _ p hu0,.tuple_bool _ p hu0,.tuple_bool _ p hu0⟩
   |int=>exact ⟨.tuple_int _ _ p hu0,.tuple_int _ _ p hu0,.tuple_int _ _ p hu0⟩
   |str=>exact ⟨.tuple_str _ _ p hu0,.tuple_str _ _ p hu0,.tuple_str _ _ p hu0⟩
   |tup p' rv' tt'=>exact Ul I ih hu hd n1 n2 h h' p p' rv rv' tt tt'
   |lst p' rv' tt'=>exact ⟨.tuple_list p p' hu0,.tuple_list p p' hu0,.tuple_list p p' hu0⟩
  |lst p rv tt=>
   cases k2 with
   |non=>exact ⟨.list_none p hu0,.list_none p hu0,.list_none p hu0⟩
   |bl=>exact ⟨.list_bool _ p hu0,.list_bool _ p hu0,.list_bool _ p hu0⟩
   |int=>exact ⟨.list_int _ _ p hu0,.list_int _ _ p hu0,.list_int _ _ p hu0⟩
   |str=>exact ⟨.list_str _ _ p hu0,.list_str _ _ p hu0,.list_str _ _ p hu0⟩
   |tup p' rv' tt'=>exact ⟨.list_tuple p p' hu0,.list_tuple p p' hu0,.list_tuple p p' hu0⟩
   |lst p' rv' tt'=>exact Um I ih hu hd n1 n2 (λz=>by subst z;have e:=qR I n1 n2 h h';injection e) p p' rv rv' tt tt'
end
def FA(F:FZ)(G:DH):FZ:=λa=>F a\/∃o,G a=some o
theorem Dn{H:Hp}{F:FZ}{G:DH}:Ext H F H (FA F G):=⟨λ_ f=>.inl f,λ_ _=>rfl,λ_ _ h=>h,λ_ _ _ h=>h⟩
theorem qU{K:PF}{H:Hp}{F:FZ}{G:DH}{d:D}{v:V}(r:R K H F G)(h:Rep K H F d v):Rep K H (FA F G) (view G d) v:=by
 cases d with
 |ref p=>
  have hv:v=.ref p:=h;cases g:G p with
  |none=>
   have e:view G (.ref p)=.ref p:=by simp only[view,g]
   rw[e];exact hv
  |some o=>
   cases o with
   |lst ds=>
    have e:view G (.ref p)=.lst ds:=by simp only[view,g]
    rw[e];obtain ⟨vs,q,t⟩:=r.lst g;exact ⟨p,vs,hv,⟨.inr ⟨_,g⟩,q⟩,Reps.ext Dn t⟩
 |_=>exact Rep.ext Dn h
def rC2(K:PF)(f:D->D->(Bool->Prop)->Prop):R2:=λx y H Q=>∃F G a b,R K H F G/\Rep K H F a x/\Rep K H F b y/\f (view G a) (view G b) (λc=>PV K H F Q (.bl c) G)
section
variable {X:Cx}
theorem Do(c:Nat)(l:List Nat):(!(Builtin.Str.occurrences (tx l) (tx [c]) 0 (tx l).length 1).isEmpty)=l.contains c:=by have:=StrLaws.found_one (tx l) c;rw[this,e8];simp
theorem Uo{pins:List (Addr×Obj)}{Y:L2.St}{H:Hp}{s:Shared}{F:FZ}(I:Inv X pins Y H s){A:Around}{x:D}{v:V}{u:Value}(hu:A.units+64 < cLine)(hx:nr x=true)(rx:Rep X.K H F x v)(ru:RelV v u):
  ∀{ds:List D}{vs:List V}{us:List Value},nrs ds=true->aV ds<=60->Reps X.K H F ds vs->Vals vs us->∃e:Value->Bool,(∀y∈us,SeqAt.EqAt A s y u (e y))/\us.any e=isIn x ds:=by
 intro ds vs us hn hd t r;let P:Value->D->Prop:=λy d=>nr d=true/\∃v,Rep X.K H F d v/\RelV v y
 have one:∀y d d',P y d->P y d'->d=d':=λy d d' ⟨n,v,q,z⟩ ⟨n',v',q',z'⟩=>by
  have e:=z.inj z';subst e;exact qR I n n' q q'
 have ⟨f,hf⟩:∃f:Value->D,∀y d,P y d->f y=d:=by refine ⟨λy=>Classical.epsilon (P y),λy d h=>?_⟩;exact one y _ _ (Classical.epsilon_spec ⟨d,h⟩) h
 refine ⟨λy=>deq (f y) x,?_,?_⟩
 ·skip;have key:∀{ds:List D}{vs:List V}{us:List Value},nrs ds=true->aV ds<=60->Reps X.K H F ds vs->Vals vs us->∀y∈us,SeqAt.EqAt A s y u (deq (f y) x):=by
   intro ds;induction ds with
   |nil=>
    intro vs us _ _ t r y hy;have t:vs=[]:=t;subst t;cases r;cases hy
   |cons d ds ih=>
    intro vs us hn hd t r y hy;obtain ⟨v1,r1,e,h1,t1⟩:=t;subst e;rw[nrs,ae]at hn;rw[aV]at hd;cases r with
    |cons p q=>
     rcases bP.mp hy with e |hy
     ·subst e;rw[hf _ d ⟨hn.1,_,h1,p⟩];exact (wM I 60 A d x v1 v _ u (by omega) (by omega) hn.1 hx h1 rx p ru).2.1
     ·exact ih hn.2 (by omega) t1 q y hy
  exact key hn hd t r
 ·have key:∀{ds:List D}{vs:List V}{us:List Value},nrs ds=true->Reps X.K H F ds vs->Vals vs us->us.any (λy=>deq (f y) x)=isIn x ds:=by
   intro ds;induction ds with
   |nil=>
    intro vs us _ t r;have t:vs=[]:=t;subst t;cases r;rfl
   |cons d ds ih=>
    intro vs us hn t r;obtain ⟨v1,r1,e,h1,t1⟩:=t;subst e;rw[nrs,ae]at hn;cases r with
    |cons p q=>
     rw[List.any_cons,hf _ d ⟨hn.1,_,h1,p⟩,ih hn.2 t1 q];rfl
  exact key hn t r
theorem jw(op:CmpOp)(hu:X.A.units+100 < cLine):OpR X (compareOp op) (rC2 X.K (aW op)):=by
 intro pins s Y H x y v u Q I rx ry h;obtain ⟨F,G,a,b,r,ra,rb,h⟩:=h;have ra':=qU r ra;have rb':=qU r rb;generalize view G a=va at h ra';generalize view G b=vb at h rb';have fin:∀c:Bool,PV X.K H F Q (.bl c) G->EP X pins Y Q (.bool c) s:=λc q=>⟨.bl c,H,I,rfl,q.now r rfl⟩;have hin:∀(l:List D){vs:List V}{us:List Value},inG va l->Reps X.K H (FA F G) l vs->Vals vs us->∃e:Value->Bool,(∀z∈us.toArray,SeqAt.EqAt X.A.in1 s z v (e z))/\us.toArray.any e=isIn va l:=λl {vs us} hh t rv=>by
  obtain ⟨e,he,hany⟩:=Uo I (A:=X.A.in1) (by show X.A.units+1+64 < cLine;omega) hh.1 ra' rx hh.2.1 hh.2.2 t rv;exact ⟨e,λw hw=>he w (by simpa using hw),by simpa using hany⟩
 have ii:∀{i j:Int},Rep X.K H (FA F G) (.int i) x->Rep X.K H (FA F G) (.int j) y->∃t t',v=.int i t/\u=.int j t':=λe1 e2=>by
  cases (show x=.int _ from e1);cases (show y=.int _ from e2);obtain ⟨t,e⟩:=rx;obtain ⟨t',e'⟩:=ry;exact ⟨t,t',e,e'⟩
 have ss:∀{i j:List Nat},Rep X.K H (FA F G) (.str i) x->Rep X.K H (FA F G) (.str j) y->∃t t',v=.str (tx i) t/\u=.str (tx j) t':=λe1 e2=>by
  cases e1.1;cases e2.1;obtain ⟨t,e⟩:=rx;obtain ⟨t',e'⟩:=ry;exact ⟨t,t',e,e'⟩
 have hnon:vm va=decide (x=.non):=by
  cases va with
  |non=>cases (show x=.non from ra');rfl
  |bl _=>cases (show x=.bl _ from ra');rfl
  |int _=>cases (show x=.int _ from ra');rfl
  |str _=>cases ra'.1;rfl
  |tup _=>obtain ⟨_,_,e1,_⟩:=ra';cases e1;rfl
  |lst _=>obtain ⟨_,_,e1,_⟩:=ra';cases e1;rfl
  |ref _=>cases (show x=.ref _ from ra');rfl
  |scr _=>obtain ⟨_,e1,_⟩:=ra';cases e1;rfl
  |exn _=>obtain ⟨_,_,e1,_⟩:=ra';cases e1;rfl
  |exa _ _ _=>obtain ⟨_,_,_,_,_,_,_,e1,_⟩:=ra';cases e1;rfl
  |obj _ _ _=>obtain ⟨_,_,_,e1,_⟩:=ra';cases e1;rfl
 cases op with
 |Eq=>exact (wM I 60 X.A _ _ x y v u (by omega) h.1.2.2 h.1.1 h.1.2.1 ra' rb' rx ry).1 _ _ _ _ (fin _ h.2)
 |NotEq=>exact (wM I 60 X.A _ _ x y v u (by omega) h.1.2.2 h.1.1 h.1.2.1 ra' rb' rx ry).2.2 _ _ _ _ (fin _ h.2)
 |Lt=>
  have h:jk va vb (λc=>PV X.K H F Q (.bl c) G):=h;unfold jk at h;split at h
  ·obtain ⟨t,t',e,e'⟩:=ii ra' rb';subst e e';exact lt_int (fin _ h)
  ·obtain ⟨t,t',e,e'⟩:=ss ra' rb';subst e e';exact lt_str (fin _ h)
  ·exact h.elim
 |LtE=>
  have h:jl va vb (λc=>PV X.K H F Q (.bl c) G):=h;unfold jl at h;split at h
  ·obtain ⟨t,t',e,e'⟩:=ii ra' rb';subst e e';exact le_int (fin _ h)
  ·obtain ⟨t,t',e,e'⟩:=ss ra' rb';subst e e';exact PySem.P.le_str (fin _ h)
  ·exact h.elim
 |Gt=>
  have h:jm va vb (λc=>PV X.K H F Q (.bl c) G):=h;unfold jm at h;split at h
  ·obtain ⟨t,t',e,e'⟩:=ii ra' rb';subst e e';exact gt_int (fin _ h)
  ·exact h.elim
 |GtE=>
  have h:jn va vb (λc=>PV X.K H F Q (.bl c) G):=h;unfold jn at h;split at h
  ·obtain ⟨t,t',e,e'⟩:=ii ra' rb';subst e e';exact ge_int (fin _ h)
  ·exact h.elim
 |Is=>
  have h:jo va vb (λc=>PV X.K H F Q (.bl c) G):=h;unfold jo at h;split at h
  ·cases (show y=.non from rb');exact Qa pins s Y H _ _ v u Q I rx ry ⟨rfl,by rw[<-hnon];exact h.now r rfl⟩
  ·split at h
   ·cases (show x=.bl _ from ra');cases (show y=.bl _ from rb');exact RQ pins s Y H _ _ v u Q I rx ry ⟨_,_,rfl,rfl,h.now r rfl⟩
   ·exact h.elim
  ·exact h.elim
 |IsNot=>
  have h:jq va vb (λc=>PV X.K H F Q (.bl c) G):=h;unfold jq at h;split at h
  ·cases (show y=.non from rb');exact Qc pins s Y H _ _ v u Q I rx ry ⟨rfl,by rw[<-hnon];exact h.now r rfl⟩
  ·split at h
   ·cases (show x=.bl _ from ra');cases (show y=.bl _ from rb');exact R0 pins s Y H _ _ v u Q I rx ry ⟨_,_,rfl,rfl,h.now r rfl⟩
   ·exact h.elim
  ·exact h.elim
 |In=>
  have h:fO va vb (λc=>PV X.K H F Q (.bl c) G):=h;unfold fO at h;split at h
  ·split at h
   ·obtain ⟨t,t',e,e'⟩:=ss ra' rb';subst e e';exact in_str (by rw[Do];exact fin _ h)
   ·exact h.elim
  ·obtain ⟨p,vs,e2,q2,t⟩:=rb';cases e2;cases ry;obtain ⟨its,rv,pl,hz⟩:=I.list q2.sq;obtain ⟨e,he,hany⟩:=hin _ h.1 t rv;exact SeqAt.in_listAt e pl.isList he (by rw[hany];exact fin _ h.2)
  ·obtain ⟨p,vs,e2,q2,t⟩:=rb';cases e2;cases ry;obtain ⟨its,rv,pl,hz⟩:=I.tuple q2.sq;obtain ⟨e,he,hany⟩:=hin _ h.1 t rv;exact SeqAt.in_tupleAt e pl he (by rw[hany];exact fin _ h.2)
  ·exact h.elim
 |NotIn=>
  have h:fO va vb (λc=>PV X.K H F Q (.bl (!c)) G):=h;unfold fO at h;split at h
  ·split at h
   ·obtain ⟨t,t',e,e'⟩:=ss ra' rb';subst e e';exact notIn_str (by rw[Do];exact fin _ h)
   ·exact h.elim
  ·obtain ⟨p,vs,e2,q2,t⟩:=rb';cases e2;cases ry;obtain ⟨its,rv,pl,hz⟩:=I.list q2.sq;obtain ⟨e,he,hany⟩:=hin _ h.1 t rv;exact SeqAt.notIn_listAt e pl.isList he (by rw[hany];exact fin _ h.2)
  ·obtain ⟨p,vs,e2,q2,t⟩:=rb';cases e2;cases ry;obtain ⟨its,rv,pl,hz⟩:=I.tuple q2.sq;obtain ⟨e,he,hany⟩:=hin _ h.1 t rv;exact SeqAt.notIn_tupleAt e pl he (by rw[hany];exact fin _ h.2)
  ·exact h.elim
end
section
variable {X:Cx}
def Up(K:PF):R2:=λx y H Q=>∃F G a b,R K H F G/\Rep K H F a x/\Rep K H F b y/\cB (view G a) b (λd=>PV K H F Q d G)
theorem qW{K:PF}{H:Hp}{F:FZ}{ds:List D}{vs:List V}{i:Int}{d:D}(t:Reps K H F ds vs)(h:atI ds i=some d):∃v,atI vs i=some v/\Rep K H F d v:=by
 unfold atI at h ⊢;rw[<-t.length];cases e:ixN ds.length i with
 |none=>rw[e]at h;cases h
 |some j=>
  rw[e]at h;obtain ⟨v,e1,r⟩:=t.get (show ds[j]?=some d from h);exact ⟨v,e1,r⟩
theorem Uq:IxR X (Up X.K):=by
 intro value slice pins s Y H x y v u Q I rx ry h hs;obtain ⟨F,G,a,b,r,ra,rb,h⟩:=h;generalize ea:view G a=va at h;unfold cB at h;split at h
 ·obtain ⟨p,vs,e,q,t⟩:=Rep.list r ra ea;subst e;have e2:y=.int _:=rb;subst e2;split at h
  ·rename_i d hd;obtain ⟨w,hw,rw'⟩:=qW t hd;exact uG value slice pins s Y H _ _ v u Q I rx ry ⟨p,vs,_,w,rfl,rfl,q,hw,h.now r rw'⟩ hs
  ·exact h.elim
 ·cases gB ea;obtain ⟨p,vs,e,q,t⟩:=ra;subst e;have e2:y=.int _:=rb;subst e2;split at h
  ·rename_i d hd;obtain ⟨w,hw,rw'⟩:=qW t hd;exact pX value slice pins s Y H _ _ v u Q I rx ry ⟨p,vs,_,w,rfl,rfl,q.sq,hw,h.now r rw'⟩ hs
  ·exact h.elim
 ·cases fL ea;obtain ⟨e,hl⟩:=ra;subst e;have e2:y=.int _:=rb;subst e2;split at h
  ·rename_i c hc;exact QX value slice pins s Y H _ _ v u Q I rx ry ⟨_,_,c,rfl,rfl,by rw[bW];exact dq hl,hc,h.now r ⟨rfl,by show 1<=sz;decide⟩⟩ hs
  ·exact h.elim
 ·exact h.elim
theorem Ur(l:List Nat)(lo hi:Option Int):Txt.slice (tx l) lo hi=tx (cut l lo hi):=by
 have e:Builtin.Str.strSliceIndices lo hi 1 (tx l).length=sliceRange (sliceBounds lo hi none (tx l).length).1 (sliceBounds lo hi none (tx l).length).2.1 1:=by unfold Builtin.Str.strSliceIndices sliceBounds;cases lo <;> cases hi <;> rfl
 obtain ⟨h1,h2,h3⟩:=Bj lo hi (tx l).length;rw[h1,h2,sliceRange_one]at e;have e2:((Builtin.Str.strSliceIndices lo hi 1 (tx l).length).filterMap ((tx l).cps[·]?))=cut l lo hi:=by rw[e,pick_run];unfold cut;rw[bW]
 unfold Txt.slice;split
 ·rename_i hh;rw[ae]at hh;have hl:=eq_of_beq hh.2;rw[e,af,List.length_range,bW]at hl;have b1:HT.sIx l.length l.length hi<=l.length:=HT.Az _ _ (ax _) hi;unfold cut;by_cases hz:l=[]
  ·subst hz;simp
  ·have hp:0 < l.length:=eW.mpr hz;have e3:HT.sIx l.length 0 lo=0:=by omega
   have e4:HT.sIx l.length l.length hi=l.length:=by omega
   rw[e3,e4];simp
 ·rw[e2]
theorem Us{α:Type}(xs:List α)(lo hi:Option Int):(cut xs lo hi).length<=xs.length:=by unfold cut;rw[bb,bS];omega
theorem Ut{prog:Program}{w:World}{A:Around}{E:Value->Shared->Prop}{s:Shared}{t sl:Addr}{items:Array Value}{vl vu:Value}{lo hi:Option Int}{Q:Value->Shared->Prop}(ht:IsTup s.heap t items)(hs:s.heap.IsSliceOf sl vl vu .none)(pl:IsPart vl lo)(pu:IsPart vu hi)
  (hw:HT.sIx items.size 0 lo=0/\HT.sIx items.size items.size hi=items.size) (h:Q (.ref t) s):wpAny (model prog w) A (getItem (.ref t) (.ref sl)) Q E s:=by
 obtain ⟨os,hos,hcs,hds⟩:=id hs;have hTs:s.TypeIs (.ref sl) "slice":=⟨os,hos,hcs⟩;unfold getItem;try with_reducible refine dL ?_
 first |refine ab (av ?_) |skip
 refine ab (wpAny_sequenceKey ht.typeIs (by decide) ?_);refine ab (dc (name:=Str.ofString "__getitem__") ht.typeIs d6
  (dQ d6 ht.typeIs entry_tuple_getitem ?_ (args_tuple_getitem _ _)))
 show wpAny _ _ (Builtin.Tuple.tupleItemsOf (.ref t) >>= _) _ _ s;refine ab (tupleItemsOf_ ht ?_);refine ab (wpAny_typeOf hTs ?_);rw[if_pos (by decide)];refine ab (HT.Bc hs pl pu ?_);have hyes:(((HT.sIx items.size 0 lo:Nat):Int)==0&&(1:Int)==1&&(HT.sIx items.size items.size hi - HT.sIx items.size 0 lo)==items.size)=true:=by rw[hw.1,hw.2];simp
 show wpAny _ _ (if (((HT.sIx items.size 0 lo:Nat):Int)==0&&(1:Int)==1&&(HT.sIx items.size items.size hi - HT.sIx items.size 0 lo)==items.size)=true then _ else _) _ _ s;rw[if_pos hyes];refine ab (m:=Builtin.Tuple.tupleIsExact _) (ab (wpAny_typeOf ht.typeIs (av ?_)));rw[if_pos (by decide)];exact ab (wpAny_rule (av ⟨_,rfl,av h⟩))
theorem Uu:SlR X (λx lo hi H Q=>∃a xs,x=.ref a/\SqT X.K H a xs/\(HT.sIx xs.length 0 lo=0/\HT.sIx xs.length xs.length hi=xs.length)/\Q (.ref a) H):=by
 intro pins s Y H x v vl vu lo hi sl Q I rx hs pl pu h;obtain ⟨a,xs,rfl,hx,hw,q⟩:=h;cases rx;obtain ⟨its,r,ht,hz⟩:=I.tuple hx;have hlen:its.toArray.size=xs.length:=by rw[am];exact r.length.symm
 exact ⟨"tuple",_,d6.lookup,ht.typeIs,Ut ht hs pl pu (by rw[hlen];exact hw) ⟨.ref a,H,I,rfl,q⟩⟩
theorem Dp{K:PF}{H:Hp}{F:FZ}:∀ns:List Int,Reps K H F (ns.map D.int) (ns.map V.int)
 |[]=>rfl
 |n::ns=>⟨_,_,rfl,rfl,Dp ns⟩
def Uv(K:PF)(fz:Bool):V->Option Int->Option Int->Hp->VK->Prop:=λx lo hi H Q=>∃F G a,R K H F G/\Rep K H F a x/\dZ fz (view G a) lo hi G (PV K H F Q)
theorem Dq{K:PF}{H:Hp}{F:FZ}{ds:List D}{vs:List V}(t:Reps K H F ds vs)(lo hi:Option Int):Reps K H F (cut ds lo hi) (dX vs lo hi):=t.cut lo hi
theorem Uw(fz:Bool):SlR X (Uv X.K fz):=by
 intro pins s Y H x v vl vu lo hi sl Q I rx hs pl pu h;obtain ⟨F,G,a,r,ra,h⟩:=h;generalize ea:view G a=va at h;unfold dZ at h;split at h
 ·obtain ⟨p,vs,e,q,t⟩:=Rep.list r ra ea;subst e;exact Bk pins s Y H _ v vl vu lo hi sl Q I rx hs pl pu ⟨p,vs,rfl,q,gH h r (Dq t lo hi)⟩
 ·rename_i ns;have ea':a=.scr ns:=by
   cases a with
   |ref p=>
    unfold view at ea;cases g:G p with
    |none=>simp only[g]at ea;cases ea
    |some o=>cases o;simp only[g]at ea;cases ea
   |_=>exact ea
  subst ea';obtain ⟨p,e,q⟩:=ra;subst e;refine Bk pins s Y H _ v vl vu lo hi sl Q I rx hs pl pu ⟨p,_,rfl,q.sq,gH h r ?_⟩;have e2:dX (ns.map V.int) lo hi=(cut ns lo hi).map V.int:=by unfold dX cut;rw[af,List.map_take,List.map_drop]
  rw[e2];exact Dp (cut ns lo hi)
 ·cases gB ea;obtain ⟨p,vs,e,q,t⟩:=id ra;subst e;by_cases hw:HT.sIx vs.length 0 lo=0/\HT.sIx vs.length vs.length hi=vs.length
  ·refine Uu pins s Y H _ v vl vu lo hi sl Q I rx hs pl pu ⟨p,vs,rfl,q.sq,hw,?_⟩;refine h.now r ?_;rename_i ds;have:cut ds lo hi=ds:=by
    unfold cut;rw[t.length,hw.1,hw.2];simp[<-t.length]
   rw[this];exact ra
  ·exact QQ pins s Y H _ v vl vu lo hi sl Q I rx hs pl pu ⟨p,vs,rfl,q.sq,hw,qP h r (Dq t lo hi)⟩
 ·cases fL ea;obtain ⟨e,hl⟩:=ra;subst e;refine RW pins s Y H _ v vl vu lo hi sl Q I rx hs pl pu ⟨_,rfl,by rw[bW];exact dq hl,?_⟩;rw[Ur];exact h.now r ⟨rfl,bv (Us _ _ _) hl⟩
 ·exact h.elim
theorem Ds{K:PF}{H:Hp}{F:FZ}{G:DH}{d:D}{v:V}{b:Bool}(r:R K H F G)(h:Rep K H F d v)(e:truth (view G d)=some b):pU K v H b:=by
 have h':=qU r h;generalize view G d=w at e h';cases w with
 |non=>have e1:v=.non:=h';subst e1;simp only[truth,aS]at e;exact e.symm
 |bl x=>have e1:v=.bl x:=h';subst e1;simp only[truth,aS]at e;exact e.symm
 |int i=>have e1:v=.int i:=h';subst e1;simp only[truth,aS]at e;exact e.symm
 |str l=>
  obtain ⟨e1,hl⟩:=h';subst e1;simp only[truth,aS]at e;refine ⟨by rw[bW];exact dq hl,?_⟩;rw[bW,<-e];cases l with
  |nil=>rfl
  |cons c l=>simp;omega
 |tup l=>
  obtain ⟨a,vs,e1,q,t⟩:=h';subst e1;simp only[truth,aS]at e;refine .inr (.inl ⟨vs,q.sq,?_⟩);rw[<-e];cases l with
  |nil=>have t:vs=[]:=t;subst t;rfl
  |cons c l=>obtain ⟨_,_,e2,_⟩:=t;subst e2;rfl
 |lst l=>
  obtain ⟨a,vs,e1,q,t⟩:=h';subst e1;simp only[truth,aS]at e;refine .inl ⟨vs,q.sq,?_⟩;rw[<-e];cases l with
  |nil=>have t:vs=[]:=t;subst t;rfl
  |cons c l=>obtain ⟨_,_,e2,_⟩:=t;subst e2;rfl
 |ref a=>simp[truth]at e
 |scr a=>simp[truth]at e
 |exn a=>simp[truth]at e
 |exa _ _ _=>simp[truth]at e
 |obj _ _ _=>simp[truth]at e
theorem Dt{K:PF}{H:Hp}{F:FZ}:∀{ds:List D}{vs:List V}{bs:List Bool},bools ds=some bs->Reps K H F ds vs->vs=bs.map V.bl
 |[],_,bs,e,h=>by
  simp only[bools,aS]at e;subst e;exact h
 |d::ds,_,bs,e,⟨v,w,e1,h,t⟩=>by
  cases d with
  |bl b=>
   simp only[bools]at e;cases q:bools ds with
   |none=>rw[q]at e;cases e
   |some s=>
    rw[q]at e;cases e;have hv:v=.bl b:=h;rw[e1,hv,Dt q t];rfl
  |_=>simp[bools]at e
theorem bY{K:PF}{H:Hp}{F:FZ}{d:D}{vs:List V}(t:Reps K H F [d] vs):∃v,vs=[v]/\Rep K H F d v:=by obtain ⟨v,r,e,h,t⟩:=t;have t:r=[]:=t;subst t;exact ⟨v,e,h⟩
def iC(K:PF)(f:Bf):List V->Hp->VK->Prop:=λvs H Q=>∃F G ds,R K H F G/\Reps K H F ds vs/\opB f (ds.map (view G)) (λd=>PV K H F Q d G)
theorem map_one{G:DH}{ds:List D}{x:D}(h:ds.map (view G)=[x]):∃d,ds=[d]/\view G d=x:=by
 match ds,h with
 |[d],h=>exact ⟨d,rfl,by simpa using h⟩
theorem Ux:bH X (.builtin "len") (iC X.K .len):=by
 intro pins s Y H xs us Q I rs h;obtain ⟨F,G,ds,r,t,h⟩:=h;generalize ea:ds.map (view G)=va at h;simp only[opB,vo]at h;split at h
 ·obtain ⟨d,rfl,ev⟩:=map_one ea;obtain ⟨v,rfl,rv⟩:=bY t;obtain ⟨a,vs,e,q,t'⟩:=Rep.list r rv ev;subst e;exact Bl pins s Y H _ us Q I rs ⟨a,vs,rfl,.inl q,by rw[<-t'.length];exact h.now r rfl⟩
 ·obtain ⟨d,rfl,ev⟩:=map_one ea;obtain ⟨v,rfl,rv⟩:=bY t;cases gB ev;obtain ⟨a,vs,e,q,t'⟩:=rv;subst e;exact Bl pins s Y H _ us Q I rs ⟨a,vs,rfl,.inr q.sq,by rw[<-t'.length];exact h.now r rfl⟩
 ·obtain ⟨d,rfl,ev⟩:=map_one ea;obtain ⟨v,rfl,rv⟩:=bY t;cases fL ev;obtain ⟨e,hl⟩:=rv;subst e;exact Q5 pins s Y H _ us Q I rs ⟨_,rfl,by rw[bW];exact dq hl,by rw[bW];exact h.now r rfl⟩
 ·exact h.elim
theorem Uy (hc:X.calm=true):bH X (.builtin "all") (iC X.K .all):=by
 intro pins s Y H xs us Q I rs h;obtain ⟨F,G,ds,r,t,h⟩:=h;generalize ea:ds.map (view G)=va at h;simp only[opB,qp]at h;split at h
 ·obtain ⟨d,rfl,ev⟩:=map_one ea;obtain ⟨v,rfl,rv⟩:=bY t;obtain ⟨a,vs,e,q,t'⟩:=Rep.list r rv ev;subst e;split at h
  ·rename_i bs hb;have e2:=Dt hb t';subst e2;exact RP hc pins s Y H _ us Q I rs ⟨a,bs,rfl,q,h.now r rfl⟩
  ·exact h.elim
 ·exact h.elim
theorem Uz:bH X (.type "int") (iC X.K .int):=by
 intro pins s Y H xs us Q I rs h;obtain ⟨F,G,ds,r,t,h⟩:=h;generalize ea:ds.map (view G)=va at h;simp only[opB,qt]at h;split at h
 ·obtain ⟨d,rfl,ev⟩:=map_one ea;obtain ⟨v,rfl,rv⟩:=bY t;cases T4 ev;have e:v=.bl _:=rv;subst e;exact Am pins s Y H _ us Q I rs (.inr ⟨_,rfl,h.now r rfl⟩)
 ·obtain ⟨d,rfl,ev⟩:=map_one ea;obtain ⟨v,rfl,rv⟩:=bY t;cases fM ev;have e:v=.int _:=rv;subst e;exact Am pins s Y H _ us Q I rs (.inl ⟨_,rfl,h.now r rfl⟩)
 ·obtain ⟨d,rfl,ev⟩:=map_one ea;obtain ⟨v,rfl,rv⟩:=bY t;cases fL ev;obtain ⟨e,hl⟩:=rv;subst e;split at h
  ·rename_i n hn;exact RT pins s Y H _ us Q I rs ⟨_,n,rfl,hn,by rw[bW];exact h.1,h.2.now r rfl⟩
  ·exact h.elim
 ·exact h.elim
theorem UG:bH X (.type "tuple") (iC X.K .tuple):=by
 intro pins s Y H xs us Q I rs h;obtain ⟨F,G,ds,r,t,h⟩:=h;generalize ea:ds.map (view G)=va at h;simp only[opB,vp]at h;split at h
 ·obtain ⟨d,rfl,ev⟩:=map_one ea;obtain ⟨v,rfl,rv⟩:=bY t;obtain ⟨a,vs,e,q,t'⟩:=Rep.list r rv ev;subst e;exact Bo pins s Y H _ us Q I rs ⟨a,vs,rfl,.inl ⟨q,qP h r t'⟩⟩
 ·obtain ⟨d,rfl,ev⟩:=map_one ea;obtain ⟨v,rfl,rv⟩:=bY t;cases gB ev;obtain ⟨a,vs,e,q,t'⟩:=id rv;subst e;exact Bo pins s Y H _ us Q I rs ⟨a,vs,rfl,.inr ⟨q.sq,h.now r rv⟩⟩
 ·exact h.elim
def Du(K:PF)(fz:Bool)(f:Lf):List V->Hp->VK->Prop:=λvs H Q=>∃F G ds,R K H F G/\Reps K H F ds vs/\cQ f (ds.map (view G)) (λxs=>mk fz xs G (PV K H F Q))
theorem UJ(l:List Nat):∀(us:List Value),us.length=l.length->(∀(j:Nat)(v:Value),us[j]?=some v->∃(c:Nat)(u:Tok),l[j]?=some c/\v=Value.str ⟨#[c]⟩ u)->Vals (l.map λc=>V.str (tx [c])) us:=by
 induction l with
 |nil=>intro us h _;cases us with |nil=>exact .nil |cons _ _=>cases h
 |cons c l ih=>
  intro us h q;cases us with
  |nil=>cases h
  |cons u us=>
   obtain ⟨c',t,e1,e2⟩:=q 0 u (by simp);have e1:c=c':=by simpa using e1
   subst e1;exact .cons ⟨t,e2⟩ (ih us (by simpa using h) λj v hv=>by simpa using q (j+1) v (by simpa using hv))
theorem UL (hc:X.calm=true):bH X (.type "list") (λxs H Q=>∃l:List Nat,xs=[.str (tx l)]/\l.length<=sizeLine/\∀p,H p=none->Q (.ref p) (upd H p (.lst (l.map λc=>V.str (tx [c]))))):=by
 intro pins s Y H xs us Q I r h;obtain ⟨l,rfl,hz,q⟩:=h;obtain ⟨u,rfl,t,rfl⟩:=vals1 r;have hz':(tx l).cps.size<=sizeLine:=by simpa using hz
 refine call_list_str (hn:=hz') (I.ok.hd hc) (tx l) t λh' tk acc' c' kp e hi=>?_;have hv:Vals (l.map λc=>V.str (tx [c])) acc'.toList:=by
  refine UJ l _ ?_ λj v hv=>?_
  ·rw[c5,hi.1];simp
  ·obtain ⟨c,u,e1,e2⟩:=hi.2 j v (by rw[<-fw];exact hv);exact ⟨c,u,by simpa using e1,e2⟩
 exact ⟨.ref (~~~s),_,I.laid (t':=tk) kp (ax _) (show ObjOk X.prog X.w _ h' _ (.lst _) from ⟨by rw[af];exact hz,acc'.toList,c',hv,by rw[Array.toArray_toList];exact e⟩),rfl,q _ (I.hok.fresh (ax _))⟩
theorem wN{K:PF}{H:Hp}{F:FZ}:∀l:List Nat,Reps K H F (l.map λc=>D.str [c]) (l.map λc=>V.str (tx [c]))
 |[]=>rfl
 |c::l=>⟨_,_,rfl,⟨rfl,by show 1<=sz;decide⟩,wN l⟩
theorem UT (hc:X.calm=true) (fz:Bool):bH X (.type "list") (Du X.K fz .list):=by
 intro pins s Y H xs us Q I rs h;obtain ⟨F,G,ds,r,t,h⟩:=h;generalize ea:ds.map (view G)=va at h;simp only[cQ,vz]at h;split at h
 ·obtain ⟨d,rfl,ev⟩:=map_one ea;obtain ⟨v,rfl,rv⟩:=bY t;obtain ⟨a,vs,e,q,t'⟩:=Rep.list r rv ev;subst e;exact Bm pins s Y H _ us Q I rs ⟨a,vs,rfl,.inl q,gH h r t'⟩
 ·obtain ⟨d,rfl,ev⟩:=map_one ea;obtain ⟨v,rfl,rv⟩:=bY t;cases gB ev;obtain ⟨a,vs,e,q,t'⟩:=id rv;subst e;exact Bm pins s Y H _ us Q I rs ⟨a,vs,rfl,.inr q.sq,gH h r t'⟩
 ·obtain ⟨d,rfl,ev⟩:=map_one ea;obtain ⟨v,rfl,rv⟩:=bY t;cases fL ev;obtain ⟨e,hl⟩:=rv;subst e;exact UL hc pins s Y H _ us Q I rs ⟨_,rfl,dq hl,gH h r (wN _)⟩
 ·exact h.elim
theorem wO{K:PF}{H:Hp}{F:FZ}:∀{ds:List D}{vs:List V}{ls:List (List Nat)},bh ds=some ls->Reps K H F ds vs->vs=(ls.map tx).map V.str
 |[],_,bs,e,h=>by
  simp only[bh,aS]at e;subst e;exact h
 |d::ds,_,bs,e,⟨v,w,e1,h,t⟩=>by
  cases d with
  |str b=>
   simp only[bh]at e;cases q:bh ds with
   |none=>rw[q]at e;cases e
   |some s=>
    rw[q]at e;cases e;obtain ⟨hv,_⟩:=h;rw[e1,hv,wO q t];rfl
  |_=>simp[bh]at e
theorem Dv{K:PF}{H:Hp}{F:FZ}:∀{ds:List D}{vs:List V}{ns:List Int},cC ds=some ns->Reps K H F ds vs->vs=ns.map V.int
 |[],vs,ns,e,t=>by
  simp only[cC,aS]at e;subst e;have t:vs=[]:=t;rw[t];rfl
 |d::ds,vs,ns,e,t=>by
  obtain ⟨v,r,e1,h,t⟩:=t;cases d with
  |int b=>
   simp only[cC]at e;cases q:cC ds with
   |none=>rw[q]at e;cases e
   |some s=>
    rw[q]at e;cases e;have hv:v=.int b:=h;rw[e1,hv,Dv q t];rfl
  |_=>simp[cC]at e
theorem Dw:∀{ns:List Int}{its:List Value},Vals (ns.map V.int) its->IntsAre its ns
 |[],its,h=>by cases h;exact .nil
 |n::ns,its,h=>by
  cases h with
  |cons a b=>
   obtain ⟨t,rfl⟩:=a;exact .cons n t (Dw b)
theorem Dy:∀{ls:List (List Nat)}{its:List Value},Vals ((ls.map tx).map V.str) its->StrsAre its (ls.map tx)
 |[],its,h=>by cases h;exact .nil
 |n::ns,its,h=>by
  cases h with
  |cons a b=>
   obtain ⟨t,rfl⟩:=a;exact .cons _ t (Dy b)
theorem Dz{K:PF}{H:Hp}{F:FZ}:∀{ds:List D}{vs:List V}{ls:List (List Nat)},bh ds=some ls->Reps K H F ds vs->∀l∈ls,l.length<=sz
 |[],vs,ls,e,t=>by simp only[bh,aS]at e;subst e;intro l hl;cases hl
 |d::ds,vs,ls,e,t=>by
  obtain ⟨v,r,e1,h,t⟩:=t;cases d with
  |str b=>
   simp only[bh]at e;cases q:bh ds with
   |none=>rw[q]at e;cases e
   |some s=>
    rw[q]at e;cases e;intro l hl;rcases bP.mp hl with e |hl
    ·rw[e];exact h.2
    ·exact Dz q t l hl
  |_=>simp[bh]at e
theorem DG(val:Nat->List Nat):∀k,argBest (λi j=>decide (val i < val j)) k<=k/\∀j,j<=k->¬val j < val (argBest (λi j=>decide (val i < val j)) k)
 |0=>⟨ax _,λj hj=>by
  have:j=0:=by omega
  subst this;exact List.lt_irrefl _⟩
 |k+1=>by
  obtain ⟨h1,h2⟩:=DG val k;simp only[argBest];by_cases hc:val (k+1) < val (argBest (λi j=>decide (val i < val j)) k)
  ·rw[if_pos (by simpa using hc)];refine ⟨ax _,λj hj=>?_⟩;rcases Nat.lt_or_ge j (k+1) with hlt |hge
   ·exact λh=>h2 j (by omega) (List.lt_trans h hc)
   ·have:j=k+1:=by omega
    subst this;exact List.lt_irrefl _
  ·rw[if_neg (by simpa using hc)];refine ⟨by omega,λj hj=>?_⟩;rcases Nat.lt_or_ge j (k+1) with hlt |hge
   ·exact h2 j (by omega)
   ·have:j=k+1:=by omega
    subst this;exact hc
section
variable {prog:Program} {w:World} {A:Around} {E:Value->Shared->Prop} {s:Shared} {l:Addr}
theorem qX:∀{its:List Value}{ls:List (List Nat)}{i:Nat}{v:Value},StrsAre its (ls.map tx)->its[i]?=some v->∃t,v=.str (tx (ls.getD i [])) t
 |[],ls,i,v,_,h=>by simp at h
 |x::its,[],i,v,hs,h=>by cases hs
 |x::its,a::ls,0,v,hs,h=>by
  cases hs with
  |cons y t q=>exact ⟨t,by simpa using h.symm⟩
 |x::its,a::ls,i+1,v,hs,h=>by
  cases hs with
  |cons y t q=>
   have:=qX (i:=i) (v:=v) q (by simpa using h);simpa using this
theorem UV{Q:Value->Shared->Prop}{its:List Value}{ls:List (List Nat)}(hh:A.handled=none)(hl:s.heap.IsList l its.toArray)(hs:StrsAre its (ls.map tx))(hn:its.length=ls.length)(hne:0 < ls.length)
  (h:∀(m:List Nat)(t:Tok)(h':Heap)(tk:Nat),m∈ls->(∀a,a∈ls->¬a < m)->(∀b o,s.heap.get? b=some o->h'.get? b=some o)->Q (.str (tx m) t) { s with heap:=h',toks:=tk }):
  wpAny (model prog w) A (call (.builtin "min") [.ref l]) Q E s:=by
 have hlt:l < (~~~s):=by obtain ⟨_,e,_⟩:=hl;exact ay e
 refine call_min_walk (wpAny_pyIter_list hl ?_);refine ⟨_,_,_,_,_,_,λi j=>decide (ls.getD i [] < ls.getD j []),rfl,Walks.list (A:=A.in1) hh _ l (b5 hlt) its.toArray,⟨⟨_,a7 _ rfl,rfl,rfl⟩,hl.push _⟩,?_,?_,?_,?_⟩
 ·intro b hb;show b < (s.heap.push _).objs.size;rw[de];rcases bP.mp hb with rfl |hb
  ·exact Nat.lt_succ_self _
  ·rcases bP.mp hb with rfl |hb
   ·exact Nat.lt_succ_of_lt hlt
   ·cases hb
 ·simpa [hn] using hne
 ·intro i j vi vj s Q E hi hj h;obtain ⟨t,rfl⟩:=qX hs (by simpa using hi);obtain ⟨u,rfl⟩:=qX hs (by simpa using hj);exact richCompare_gives (op:=.Lt) (typeIs_str s _ t) (typeIs_str s _ u) F.slot_str_lt F.entry_str_lt (F.args_str_lt_2 _ _) (gives_str_lt _ _ t u) (λe=>nomatch e) h
 ·intro v h' tk hP hk;obtain ⟨t,rfl⟩:=qX hs (show its[_]?=some v by rw[<-List.getElem?_toArray];exact hP);obtain ⟨b1,b2⟩:=DG (λi=>ls.getD i []) (its.toArray.size - 1);have hsz:its.toArray.size=ls.length:=by simpa using hn
  refine h _ t h' tk ?_ (λa ha=>?_) (old_kept hk)
  ·rw[dA,ai (by omega)];exact ce _
  ·obtain ⟨j,hj,rfl⟩:=List.getElem_of_mem ha;have:=b2 j (by omega);rwa [show ls.getD j []=ls[j] by rw[dA,ai hj];rfl]at this
end
theorem UW (hc:X.calm=true):bH X (.builtin "min") (λxs H Q=>∃(p:Addr) (ns:List Int),xs=[.ref p]/\SqL X.K H p (ns.map V.int)/\ns≠[]/\∀m,m∈ns->(∀a,a∈ns->m<=a)->Q (.int m) H):=by
 intro pins s Y H xs us Q I r h;obtain ⟨p,ns,rfl,hq,hne,q⟩:=h;obtain ⟨u,rfl,ru⟩:=vals1 r;cases ru;obtain ⟨its,rv,pl,hz⟩:=I.list hq;have hi:=Dw rv;obtain ⟨xs,ex⟩:=hi.allInts.items;have hl:=pl.isList;rw[ex]at hl;have e1:xs.toList.map (·.1)=ns:=by rw[<-PySem.nums_intItems,<-ex];exact hi.numsOf
 have hsz:0 < xs.size:=by have:=eW.mpr hne;rw[<-e1,af,c5]at this;exact this
 refine PySem.min_intList (I.ok.hd hc) hl hsz λv h' tk hv hk=>?_;obtain ⟨t,rfl⟩:=PySem.intItems_at hv;obtain ⟨b1,b2⟩:=PySem.argBest_lt (PySem.numAt xs) (xs.size - 1);refine ⟨.int _,H,I.kept hk,⟨t,rfl⟩,q _ ?_ λa ha=>?_⟩
 ·rw[<-e1,PySem.numAt_eq];exact PySem.getD_mem (by rw[af,c5];omega)
 ·rw[<-e1]at ha;obtain ⟨j,hj,rfl⟩:=PySem.mem_getD ha;rw[af,c5]at hj;rw[<-PySem.numAt_eq];exact b2 j (by omega)
theorem U0 (hc:X.calm=true):bH X (.builtin "min") (λxs H Q=>∃(p:Addr) (ls:List (List Nat)),xs=[.ref p]/\SqL X.K H p ((ls.map tx).map V.str)/\ls≠[]/\∀m,m∈ls->(∀a,a∈ls->¬a < m)->Q (.str (tx m)) H):=by
 intro pins s Y H xs us Q I r h;obtain ⟨p,ls,rfl,hq,hne,q⟩:=h;obtain ⟨u,rfl,ru⟩:=vals1 r;cases ru;obtain ⟨its,rv,pl,hz⟩:=I.list hq;have hlen:its.length=ls.length:=by rw[<-rv.length];simp
 refine UV (I.ok.hd hc) pl.isList (Dy rv) hlen (eW.mpr hne) λm t h' tk h1 h2 hk=>?_;exact ⟨.str (tx m),H,I.kept hk,⟨t,rfl⟩,q m h1 h2⟩
theorem U3{ds:List D}{ls:List (List Nat)}(h0:cC ds=none)(h1:bh ds=some ls):ls≠[]:=by
 rintro rfl;cases ds with
 |nil=>simp[cC]at h0
 |cons x y=>cases x <;> simp only[bh]at h1 <;> first | (cases h1;done) | (cases hd:bh y <;> rw[hd]at h1 <;> cases h1)
theorem U4 (hc:X.calm=true):bH X (.builtin "min") (iC X.K .min):=by
 intro pins s Y H xs us Q I rs h;obtain ⟨F,G,ds,r,t,h⟩:=h;generalize ea:ds.map (view G)=va at h;simp only[opB,j7]at h;split at h
 ·obtain ⟨d,rfl,ev⟩:=map_one ea;obtain ⟨v,rfl,rv⟩:=bY t;obtain ⟨a,vs,e,q,t'⟩:=Rep.list r rv ev;subst e;split at h
  ·rename_i ns hb;have e2:=Dv hb t';subst e2;exact UW hc pins s Y H _ us Q I rs ⟨a,ns,rfl,q,h.1,λm h1 h2=>(h.2 m h1 h2).now r rfl⟩
  ·split at h
   ·rename_i hb0 _ ls hb;have e2:=wO hb t';have hsz:=Dz hb t';subst e2;refine U0 hc pins s Y H _ us Q I rs ⟨a,ls,rfl,q,?_,λm h1 h2=>(h m h1 h2).now r ⟨rfl,hsz m h1⟩⟩;exact U3 (by assumption) hb
   ·exact h.elim
 ·exact h.elim
theorem U5:bootBuiltins "min"=some (.builtin "min"):=by ac_rfl
theorem U6:bH X (.type "str") (iC X.K .str):=by
 intro pins s Y H xs us Q I r h;obtain ⟨F,G,ds,rr,t,h⟩:=h;generalize ea:ds.map (view G)=va at h;simp only[opB,vy]at h;split at h
 ·rename_i i;obtain ⟨d',rfl,ev⟩:=map_one ea;obtain ⟨v',rfl,rv⟩:=bY t;have e1:=fM ev;subst e1;have e2:v'=.int i:=rv;subst e2;obtain ⟨⟨h0,h1⟩,h2⟩:=h;have hm:(i.toNat:Int)=i:=Int.toNat_of_nonneg h0;have hl:(gF i.toNat).length<=3:=by
   have:=digits_le ⟨i.toNat,by omega⟩;unfold gF;rw[c5];exact this
  have hs:=h2.now rr (v:=.str (tx (gF i.toNat))) ⟨rfl,by have hz:sz=1000000:=rfl;omega⟩;have ht:tx (gF i.toNat)=uR i.toNat:=(uM _).symm;rw[ht]at hs;exact R6 pins s Y H _ us Q I r ⟨i.toNat,by rw[hm],by omega,hs⟩
 ·exact h.elim
def du:D->Option String
 |.non=>some "NoneType"
 |.bl _=>some "bool"
 |.int _=>some "int"
 |.str _=>some "str"
 |.tup _=>some "tuple"
 |.lst _=>some "list"
 |_=>none
theorem U7{K:PF}{H:Hp}{F:FZ}{G:DH}{d:D}{v:V}{T:String}(r:R K H F G)(h:Rep K H F d v)(e:du (view G d)=some T):TyOf K H v (.type T):=by
 have h':=qU r h;generalize view G d=w at e h';cases w with
 |non=>have e1:v=.non:=h';subst e1;simp only[du,aS]at e;subst e;exact .non
 |bl x=>have e1:v=.bl x:=h';subst e1;simp only[du,aS]at e;subst e;exact .bl x
 |int i=>have e1:v=.int i:=h';subst e1;simp only[du,aS]at e;subst e;exact .int i
 |str l=>obtain ⟨e1,hl⟩:=h';subst e1;simp only[du,aS]at e;subst e;exact .str _
 |tup l=>obtain ⟨a,vs,e1,q,t⟩:=h';subst e1;simp only[du,aS]at e;subst e;exact .tup q.it
 |lst l=>obtain ⟨a,vs,e1,q,t⟩:=h';subst e1;simp only[du,aS]at e;subst e;exact .lst q.2
 |ref a=>simp[du]at e
 |scr a=>simp[du]at e
 |exn a=>simp[du]at e
 |exa _ _ _=>simp[du]at e
 |obj _ _ _=>simp[du]at e
def U8 (K:PF):Prop:=∀T t:String,T∈["NoneType","bool","int","str","tuple","list"]->fP t=true->PySem.W.kitOne K (.type T) (.type t)=some (T==t||(T=="bool"&&t=="int"))
theorem U9{K:PF}:U8 K:=by intro T t hT ht;simp only[bP,List.not_mem_nil,or_false]at hT;simp only[fP,cK,aT]at ht;rcases hT with rfl |rfl |rfl |rfl |rfl |rfl <;> rcases ht with (((rfl |rfl) |rfl) |rfl) |rfl <;> (with_unfolding_all rfl)
theorem Va {d:D} {t:String} {b:Bool} (e:isT t d=some b):∃T,du d=some T/\T∈["NoneType","bool","int","str","tuple","list"]/\(fP t=true->b=(T==t||(T=="bool"&&t=="int"))):=by
 have comm:∀a b:String,(a==b)=(b==a):=λa b=>by rw[e8,aT,aT];exact ⟨Eq.symm,Eq.symm⟩
 cases d with
 |non=>
  refine ⟨"NoneType",rfl,by simp,λht=>?_⟩;simp only[isT,aS]at e;simp only[fP,cK,aT]at ht;subst e;rcases ht with (((rfl |rfl) |rfl) |rfl) |rfl <;> rfl
 |bl _=>
  refine ⟨"bool",rfl,by simp,λht=>?_⟩;simp only[isT,aS]at e;rw[<-e,comm t "bool"];rfl
 |int _=>
  refine ⟨"int",rfl,by simp,λht=>?_⟩;simp only[isT,aS]at e;rw[<-e,comm t "int"];simp
 |str _=>
  refine ⟨"str",rfl,by simp,λht=>?_⟩;simp only[isT,aS]at e;rw[<-e,comm t "str"];simp
 |tup _=>
  refine ⟨"tuple",rfl,by simp,λht=>?_⟩;simp only[isT,aS]at e;rw[<-e,comm t "tuple"];simp
 |lst _=>
  refine ⟨"list",rfl,by simp,λht=>?_⟩;simp only[isT,aS]at e;rw[<-e,comm t "list"];simp
 |ref a=>simp[isT]at e
 |scr a=>simp[isT]at e
 |exn a=>simp[isT]at e
 |exa _ _ _=>simp[isT]at e
 |obj _ _ _=>simp[isT]at e
theorem DK(s:List Nat):∀ls:List (List Nat),Str.join (tx s) (ls.map tx)=tx (d7 s ls)
 |[]=>rfl
 |[x]=>rfl
 |x::y::r=>by
  have ih:=DK s (y::r);show tx x++tx s++Str.join (tx s) ((y::r).map tx)=_;rw[ih,p6,p6];rfl
theorem DN(s:List Nat):∀ls:List (List Nat),(d7 s ls).length<=(ls.map (·.length)).sum+ls.length * s.length
 |[]=>by simp[d7]
 |[x]=>by simp[d7]
 |x::y::r=>by
  have ih:=DN s (y::r);simp only[d7,al,bi,List.sum_cons,cS]at ih ⊢;have:(r.length+1+1) * s.length=(r.length+1) * s.length+s.length:=by rw[Nat.succ_mul]
  omega
def wQ(K:PF)(m:Mf):V->List V->Hp->VK->Prop:=λx vs H Q=>∃F G d ds,R K H F G/\Rep K H F d x/\Reps K H F ds vs/\opM m d ds G (PV K H F Q)
theorem Vb:MtR X "str.join" (wQ X.K .join):=by
 intro pins s Y H x xs v us Q I rx rs h;obtain ⟨F,G,d,ds,r,rd,t,h⟩:=h;simp only[opM]at h;generalize ea:ds.map (view G)=va at h;simp only[qx]at h;split at h
 ·obtain ⟨d',rfl,ev⟩:=map_one ea;obtain ⟨v',rfl,rv⟩:=bY t;obtain ⟨a,vs,e,q,t'⟩:=Rep.list r rv ev;subst e;obtain ⟨e1,hl⟩:=rd;subst e1;split at h
  ·rename_i ls hls;have e2:=wO hls t';subst e2;refine Rv pins s Y H _ _ v us Q I rx rs ⟨_,a,_,rfl,rfl,q,?_,?_⟩
   ·have hz:=h.1;rw[df,af,bW,show (λx:Str=>x.length)∘tx=λl=>l.length from funext bW];have:sz=1000000:=rfl;omega
   ·rw[DK];exact h.2.now r ⟨rfl,bv (DN _ _) h.1⟩
  ·exact h.elim
 ·exact h.elim
theorem Vc:MtM X "list.append" (wQ X.K .append):=by
 intro pins s Y H x xs v us Q I rx rs h;obtain ⟨F,G,d,ds,r,rd,t,h⟩:=h;simp only[opM,qy]at h;split at h
 ·obtain ⟨v',rfl,rv⟩:=bY t;have e1:x=.ref _:=rd;subst e1;split at h
  ·rename_i ds0 hg;obtain ⟨vs,q,t'⟩:=r.lst hg;refine Q9 pins s Y H _ _ v us Q I rx rs ⟨_,vs,v',rfl,rfl,q,?_,?_⟩
   ·rw[<-t'.length];exact bp h.1 szl
   ·exact h.2 _ _ _ (ql r hg) (r.write hg (t'.append (Reps.cons rv Reps.nil))) rfl
  ·exact h.elim
 ·exact h.elim
theorem Vd{K:PF}{H:Hp}{F:FZ}{G:DH}{d:D}{v:V}{ds:List D}(r:R K H F G)(h:Rep K H F d v)(e:view G d=.lst ds):∃a vs,v=.ref a/\H a=some (.lst vs)/\Reps K H F ds vs:=by
 cases d with
 |lst xs=>
  have e':D.lst xs=.lst ds:=e;cases e';obtain ⟨a,vs,e1,q,t⟩:=h;exact ⟨a,vs,e1,q.2,t⟩
 |ref p=>
  have hv:v=.ref p:=h;unfold view at e;cases g:G p with
  |none=>simp only[g]at e;cases e
  |some o=>
   cases o with
   |lst xs=>
    simp only[g]at e;cases e;obtain ⟨vs,q,t⟩:=r.lst g;exact ⟨p,vs,hv,q,t⟩
 |_=>cases (show _=D.lst ds from e)
theorem Ve:MtM X "list.extend" (wQ X.K .extend):=by
 intro pins s Y H x xs v us Q I rx rs h;obtain ⟨F,G,d,ds,r,rd,t,h⟩:=h;simp only[opM]at h;generalize ea:ds.map (view G)=va at h;simp only[qz]at h;split at h
 ·obtain ⟨d',rfl,ev⟩:=map_one ea;obtain ⟨v',rfl,rv⟩:=bY t;obtain ⟨b,vs2,e2,q2,t2⟩:=Vd r rv ev;subst e2;have e1:x=.ref _:=rd;subst e1;split at h
  ·rename_i ds0 hg;obtain ⟨vs,q,t'⟩:=r.lst hg;refine Rb pins s Y H _ _ v us Q I rx rs ⟨_,b,vs,vs2,rfl,rfl,q,q2,?_,?_⟩
   ·rw[<-t'.length,<-t2.length];exact Nat.le_of_lt (bp h.1 szl)
   ·exact h.2 _ _ _ (ql r hg) (r.write hg (t'.append t2)) rfl
  ·exact h.elim
 ·exact h.elim
theorem DQ:pN X (λo i x H Q=>∃F G a b c,R X.K H F G/\Rep X.K H F a o/\Rep X.K H F b i/\Rep X.K H F c x/\d8 a b c G (λG'=>∀H' F',Ext H F H' F'->R X.K H' F' G'->Q H')):=by
 intro pins s Y H o i v ov iv u Q I ro ri rv h;obtain ⟨F,G,a,b,c,r,ra,rb,rc,h⟩:=h;unfold d8 at h;split at h
 ·have e1:o=.ref _:=ra;have e2:i=.int _:=rb;subst e1;subst e2;split at h
  ·rename_i ds hg;obtain ⟨vs,q,t⟩:=r.lst hg;split at h
   ·rename_i j hj;refine set_list pins s Y H _ _ v ov iv u Q I ro ri rv ⟨_,vs,_,j,rfl,rfl,q,by rw[<-t.length];exact hj,?_⟩;exact h _ _ (ql r hg) (r.write hg (t.set rc j))
   ·exact h.elim
  ·exact h.elim
 ·exact h.elim
theorem DR(op:Operator):PIp X op (λx y H Q=>∃F G a b,R X.K H F G/\Rep X.K H F a x/\Rep X.K H F b y/\dI op a b (λd=>PV X.K H F Q d G)):=by
 intro pins s Y H x y v u Q I rx ry h;obtain ⟨F,G,a,b,r,ra,rb,h⟩:=h;unfold dI at h;split at h
 ·have e1:x=.int _:=ra;have e2:y=.int _:=rb;subst e1;subst e2;exact PP pins s Y H _ _ v u Q I rx ry ⟨_,_,rfl,rfl,h.now r rfl⟩
 ·obtain ⟨e1,l1⟩:=ra;obtain ⟨e2,l2⟩:=rb;subst e1;subst e2;refine Qk pins s Y H _ _ v u Q I rx ry ⟨_,_,rfl,rfl,by rw[bW,bW];exact dq h.1,?_⟩;rw[p6];exact h.2.now r ⟨rfl,by rw[al];exact h.1⟩
 ·have e1:x=.int _:=ra;have e2:y=.int _:=rb;subst e1;subst e2;exact PQ pins s Y H _ _ v u Q I rx ry ⟨_,_,rfl,rfl,h.now r rfl⟩
 ·exact h.elim
theorem Vf:z8 X (λo i H Q=>∃F G a b,R X.K H F G/\Rep X.K H F a o/\Rep X.K H F b i/\cB (view G a) b (λd=>PV X.K H F Q d G)):=by
 intro pins s Y H o i ov iv Q I ro ri h;obtain ⟨F,G,a,b,r,ra,rb,h⟩:=h;generalize ea:view G a=va at h;have hn:=gA;unfold cB at h;split at h
 ·rename_i dd k;obtain ⟨p,vs,e,q,t⟩:=Rep.list r ra ea;subst e;have e2:i=.int _:=rb;subst e2;split at h
  ·rename_i d hd;obtain ⟨w,hw,rw'⟩:=qW t hd;cases ro;obtain ⟨tk,rfl⟩:=ri;obtain ⟨its,rv,pl,hz⟩:=I.list q;obtain ⟨j,h1,h2,h3,h4,h5⟩:=jf hw;obtain ⟨u,eu,ru⟩:=rv.get h2;have hl:=rv.length;have fin:EP X pins Y Q u s:=⟨w,H,I,ru,h.now r rw'⟩;by_cases h0:0<=k
   ·have hj:k.toNat=j:=by
     rw[seqIndex_of h0 h5]at h1;exact cy h1
    exact wpAny_getItem_list pl.isList h0 (by omega) (by rw[hj];simpa using eu) fin
   ·have hj:(k+(its.toArray.size:Int)).toNat=j:=by
     rw[seqIndex_neg (by omega) h4]at h1;rw[am,<-hl];exact cy h1
    exact wpAny_getItem_list_neg pl.isList (by omega) (by rw[am] <;> omega) (by omega) (by rw[hj];simpa using eu) fin
  ·exact h.elim
 ·cases gB ea;obtain ⟨p,vs,e,q,t⟩:=ra;subst e;have e2:i=.int _:=rb;subst e2;split at h
  ·rename_i d hd;obtain ⟨w,hw,rw'⟩:=qW t hd;cases ro;obtain ⟨tk,rfl⟩:=ri;obtain ⟨its,rv,pl,hz⟩:=I.tuple q.sq;obtain ⟨j,h1,h2,h3,h4,h5⟩:=jf hw;obtain ⟨u,eu,ru⟩:=rv.get h2;have hl:=rv.length;exact getItem_tuple (j:=j) pl (by omega) (by omega) (by rw[am,<-hl];exact h1) (by simpa using eu) ⟨w,H,I,ru,h.now r rw'⟩
  ·exact h.elim
 ·rename_i l k;cases fL ea;obtain ⟨e,hl⟩:=ra;subst e;have e2:i=.int _:=rb;subst e2;split at h
  ·rename_i c hc;obtain ⟨tk,rfl⟩:=ro;obtain ⟨tk',rfl⟩:=ri;obtain ⟨j,h1,h2,h3,h4,h5⟩:=jf hc;have hll:=dq hl;have e0:(tx l).length=l.length:=bW l;refine getItem_str (c:=c) (by
    have e1:decide (k < -(2 ^ 63:Int))=false:=bn (by omega);have e2:decide (k≥2 ^ 63)=false:=bn (by omega);rw[e1,e2,Bool.or_false]) (by rw[e0,h1];simpa using h2) ⟨.str (tx [c]),H,I.tok _,⟨_,rfl⟩,h.now r ⟨rfl,by show 1<=sz;decide⟩⟩
  ·exact h.elim
 ·exact h.elim
end
inductive SK where
 |lst (a:Addr) |tup (a:Addr) |str (x:Str) (t:Tok)
def SK.val:SK->Value
 |.lst a=>.ref a
 |.tup a=>.ref a
 |.str x t=>.str x t
def SK.cls:SK->String
 |.lst _=>"list_iterator"
 |.tup _=>"tuple_iterator"
 |.str x _=>strIterType x
def SK.obj(k:SK):Obj:={ cls:=.type k.cls,data:=.fields #[k.val,.int 0 0] }
def SK.pos(k:SK)(it:Addr)(i:Nat)(h:Heap):Prop:=∃o,h.get? it=some o/\o.cls=.type k.cls/\o.data=.fields #[k.val,.int i 0]
def SK.Sat(H:Hp)(vs:List V):SK->Prop
 |.lst a=>H a=some (.lst vs)
 |.tup a=>H a=some (.tup vs)
 |.str x _=>vs=x.cps.toList.map λc=>V.str ⟨#[c]⟩
def SK.No(e:Addr):SK->Prop
 |.lst a=>a≠e
 |.tup a=>a≠e
 |.str _ _=>True
theorem SK.Sat.no{H:Hp}{vs:List V}{k:SK}{e:Addr}(h:k.Sat H vs)(he:H e=none):k.No e:=by
 cases k with
 |lst a=>exact aU (show H a=some _ from h) he
 |tup a=>exact aU (show H a=some _ from h) he
 |str x t=>trivial
def SK.On(its:Array Value)(h:Heap):SK->Prop
 |.lst a=>h.IsList a its
 |.tup a=>h.IsTuple a its
 |.str _ _=>True
theorem SK.On.keeps{its:Array Value}{h h':Heap}{k:SK}(x:k.On its h)(kk:∀b o,k.val=.ref b->h.get? b=some o->h'.get? b=some o):k.On its h':=by
 cases k with
 |lst a=>obtain ⟨o,e,r⟩:=x;exact ⟨o,kk a o rfl e,r⟩
 |tup a=>obtain ⟨o,e,r⟩:=x;exact ⟨o,kk a o rfl e,r⟩
 |str _ _=>trivial
section
variable {prog:Program} {w:World} {A:Around} {E:Value->Shared->Prop} {s:Shared}
theorem SK.iter{k:SK}{its:Array Value}{Q:Value->Shared->Prop}(h:k.On its s.heap)(q:Q (.ref (~~~s)) { s with heap:=s.heap.push k.obj }):wpAny (model prog w) A (pyIter k.val) Q E s:=by
 cases k with
 |lst a=>exact wpAny_pyIter_list h q
 |tup a=>exact wpAny_pyIter_tuple h q
 |str x t=>exact wpAny_pyIter_strU q
theorem SK.pos0{k:SK}{h:Heap}:k.pos h.objs.size 0 (h.push k.obj):=⟨_,a7 _ rfl,rfl,rfl⟩
theorem SK.pos.keep{k:SK}{it:Addr}{i:Nat}{h h':Heap}(x:k.pos it i h)(kk:∀o,h.get? it=some o->h'.get? it=some o):k.pos it i h':=let ⟨o,e,r⟩:=x;⟨o,kk o e,r⟩
theorem Vg{it t:Addr}{i:Nat}{items}{x:Value}{Q:Value->Shared->Prop}(hit:s.heap.IsTupleIter it t i)
  (ht:s.heap.IsTuple t items) (hx:items[i]?=some x)
  (hQ:∀h',h'.IsTupleIter it t (i+1)->Heap.SameBut it s.heap h'->Q x { s with heap:=h' }):
  wpAny (model prog w) A (Builtin.SmallTypes.nextOf (.ref it)) Q E s:=by
 obtain ⟨o,ho,hc,hd⟩:=id hit;obtain ⟨ol,hol,_,nl,hdl⟩:=ht;unfold Builtin.SmallTypes.nextOf;refine ab (dc (name:=Str.ofString "__next__") hit.typeIs e6
  (dQ e6 hit.typeIs F.entry_tuple_iterator_next ?_ (F.args_tuple_iterator_next_1 _)))
 show wpAny _ _ (field (.ref it) 0 >>= _) _ _ s;refine ab (c8 ho hd (x:=.ref t) rfl ?_);show wpAny _ _ (if (Value.ref t==Value.none)=true then _ else _) _ _ s;rw[if_neg (show ¬((Value.ref t==Value.none)=true) from bd)];show wpAny _ _ (field (.ref it) 1 >>= _) _ _ s;refine ab (c8 ho hd (x:=.int i 0) rfl ?_);show wpAny _ _ (seqItems? (.ref t) >>= _) _ _ s;refine ab (d3 hol hdl ?_);simp only[br,hx];refine ab (wpAny_setField ho hd (by simp) (av ⟨x,rfl,av (hQ _ ?_ (Heap.SameBut.update ..))⟩));exact ⟨_,Heap.get?_update_self _ ho (Obj.isFreed_of_fields (Obj.data_mapFields hd _)),(Obj.cls_mapFields ..).trans hc,by
  rw[Obj.data_mapFields hd];simp[rawInt]⟩
theorem Vh{it t:Addr}{i:Nat}{items}{Q:Value->Shared->Prop}(hh:A.handled=none)
  (hit:s.heap.IsTupleIter it t i) (ht:s.heap.IsTuple t items) (hx:items[i]?=none)
  (hE:∀h' e,Heap.ExtBut it s.heap h'->(∃o,h'.get? e=some o/\o.cls=.type "StopIteration")->E (.ref e) { s with heap:=h' }):
  wpAny (model prog w) A (Builtin.SmallTypes.nextOf (.ref it)) Q E s:=by
 obtain ⟨o,ho,hc,hd⟩:=id hit;obtain ⟨ol,hol,_,nl,hdl⟩:=ht;unfold Builtin.SmallTypes.nextOf;refine ab (dc (name:=Str.ofString "__next__") hit.typeIs e6
  (dQ e6 hit.typeIs F.entry_tuple_iterator_next ?_ (F.args_tuple_iterator_next_1 _)))
 show wpAny _ _ (field (.ref it) 0 >>= _) _ _ s;refine ab (c8 ho hd (x:=.ref t) rfl ?_);show wpAny _ _ (if (Value.ref t==Value.none)=true then _ else _) _ _ s;rw[if_neg (show ¬((Value.ref t==Value.none)=true) from bd)];show wpAny _ _ (field (.ref it) 1 >>= _) _ _ s;refine ab (c8 ho hd (x:=.int i 0) rfl ?_);show wpAny _ _ (seqItems? (.ref t) >>= _) _ _ s;refine ab (d3 hol hdl ?_);simp only[br,hx];refine ab (wpAny_rule (ab (wpAny_setField ho hd (by simp) ?_)));show wpAny _ _ (newExc (.type "StopIteration") [] >>= _) _ _ _;refine ab ?_;simp only[newExc,newTuple];refine ab (ef ?_ (by size_fits));refine ab (m:=firstArgMember _ _) (wpAny_of_eq (a:=Value.none) (by first |rfl | (simp only[firstArgMember];rfl)) ?_);refine ef ?_ (by size_fits);simp only[raiseNew];refine ab (wpAny_handled ?_);first |rw[show A.in1.handled=none from hh] |rw[hh]
 refine ab (av (wpAny_throw ?_));exact hE _ _ (((Heap.SameBut.update ..).extBut.push _).push _) ⟨_,a7 _ rfl,rfl⟩
theorem Vi(hh:A.handled=none)(it l:Addr)(hne:l≠it)(items:Array Value):
  Draws prog w A it [it,l] items.size (λi v=>items[i]?=some v) (λi h=>h.IsTupleIter it l i/\h.IsTuple l items) where
 live:=λ_ _ st=>let ⟨o,ho,_⟩:=st.1;⟨o,ho⟩
 frame:=λ_ _ _ st hk=>⟨let ⟨o,e,r⟩:=st.1;⟨o,hk it (by simp) o e,r⟩,let ⟨o,e,r⟩:=st.2;⟨o,hk l (by simp) o e,r⟩⟩
 item:=λi s Q E hi st hQ=>by
  refine Vg st.1 st.2 (x:=items[i]) (by simp[hi]) λh' hit' hs'=>?_;exact hQ _ h' s.toks (by simp[hi]) ⟨hit',let ⟨o,e,r⟩:=st.2;⟨o,hs'.extBut l o hne e,r⟩⟩ hs'
 done:=λs Q E st hE=>Vh hh st.1 st.2 (by simp) hE
end
structure Drawn(P:Program)(w:World)(A:Around)(k:SK)(it:Addr)(i:Nat)(vs:List V)(h:Heap)(fp:List Addr)(Pd:Nat->Value->Prop)(S:Nat->Heap->Prop):Prop where
 D:Draws P w A it fp vs.length Pd S
 st:S i h
 val:∀j v,Pd j v->∃x,vs[j]?=some x/\RelV x v
 pos:∀j h,S j h->k.pos it j h
 fp:∀b∈fp,b=it\/k.val=.ref b
theorem drawn{X:Cx}{pins:List (Addr×Obj)}{Y:L2.St}{H:Hp}{s:Shared}{A:Around}(hh:A.handled=none)(I:Inv X pins Y H s){k:SK}{it:Addr}{i:Nat}{vs:List V}(sat:k.Sat H vs)(hit:H it=none)(p:k.pos it i s.heap):
  ∃fp Pd S,Drawn X.prog X.w A k it i vs s.heap fp Pd S:=by
 cases k with
 |lst a=>
  have sat:H a=some (.lst vs):=sat;obtain ⟨its,r,pl,_⟩:=I.list (SqL.of sat);refine ⟨[it,a],λj v=>its.toArray[j]?=some v,λj h=>h.IsListIter it a j/\h.IsList a its.toArray,?_,⟨p,pl.isList⟩,?_,λj h st=>st.1,?_⟩
  ·have D:=Draws.list (prog:=X.prog) (w:=X.w) hh it a (aU sat hit) its.toArray;rw[am,<-r.length]at D;exact D
  ·intro j v e;have e:its.toArray[j]?=some v:=e;have hj:j < vs.length:=by
    rw[r.length];have:=(Array.getElem?_eq_some_iff.mp e).1;simpa using this
   obtain ⟨u,e2,r2⟩:=r.get (show vs[j]?=some vs[j] by simp[hj]);refine ⟨vs[j],by simp[hj],?_⟩;have:its[j]?=some v:=by simpa using e
   rw[this]at e2;cases e2;exact r2
  ·intro b hb;have hb:b=it\/b=a:=by simpa using hb
   rcases hb with e |e
   ·exact .inl e
   ·exact .inr (by rw[e];rfl)
 |tup a=>
  have sat:H a=some (.tup vs):=sat;obtain ⟨its,r,pl,_⟩:=I.tuple (SqT.of sat);refine ⟨[it,a],λj v=>its.toArray[j]?=some v,λj h=>h.IsTupleIter it a j/\h.IsTuple a its.toArray,?_,⟨p,pl⟩,?_,λj h st=>st.1,?_⟩
  ·have D:=Vi (prog:=X.prog) (w:=X.w) hh it a (aU sat hit) its.toArray;rw[am,<-r.length]at D;exact D
  ·intro j v e;have e:its.toArray[j]?=some v:=e;have hj:j < vs.length:=by
    rw[r.length];have:=(Array.getElem?_eq_some_iff.mp e).1;simpa using this
   obtain ⟨u,e2,r2⟩:=r.get (show vs[j]?=some vs[j] by simp[hj]);refine ⟨vs[j],by simp[hj],?_⟩;have:its[j]?=some v:=by simpa using e
   rw[this]at e2;cases e2;exact r2
  ·intro b hb;have hb:b=it\/b=a:=by simpa using hb
   rcases hb with e |e
   ·exact .inl e
   ·exact .inr (by rw[e];rfl)
 |str x t=>
  have sat:vs=x.cps.toList.map λc=>V.str ⟨#[c]⟩:=sat;refine ⟨[it],λi v=>∃c u,x.cps[i]?=some c/\v=.str ⟨#[c]⟩ u,λi h=>h.IsStrIter it (strIterType x) x t i,?_,p,?_,λj h st=>st,?_⟩
  ·have D:=RL (prog:=X.prog) (w:=X.w) hh it x t;have e:x.cps.size=vs.length:=by rw[sat,af,c5]
   rw[e]at D;exact D
  ·rintro j v ⟨c,u,e1,e2⟩;refine ⟨V.str ⟨#[c]⟩,?_,u,e2⟩;rw[sat,aw,fw,e1];rfl
  ·intro b hb;exact .inl (by simpa using hb)
def Jk(k:SK):It:=⟨λi H=>∃vs,k.Sat H vs/\i < vs.length,λi H x H'=>H'=H/\∀vs,k.Sat H vs->vs[i]?=some x,λi H=>∃vs,k.Sat H vs/\vs.length=i⟩
def Je(k:SK):It:=⟨λi H=>∃vs,k.Sat H vs/\i < vs.length,λi H x H'=>∃T y,H T=none/\x=.ref T/\H'=upd H T (.tup [.int i,y])/\∀vs,k.Sat H vs->vs[i]?=some y,λi H=>∃vs,k.Sat H vs/\vs.length=i⟩
theorem wR{H:Hp}{k:SK}{vs ws:List V}(h:k.Sat H vs)(h':k.Sat H ws):vs=ws:=by
 cases k with
 |lst a=>have e:=(show H a=some _ from h).symm.trans h';cases e;rfl
 |tup a=>have e:=(show H a=some _ from h).symm.trans h';cases e;rfl
 |str x t=>exact (show vs=_ from h).trans (show ws=_ from h').symm
theorem DW{P:Program}{w:World}{K:PF}{elts:List Expr}{x1:Nat}{pos:Pos}(k:SK)(e it:Addr)(hne:e≠it):
  Turn P w K (.Tuple elts x1 pos) (Je k) [e,it] e (λi h=>(∃old,IsEnum h e it i old)/\k.pos it i h) where
 mem:=by simp
 obj:=λi h st b hb=>by
  obtain ⟨⟨old,he⟩,o,ho,c,d⟩:=st;have hb:b=e\/b=it:=by simpa using hb
  rcases hb with rfl |rfl
  ·exact ⟨_,he,λv z=>by have z':Data.fields _=Data.cell v:=z;cases z'⟩
  ·exact ⟨o,ho,λv z=>by rw[d]at z;cases z⟩
 keep:=λi h h' st kk=>⟨let ⟨old,he⟩:=st.1;⟨old,kk e (by simp) _ he⟩,st.2.keep λo ho=>kk it (by simp) o ho⟩
 item:=by
  intro X hP hw hK hc i pins s Y H E I hf st hg;subst hP hw hK;obtain ⟨vs,sat,hi⟩:=hg;obtain ⟨⟨old,he⟩,hit⟩:=st;have hfe:=hf e (by simp);have hfi:=hf it (by simp);obtain ⟨fp,Pd,S,Dr⟩:=drawn (A:=X.A.in1) (I.ok.hd hc) I sat hfi.1 hit;have helt:e < (~~~s):=ay he;have hef:e∉fp:=λhb=>by
   rcases Dr.fp e hb with z |z
   ·exact hne z
   ·have:=sat.no hfe.1;cases k with
    |lst a=>cases z;exact this rfl
    |tup a=>cases z;exact this rfl
    |str _ _=>cases z
  refine wpAny_pyNext_enum_itemD Dr.D he Dr.st hi hne hef λu h1 tk hu heo hit1 ht1 hz1 hk1=>?_;obtain ⟨x,hx,ru⟩:=Dr.val _ _ hu;refine ⟨_,rfl,?_⟩;refine wpAny_letOwnedTupleGo_enum heo λh2 he2 hs2=>?_;have hs2':Heap.SameBut e h1 h2:=hs2;have hn:H (~~~s)=none:=I.hok.fresh (ax _);have k2:∀b o,b∉[e,it]->s.heap.get? b=some o->h2.get? b=some o:=λb o hb q=>by
   have hb':b≠e/\b≠it:=by simpa using hb
   exact hs2'.extBut b o hb'.1 (hk1 b o hb'.1 hb'.2 q)
  have I2:Inv X pins Y H { s with heap:=h2,toks:=tk+1 }:=I.turnedL hf k2;have ht2:h2.get? (~~~s)=some { cls:=.type "tuple",data:=.seq #[.int i tk,u] }:=hs2'.extBut _ _ (fg helt) ht1;have ob:ObjOk X.prog X.w (upd H (~~~s) (.tup [.int i,x])) h2 (~~~s) (.tup [.int i,x]):=
   ⟨by rw[fq];simp,[.int i tk,u],.cons ⟨_,rfl⟩ (.cons ru .nil),⟨_,ht2,rfl,_,rfl⟩⟩
  have I3:=I2.track (I.fpOk (ax _) hn) ob;have nee:(~~~s)≠e:=fg helt;have nei:(~~~s)≠it:=by obtain ⟨o,ho,_⟩:=hit;exact fg (ay ho)
  refine ⟨.ref (~~~s),_,I3,rfl,⟨(~~~s),x,hn,rfl,rfl,λys hy=>by rw[wR hy sat];exact hx⟩,⟨⟨u,?_⟩,?_⟩,λb hb=>?_⟩
  ·show IsEnum h2 e it (((i+1:Nat)):Int) u;rw[show (((i+1:Nat):Int))=(i:Int)+1 by omega];exact he2
  ·exact (Dr.pos _ _ hit1).keep λo ho=>hs2'.extBut _ _ (Ne.symm hne) ho
  ·have hb':b=e\/b=it:=by simpa using hb
   rw[aH (by rcases hb' with rfl |rfl;exact Ne.symm nee;exact Ne.symm nei)];exact (hf b hb).1
 done:=by
  intro X hP hw hK hc i pins s Y H E I hf st hg;subst hP hw hK;obtain ⟨vs,sat,hi⟩:=hg;subst hi;obtain ⟨⟨old,he⟩,hit⟩:=st;have hfi:=hf it (by simp);obtain ⟨fp,Pd,S,Dr⟩:=drawn (A:=X.A.in1) (I.ok.hd hc) I sat hfi.1 hit;refine wpAny_pyNext_enum_endD Dr.D he Dr.st λh' eb=>⟨rfl,I.turnedL (t':=s.toks) hf λb o hb q=>?_⟩;have hb':b≠e/\b≠it:=by simpa using hb
  exact eb b o hb'.2 q
 self:=λA i s Q E st h=>by
  obtain ⟨⟨old,he⟩,_⟩:=st;exact wpAny_pyIter_enum he h
theorem Vj{P:Program}{w:World}{K:PF}{tg:Expr}(k:SK)(it:Addr):Turn P w K tg (Jk k) [it] it (λi h=>k.pos it i h) where
 mem:=by simp
 obj:=λi h st b hb=>by
  have e:b=it:=by simpa using hb
  subst e;obtain ⟨o,e,c,d⟩:=st;exact ⟨o,e,λv z=>by rw[d]at z;cases z⟩
 keep:=λi h h' st kk=>st.keep λo e=>kk it (by simp) o e
 item:=by
  intro X hP hw hK hc i pins s Y H E I hf st hg;obtain ⟨vs,sat,hi⟩:=hg;have hfi:=hf it (by simp);cases k with
  |lst a=>
   have sat':H a=some (.lst vs):=sat;refine ca ((z9 (tg:=tg) a it).item X hP hw hK hc i pins s Y H E I hf st ⟨vs,vs[i],SqL.of sat',by simp[hi]⟩) ?_ (λ_ _ e=>e);rintro r s1 ⟨u,hr,h1⟩;refine ⟨u,hr,ca h1 ?_ (λ_ _ e=>e)⟩;rintro _ s2 ⟨x,H',I',rx,⟨e1,e2⟩,st',fr⟩;exact ⟨x,H',I',rx,⟨e1,λws hw'=>e2 ws (SqL.of (show H a=some (.lst ws) from hw'))⟩,st',fr⟩
  |tup a=>
   have sat':H a=some (.tup vs):=sat;refine ca ((Aa (tg:=tg) a it).item X hP hw hK hc i pins s Y H E I hf st ⟨vs,vs[i],SqT.of sat',by simp[hi]⟩) ?_ (λ_ _ e=>e);rintro r s1 ⟨u,hr,h1⟩;refine ⟨u,hr,ca h1 ?_ (λ_ _ e=>e)⟩;rintro _ s2 ⟨x,H',I',rx,⟨e1,e2⟩,st',fr⟩;exact ⟨x,H',I',rx,⟨e1,λws hw'=>e2 ws (SqT.of (show H a=some (.tup ws) from hw'))⟩,st',fr⟩
  |str y t=>
   have sat':vs=y.cps.toList.map λc=>V.str ⟨#[c]⟩:=sat;have hlen:vs.length=y.cps.size:=by rw[sat',af,c5]
   refine ca ((uI (tg:=tg) it y t).item X hP hw hK hc i pins s Y H E I hf st (show i < y.cps.size by omega)) ?_ (λ_ _ e=>e);rintro r s1 ⟨u,hr,h1⟩;refine ⟨u,hr,ca h1 ?_ (λ_ _ e=>e)⟩;rintro _ s2 ⟨x,H',I',rx,⟨e1,c,e2,e3⟩,st',fr⟩;refine ⟨x,H',I',rx,⟨e1,λws hw'=>?_⟩,st',fr⟩;have hw':ws=y.cps.toList.map λc=>V.str ⟨#[c]⟩:=hw';rw[hw',e3,aw,fw,e2];rfl
 done:=by
  intro X hP hw hK hc i pins s Y H E I hf st hg;obtain ⟨vs,sat,hi⟩:=hg;cases k with
  |lst a=>exact (z9 (tg:=tg) a it).done X hP hw hK hc i pins s Y H E I hf st ⟨vs,SqL.of (show H a=some (.lst vs) from sat),by omega⟩
  |tup a=>exact (Aa (tg:=tg) a it).done X hP hw hK hc i pins s Y H E I hf st ⟨vs,SqT.of (show H a=some (.tup vs) from sat),by omega⟩
  |str y t=>
   have sat':vs=y.cps.toList.map λc=>V.str ⟨#[c]⟩:=sat;have hlen:vs.length=y.cps.size:=by rw[sat',af,c5]
   exact (uI (tg:=tg) it y t).done X hP hw hK hc i pins s Y H E I hf st (show i=y.cps.size by omega)
 self:=λA i s Q E st h=>by
  cases k with
  |lst a=>exact wpAny_pyIter_listiter st h
  |tup a=>exact wpAny_pyIter_tupleiter st h
  |str y t=>exact (uI (K:=K) (tg:=tg) it y t).self A i s Q E st h
open Builtin Builtin.Str
section
variable {prog:Program} {w:World} {A:Around} {E:Value->Shared->Prop} {s:Shared}
theorem Vk{z TI TO i1 i2:Addr}{k n1 n2:Nat}{fp1 fp2:List Addr}{P1 P2:Nat->Value->Prop}{S1 S2:Nat->Heap->Prop}{a b:Value}{Q:Value->Shared->Prop}(D:ZApart z TI TO i1 i2)
  (D1:Draws prog w A i1 fp1 n1 P1 S1) (D2:Draws prog w A i2 fp2 n2 P2 S2) (f1:∀c∈fp1,c≠z/\c≠TO/\c≠i2) (f2:∀c∈fp2,c≠z/\c≠TO/\c≠i1)
  (hz:IsZip s.heap z TI TO .none) (hTI:IsPair s.heap TI (.ref i1) (.ref i2)) (hTO:IsPair s.heap TO a b)
  (h1:S1 k s.heap) (h2:S2 k s.heap) (hx:k < n1) (hy:k < n2)
  (hQ:∀h' tk c d,P1 k c->P2 k d->IsZip h' z TI TO (rawInt (~~~s))->IsPair h' TO c d->S1 (k+1) h'->S2 (k+1) h'->
   IsPair h' (~~~s) c d->h'.objs.size=(~~~s)+1->
   (∀c o,c≠z->c≠TO->c≠i1->c≠i2->s.heap.get? c=some o->h'.get? c=some o)->Q (.ref (~~~s)) { s with heap:=h',toks:=tk }):
  wpAny (model prog w) A (Builtin.«zip.__next__» ⟨[.ref z],[]⟩) (λfin s'=>∃v,fin=.done (.ret v)/\Q v s') E s:=by
 have e1:∀{h h':Heap}{c:Addr}{j:Nat},S1 j h->Heap.ExtBut c h h'->(∀b∈fp1,b≠c)->S1 j h':=λq e n=>D1.frame _ _ _ q λb hb o y=>e b o (n b hb) y;have e2:∀{h h':Heap}{c:Addr}{j:Nat},S2 j h->Heap.ExtBut c h h'->(∀b∈fp2,b≠c)->S2 j h':=λq e n=>D2.frame _ _ _ q λb hb o y=>e b o (n b hb) y;have z1:∀b∈fp1,b≠z:=λb hb=>(f1 b hb).1;have t1:∀b∈fp1,b≠TO:=λb hb=>(f1 b hb).2.1;have j1:∀b∈fp1,b≠i2:=λb hb=>(f1 b hb).2.2;have z2:∀b∈fp2,b≠z:=λb hb=>(f2 b hb).1;have t2:∀b∈fp2,b≠TO:=λb hb=>(f2 b hb).2.1;have j2:∀b∈fp2,b≠i1:=λb hb=>(f2 b hb).2.2;show wpAny _ _ (field (.ref z) 2 >>= _) _ _ _;refine ab (c8 hz rfl (x:=.bool false) rfl ?_);show wpAny _ _ (field (.ref z) 3 >>= _) _ _ _;refine ab (c8 hz rfl (x:=.ref TI) rfl ?_);refine ab (d3 hTI rfl ?_);show wpAny _ _ (Builtin.SmallTypes.ownedTupleIsFree (.ref z) >>= _) _ _ _;refine ab ?_;unfold Builtin.SmallTypes.ownedTupleIsFree;refine ab (c8 hz rfl (x:=.none) rfl (av ?_));simp only[if_true];refine ab (wpAny_rule ?_);refine ab (c8 hz rfl (x:=.ref TO) rfl ?_);refine ab (d0 hz (by simp) λh₁ hz₁ hs₁=>?_);replace hz₁:IsZip h₁ z TI TO .ellipsis:=hz₁;replace hs₁:Heap.SameBut z s.heap h₁:=hs₁;refine ab ?_;simp only[List.zipIdx_cons,List.zipIdx_nil,List.forIn_cons,List.forIn_nil];refine ab (ab (wpAny_onRaise ?_));show wpAny _ _ (Builtin.SmallTypes.nextOf (.ref i1) >>= _) _ _ _;refine ab (D1.item k _ _ _ hx (e1 h1 hs₁.extBut z1) λc h₂ tk₂ hc h1₂ hs₂=>av ?_);replace hs₂:Heap.SameBut i1 h₁ h₂:=hs₂;have hTO₂:IsPair h₂ TO a b:=hs₂.extBut _ _ D.TOi1 (hs₁.extBut _ _ D.TOz hTO);refine ab (d3 hTO₂ rfl ?_);refine ab (wpAny_updateSeq_pair hTO₂ λh₃ hTO₃ hs₃=>?_);replace hTO₃:IsPair h₃ TO c b:=hTO₃;replace hs₃:Heap.SameBut TO h₂ h₃:=hs₃;refine ab (wpAny_letGo (av ?_));refine ab (ab (wpAny_onRaise ?_));show wpAny _ _ (Builtin.SmallTypes.nextOf (.ref i2) >>= _) _ _ _;refine ab (D2.item k _ _ _ hy (e2 (e2 (e2 h2 hs₁.extBut z2) hs₂.extBut j2) hs₃.extBut t2) λd h₄ tk₄ hd h2₄ hs₄=>av ?_);replace hs₄:Heap.SameBut i2 h₃ h₄:=hs₄;have hTO₄:IsPair h₄ TO c b:=hs₄.extBut _ _ D.TOi2 hTO₃;refine ab (d3 hTO₄ rfl ?_);refine ab (wpAny_updateSeq_pair hTO₄ λh₅ hTO₅ hs₅=>?_);replace hTO₅:IsPair h₅ TO c d:=hTO₅;replace hs₅:Heap.SameBut TO h₄ h₅:=hs₅;refine ab (wpAny_letGo (av (av ?_)));refine ab (d3 hTO₅ rfl ?_);refine ab (wpAny_newTuple ?_);have hsz:h₅.objs.size=(~~~s):=by rw[hs₅.1,hs₄.1,hs₃.1,hs₂.1,hs₁.1]
 have hz₅:IsZip h₅ z TI TO .ellipsis:=hs₅.extBut _ _ D.TOz.symm (hs₄.extBut _ _ D.i2z.symm (hs₃.extBut _ _ D.TOz.symm (hs₂.extBut _ _ D.i1z.symm hz₁)));have hk₅:∀c o,c≠z->c≠TO->c≠i1->c≠i2->s.heap.get? c=some o->h₅.get? c=some o:=λc o c1 c2 c3 c4 e=>
  hs₅.extBut _ _ c2 (hs₄.extBut _ _ c4 (hs₃.extBut _ _ c2 (hs₂.extBut _ _ c3 (hs₁.extBut _ _ c1 e))))
 have h1₅:S1 (k+1) h₅:=e1 (e1 (e1 h1₂ hs₃.extBut t1) hs₄.extBut j1) hs₅.extBut t1;have h2₅:S2 (k+1) h₅:=e2 h2₄ hs₅.extBut t2;have hzlt:z < h₅.objs.size:=ay hz₅;show wpAny _ _ (Builtin.SmallTypes.ownedTupleHandOut (.ref z) (.ref h₅.objs.size) >>= _) _ _ _;refine ab ?_;unfold Builtin.SmallTypes.ownedTupleHandOut;have hz₆:IsZip (h₅.push { cls:=.type "tuple",data:=.seq #[c,d] }) z TI TO .ellipsis:=ah _ hz₅;refine ab (d0 hz₆ (by simp) λh₇ hz₇ hs₇=>?_);replace hz₇:IsZip h₇ z TI TO (rawInt h₅.objs.size):=hz₇;refine d0 hz₇ (by simp) λh₈ hz₈ hs₈=>?_;replace hz₈:IsZip h₈ z TI TO (rawInt h₅.objs.size):=hz₈;have up:∀c o,c≠z->h₅.get? c=some o->h₈.get? c=some o:=λc o c1 e=>hs₈.extBut _ _ c1 (hs₇.extBut _ _ c1 (ah _ e));have hT₈:IsPair h₈ h₅.objs.size c d:=hs₈.extBut _ _ (fg hzlt) (hs₇.extBut _ _ (fg hzlt) (a7 _ rfl));have hz8:h₈.objs.size=h₅.objs.size+1:=by rw[hs₈.1,hs₇.1,de]
 rw[hsz]at hz₈ hT₈ hz8;refine av ⟨_,rfl,?_⟩;show Q (.ref h₅.objs.size) _;rw[hsz];exact hQ h₈ tk₄ c d hc hd hz₈ (up _ _ D.TOz hTO₅) (D1.frame _ _ _ h1₅ λb hb o y=>up b o (z1 b hb) y) (D2.frame _ _ _ h2₅ λb hb o y=>up b o (z2 b hb) y) hT₈ hz8 λc o c1 c2 c3 c4 e=>up c o c1 (hk₅ c o c1 c2 c3 c4 e)
theorem Vl{z TI TO i1 i2:Addr}{n1:Nat}{fp1:List Addr}{P1:Nat->Value->Prop}{S1:Nat->Heap->Prop}{a b:Value}{Q:Fin->Shared->Prop}(D:ZApart z TI TO i1 i2)
  (D1:Draws prog w A i1 fp1 n1 P1 S1) (f1:∀c∈fp1,c≠z)
  (hz:IsZip s.heap z TI TO .none) (hTI:IsPair s.heap TI (.ref i1) (.ref i2)) (hTO:IsPair s.heap TO a b) (h1:S1 n1 s.heap)
  (hE:∀h' e,(∀c o,c≠z->c≠TO->c≠i1->c≠i2->s.heap.get? c=some o->h'.get? c=some o)->(∃o,h'.get? e=some o/\o.cls=.type "StopIteration")->E (.ref e) { s with heap:=h' }):
  wpAny (model prog w) A (Builtin.«zip.__next__» ⟨[.ref z],[]⟩) Q E s:=by
 show wpAny _ _ (field (.ref z) 2 >>= _) _ _ _;refine ab (c8 hz rfl (x:=.bool false) rfl ?_);show wpAny _ _ (field (.ref z) 3 >>= _) _ _ _;refine ab (c8 hz rfl (x:=.ref TI) rfl ?_);refine ab (d3 hTI rfl ?_);show wpAny _ _ (Builtin.SmallTypes.ownedTupleIsFree (.ref z) >>= _) _ _ _;refine ab ?_;unfold Builtin.SmallTypes.ownedTupleIsFree;refine ab (c8 hz rfl (x:=.none) rfl (av ?_));simp only[if_true];refine ab (wpAny_rule ?_);refine ab (c8 hz rfl (x:=.ref TO) rfl ?_);refine ab (d0 hz (by simp) λh₁ hz₁ hs₁=>?_);replace hz₁:IsZip h₁ z TI TO .ellipsis:=hz₁;replace hs₁:Heap.SameBut z s.heap h₁:=hs₁;refine ab ?_;simp only[List.zipIdx_cons,List.zipIdx_nil,List.forIn_cons,List.forIn_nil];refine ab (ab (wpAny_onRaise ?_));show wpAny _ _ (Builtin.SmallTypes.nextOf (.ref i1) >>= _) _ _ _;refine ab (D1.done _ _ _ (D1.frame _ _ _ h1 λb hb o y=>hs₁.extBut b o (f1 b hb) y) λh₂ e hs₂ he=>?_);obtain ⟨oe,hoe,hce⟩:=he;have hz₂:IsZip h₂ z TI TO .ellipsis:=hs₂ _ _ D.i1z.symm hz₁;have hez:e≠z:=λx=>by subst x;rw[hz₂]at hoe;cases hoe;simp at hce
 refine d0 hz₂ (by simp) λh₃ _ hs₃=>hE h₃ e (λc o c1 _ c3 _ x=>hs₃.extBut _ _ c1 (hs₂ _ _ c3 (hs₁.extBut _ _ c1 x))) ⟨oe,hs₃.extBut _ _ hez hoe,hce⟩
theorem Vm{z TI TO i1 i2:Addr}{k n1 n2:Nat}{fp1 fp2:List Addr}{P1 P2:Nat->Value->Prop}{S1 S2:Nat->Heap->Prop}{a b:Value}{Q:Fin->Shared->Prop}(D:ZApart z TI TO i1 i2)
  (D1:Draws prog w A i1 fp1 n1 P1 S1) (D2:Draws prog w A i2 fp2 n2 P2 S2) (f1:∀c∈fp1,c≠z/\c≠TO/\c≠i2) (f2:∀c∈fp2,c≠z/\c≠TO/\c≠i1)
  (hz:IsZip s.heap z TI TO .none) (hTI:IsPair s.heap TI (.ref i1) (.ref i2)) (hTO:IsPair s.heap TO a b) (h1:S1 k s.heap) (h2:S2 k s.heap) (hx:k < n1) (hy:k=n2)
  (hE:∀h' tk e,(∀c o,c≠z->c≠TO->c≠i1->c≠i2->s.heap.get? c=some o->h'.get? c=some o)->(∃o,h'.get? e=some o/\o.cls=.type "StopIteration")->E (.ref e) { s with heap:=h',toks:=tk }):
  wpAny (model prog w) A (Builtin.«zip.__next__» ⟨[.ref z],[]⟩) Q E s:=by
 have e1:∀{h h':Heap}{c:Addr}{j:Nat},S1 j h->Heap.ExtBut c h h'->(∀b∈fp1,b≠c)->S1 j h':=λq e n=>D1.frame _ _ _ q λb hb o y=>e b o (n b hb) y;have e2:∀{h h':Heap}{c:Addr}{j:Nat},S2 j h->Heap.ExtBut c h h'->(∀b∈fp2,b≠c)->S2 j h':=λq e n=>D2.frame _ _ _ q λb hb o y=>e b o (n b hb) y;have z1:∀b∈fp1,b≠z:=λb hb=>(f1 b hb).1;have z2:∀b∈fp2,b≠z:=λb hb=>(f2 b hb).1;have t2:∀b∈fp2,b≠TO:=λb hb=>(f2 b hb).2.1;have j2:∀b∈fp2,b≠i1:=λb hb=>(f2 b hb).2.2;show wpAny _ _ (field (.ref z) 2 >>= _) _ _ _;refine ab (c8 hz rfl (x:=.bool false) rfl ?_);show wpAny _ _ (field (.ref z) 3 >>= _) _ _ _;refine ab (c8 hz rfl (x:=.ref TI) rfl ?_);refine ab (d3 hTI rfl ?_);show wpAny _ _ (Builtin.SmallTypes.ownedTupleIsFree (.ref z) >>= _) _ _ _;refine ab ?_;unfold Builtin.SmallTypes.ownedTupleIsFree;refine ab (c8 hz rfl (x:=.none) rfl (av ?_));simp only[if_true];refine ab (wpAny_rule ?_);refine ab (c8 hz rfl (x:=.ref TO) rfl ?_);refine ab (d0 hz (by simp) λh₁ hz₁ hs₁=>?_);replace hz₁:IsZip h₁ z TI TO .ellipsis:=hz₁;replace hs₁:Heap.SameBut z s.heap h₁:=hs₁;refine ab ?_;simp only[List.zipIdx_cons,List.zipIdx_nil,List.forIn_cons,List.forIn_nil];refine ab (ab (wpAny_onRaise ?_));show wpAny _ _ (Builtin.SmallTypes.nextOf (.ref i1) >>= _) _ _ _;refine ab (D1.item k _ _ _ hx (e1 h1 hs₁.extBut z1) λc h₂ tk₂ hc h1₂ hs₂=>av ?_);replace hs₂:Heap.SameBut i1 h₁ h₂:=hs₂;have hTO₂:IsPair h₂ TO a b:=hs₂.extBut _ _ D.TOi1 (hs₁.extBut _ _ D.TOz hTO);refine ab (d3 hTO₂ rfl ?_);refine ab (wpAny_updateSeq_pair hTO₂ λh₃ hTO₃ hs₃=>?_);replace hs₃:Heap.SameBut TO h₂ h₃:=hs₃;refine ab (wpAny_letGo (av ?_));refine ab (ab (wpAny_onRaise ?_));show wpAny _ _ (Builtin.SmallTypes.nextOf (.ref i2) >>= _) _ _ _;subst hy;refine ab (D2.done _ _ _ (e2 (e2 (e2 h2 hs₁.extBut z2) hs₂.extBut j2) hs₃.extBut t2) λh₄ e hs₄ he=>?_);obtain ⟨oe,hoe,hce⟩:=he;have hz₄:IsZip h₄ z TI TO .ellipsis:=hs₄ _ _ D.i2z.symm (hs₃.extBut _ _ D.TOz.symm (hs₂.extBut _ _ D.i1z.symm hz₁));have hez:e≠z:=λx=>by subst x;rw[hz₄]at hoe;cases hoe;simp at hce
 refine d0 hz₄ (by simp) λh₅ _ hs₅=>hE h₅ tk₂ e (λc o c1 c2 c3 c4 x=>hs₅.extBut _ _ c1 (hs₄ _ _ c4 (hs₃.extBut _ _ c2 (hs₂.extBut _ _ c3 (hs₁.extBut _ _ c1 x))))) ⟨oe,hs₅.extBut _ _ hez hoe,hce⟩
end
def Jz(k l:SK):It:=⟨λi H=>∃vs ws,k.Sat H vs/\l.Sat H ws/\i < vs.length/\i < ws.length,
 λi H x H'=>∃T y z,H T=none/\x=.ref T/\H'=upd H T (.tup [y,z])/\(∀vs,k.Sat H vs->vs[i]?=some y)/\(∀ws,l.Sat H ws->ws[i]?=some z),
 λi H=>∃vs ws,k.Sat H vs/\l.Sat H ws/\(vs.length=i/\i<=ws.length\/i < vs.length/\ws.length=i)⟩
theorem Vn{P:Program}{w:World}{K:PF}{elts:List Expr}{x1:Nat}{pos:Pos}(k l:SK)(z TI TO i1 i2:Addr)(D:ZApart z TI TO i1 i2):
  Turn P w K (.Tuple elts x1 pos) (Jz k l) [z,TI,TO,i1,i2] z
   (λi h=>IsZip h z TI TO .none/\IsPair h TI (.ref i1) (.ref i2)/\(∃a b,IsPair h TO a b)/\k.pos i1 i h/\l.pos i2 i h) where
 mem:=by simp
 obj:=λi h st b hb=>by
  obtain ⟨hz,hTI,⟨a,c,hTO⟩,⟨o1,e1,_,d1⟩,⟨o2,e2,_,d2⟩⟩:=st;have hb':b=z\/b=TI\/b=TO\/b=i1\/b=i2:=by simpa using hb
  rcases hb' with rfl |rfl |rfl |rfl |rfl
  ·exact ⟨_,hz,λv q=>by have q':Data.fields _=Data.cell v:=q;cases q'⟩
  ·exact ⟨_,hTI,λv q=>by have q':Data.seq _ _=Data.cell v:=q;cases q'⟩
  ·exact ⟨_,hTO,λv q=>by have q':Data.seq _ _=Data.cell v:=q;cases q'⟩
  ·exact ⟨o1,e1,λv q=>by rw[d1]at q;cases q⟩
  ·exact ⟨o2,e2,λv q=>by rw[d2]at q;cases q⟩
 keep:=λi h h' st kk=>by
  obtain ⟨hz,hTI,⟨a,c,hTO⟩,p1,p2⟩:=st;exact ⟨kk z (by simp) _ hz,kk TI (by simp) _ hTI,⟨a,c,kk TO (by simp) _ hTO⟩,p1.keep λo e=>kk i1 (by simp) o e,p2.keep λo e=>kk i2 (by simp) o e⟩
 item:=by
  intro X hP hw hK hc i pins s Y H E I hf st hg;subst hP hw hK;obtain ⟨vs,ws,sat1,sat2,l1,l2⟩:=hg;obtain ⟨hz,hTI,⟨a,b,hTO⟩,h1,h2⟩:=st;have hT:s.TypeIs (.ref z) "zip":=⟨_,hz,rfl⟩;have fz:=hf z (by simp);have fTO:=hf TO (by simp);have fi1:=hf i1 (by simp);have fi2:=hf i2 (by simp);obtain ⟨fp1,P1,S1,Dr1⟩:=drawn (A:=X.A.in1) (I.ok.hd hc) I sat1 fi1.1 h1;obtain ⟨fp2,P2,S2,Dr2⟩:=drawn (A:=X.A.in1) (I.ok.hd hc) I sat2 fi2.1 h2;have no1:∀e,H e=none->e≠i1->∀c∈fp1,c≠e:=λe he hei c hc z=>by
   rcases Dr1.fp c hc with q |q
   ·exact hei (z.symm.trans q)
   ·have:=sat1.no he;cases k with
    |lst a=>injection q with q;exact this (q.trans z)
    |tup a=>injection q with q;exact this (q.trans z)
    |str _ _=>cases q
  have no2:∀e,H e=none->e≠i2->∀c∈fp2,c≠e:=λe he hei c hc z=>by
   rcases Dr2.fp c hc with q |q
   ·exact hei (z.symm.trans q)
   ·have:=sat2.no he;cases l with
    |lst a=>injection q with q;exact this (q.trans z)
    |tup a=>injection q with q;exact this (q.trans z)
    |str _ _=>cases q
  have f1:∀c∈fp1,c≠z/\c≠TO/\c≠i2:=λc hc=>⟨no1 z fz.1 D.i1z.symm c hc,no1 TO fTO.1 D.TOi1 c hc,no1 i2 fi2.1 D.i12.symm c hc⟩;have f2:∀c∈fp2,c≠z/\c≠TO/\c≠i1:=λc hc=>⟨no2 z fz.1 D.i2z.symm c hc,no2 TO fTO.1 D.TOi2 c hc,no2 i1 fi1.1 D.i12 c hc⟩;have ltz:z < (~~~s):=ay hz;have ltTI:TI < (~~~s):=ay hTI;have ltTO:TO < (~~~s):=ay hTO;have lti1:i1 < (~~~s):=by obtain ⟨_,e,_⟩:=h1;exact ay e
  have lti2:i2 < (~~~s):=by obtain ⟨_,e,_⟩:=h2;exact ay e
  unfold pyNext;refine ab (wpAny_attempt (dc (name:=Str.ofString "__next__") hT F.slot_zip_next
   (dQ F.slot_zip_next hT F.entry_zip_next (Vk D Dr1.D Dr2.D f1 f2 hz hTI hTO Dr1.st Dr2.st l1 l2 λh' tk c d pc pd a1 a2 a3 a4 a5 a6 hk=>av ?_) (F.args_zip_next_1 _))))
  obtain ⟨y,hy,ry⟩:=Dr1.val _ _ pc;obtain ⟨y',hy',ry'⟩:=Dr2.val _ _ pd;refine ⟨_,rfl,?_⟩;refine wpAny_letOwnedTupleGo_zip a1 λh2' hz2 hs2=>?_;have hs2':Heap.SameBut z h' h2':=hs2;have hn:H (~~~s)=none:=I.hok.fresh (ax _);have k2:∀b o,b∉[z,TI,TO,i1,i2]->s.heap.get? b=some o->h2'.get? b=some o:=λb o hb q=>by
   have hb':b≠z/\b≠TI/\b≠TO/\b≠i1/\b≠i2:=by simpa using hb
   exact hs2'.extBut b o hb'.1 (hk b o hb'.1 hb'.2.2.1 hb'.2.2.2.1 hb'.2.2.2.2 q)
  have I2:Inv X pins Y H { s with heap:=h2',toks:=tk }:=I.turnedL hf k2;have ht2:h2'.get? (~~~s)=some { cls:=.type "tuple",data:=.seq #[c,d] }:=hs2'.extBut _ _ (fg ltz) a5;have ob:ObjOk X.prog X.w (upd H (~~~s) (.tup [y,y'])) h2' (~~~s) (.tup [y,y']):=
   ⟨by rw[fq];simp,[c,d],.cons ry (.cons ry' .nil),⟨_,ht2,rfl,_,rfl⟩⟩
  have I3:=I2.track (I.fpOk (ax _) hn) ob;refine ⟨.ref (~~~s),_,I3,rfl,⟨(~~~s),y,y',hn,rfl,rfl,λus hu=>by rw[wR hu sat1];exact hy,λus hu=>by rw[wR hu sat2];exact hy'⟩,
   ⟨hz2,hs2'.extBut _ _ D.TIz (hk _ _ D.TIz D.TITO D.TIi1 D.TIi2 hTI),⟨_,_,hs2'.extBut _ _ D.TOz a2⟩,(Dr1.pos _ _ a3).keep λo e=>hs2'.extBut _ _ D.i1z e,(Dr2.pos _ _ a4).keep λo e=>hs2'.extBut _ _ D.i2z e⟩,λb hb=>?_⟩
  have hb':b=z\/b=TI\/b=TO\/b=i1\/b=i2:=by simpa using hb
  rw[aH (by rcases hb' with rfl |rfl |rfl |rfl |rfl <;> exact b5 ‹_›)];exact (hf b hb).1
 done:=by
  intro X hP hw hK hc i pins s Y H E I hf st hg;subst hP hw hK;obtain ⟨vs,ws,sat1,sat2,hend⟩:=hg;obtain ⟨hz,hTI,⟨a,b,hTO⟩,h1,h2⟩:=st;have hT:s.TypeIs (.ref z) "zip":=⟨_,hz,rfl⟩;have fz:=hf z (by simp);have fTO:=hf TO (by simp);have fi1:=hf i1 (by simp);have fi2:=hf i2 (by simp);obtain ⟨fp1,P1,S1,Dr1⟩:=drawn (A:=X.A.in1) (I.ok.hd hc) I sat1 fi1.1 h1;obtain ⟨fp2,P2,S2,Dr2⟩:=drawn (A:=X.A.in1) (I.ok.hd hc) I sat2 fi2.1 h2;have no1:∀e,H e=none->e≠i1->∀c∈fp1,c≠e:=λe he hei c hc z=>by
   rcases Dr1.fp c hc with q |q
   ·exact hei (z.symm.trans q)
   ·have:=sat1.no he;cases k with
    |lst a=>injection q with q;exact this (q.trans z)
    |tup a=>injection q with q;exact this (q.trans z)
    |str _ _=>cases q
  have no2:∀e,H e=none->e≠i2->∀c∈fp2,c≠e:=λe he hei c hc z=>by
   rcases Dr2.fp c hc with q |q
   ·exact hei (z.symm.trans q)
   ·have:=sat2.no he;cases l with
    |lst a=>injection q with q;exact this (q.trans z)
    |tup a=>injection q with q;exact this (q.trans z)
    |str _ _=>cases q
  have f1:∀c∈fp1,c≠z/\c≠TO/\c≠i2:=λc hc=>⟨no1 z fz.1 D.i1z.symm c hc,no1 TO fTO.1 D.TOi1 c hc,no1 i2 fi2.1 D.i12.symm c hc⟩;have f2:∀c∈fp2,c≠z/\c≠TO/\c≠i1:=λc hc=>⟨no2 z fz.1 D.i2z.symm c hc,no2 TO fTO.1 D.TOi2 c hc,no2 i1 fi1.1 D.i12 c hc⟩;have fin:∀(h':Heap)(tk:Nat)(e:Addr),(∀c o,c≠z->c≠TO->c≠i1->c≠i2->s.heap.get? c=some o->h'.get? c=some o)->Inv X pins Y H { s with heap:=h',toks:=tk }:=λh' tk e hk=>I.turnedL (t':=tk) hf λb o hb q=>by
   have hb':b≠z/\b≠TI/\b≠TO/\b≠i1/\b≠i2:=by simpa using hb
   exact hk b o hb'.1 hb'.2.2.1 hb'.2.2.2.1 hb'.2.2.2.2 q
  unfold pyNext;refine ab (wpAny_attempt (dc (name:=Str.ofString "__next__") hT F.slot_zip_next
   (dQ F.slot_zip_next hT F.entry_zip_next ?_ (F.args_zip_next_1 _))))
  rcases hend with ⟨e1,_⟩ |⟨e1,e2⟩
  ·subst e1;refine Vl D Dr1.D (λc hc=>(f1 c hc).1) hz hTI hTO Dr1.st λh' e hk he=>?_;obtain ⟨o,ho,hc'⟩:=he;refine ab (wpAny_isInstance (T:="StopIteration") (b:=true) ⟨o,ho,hc'⟩ isSubtype_stop ?_);exact av ⟨rfl,fin h' s.toks e hk⟩
  ·refine Vm D Dr1.D Dr2.D f1 f2 hz hTI hTO Dr1.st Dr2.st e1 e2.symm λh' tk e hk he=>?_;obtain ⟨o,ho,hc'⟩:=he;refine ab (wpAny_isInstance (T:="StopIteration") (b:=true) ⟨o,ho,hc'⟩ isSubtype_stop ?_);exact av ⟨rfl,fin h' tk e hk⟩
 self:=λA i s Q E st h=>wpAny_pyIter_zip st.1 h
open Sem (wp)
open AutoSeq1 (wpAny_loadPart')
set_option maxHeartbeats 1000000 in
theorem Vo(l:Addr)(items:Array Value)(n:Nat)(dct:Option Addr)(sl:Array (Option Value)):
  Meets (Builtin.«enumerate.__new__» ⟨[.type "enumerate",.ref l],[]⟩) (λ_ R s=>s.heap.get? l=some { cls:=.type "tuple",dict:=dct,data:=.seq items n,slots:=sl }/\
   R (.ok (.ret (.ref (s.heap.push { cls:=.type "tuple_iterator",data:=.fields #[.ref l,.int 0 0] }).objs.size)))
    { s with heap:=(s.heap.push { cls:=.type "tuple_iterator",data:=.fields #[.ref l,.int 0 0] }).push { cls:=.type "enumerate",data:=.fields #[.none,.bool false,.ref (~~~s),rawInt 0,.none,.none] } }):=
 .of_wp λprog w A R s h=>by
  obtain ⟨hp,g,d,tk,os⟩:=s;obtain ⟨hl,h⟩:=h;have hsub:=sub_enumerate;have hL:Heap.IsTuple (Shared.heap ⟨hp,g,d,tk,os⟩) l items:=⟨_,hl,rfl,n,rfl⟩;wp_walk using wpAny_loadPart' hl
  refine wpAny_stack_any λst=>av ?_;split
  ·rename_i c _ _ _ _ _;cases (c==Value.type "enumerate")
   ·wp_walk using wpAny_loadPart' hl,wpAny_pyIter_tuple hL
    exact ⟨_,rfl,h⟩
   ·wp_walk using wpAny_loadPart' hl,wpAny_pyIter_tuple hL
    exact ⟨_,rfl,h⟩
  ·wp_walk using wpAny_loadPart' hl,wpAny_pyIter_tuple hL
   exact ⟨_,rfl,h⟩
abbrev qY(h:Heap)(k:SK):Heap:=h.push k.obj
abbrev qZ(h:Heap)(k l:SK):Heap:=(qY h k).push l.obj
abbrev q8 (h:Heap) (k l:SK):Heap:=(qZ h k l).push { cls:=.type "tuple",data:=.seq #[.ref h.objs.size,.ref (qY h k).objs.size] }
abbrev q9 (h:Heap) (k l:SK):Heap:=(q8 h k l).push { cls:=.type "tuple",data:=.seq #[.none,.none] }
abbrev iD (h:Heap) (k l:SK):Heap:=(q9 h k l).push { cls:=.type "zip",data:=.fields #[.none,.bool false,.bool false,.ref (qZ h k l).objs.size,.ref (q8 h k l).objs.size] }
theorem Vp(k l:SK)(xs ys:Array Value):
  Meets (Builtin.«zip.__new__» ⟨[.type "zip",k.val,l.val],[]⟩) (λ_ R s=>k.On xs s.heap/\l.On ys s.heap/\R (.ok (.ret (.ref (q9 s.heap k l).objs.size))) { s with heap:=iD s.heap k l }):=
 .of_wp λprog w A R s h=>by
  obtain ⟨hp,g,d,tk,os⟩:=s;obtain ⟨h1,h2,h⟩:=h;have hsub:=sub_zip;have h1':k.On xs (Shared.heap ⟨hp,g,d,tk,os⟩):=h1;have h2':l.On ys (Shared.heap ⟨hp.push k.obj,g,d,tk,os⟩):=SK.On.keeps h2 λb o _ e=>ah _ e;wp_walk using SK.iter h1',SK.iter h2'
  exact ⟨_,rfl,h⟩
section
variable {prog:Program} {w:World} {A:Around} {E:Value->Shared->Prop} {s:Shared}
theorem Vq{k l:SK}{xs ys:Array Value}{Q:Value->Shared->Prop}(h1:k.On xs s.heap)(h2:l.On ys s.heap)
  (h:∀h',IsZip h' ((~~~s)+4) ((~~~s)+2) ((~~~s)+3) .none->IsPair h' ((~~~s)+2) (.ref (~~~s)) (.ref ((~~~s)+1))->
   IsPair h' ((~~~s)+3) .none .none->k.pos (~~~s) 0 h'->l.pos ((~~~s)+1) 0 h'->h'.objs.size=(~~~s)+5->
   (∀c o,s.heap.get? c=some o->h'.get? c=some o)->Q (.ref ((~~~s)+4)) { s with heap:=h' }):
  wpAny (model prog w) A (call (.type "zip") [k.val,l.val]) Q E s:=by
 refine callType_new F.called_zip (by decide) (F.typeCall_zip_2 _ _) (F.newCall_zip_2 _ _) (λobj=>F.args_object_init_3 obj _ _) F.entry_zip_new
  (Vp k l xs ys) ⟨h1,h2,?_⟩
 have z1:(qY s.heap k).objs.size=(~~~s)+1:=de ..;have z2:(qZ s.heap k l).objs.size=(~~~s)+2:=by rw[de,z1]
 have z3:(q8 s.heap k l).objs.size=(~~~s)+3:=by rw[de,z2]
 have z4:(q9 s.heap k l).objs.size=(~~~s)+4:=by rw[de,z3]
 have z5:(iD s.heap k l).objs.size=(~~~s)+5:=by rw[de,z4]
 have g5:(iD s.heap k l).get? (q9 s.heap k l).objs.size=some _:=a7 _ rfl;have g4:(iD s.heap k l).get? (q8 s.heap k l).objs.size=some _:=ah _ (a7 _ rfl);have g3:(iD s.heap k l).get? (qZ s.heap k l).objs.size=some _:=ah _ (ah _ (a7 _ rfl));have g2:(iD s.heap k l).get? (qY s.heap k).objs.size=some _:=ah _ (ah _ (ah _ (a7 _ rfl)));have g1:(iD s.heap k l).get? (~~~s)=some _:=ah _ (ah _ (ah _ (ah _ (a7 _ rfl))));show _/\_;rw[z2,z3,z4]at g5;rw[z1,z2]at g3;rw[z3]at g4;rw[z1]at g2;rw[z4];exact ⟨⟨_,g5,rfl⟩,h _ g5 g3 g4 ⟨_,g1,rfl,rfl⟩ ⟨_,g2,rfl,rfl⟩ z5 λc o x=>
  ah _ (ah _ (ah _ (ah _ (ah _ x))))⟩
theorem Vr{l:Addr}{items:Array Value}{Q:Value->Shared->Prop}(hL:s.heap.IsTuple l items)
  (h:∀h',IsEnum h' ((~~~s)+1) (~~~s) 0 .none->h'.IsTupleIter (~~~s) l 0->h'.objs.size=(~~~s)+2->
   (∀b o,s.heap.get? b=some o->h'.get? b=some o)->Q (.ref ((~~~s)+1)) { s with heap:=h' }):
  wpAny (model prog w) A (call (.type "enumerate") [.ref l]) Q E s:=by
 obtain ⟨⟨c,dct,dt,sl⟩,hl,hc,n,hd⟩:=hL;replace hc:c=.type "tuple":=hc;replace hd:dt=.seq items n:=hd;subst hc hd;refine callType_new F.called_enumerate (by decide) (F.typeCall_enumerate_1 _) (F.newCall_enumerate_1 _) (λobj=>F.args_object_init_2 obj _) F.entry_enumerate_new
  (Vo l items n dct sl) ⟨hl,?_⟩
 have hz:(s.heap.push { cls:=.type "tuple_iterator",data:=.fields #[.ref l,.int 0 0] }).objs.size=(~~~s)+1:=de ..;show _/\_;rw[hz];have he:IsEnum ((s.heap.push { cls:=.type "tuple_iterator",data:=.fields #[.ref l,.int 0 0] }).push
   { cls:=.type "enumerate",data:=.fields #[.none,.bool false,.ref (~~~s),rawInt 0,.none,.none] }) ((~~~s)+1) (~~~s) 0 .none:=by
  have:=a7 (s.heap.push { cls:=.type "tuple_iterator",data:=.fields #[.ref l,.int 0 0] })
   (o:={ cls:=.type "enumerate",data:=.fields #[.none,.bool false,.ref (~~~s),rawInt 0,.none,.none] }) rfl
  rw[hz]at this;exact this
 refine ⟨⟨_,he,rfl⟩,h _ he ⟨_,ah _ (a7 _ rfl),rfl,rfl⟩ (by rw[de,hz]) λb o x=>ah _ (ah _ x)⟩
theorem DX{k:SK}{xs:Array Value}{Q:Value->Shared->Prop}(h1:k.On xs s.heap)
  (h:∀h',IsEnum h' ((~~~s)+1) (~~~s) 0 .none->k.pos (~~~s) 0 h'->h'.objs.size=(~~~s)+2->
   (∀b o,s.heap.get? b=some o->h'.get? b=some o)->Q (.ref ((~~~s)+1)) { s with heap:=h' }):
  wpAny (model prog w) A (call (.type "enumerate") [k.val]) Q E s:=by
 cases k with
 |lst a=>exact call_enumerate_list h1 h
 |tup a=>exact Vr h1 h
 |str x t=>exact call_enumerate_str h
end
set_option backward.match.sparseCases false
structure OT where
 ms:List (String×String×String×Nat):=[]
 ks:List (String×Nat):=[]
 fl:List (String×String):=[]
 xk:List (String×String):=[]
structure CT where
 N:List Str
 kd:List (Str×NameKind)
 fn:Bool
 fs:List (String×Nat)
 bt:List String
 cn:List (String×D)
 xs:List (String×Bool):=[]
 ot:OT:={}
def iG:Option NameKind->Bool
 |some .local=>true
 |some .cell=>true
 |some .free=>true
 |_=>false
def CT.sto(c:CT)(x:Str):Bool:=c.kd.lookup x==some .local||(c.fn&&c.kd.lookup x==some .cell)
def okN (x:Str):Bool:=!(x==("__debug__":Str))&&!(x==("__classdict__":Str))&&!(x==("__name__":Str))
def CT.glo(c:CT)(x:Str):Bool:=c.kd.lookup x==some .globalImplicit&&okN x
def sEq:D->D->Bool
 |.non,.non=>true
 |.bl a,.bl b=>a==b
 |.int a,.int b=>a==b
 |.str a,.str b=>a==b
 |_,_=>false
theorem Vs{a b:D}(h:sEq a b=true):a=b:=by cases a <;> cases b <;> simp_all [sEq]
def rn(d:D)(k:Const):Bool:=
 match d,k with
 |.non,.none=>true
 |.bl a,.bool b=>a==b
 |.int a,.int b=>a==b
 |.str a,.str b=>a==b.cps.toList&&decide (a.length<=sz)
 |_,_=>false
def Bf.name:Bf->String
 |.len=>"len"
 |.all=>"all"
 |.int=>"int"
 |.tuple=>"tuple"
 |.sum=>"sum"
 |.min=>"min"
 |.max=>"max"
 |.abs=>"abs"
 |.min2=>"min"
 |.str=>"str"
def wU:Bf->Bool
 |.sum=>false
 |.min=>true
 |.max=>false
 |.abs=>false
 |.min2=>false
 |.str=>true
 |_=>true
def wV:Lf->Bool
 |.sorted=>false
 |_=>true
def Lf.name:Lf->String
 |.list=>"list"
 |.sorted=>"sorted"
def Mf.name:Mf->String
 |.join=>"join"
 |.append=>"append"
 |.extend=>"extend"
def agT:Expr->Bool
 |.Name _ _=>true
 |.Subscript _ _ _=>true
 |_=>false
def rA:Expr->Bool
 |.Call (.Name _ _) [] [] _=>true
 |_=>false
def dw:Expr->Bool
 |.ListComp ..=>true
 |.SetComp ..=>true
 |.DictComp ..=>true
 |_=>false
def iH:Expr->Bool
 |.UnaryOp .Not _ _=>false
 |.BoolOp ..=>false
 |.IfExp ..=>false
 |.Compare ..=>false
 |_=>true
def gJ(N:List Str)(scope:Scope):List Str->List (Option Nat)->Bool
 |[],[]=>true
 |_::N',none::cap=>gJ N scope N' cap
 |x::N',some j::cap=>(N[j]?==some x)&&(scope.names.lookup x==some NameKind.free)&&gJ N scope N' cap
 |_,_=>false
def jx(c:CT)(scope:Scope):Bool:=
 scope.names.all (λy=>y.2 != NameKind.cell)&&scope.names.all (λy=>y.2 != NameKind.local||scope.names.lookup y.1==some NameKind.local) &&
 scope.names.all (λy=>y.2 != NameKind.free||(c.kd.lookup y.1==some NameKind.cell||c.kd.lookup y.1==some NameKind.free))&&decide (scope.kind=.function)&&decide (c.kd=c.kd)
def CT.comp(c:CT)(N:List Str)(scope:Scope):CT:={ N:=N,kd:=scope.names,fn:=false,fs:=c.fs,bt:=c.bt,cn:=c.cn,ot:=c.ot }
def fj:List Str->Bool
 |[]=>true
 |x::r=>!r.contains x&&fj r
def asName(e:Expr):Option { t:Str×Pos // e=.Name t.1 t.2 }:=match e with
 |.Name a0 a1=>some ⟨(a0,a1),rfl⟩
 |_=>none
def agU(e:Expr):Option { t:Expr×Pos // e=.Starred t.1 t.2 }:=match e with
 |.Starred a0 a1=>some ⟨(a0,a1),rfl⟩
 |_=>none
def wW(e:Expr):Option { t:Const×Nat×Pos // e=.Constant t.1 t.2.1 t.2.2 }:=match e with
 |.Constant a0 a1 a2=>some ⟨(a0,a1,a2),rfl⟩
 |_=>none
def DY(e:Expr):Option { t:Expr×Operator×Expr×Pos // e=.BinOp t.1 t.2.1 t.2.2.1 t.2.2.2 }:=match e with
 |.BinOp a0 a1 a2 a3=>some ⟨(a0,a1,a2,a3),rfl⟩
 |_=>none
def jy(e:Expr):Option { t:UnaryOp×Expr×Pos // e=.UnaryOp t.1 t.2.1 t.2.2 }:=match e with
 |.UnaryOp a0 a1 a2=>some ⟨(a0,a1,a2),rfl⟩
 |_=>none
def kW(e:Expr):Option { t:Expr×List CmpOp×List Expr×Pos // e=.Compare t.1 t.2.1 t.2.2.1 t.2.2.2 }:=match e with
 |.Compare a0 a1 a2 a3=>some ⟨(a0,a1,a2,a3),rfl⟩
 |_=>none
def rB(e:Expr):Option { t:BoolOp×List Expr×Pos // e=.BoolOp t.1 t.2.1 t.2.2 }:=match e with
 |.BoolOp a0 a1 a2=>some ⟨(a0,a1,a2),rfl⟩
 |_=>none
def Ea(e:Expr):Option { t:Expr×Expr×Expr×Pos // e=.IfExp t.1 t.2.1 t.2.2.1 t.2.2.2 }:=match e with
 |.IfExp a0 a1 a2 a3=>some ⟨(a0,a1,a2,a3),rfl⟩
 |_=>none
def gK(e:Expr):Option { t:List Expr×Nat×Pos // e=.Tuple t.1 t.2.1 t.2.2 }:=match e with
 |.Tuple a0 a1 a2=>some ⟨(a0,a1,a2),rfl⟩
 |_=>none
def asList(e:Expr):Option { t:List Expr×Pos // e=.List t.1 t.2 }:=match e with
 |.List a0 a1=>some ⟨(a0,a1),rfl⟩
 |_=>none
def gM(e:Expr):Option { t:Expr×Expr×Pos // e=.Subscript t.1 t.2.1 t.2.2 }:=match e with
 |.Subscript a0 a1 a2=>some ⟨(a0,a1,a2),rfl⟩
 |_=>none
def Eb(e:Expr):Option { t:Option Expr×Option Expr×Option Expr×Pos // e=.Slice t.1 t.2.1 t.2.2.1 t.2.2.2 }:=match e with
 |.Slice a0 a1 a2 a3=>some ⟨(a0,a1,a2,a3),rfl⟩
 |_=>none
def rD(e:Expr):Option { t:Expr×List Expr×List Keyword×Pos // e=.Call t.1 t.2.1 t.2.2.1 t.2.2.2 }:=match e with
 |.Call a0 a1 a2 a3=>some ⟨(a0,a1,a2,a3),rfl⟩
 |_=>none
def Ec(e:Expr):Option { t:Expr×Str×Pos // e=.Attribute t.1 t.2.1 t.2.2 }:=match e with
 |.Attribute a0 a1 a2=>some ⟨(a0,a1,a2),rfl⟩
 |_=>none
def Ed(e:Expr):Option { t:Expr×List Comprehension×Scope×Pos // e=.ListComp t.1 t.2.1 t.2.2.1 t.2.2.2 }:=match e with
 |.ListComp a0 a1 a2 a3=>some ⟨(a0,a1,a2,a3),rfl⟩
 |_=>none
def Ef(e:Stmt):Option { t:Expr×Pos // e=.Expr t.1 t.2 }:=match e with
 |.Expr a0 a1=>some ⟨(a0,a1),rfl⟩
 |_=>none
def rE(e:Stmt):Option { t:List Expr×Expr×Pos // e=.Assign t.1 t.2.1 t.2.2 }:=match e with
 |.Assign a0 a1 a2=>some ⟨(a0,a1,a2),rfl⟩
 |_=>none
def rF(e:Stmt):Option { t:Expr×Operator×Expr×Pos // e=.AugAssign t.1 t.2.1 t.2.2.1 t.2.2.2 }:=match e with
 |.AugAssign a0 a1 a2 a3=>some ⟨(a0,a1,a2,a3),rfl⟩
 |_=>none
def agV(e:Stmt):Option { t:Option Expr×Option Expr×Pos // e=.Raise t.1 t.2.1 t.2.2 }:=match e with
 |.Raise a0 a1 a2=>some ⟨(a0,a1,a2),rfl⟩
 |_=>none
def agW(e:Stmt):Option { t:List Stmt×List ExceptHandler×List Stmt×List Stmt×Pos // e=.Try t.1 t.2.1 t.2.2.1 t.2.2.2.1 t.2.2.2.2 }:=match e with
 |.Try a0 a1 a2 a3 a4=>some ⟨(a0,a1,a2,a3,a4),rfl⟩
 |_=>none
def agX(e:ExceptHandler):Option { t:Option Expr×Option Str×List Stmt×Pos // e=.ExceptHandler t.1 t.2.1 t.2.2.1 t.2.2.2 }:=match e with
 |.ExceptHandler a0 a1 a2 a3=>some ⟨(a0,a1,a2,a3),rfl⟩
def wX(e:Expr):Option { t:Expr×Int×Option Expr×Pos // e=.FormattedValue t.1 t.2.1 t.2.2.1 t.2.2.2 }:=match e with
 |.FormattedValue a0 a1 a2 a3=>some ⟨(a0,a1,a2,a3),rfl⟩
 |_=>none
def Vt(e:Expr):Option { t:List Expr×Pos // e=.JoinedStr t.1 t.2 }:=match e with
 |.JoinedStr a0 a1=>some ⟨(a0,a1),rfl⟩
 |_=>none
def Vu(k:Const):Option { x:Str // k=.str x }:=match k with
 |.str x=>some ⟨x,rfl⟩
 |_=>none
def agY(b:Bool)(k:Const):Bool:=match k with
 |.bool c=>c==b
 |_=>false
def rG(e:Stmt):Option { t:Option Expr×Pos // e=.Return t.1 t.2 }:=match e with
 |.Return a0 a1=>some ⟨(a0,a1),rfl⟩
 |_=>none
def Eg(e:Stmt):Option { t:Expr×List Stmt×List Stmt×Pos // e=.If t.1 t.2.1 t.2.2.1 t.2.2.2 }:=match e with
 |.If a0 a1 a2 a3=>some ⟨(a0,a1,a2,a3),rfl⟩
 |_=>none
def Eh(e:Stmt):Option { t:Expr×Expr×List Stmt×List Stmt×Pos // e=.For t.1 t.2.1 t.2.2.1 t.2.2.2.1 t.2.2.2.2 }:=match e with
 |.For a0 a1 a2 a3 a4=>some ⟨(a0,a1,a2,a3,a4),rfl⟩
 |_=>none
def agZ(e:Stmt):Option { t:Expr×List Stmt×List Stmt×Pos // e=.While t.1 t.2.1 t.2.2.1 t.2.2.2 }:=match e with
 |.While a0 a1 a2 a3=>some ⟨(a0,a1,a2,a3),rfl⟩
 |_=>none
def Ei(e:Stmt):Option { t:Pos // e=.Pass t }:=match e with
 |.Pass a0=>some ⟨a0,rfl⟩
 |_=>none
def Ej(e:Stmt):Option { t:Pos // e=.Break t }:=match e with
 |.Break a0=>some ⟨a0,rfl⟩
 |_=>none
def Ek(e:Stmt):Option { t:Pos // e=.Continue t }:=match e with
 |.Continue a0=>some ⟨a0,rfl⟩
 |_=>none
def one{α:Type}:List α->Option α
 |[a]=>some a
 |_=>none
def three{α:Type}:List α->Option (α×α×α)
 |[x,y,z]=>some (x,y,z)
 |_=>none
def two{α:Type}:List α->Option (α×α)
 |[a,b]=>some (a,b)
 |_=>none
def hdT{α:Type}:List α->Option (α×List α)
 |a::r=>some (a,r)
 |[]=>none
theorem gO{α:Type}{l:List α}{a:α}(h:one l=some a):l=[a]:=by
 cases l with
 |nil=>cases h
 |cons x r=>cases r with
  |nil=>cases h;rfl
  |cons _ _=>cases h
theorem rH{α:Type}{l:List α}{a:α×α}(h:two l=some a):l=[a.1,a.2]:=by
 cases l with
 |nil=>cases h
 |cons x r=>cases r with
  |nil=>cases h
  |cons y r=>cases r with
   |nil=>cases h;rfl
   |cons _ _=>cases h
theorem El{α:Type}{l:List α}{a:α×List α}(h:hdT l=some a):l=a.1::a.2:=by
 cases l with
 |nil=>cases h
 |cons x r=>cases h;rfl
theorem bJ{α:Type}{o:Option α}{p:α->Bool}(h:o.any p=true):∃t,o=some t/\p t=true:=by
 cases o with
 |none=>cases h
 |some t=>exact ⟨t,rfl,h⟩
def wY:UnaryOp->Bool
 |.USub=>true
 |_=>false
def kY:UnaryOp->Bool
 |.Not=>true
 |_=>false
theorem Vv{o:UnaryOp}(h:wY o=true):o=.USub:=by cases o <;> first |rfl |cases h
theorem Em{o:UnaryOp}(h:kY o=true):o=.Not:=by cases o <;> first |rfl |cases h
def cR(e:Expr):Option (Str×Pos×List Expr×Pos):=(rD e).bind λt=>(asName t.1.1).bind λn=>match t.1.2.2.1 with |[]=>some (n.1.1,n.1.2,t.1.2.1,t.1.2.2.2) |_::_=>none
def az{α:Type}{q:α->Prop}(o:Option { t:α // q t })(P:α->Bool):Bool:=match o with |some t=>P t.1 |none=>false
theorem aR{α:Type}{q:α->Prop}{o:Option { t:α // q t }}{P:α->Bool}(h:az o P=true):∃t,q t/\P t=true:=by
 cases o with
 |none=>cases h
 |some t=>exact ⟨t.1,t.2,h⟩
theorem Eo{α β:Type}{o:Option α}{f:α->Option β}{b:β}(h:o.bind f=some b):∃t,o=some t/\f t=some b:=by
 cases o with
 |none=>cases h
 |some t=>exact ⟨t,rfl,h⟩
theorem iI{e:Expr}{t:Str×Pos×List Expr×Pos}(h:cR e=some t):e=.Call (.Name t.1 t.2.1) t.2.2.1 [] t.2.2.2:=by
 obtain ⟨⟨⟨f,as,ks,p⟩,hu⟩,_,h⟩:=Eo h;obtain ⟨⟨⟨x,p'⟩,hn⟩,_,h⟩:=Eo h;dsimp only at h hn hu;cases ks with
 |nil=>cases h;rw[hu,hn]
 |cons _ _=>cases h
def ag0 (e:Expr):Option (Str×Pos×Expr×Expr×Pos×Pos):=(rD e).bind λt=>(asName t.1.1).bind λn=>(one t.1.2.1).bind λv=>(one t.1.2.2.1).bind λkw=>if kw.arg=some (Str.ofString "start") then some (n.1.1,n.1.2,v,kw.value,kw.pos,t.1.2.2.2) else none
def kZ(e:Expr):Bool:=(kW e).isSome
def Ep:Ex->Bool
 |.frz _=>false
 |_=>true
def wZ:Tx->Bool
 |.yes=>true
 |_=>false
mutual
def cL(c:CT):Tg->Expr->Bool
 |.nm i,e=>az (asName e) λt=>(c.N[i]?==some t.1)&&c.sto t.1
 |.tp ts,e=>az (gK e) λt=>cF c ts t.1
def cF(c:CT):Tgs->List Expr->Bool
 |.nil,es=>es.isEmpty
 |.cons t r,es=>match es with
  |e::es=>cL c t e&&cF c r es
  |[]=>false
end
def Er(e:Expr):Bool:=az (wW e) λt=>az (Vu t.1) λx=>decide (x.length<=1000)
def unF(e:Expr):Expr:=match wX e with |some t=>t.1.1 |none=>e
def Vw:Ex->Bool
 |.cst (.str _)=>true
 |_=>false
def Vx:Exs->List Expr->Bool
 |.cons x xs,p::ps=>(match wX p with |some t=>decide (t.1.2.1=-1)&&t.1.2.2.1.isNone |none=>Vw x)&&Vx xs ps
 |.nil,ps=>ps.isEmpty
 |_,[]=>false
mutual
def aa(c:CT):Ex->Expr->Bool
 |.var i,e=>az (asName e) λt=>(c.N[i]?==some t.1)&&iG (c.kd.lookup t.1)&&okN t.1
 |.cst d,e=>az (wW e) λt=>rn d t.1
 |.glb x d,e=>az (asName e) λt=>t.1==Str.ofString x&&c.glo t.1&&c.cn.any (λp=>p.1==x&&sEq p.2 d)
 |.bin op _ a b,e=>az (DY e) λt=>t.2.1==op&&aa c a t.1&&aa c b t.2.2.1
 |.neg a,e=>az (jy e) λt=>wY t.1&&aa c a t.2.1
 |.cmp op a b,e=>az (kW e) λt=>(one t.2.1).any λo=>(one t.2.2.1).any λr=>o==op&&aa c a t.1&&aa c b r
 |.chn op op' a b d,e=>az (kW e) λt=>(two t.2.1).any λo=>(two t.2.2.1).any λr=>o.1==op&&o.2==op'&&aa c a t.1&&aa c b r.1&&aa c d r.2
 |.not a,e=>az (jy e) λt=>kY t.1&&aa c a t.2.1
 |.boo isAnd x es,e=>az (rB e) λt=>(hdT t.2.1).any λv=>t.1==(if isAnd then .And else .Or)&&aa c x v.1&&aO c es v.2
 |.ife t a b,e=>az (Ea e) λu=>bL c t u.1&&aa c a u.2.1&&aa c b u.2.2.1
 |.tup es,e=>az (gK e) λt=>aO c es t.1
 |.lst _ es,e=>az (asList e) λt=>aO c es t.1
 |.idx a i,e=>az (gM e) λt=>aa c a t.1&&aa c i t.2.1
 |.slc _ a lo hi,e=>az (gM e) λt=>az (Eb t.2.1) λs=>s.2.2.1.isNone&&(aa c a t.1&&fW c lo s.1&&fW c hi s.2.1)
 |.call f es,e=>(cR e).any λt=>t.1==Str.ofString f&&c.glo t.1&&(c.fs.any λp=>p.1==f&&p.2==t.2.2.1.length)&&!t.2.2.1.isEmpty&&aO c es t.2.2.1
 |.bcl f es,e=>(cR e).any λt=>t.1==Str.ofString f.name&&wU f&&c.glo t.1&&c.bt.contains f.name&&!t.2.2.1.isEmpty&&aO c es t.2.2.1
 |.lcl _ f es,e=>(cR e).any λt=>t.1==Str.ofString f.name&&wV f&&c.glo t.1&&c.bt.contains f.name&&!t.2.2.1.isEmpty&&aO c es t.2.2.1
 |.isi a t,e=>(cR e).any λu=>(two u.2.2.1).any λv=>az (asName v.2) λy=>u.1==Str.ofString "isinstance"&&c.glo u.1&&c.bt.contains "isinstance"&&aa c a v.1&&y.1==Str.ofString t&&c.glo y.1&&c.bt.contains t&&fP t
 |.mth m o es,e=>az (rD e) λt=>az (Ec t.1) λv=>t.2.2.1.isEmpty&&(v.2.1==Str.ofString m.name&&aa c o v.1&&!rA v.1&&(v.2.2.endLine==t.2.2.2.line)&&decide (t.2.1.length < 29)&&!t.2.1.isEmpty&&aO c es t.2.1)
 |.comp _ elt tg it cond N cap,e=>az (Ed e) λt=>(one t.2.1).any λg=>decide (g.is_async=0)&&cM c it g.target g.iter&&gJ c.N t.2.2.1 (N.map Str.ofString) cap&&jx c t.2.2.1&&fj (N.map Str.ofString) &&
    cL (c.comp (N.map Str.ofString) t.2.2.1) tg g.target&&((wZ cond&&g.ifs.isEmpty)||(one g.ifs).any λf=>bL (c.comp (N.map Str.ofString) t.2.2.1) cond f)&&aa (c.comp (N.map Str.ofString) t.2.2.1) elt t.1
 |.frz a,e=>aa c a e
def bL(c:CT):Tx->Expr->Bool
 |.val x,e=>(iH e||kZ e)&&aa c x e&&Ep x
 |.not t,e=>az (jy e) λu=>kY u.1&&bL c t u.2.1
 |.boo isAnd t ts,e=>az (rB e) λu=>(hdT u.2.1).any λv=>u.1==(if isAnd then .And else .Or)&&bL c t v.1&&iJ c ts v.2
 |.yes,_=>false
def iJ(c:CT):Txs->List Expr->Bool
 |.nil,es=>es.isEmpty
 |.cons t r,es=>match es with
  |e::es=>bL c t e&&iJ c r es
  |[]=>false
def aO(c:CT):Exs->List Expr->Bool
 |.nil,es=>es.isEmpty
 |.cons t r,es=>match es with
  |e::es=>aa c t e&&aO c r es
  |[]=>false
def fW(c:CT):Ox->Option Expr->Bool
 |.no,e=>e.isNone
 |.ob x,e=>match e with
  |some e=>aa c x e
  |none=>false
def cM(c:CT):It'->Expr->Expr->Bool
 |.seq x,_,e=>aa c x e
 |.rng a,_,e=>(cR e).any λt=>(one t.2.2.1).any λv=>t.1==Str.ofString "range"&&c.glo t.1&&c.bt.contains "range"&&aa c a v
 |.enm a,tg,e=>az (gK tg) λ_=>(cR e).any λt=>(one t.2.2.1).any λv=>t.1==Str.ofString "enumerate"&&c.glo t.1&&c.bt.contains "enumerate"&&aa c a v
 |.zip a b,tg,e=>az (gK tg) λ_=>(cR e).any λt=>(two t.2.2.1).any λv=>t.1==Str.ofString "zip"&&c.glo t.1&&c.bt.contains "zip"&&aa c a v.1&&aa c b v.2
end
def lg(c:CT)(cond:Tx)(ifs:List Expr):Bool:=(wZ cond&&ifs.isEmpty)||(one ifs).any λf=>bL c cond f
def Es:Ex->Bool
 |.comp ..=>true
 |_=>false
def Et:Expr->Bool
 |.Tuple ..=>true
 |_=>false
def w5(g:Tg)(x:Ex)(e:Expr):Bool:=match g with |.nm _=>!dw e||Es x |.tp _=>!Et e&&!dw e
def xf(c:CT):Exs->List Expr->Bool
 |es,[]=>(match es with |.nil=>true |_=>false)
 |es,p::ps=>match Er p with
  |true=>xf c es ps
  |false=>(match es with |.cons x r=>(az (wX p) λt=>decide (t.2.1=-1)&&t.2.2.1.isNone&&aa c x t.1)&&xf c r ps |.nil=>false)
def ag1(c:CT)(es:Exs)(e:Expr):Bool:=(match es with |.nil=>Er e |_=>false)||az (Vt e) λt=>decide (2<=t.1.length)&&decide (t.1.length<=50)&&xf c es t.1
mutual
def bA(c:CT):Sx->Stmt->Bool
 |.exp x,st=>az (Ef st) λt=>!dw t.1&&aa c x t.1
 |.asg g x,st=>az (rE st) λt=>(one t.1).any λtg=>cL c g tg&&aa c x t.2.1&&w5 g x t.2.1
 |.set o i x,st=>az (rE st) λt=>(one t.1).any λtg=>az (gM tg) λu=>aa c o u.1&&aa c i u.2.1&&aa c x t.2.1&&!dw t.2.1
 |.aug i op x,st=>az (rF st) λt=>az (asName t.1) λy=>t.2.1==op&&(c.N[i]?==some y.1)&&c.sto y.1&&okN y.1&&aa c x t.2.2.1
 |.augs o i op x,st=>az (rF st) λt=>az (gM t.1) λu=>t.2.1==op&&aa c o u.1&&aa c i u.2.1&&aa c x t.2.2.1
 |.ret x,st=>az (rG st) λt=>t.1.any λe=>aa c x e
 |.rtn,st=>az (rG st) λt=>t.1.isNone
 |.ite t a b,st=>az (Eg st) λu=>bL c t u.1&&aC c a u.2.1&&aC c b u.2.2.1
 |.for_ g it b,st=>az (Eh st) λt=>t.2.2.2.1.isEmpty&&(cL c g t.1&&cM c it t.1 t.2.1&&aC c b t.2.2.1)
 |.pas,st=>(Ei st).isSome
 |.brk,st=>(Ej st).isSome
 |.cnt,st=>(Ek st).isSome
 |.nev,_=>true
def aC(c:CT):Sxs->List Stmt->Bool
 |.nil,es=>es.isEmpty
 |.cons t r,es=>match es with
  |e::es=>bA c t e&&aC c r es
  |[]=>false
end
theorem xg{c:CT}{i:Nat}{e:Expr}(h:cL c (.nm i) e=true):∃x p,e=.Name x p/\((c.N[i]?==some x)&&c.sto x)=true:=by have h:(az (asName e) λt=>(c.N[i]?==some t.1)&&c.sto t.1)=true:=h;obtain ⟨t,ht,h⟩:=aR h;exact ⟨_,_,ht,h⟩
theorem xj{c:CT}{ts:Tgs}{e:Expr}(h:cL c (.tp ts) e=true):∃es k p,e=.Tuple es k p/\(cF c ts es)=true:=by have h:(az (gK e) λt=>cF c ts t.1)=true:=h;obtain ⟨t,ht,h⟩:=aR h;exact ⟨_,_,_,ht,h⟩
theorem Eu{c:CT}{i:Nat}{e:Expr}(h:aa c (.var i) e=true):∃x p,e=.Name x p/\((c.N[i]?==some x)&&iG (c.kd.lookup x)&&okN x)=true:=by have h:(az (asName e) λt=>(c.N[i]?==some t.1)&&iG (c.kd.lookup t.1)&&okN t.1)=true:=h;obtain ⟨t,ht,h⟩:=aR h;exact ⟨_,_,ht,h⟩
theorem Ew{c:CT}{d:D}{e:Expr}(h:aa c (.cst d) e=true):∃k n p,e=.Constant k n p/\(rn d k)=true:=by have h:(az (wW e) λt=>rn d t.1)=true:=h;obtain ⟨t,ht,h⟩:=aR h;exact ⟨_,_,_,ht,h⟩
theorem Ey{c:CT}{x:String}{d:D}{e:Expr}(h:aa c (.glb x d) e=true):∃y p,e=.Name y p/\(y==Str.ofString x&&c.glo y&&c.cn.any (λp=>p.1==x&&sEq p.2 d))=true:=by have h:(az (asName e) λt=>t.1==Str.ofString x&&c.glo t.1&&c.cn.any (λp=>p.1==x&&sEq p.2 d))=true:=h;obtain ⟨t,ht,h⟩:=aR h;exact ⟨_,_,ht,h⟩
theorem Ez{c:CT}{op:Operator}{fz:Bool}{a b:Ex}{e:Expr}(h:aa c (.bin op fz a b) e=true):∃l o r p,e=.BinOp l o r p/\(o==op&&aa c a l&&aa c b r)=true:=by have h:(az (DY e) λt=>t.2.1==op&&aa c a t.1&&aa c b t.2.2.1)=true:=h;obtain ⟨t,ht,h⟩:=aR h;exact ⟨_,_,_,_,ht,h⟩
theorem EY{c:CT}{a:Ex}{e:Expr}(h:aa c (.neg a) e=true):∃x p,e=.UnaryOp .USub x p/\(aa c a x)=true:=by have h:(az (jy e) λt=>wY t.1&&aa c a t.2.1)=true:=h;obtain ⟨t,ht,h⟩:=aR h;rw[ae]at h;exact ⟨_,_,by rw[ht,Vv h.1],h.2⟩
theorem Fb{c:CT}{a:Ex}{e:Expr}(h:aa c (.not a) e=true):∃x p,e=.UnaryOp .Not x p/\(aa c a x)=true:=by have h:(az (jy e) λt=>kY t.1&&aa c a t.2.1)=true:=h;obtain ⟨t,ht,h⟩:=aR h;rw[ae]at h;exact ⟨_,_,by rw[ht,Em h.1],h.2⟩
theorem Fd{c:CT}{op:CmpOp}{a b:Ex}{e:Expr}(h:aa c (.cmp op a b) e=true):∃l o r p,e=.Compare l [o] [r] p/\(o==op&&aa c a l&&aa c b r)=true:=by have h:(az (kW e) λt=>(one t.2.1).any λo=>(one t.2.2.1).any λr=>o==op&&aa c a t.1&&aa c b r)=true:=h;obtain ⟨t,ht,h⟩:=aR h;obtain ⟨o,ho,h⟩:=bJ h;obtain ⟨r,hr,h⟩:=bJ h;exact ⟨_,_,_,_,by rw[ht,gO ho,gO hr],h⟩
theorem Fe{c:CT}{op op':CmpOp}{a b d:Ex}{e:Expr}(h:aa c (.chn op op' a b d) e=true):∃l o o' m r p,e=.Compare l [o,o'] [m,r] p/\(o==op&&o'==op'&&aa c a l&&aa c b m&&aa c d r)=true:=by have h:(az (kW e) λt=>(two t.2.1).any λo=>(two t.2.2.1).any λr=>o.1==op&&o.2==op'&&aa c a t.1&&aa c b r.1&&aa c d r.2)=true:=h;obtain ⟨t,ht,h⟩:=aR h;obtain ⟨o,ho,h⟩:=bJ h;obtain ⟨r,hr,h⟩:=bJ h;exact ⟨_,_,_,_,_,_,by rw[ht,rH ho,rH hr],h⟩
theorem Ff{c:CT}{isAnd:Bool}{x:Ex}{es:Exs}{e:Expr}(h:aa c (.boo isAnd x es) e=true):∃op v vs p,e=.BoolOp op (v::vs) p/\(op==(if isAnd then .And else .Or)&&aa c x v&&aO c es vs)=true:=by have h:(az (rB e) λt=>(hdT t.2.1).any λv=>t.1==(if isAnd then .And else .Or)&&aa c x v.1&&aO c es v.2)=true:=h;obtain ⟨t,ht,h⟩:=aR h;obtain ⟨v,hv,h⟩:=bJ h;exact ⟨_,_,_,_,by rw[ht,El hv],h⟩
theorem Fg{c:CT}{t:Tx}{a b:Ex}{e:Expr}(h:aa c (.ife t a b) e=true):∃t' a' b' p,e=.IfExp t' a' b' p/\(bL c t t'&&aa c a a'&&aa c b b')=true:=by have h:(az (Ea e) λu=>bL c t u.1&&aa c a u.2.1&&aa c b u.2.2.1)=true:=h;obtain ⟨u,ht,h⟩:=aR h;exact ⟨_,_,_,_,ht,h⟩
theorem Fi{c:CT}{es:Exs}{e:Expr}(h:aa c (.tup es) e=true):∃vs k p,e=.Tuple vs k p/\(aO c es vs)=true:=by have h:(az (gK e) λt=>aO c es t.1)=true:=h;obtain ⟨t,ht,h⟩:=aR h;exact ⟨_,_,_,ht,h⟩
theorem Fj{c:CT}{fz:Bool}{es:Exs}{e:Expr}(h:aa c (.lst fz es) e=true):∃vs p,e=.List vs p/\(aO c es vs)=true:=by have h:(az (asList e) λt=>aO c es t.1)=true:=h;obtain ⟨t,ht,h⟩:=aR h;exact ⟨_,_,ht,h⟩
theorem Fl{c:CT}{a i:Ex}{e:Expr}(h:aa c (.idx a i) e=true):∃v s p,e=.Subscript v s p/\(aa c a v&&aa c i s)=true:=by have h:(az (gM e) λt=>aa c a t.1&&aa c i t.2.1)=true:=h;obtain ⟨t,ht,h⟩:=aR h;exact ⟨_,_,_,ht,h⟩
theorem Fp{c:CT}{fz:Bool}{a:Ex}{lo hi:Ox}{e:Expr}(h:aa c (.slc fz a lo hi) e=true):∃v l u p' p,e=.Subscript v (.Slice l u none p') p/\(aa c a v&&fW c lo l&&fW c hi u)=true:=by have h:(az (gM e) λt=>az (Eb t.2.1) λs=>s.2.2.1.isNone&&(aa c a t.1&&fW c lo s.1&&fW c hi s.2.1))=true:=h;obtain ⟨t,ht,h⟩:=aR h;obtain ⟨s,hs,h⟩:=aR h;rw[ae,Option.isNone_iff_eq_none]at h;exact ⟨_,_,_,_,_,by rw[ht,hs,h.1],h.2⟩
theorem Fq{c:CT}{f:String}{es:Exs}{e:Expr}(h:aa c (.call f es) e=true):∃x p args pos,e=.Call (.Name x p) args [] pos/\(x==Str.ofString f&&c.glo x&&(c.fs.any λp=>p.1==f&&p.2==args.length)&&!args.isEmpty&&aO c es args)=true:=by have h:((cR e).any λt=>t.1==Str.ofString f&&c.glo t.1&&(c.fs.any λp=>p.1==f&&p.2==t.2.2.1.length)&&!t.2.2.1.isEmpty&&aO c es t.2.2.1)=true:=h;obtain ⟨t,ht,h⟩:=bJ h;exact ⟨_,_,_,_,iI ht,h⟩
theorem Ft{c:CT}{f:Bf}{es:Exs}{e:Expr}(h:aa c (.bcl f es) e=true):∃x p args pos,e=.Call (.Name x p) args [] pos/\(x==Str.ofString f.name&&wU f&&c.glo x&&c.bt.contains f.name&&!args.isEmpty&&aO c es args)=true:=by have h:((cR e).any λt=>t.1==Str.ofString f.name&&wU f&&c.glo t.1&&c.bt.contains f.name&&!t.2.2.1.isEmpty&&aO c es t.2.2.1)=true:=h;obtain ⟨t,ht,h⟩:=bJ h;exact ⟨_,_,_,_,iI ht,h⟩
theorem Fv{c:CT}{fz:Bool}{f:Lf}{es:Exs}{e:Expr}(h:aa c (.lcl fz f es) e=true):∃x p args pos,e=.Call (.Name x p) args [] pos/\(x==Str.ofString f.name&&wV f&&c.glo x&&c.bt.contains f.name&&!args.isEmpty&&aO c es args)=true:=by have h:((cR e).any λt=>t.1==Str.ofString f.name&&wV f&&c.glo t.1&&c.bt.contains f.name&&!t.2.2.1.isEmpty&&aO c es t.2.2.1)=true:=h;obtain ⟨t,ht,h⟩:=bJ h;exact ⟨_,_,_,_,iI ht,h⟩
theorem Fw {c:CT} {a:Ex} {t:String} {e:Expr} (h:aa c (.isi a t) e=true):∃x p v y p' pos,e=.Call (.Name x p) [v,.Name y p'] [] pos/\(x==Str.ofString "isinstance"&&c.glo x&&c.bt.contains "isinstance"&&aa c a v&&y==Str.ofString t&&c.glo y&&c.bt.contains t&&fP t)=true:=by have h:((cR e).any λu=>(two u.2.2.1).any λv=>az (asName v.2) λy=>u.1==Str.ofString "isinstance"&&c.glo u.1&&c.bt.contains "isinstance"&&aa c a v.1&&y.1==Str.ofString t&&c.glo y.1&&c.bt.contains t&&fP t)=true:=h;obtain ⟨u,hu,h⟩:=bJ h;obtain ⟨v,hv,h⟩:=bJ h;obtain ⟨y,hy,h⟩:=aR h;exact ⟨_,_,_,_,_,_,by rw[iI hu,rH hv,hy],h⟩
theorem Fx{c:CT}{m:Mf}{o:Ex}{es:Exs}{e:Expr}(h:aa c (.mth m o es) e=true):∃v x apos args cpos,e=.Call (.Attribute v x apos) args [] cpos/\(x==Str.ofString m.name&&aa c o v&&!rA v&&(apos.endLine==cpos.line)&&decide (args.length < 29)&&!args.isEmpty&&aO c es args)=true:=by have h:(az (rD e) λt=>az (Ec t.1) λv=>t.2.2.1.isEmpty&&(v.2.1==Str.ofString m.name&&aa c o v.1&&!rA v.1&&(v.2.2.endLine==t.2.2.2.line)&&decide (t.2.1.length < 29)&&!t.2.1.isEmpty&&aO c es t.2.1))=true:=h;obtain ⟨t,ht,h⟩:=aR h;obtain ⟨v,hv,h⟩:=aR h;rw[ae,List.isEmpty_iff]at h;exact ⟨_,_,_,_,_,by rw[ht,hv,h.1],h.2⟩
theorem Fy{c:CT}{fz:Bool}{elt:Ex}{tg:Tg}{it:It'}{cond:Tx}{N:List String}{cap:List (Option Nat)}{e:Expr}(h:aa c (.comp fz elt tg it cond N cap) e=true):∃elt' tg' iter ifs as scope pos,e=.ListComp elt' [⟨tg',iter,ifs,as⟩] scope pos/\(decide (as=0)&&cM c it tg' iter&&gJ c.N scope (N.map Str.ofString) cap&&jx c scope&&fj (N.map Str.ofString)&&cL (c.comp (N.map Str.ofString) scope) tg tg'&&lg (c.comp (N.map Str.ofString) scope) cond ifs&&aa (c.comp (N.map Str.ofString) scope) elt elt')=true:=by have h:(az (Ed e) λt=>(one t.2.1).any λg=>decide (g.is_async=0)&&cM c it g.target g.iter&&gJ c.N t.2.2.1 (N.map Str.ofString) cap&&jx c t.2.2.1&&fj (N.map Str.ofString)&&cL (c.comp (N.map Str.ofString) t.2.2.1) tg g.target&&((wZ cond&&g.ifs.isEmpty)||(one g.ifs).any λf=>bL (c.comp (N.map Str.ofString) t.2.2.1) cond f)&&aa (c.comp (N.map Str.ofString) t.2.2.1) elt t.1)=true:=h;obtain ⟨t,ht,h⟩:=aR h;obtain ⟨⟨tg',iter,ifs,as⟩,hg,h⟩:=bJ h;exact ⟨t.1,tg',iter,ifs,as,t.2.2.1,t.2.2.2,(ht).trans (by rw[gO hg]),h⟩
theorem Vy{c:CT}{t:Tx}{e:Expr}(h:bL c (.not t) e=true):∃x p,e=.UnaryOp .Not x p/\(bL c t x)=true:=by have h:(az (jy e) λu=>kY u.1&&bL c t u.2.1)=true:=h;obtain ⟨u,ht,h⟩:=aR h;rw[ae]at h;exact ⟨_,_,by rw[ht,Em h.1],h.2⟩
theorem Vz{c:CT}{isAnd:Bool}{x:Tx}{es:Txs}{e:Expr}(h:bL c (.boo isAnd x es) e=true):∃op v vs p,e=.BoolOp op (v::vs) p/\(op==(if isAnd then .And else .Or)&&bL c x v&&iJ c es vs)=true:=by have h:(az (rB e) λu=>(hdT u.2.1).any λv=>u.1==(if isAnd then .And else .Or)&&bL c x v.1&&iJ c es v.2)=true:=h;obtain ⟨t,ht,h⟩:=aR h;obtain ⟨v,hv,h⟩:=bJ h;exact ⟨_,_,_,_,by rw[ht,El hv],h⟩
theorem FJ {c:CT} {a:Ex} {tg e:Expr} (h:cM c (.rng a) tg e=true):∃x p v pos,e=.Call (.Name x p) [v] [] pos/\(x==Str.ofString "range"&&c.glo x&&c.bt.contains "range"&&aa c a v)=true:=by have h:((cR e).any λt=>(one t.2.2.1).any λv=>t.1==Str.ofString "range"&&c.glo t.1&&c.bt.contains "range"&&aa c a v)=true:=h;obtain ⟨t,ht,h⟩:=bJ h;obtain ⟨v,hv,h⟩:=bJ h;exact ⟨_,_,_,_,by rw[iI ht,gO hv],h⟩
theorem FN {c:CT} {a:Ex} {tg e:Expr} (h:cM c (.enm a) tg e=true):∃ts k p0 x p v pos,tg=.Tuple ts k p0/\e=.Call (.Name x p) [v] [] pos/\(x==Str.ofString "enumerate"&&c.glo x&&c.bt.contains "enumerate"&&aa c a v)=true:=by have h:(az (gK tg) λ_=>(cR e).any λt=>(one t.2.2.1).any λv=>t.1==Str.ofString "enumerate"&&c.glo t.1&&c.bt.contains "enumerate"&&aa c a v)=true:=h;obtain ⟨g,hg,h⟩:=aR h;obtain ⟨t,ht,h⟩:=bJ h;obtain ⟨v,hv,h⟩:=bJ h;exact ⟨_,_,_,_,_,_,_,hg,by rw[iI ht,gO hv],h⟩
theorem FP {c:CT} {a b:Ex} {tg e:Expr} (h:cM c (.zip a b) tg e=true):∃ts k p0 x p v v' pos,tg=.Tuple ts k p0/\e=.Call (.Name x p) [v,v'] [] pos/\(x==Str.ofString "zip"&&c.glo x&&c.bt.contains "zip"&&aa c a v&&aa c b v')=true:=by have h:(az (gK tg) λ_=>(cR e).any λt=>(two t.2.2.1).any λv=>t.1==Str.ofString "zip"&&c.glo t.1&&c.bt.contains "zip"&&aa c a v.1&&aa c b v.2)=true:=h;obtain ⟨g,hg,h⟩:=aR h;obtain ⟨t,ht,h⟩:=bJ h;obtain ⟨v,hv,h⟩:=bJ h;exact ⟨_,_,_,_,_,_,_,_,hg,by rw[iI ht,rH hv],h⟩
theorem VB{c:CT}{x:Ex}{st:Stmt}(h:bA c (.exp x) st=true):∃e pos,st=.Expr e pos/\(!dw e&&aa c x e)=true:=by have h:(az (Ef st) λt=>!dw t.1&&aa c x t.1)=true:=h;obtain ⟨t,ht,h⟩:=aR h;exact ⟨_,_,ht,h⟩
theorem FQ{c:CT}{g:Tg}{x:Ex}{st:Stmt}(h:bA c (.asg g x) st=true):∃tg e pos,st=.Assign [tg] e pos/\(cL c g tg&&aa c x e&&w5 g x e)=true:=by have h:(az (rE st) λt=>(one t.1).any λtg=>cL c g tg&&aa c x t.2.1&&w5 g x t.2.1)=true:=h;obtain ⟨t,ht,h⟩:=aR h;obtain ⟨g,hg,h⟩:=bJ h;exact ⟨_,_,_,by rw[ht,gO hg],h⟩
theorem VD{c:CT}{o i x:Ex}{st:Stmt}(h:bA c (.set o i x) st=true):∃o' i' tpos e pos,st=.Assign [.Subscript o' i' tpos] e pos/\(aa c o o'&&aa c i i'&&aa c x e&&!dw e)=true:=by have h:(az (rE st) λt=>(one t.1).any λtg=>az (gM tg) λu=>aa c o u.1&&aa c i u.2.1&&aa c x t.2.1&&!dw t.2.1)=true:=h;obtain ⟨t,ht,h⟩:=aR h;obtain ⟨g,hg,h⟩:=bJ h;obtain ⟨u,hu,h⟩:=aR h;exact ⟨_,_,_,_,_,by rw[ht,gO hg,hu],h⟩
theorem VF{c:CT}{i:Nat}{op:Operator}{x:Ex}{st:Stmt}(h:bA c (.aug i op x) st=true):∃y py o e pos,st=.AugAssign (.Name y py) o e pos/\(o==op&&(c.N[i]?==some y)&&c.sto y&&okN y&&aa c x e)=true:=by have h:(az (rF st) λt=>az (asName t.1) λy=>t.2.1==op&&(c.N[i]?==some y.1)&&c.sto y.1&&okN y.1&&aa c x t.2.2.1)=true:=h;obtain ⟨t,ht,h⟩:=aR h;obtain ⟨u,hu,h⟩:=aR h;exact ⟨_,_,_,_,_,by rw[ht,hu],h⟩
theorem VG{c:CT}{o i:Ex}{op:Operator}{x:Ex}{st:Stmt}(h:bA c (.augs o i op x) st=true):∃o' i' tpos p e pos,st=.AugAssign (.Subscript o' i' tpos) p e pos/\(p==op&&aa c o o'&&aa c i i'&&aa c x e)=true:=by have h:(az (rF st) λt=>az (gM t.1) λu=>t.2.1==op&&aa c o u.1&&aa c i u.2.1&&aa c x t.2.2.1)=true:=h;obtain ⟨t,ht,h⟩:=aR h;obtain ⟨u,hu,h⟩:=aR h;exact ⟨_,_,_,_,_,_,by rw[ht,hu],h⟩
theorem VH{c:CT}{x:Ex}{st:Stmt}(h:bA c (.ret x) st=true):∃e pos,st=.Return (some e) pos/\(aa c x e)=true:=by have h:(az (rG st) λt=>t.1.any λe=>aa c x e)=true:=h;obtain ⟨t,ht,h⟩:=aR h;obtain ⟨e,he,h⟩:=bJ h;exact ⟨_,_,by rw[ht,he],h⟩
theorem VJ{c:CT}{st:Stmt}(h:bA c .rtn st=true):∃pos,st=.Return none pos/\(true)=true:=by have h:(az (rG st) λt=>t.1.isNone)=true:=h;obtain ⟨t,ht,h⟩:=aR h;rw[Option.isNone_iff_eq_none]at h;exact ⟨_,by rw[ht,h],rfl⟩
theorem VL{c:CT}{t:Tx}{a b:Sxs}{st:Stmt}(h:bA c (.ite t a b) st=true):∃t' a' b' pos,st=.If t' a' b' pos/\(bL c t t'&&aC c a a'&&aC c b b')=true:=by have h:(az (Eg st) λu=>bL c t u.1&&aC c a u.2.1&&aC c b u.2.2.1)=true:=h;obtain ⟨u,ht,h⟩:=aR h;exact ⟨_,_,_,_,ht,h⟩
theorem VM{c:CT}{g:Tg}{it:It'}{b:Sxs}{st:Stmt}(h:bA c (.for_ g it b) st=true):∃tg iter body pos,st=.For tg iter body [] pos/\(cL c g tg&&cM c it tg iter&&aC c b body)=true:=by have h:(az (Eh st) λt=>t.2.2.2.1.isEmpty&&(cL c g t.1&&cM c it t.1 t.2.1&&aC c b t.2.2.1))=true:=h;obtain ⟨t,ht,h⟩:=aR h;rw[ae,List.isEmpty_iff]at h;exact ⟨_,_,_,_,by rw[ht,h.1],h.2⟩
theorem VN{c:CT}{st:Stmt}(h:bA c .pas st=true):∃pos,st=.Pass pos/\(true)=true:=by obtain ⟨⟨t,ht⟩,_⟩:=bB.mp (show (Ei st).isSome=true from h);exact ⟨t,ht,rfl⟩
theorem VP{c:CT}{st:Stmt}(h:bA c .brk st=true):∃pos,st=.Break pos/\(true)=true:=by obtain ⟨⟨t,ht⟩,_⟩:=bB.mp (show (Ej st).isSome=true from h);exact ⟨t,ht,rfl⟩
theorem VR{c:CT}{st:Stmt}(h:bA c .cnt st=true):∃pos,st=.Continue pos/\(true)=true:=by obtain ⟨⟨t,ht⟩,_⟩:=bB.mp (show (Ek st).isSome=true from h);exact ⟨t,ht,rfl⟩
def lq:Expr->Bool
 |.Starred ..=>false
 |.Set ..=>false
 |.Slice ..=>false
 |_=>true
theorem b8{c:CT}:∀(x:Ex){e:Expr},aa c x e=true->lq e=true
 |.frz a,e,h=>b8 a (show aa c a e=true from h)
 |.var _,e,h=>by obtain ⟨_,_,rfl,_⟩:=Eu h;rfl
 |.cst _,e,h=>by obtain ⟨_,_,_,rfl,_⟩:=Ew h;rfl
 |.glb _ _,e,h=>by obtain ⟨_,_,rfl,_⟩:=Ey h;rfl
 |.bin _ _ _ _,e,h=>by obtain ⟨_,_,_,_,rfl,_⟩:=Ez h;rfl
 |.neg _,e,h=>by obtain ⟨_,_,rfl,_⟩:=EY h;rfl
 |.cmp _ _ _,e,h=>by obtain ⟨_,_,_,_,rfl,_⟩:=Fd h;rfl
 |.chn _ _ _ _ _,e,h=>by obtain ⟨_,_,_,_,_,_,rfl,_⟩:=Fe h;rfl
 |.not _,e,h=>by obtain ⟨_,_,rfl,_⟩:=Fb h;rfl
 |.boo _ _ _,e,h=>by obtain ⟨_,_,_,_,rfl,_⟩:=Ff h;rfl
 |.ife _ _ _,e,h=>by obtain ⟨_,_,_,_,rfl,_⟩:=Fg h;rfl
 |.tup _,e,h=>by obtain ⟨_,_,_,rfl,_⟩:=Fi h;rfl
 |.lst _ _,e,h=>by obtain ⟨_,_,rfl,_⟩:=Fj h;rfl
 |.idx _ _,e,h=>by obtain ⟨_,_,_,rfl,_⟩:=Fl h;rfl
 |.slc _ _ _ _,e,h=>by obtain ⟨_,_,_,_,_,rfl,_⟩:=Fp h;rfl
 |.call _ _,e,h=>by obtain ⟨_,_,_,_,rfl,_⟩:=Fq h;rfl
 |.bcl _ _,e,h=>by obtain ⟨_,_,_,_,rfl,_⟩:=Ft h;rfl
 |.lcl _ _ _,e,h=>by obtain ⟨_,_,_,_,rfl,_⟩:=Fv h;rfl
 |.isi _ _,e,h=>by obtain ⟨_,_,_,_,_,_,rfl,_⟩:=Fw h;rfl
 |.mth _ _ _,e,h=>by obtain ⟨_,_,_,_,_,rfl,_⟩:=Fx h;rfl
 |.comp _ _ _ _ _ _ _,e,h=>by obtain ⟨_,_,_,_,_,_,_,rfl,_⟩:=Fy h;rfl
theorem dJ{e:Expr}(h:lq e=true):noStar e=true:=by cases e <;> first |rfl |exact nZf h
theorem FT{e:Expr}(h:lq e=true)(op:CmpOp):behindInMarks op e=false:=by cases e <;> first |rfl |exact nZf h
theorem VV{e:Expr}(h:lq e=true)(env:Env)(x:Value):foldedSetIterable e env x=pure x:=by cases e <;> first |rfl |exact nZf h
theorem V0{e:Expr}(h:lq e=true):Bh e:=by intro o i;cases e <;> first |rfl |exact nZf h
theorem V1{e:Expr}(h:iH e=true)(env:Env)(whole:Sem Value):isTrue e env whole=(do let v <-whole;standAt e.pos;holding [v] (truthy v)):=by
 cases e with
 |UnaryOp op x p=>cases op <;> first |rfl |exact nZf h
 |_=>first |rfl |exact nZf h
set_option backward.match.sparseCases true
def XV(K:PF)(H:Hp)(F:FZ)(x:Xn)(cv:Value)(od:Option Addr):Prop:=
 ∃C,cv=.ref C/\PySem.W.nsIn K mainGlobals (Str.ofString x.cls)=some (some (.ref C))/\
  match x.fld with
  |.non=>True
  |d=>∃a f v,od=some a/\H a=some (.xd [(f,v)])/\Rep K H F d v
def XR(K:PF)(H:Hp)(F:FZ)(x:Xn)(EX:XK):Prop:=∀cv od,XV K H F x cv od->EX cv od H
def PX(K:PF)(H:Hp)(F:FZ)(EX:XK):EK:=λx G'=>∀H' F',Ext H F H' F'->R K H' F' G'->XR K H' F' x EX
theorem el{α β γ:Type}{p q r s:α->β->γ->Prop}{C:Prop}(h:∃x y z,p x y z/\q x y z/\r x y z/\s x y z)(k:∀x y z,p x y z->q x y z->r x y z->s x y z->C):C:=by obtain ⟨x,y,z,h1,h2,h3,h4⟩:=h;exact k x y z h1 h2 h3 h4
def lift(K:PF)(n:Nat)(S:RF.Spec):Sp:=λvs H Q EX=>vs.length=n/\∃F G ds,R K H F G/\Reps K H F ds vs/\S.t ds G (PV K H F Q) (PX K H F EX)
def CV(K:PF)(mg:Str->Option Value)(C':String)(cv:V):Prop:=
 (∃a,cv=.ref a/\mg (Str.ofString C')=some (.ref a)/\BR K a=true)\/(C'="ValueError"/\cv=.ty "ValueError"/\mg (Str.ofString C')=none)
def XI(K:PF)(C C':String)(cv:V):Prop:=
 ∃c,PySem.W.nsIn K mainGlobals (Str.ofString C)=some (some (.ref c))/\uQ K c=true/\PySem.W.mroIn K c (valOf cv)=some (gG C C')/\(gG C C'=false->(Value.ref c==valOf cv)=false)
structure Bs where
 H:Hp
 F:FZ
def FW(K:PF)(C f:String):Prop:=∃c,PySem.W.nsIn K mainGlobals (Str.ofString C)=some (some (.ref c))/\Cls K c/\Qn K c (Str.ofString f)
def MthOk(Z:aj)(P:Program)(w:World)(K:PF)(mg:Str->Option Value)(base:Heap)(CX:CXT)(k:Nat)(f C m:String)(n:Nat):Prop:=
 ∃c fa fd ps,PySem.W.nsIn K mainGlobals (Str.ofString C)=some (some (.ref c))/\Cls K c/\Meth K c (Str.ofString m) fa/\Binds K fd ps []/\FnOk P w K mg base CX k fa fd ps (lift K n (Z f))
def MkoOk(Z:aj)(P:Program)(w:World)(K:PF)(mg:Str->Option Value)(base:Heap)(CX:CXT)(k:Nat)(C:String)(n:Nat):Prop:=
 ∃c fa fd ps sp j,j+1<=k/\mg (Str.ofString C)=some (.ref c)/\Mk K c fa/\Binds K fd ps []/\FnOk P w K mg base CX j fa fd ps sp/\
  ∀vs H Q E,lift K n (Z C) vs H Q E->∀x dx,H x=none->H dx=none->dx≠x->sp (.ref x::vs) (upd (upd H dx (.own x)) x (.ins c dx [])) (λv H2=>v=.non/\Q (.ref x) H2) E
def V2(K:PF)(c:Addr)(f:String):Sp:=λvs H Q _=>∃a b l d F G,vs=[.ref a,b]/\H a=some (.ext (BZ a c l none))/\¬F a/\R K H F G/\Rep K H F d b/\okA d/\
 ∀H2 F2 dx od ob l',Ext H F H2 F2->R K H2 F2 G->H2 a=some (.ext (BZ a c l' none))->H2 dx=none->dx≠a->ob.cls=.ref c->ob.dict=some dx->PySem.W.notCls ob=true->Q .non (upd (upd H2 a (.frz ob (.own a))) dx (.frz od (.xd [(Str.ofString f,b)])))
def V3(P:Program)(w:World)(K:PF)(mg:Str->Option Value)(base:Heap)(CX:CXT)(k:Nat)(C f:String):Prop:=
 ∃c fa fd ps j,j+1<=k/\mg (Str.ofString C)=some (.ref c)/\PySem.W.nsIn K mainGlobals (Str.ofString C)=some (some (.ref c))/\Sv K c fa=true/\PySem.W.typeIn K (.ref fa)=some (.type "function")/\PySem.W.keepIn K (.ref c)=true/\
  (uQ K c=true/\PySem.W.hasDictIn K c=true/\PySem.W.findIn K (.ref c) (Str.ofString f)=some none)/\Binds K fd ps []/\FnOk P w K mg base CX j fa fd ps (V2 K c f)
def XkoX(P:Program)(w:World)(K:PF)(mg:Str->Option Value)(base:Heap)(CX:CXT)(k:Nat)(xs:List (String×Bool))(C f:String):Prop:=
 V3 P w K mg base CX k C f/\∀C' cv,xs.contains (C',false)=true->CV K mg C' cv->XI K C C' cv
structure Stat(Z:aj)(CX:CXT)(k:Nat)(c:CT)(E:EK)(B:Bs)(X:Cx):Prop where
 N:X.N=c.N
 nd:X.N.Nodup
 calm:X.calm=true
 own:PassesOwn (model X.prog X.w) X.A X.env X.xe
 kd:X.env.kindOf=λx=>X.env.scope.names.lookup x
 vis:∀x,iG (c.kd.lookup x)=true->Vis X.env.scope x
 cel:∀x,(c.kd.lookup x=some .cell\/c.kd.lookup x=some .free)->(X.env.kindOf x=some .cell\/X.env.kindOf x=some .free)
 glo:∀x,c.kd.lookup x=some .globalImplicit->Gl X x
 sto:∀x,c.sto x=true->Loc X.env.scope x/\(X.fn x=true\/X.env.scope.names.lookup x=some .local)
 room:Room k X.A
 call:∀f n,(f,n)∈c.fs->∃fa fd ps,FnOk X.prog X.w X.K X.mg X.base CX k fa fd ps (lift X.K n (Z f))/\PySem.W.keepIn X.K (.ref fa)=true/\Binds X.K fd ps []/\X.mg (Str.ofString f)=some (.ref fa)
 blt:∀f,f∈c.bt->X.mg (Str.ofString f)=none
 con:∀x d,(x,d)∈c.cn->∃u v,X.mg (Str.ofString x)=some u/\RelV v u/\∀H F,Rep X.K H F d v
 exc:∃EX,j4 CX X EX/\Throws X EX/\∀x G' H' F',E x G'->Ext B.H B.F H' F'->R X.K H' F' G'->XR X.K H' F' x EX
 nox:∀(Y:Cx),j4 CX Y λ_ _ _=>False
 xcl:∀C,c.xs.contains (C,true)=true->∃a,X.mg (Str.ofString C)=some (.ref a)/\p7 X.K a=true/\PySem.W.nsIn X.K mainGlobals (Str.ofString C)=some (some (.ref a))
 loc:∀x,c.kd.lookup x=some .local->X.env.scope.names.lookup x=some .local
 xis:∀C',c.xs.contains (C',false)=true->∃cv,CV X.K X.mg C' cv/\∀C,c.xs.contains (C,true)=true->XI X.K C C' cv
 mth:∀f C m n,(f,C,m,n)∈c.ot.ms->MthOk Z X.prog X.w X.K X.mg X.base CX k f C m n
 mko:∀C n,(C,n)∈c.ot.ks->MkoOk Z X.prog X.w X.K X.mg X.base CX k C n
 fld:∀C f,(C,f)∈c.ot.fl->FW X.K C f
 xko:∀C f,(C,f)∈c.ot.xk->XkoX X.prog X.w X.K X.mg X.base CX k c.xs C f
 trc:c.xs≠[]->CX=CX1 X.prog X.w/\X.stack=X.env::X.outer/\X.ex=[]
def tE(K:PF)(B:Bs)(w:ak->DH->(D->DH->Prop)->Prop):TE:=λX H Q=>∃Y F G,Ext B.H B.F H F/\EnvR K H F Y X/\R K H F G/\w Y G (PV K H F Q)
def tB'(K:PF)(B:Bs)(w:ak->DH->(Bool->DH->Prop)->Prop):TT:=λX H Q=>∃Y F G,Ext B.H B.F H F/\EnvR K H F Y X/\R K H F G/\w Y G (PB K H F Q)
def tL(K:PF)(B:Bs)(w:ak->DH->(List D->DH->Prop)->Prop):TA:=λX H Q=>∃Y F G,Ext B.H B.F H F/\EnvR K H F Y X/\R K H F G/\w Y G (PLs K H F Q)
def POp(K:PF)(H:Hp)(F:FZ)(Q:Option Int->Hp->Prop):Option Int->DH->Prop:=λb G'=>∀H' F',Ext H F H' F'->R K H' F' G'->Q b H'
def Ga(K:PF)(B:Bs)(w:ak->DH->(Option Int->DH->Prop)->Prop):TO:=λX H Q=>∃Y F G,Ext B.H B.F H F/\EnvR K H F Y X/\R K H F G/\w Y G (POp K H F Q)
theorem peI{X:Cx}{e:Expr}{t t':TE}(h:PE X e t)(i:∀Y H Q,t' Y H Q->t Y H Q):PE X e t':=λpins s Y H Q I q=>h pins s Y H Q I (i Y H Q q)
theorem ptI{X:Cx}{e:Expr}{t t':TT}(h:PT X e t)(i:∀Y H Q,t' Y H Q->t Y H Q):PT X e t':=λpins s Y H Q I q=>h pins s Y H Q I (i Y H Q q)
theorem pwI{X:Cx}{e:Expr}{t t':TT}(h:PW X e t)(i:∀Y H Q,t' Y H Q->t Y H Q):PW X e t':=λwh pins s Y H Q I q=>h wh pins s Y H Q I (i Y H Q q)
theorem paI{X:Cx}{e:List Expr}{t t':TA}(h:PA X e t)(i:∀Y H Q,t' Y H Q->t Y H Q):PA X e t':=λpos pins s Y H Q I q=>h pos pins s Y H Q I (i Y H Q q)
section
variable {Z:aj} {CX:CXT} {k:Nat} {c:CT} {E:EK} {B:Bs} {X:Cx}
theorem aQ{K:PF}{x:Ex}{X:L2.St}{H:Hp}{F:FZ}{G:DH}{Y:ak}{W:D->DH->Prop}{Q:VK}(e0:Ext B.H B.F H F)(he:EnvR K H F Y X)(r:R K H F G)(hw:wpE Z x E Y G W)
  (h:∀d G1 H1 F1 v,W d G1->Ext B.H B.F H1 F1->Ext H F H1 F1->EnvR K H1 F1 Y X->R K H1 F1 G1->Rep K H1 F1 d v->Q v H1):tE K B (wpE Z x E) X H Q:=
 ⟨Y,F,G,e0,he,r,aL x (λd G1 q H1 F1 v x1 r1 rv=>h d G1 H1 F1 v q (e0.trans x1) x1 (he.ext x1) r1 rv) hw⟩
theorem eF{K:PF}{x:Exs}{X:L2.St}{H:Hp}{F:FZ}{G:DH}{Y:ak}{W:List D->DH->Prop}{Q:List V->Hp->Prop}(e0:Ext B.H B.F H F)(he:EnvR K H F Y X)(r:R K H F G)(hw:bc Z x E Y G W)
  (h:∀d G1 H1 F1 v,W d G1->Ext B.H B.F H1 F1->Ext H F H1 F1->EnvR K H1 F1 Y X->R K H1 F1 G1->Reps K H1 F1 d v->Q v H1):tL K B (bc Z x E) X H Q:=
 ⟨Y,F,G,e0,he,r,fV x (λd G1 q H1 F1 v x1 r1 rv=>h d G1 H1 F1 v q (e0.trans x1) x1 (he.ext x1) r1 rv) hw⟩
theorem jz{K:PF}{x:Tx}{X:L2.St}{H:Hp}{F:FZ}{G:DH}{Y:ak}{W:Bool->DH->Prop}{Q:Bool->Hp->Prop}(e0:Ext B.H B.F H F)(he:EnvR K H F Y X)(r:R K H F G)(hw:wpT Z x E Y G W)
  (h:∀d G1 H1 F1,W d G1->Ext B.H B.F H1 F1->Ext H F H1 F1->EnvR K H1 F1 Y X->R K H1 F1 G1->Q d H1):tB' K B (wpT Z x E) X H Q:=
 ⟨Y,F,G,e0,he,r,eE x (λd G1 q H1 F1 x1 r1=>h d G1 H1 F1 q (e0.trans x1) x1 (he.ext x1) r1) hw⟩
theorem Gb{K:PF}{x:Ox}{X:L2.St}{H:Hp}{F:FZ}{G:DH}{Y:ak}{W:Option Int->DH->Prop}{Q:Option Int->Hp->Prop}(e0:Ext B.H B.F H F)(he:EnvR K H F Y X)(r:R K H F G)(hw:wpO Z x E Y G W)
  (h:∀d G1 H1 F1,W d G1->Ext B.H B.F H1 F1->Ext H F H1 F1->EnvR K H1 F1 Y X->R K H1 F1 G1->Q d H1):Ga K B (wpO Z x E) X H Q:=
 ⟨Y,F,G,e0,he,r,wJ x (λd G1 q H1 F1 x1 r1=>h d G1 H1 F1 q (e0.trans x1) x1 (he.ext x1) r1) hw⟩
theorem PV.later{K:PF}{H H1:Hp}{F F1:FZ}{Q:VK}{d:D}{G:DH}(h:PV K H F Q d G)(x:Ext H F H1 F1):PV K H1 F1 Q d G:=λH' F' v x1=>h H' F' v (x.trans x1)
theorem PB.later{K:PF}{H H1:Hp}{F F1:FZ}{Q:Bool->Hp->Prop}{d:Bool}{G:DH}(h:PB K H F Q d G)(x:Ext H F H1 F1):PB K H1 F1 Q d G:=λH' F' x1=>h H' F' (x.trans x1)
theorem PB.now{K:PF}{H:Hp}{F:FZ}{Q:Bool->Hp->Prop}{d:Bool}{G:DH}(h:PB K H F Q d G)(r:R K H F G):Q d H:=h H F (Ext.refl H F) r
theorem jA(S:Stat Z CX k c E B X):X.A.units+100 < cLine:=by have:=S.room.un;omega
theorem cZ {x:Str} (h:okN x=true):(x==("__debug__":Str))=false:=by
 unfold okN at h;cases e:x==("__debug__":Str) with
 |false=>rfl
 |true=>rw[e]at h;simp at h
theorem V4 {x:Str} (h:okN x=true):(x==("__classdict__":Str))=false:=by
 unfold okN at h;cases e:x==("__classdict__":Str) with
 |false=>rfl
 |true=>rw[e]at h;simp at h
theorem eG {x:Str} (h:okN x=true):x≠"__name__":=by unfold okN at h;intro e;rw[aT.mpr e]at h;simp at h
theorem fX{x:Str}(h:c.glo x=true):c.kd.lookup x=some .globalImplicit/\okN x=true:=by unfold CT.glo at h;rw[ae,aT]at h;exact h
theorem V5(S:Stat Z CX k c E B X){i:Nat}{e:Expr}(h:aa c (.var i) e=true):PE X e (tE X.K B (wpE Z (.var i) E)):=by
 replace h:=Eu h;obtain ⟨x,pos,rfl,h⟩:=h
 ·rw[ae,ae,aT]at h;refine peI (zR (i:=i) (by rw[S.N];exact h.1.1) (S.vis x h.1.2) (cZ h.2) (V4 h.2)) λW H Q q=>?_;obtain ⟨Y,F,G,_,he,r,hw⟩:=q;rw[vO]at hw;split at hw
  ·rename_i d hd;obtain ⟨v,e1,rv⟩:=he.get hd;exact ⟨v,e1,hw.now r rv⟩
  ·exact hw.elim
theorem V6(S:Stat Z CX k c E B X){d:D}{e:Expr}(h:aa c (.cst d) e=true):PE X e (tE X.K B (wpE Z (.cst d) E)):=by
 replace h:=Ew h;obtain ⟨kk,_,_,rfl,h⟩:=h
 ·unfold rn at h;split at h
  ·exact peI NT λW H Q hq=>el hq λY F G _ he r hw=>by rw[jt]at hw;exact hw.now r rfl
  ·rw[aT]at h;subst h;exact peI NP λW H Q hq=>el hq λY F G _ he r hw=>by rw[jt]at hw;exact hw.now r rfl
  ·rw[aT]at h;subst h;exact peI il λW H Q hq=>el hq λY F G _ he r hw=>by rw[jt]at hw;exact hw.now r rfl
  ·rename_i l b;rw[ae,aT,cb]at h;refine peI zT λW H Q hq=>el hq λY F G _ he r hw=>?_;rw[jt]at hw;refine hw.now r ⟨?_,h.2⟩;rw[h.1,<-uM]
  ·cases h
theorem V7(S:Stat Z CX k c E B X){x:String}{d:D}{e:Expr}(h:aa c (.glb x d) e=true):PE X e (tE X.K B (wpE Z (.glb x d) E)):=by
 replace h:=Ey h;obtain ⟨y,pos,rfl,h⟩:=h
 ·rw[ae,ae,aT,List.any_eq_true]at h;obtain ⟨⟨e1,h1⟩,⟨x',d'⟩,hm,h2⟩:=h;rw[ae,aT]at h2;obtain ⟨e2,e3⟩:=h2;have e3:=Vs e3;simp only at e2 e3;subst e1 e2 e3;obtain ⟨g1,g2⟩:=fX h1;obtain ⟨u,v,hu,ru,hr⟩:=S.con _ _ hm;exact peI (NZ (S.glo _ g1) hu ru (cZ g2)) λW H Q hq=>el hq λY F G _ he r hw=>by rw[vP]at hw;exact hw.now r (hr H F)
theorem V8(S:Stat Z CX k c E B X){op:Operator}{fz:Bool}{a b:Ex}(iha:∀{e},aa c a e=true->PE X e (tE X.K B (wpE Z a E)))(ihb:∀{e},aa c b e=true->PE X e (tE X.K B (wpE Z b E))){e:Expr}
  (h:aa c (.bin op fz a b) e=true):PE X e (tE X.K B (wpE Z (.bin op fz a b) E)):=by
 replace h:=Ez h;obtain ⟨l,o,r,pos,rfl,h⟩:=h
 ·rw[ae,ae,aT]at h;obtain ⟨⟨e1,h1⟩,h2⟩:=h;subst e1;refine peI (Ad (Ui _ fz) (iha h1) (ihb h2)) λW H Q hq=>el hq λY F G e0 he r hw=>?_;rw[vQ]at hw;refine aQ e0 he r hw λx G1 H1 F1 v q e1 x1 he1 r1 rv=>aQ e1 he1 r1 q λy G2 H2 F2 u q e2 x2 he2 r2 ru=>?_;exact ⟨F2,G2,x,y,r2,Rep.ext x2 rv,ru,Dc (λd G' z=>PV.later z (x1.trans x2)) q⟩
theorem V9(S:Stat Z CX k c E B X){a:Ex}(iha:∀{e},aa c a e=true->PE X e (tE X.K B (wpE Z a E))){e:Expr}(h:aa c (.neg a) e=true):PE X e (tE X.K B (wpE Z (.neg a) E)):=by
 replace h:=EY h;obtain ⟨_,_,rfl,h⟩:=h
 ·refine peI (Ae Ag (iha h)) λW H Q hq=>el hq λY F G e0 he r hw=>?_;rw[vR]at hw;refine aQ e0 he r hw λx G1 H1 F1 v q e1 x1 he1 r1 rv=>?_;split at q
  ·have e2:v=.int _:=rv;subst e2;exact ⟨_,rfl,q _ _ _ x1 r1 rfl⟩
  ·exact q.elim
theorem Gd(S:Stat Z CX k c E B X){op:CmpOp}{a b:Ex}(iha:∀{e},aa c a e=true->PE X e (tE X.K B (wpE Z a E)))(ihb:∀{e},aa c b e=true->PE X e (tE X.K B (wpE Z b E))){e:Expr}
  (h:aa c (.cmp op a b) e=true):PE X e (tE X.K B (wpE Z (.cmp op a b) E))/\PT X e (tB' X.K B (wpT Z (.val (.cmp op a b)) E)):=by
 replace h:=Fd h;obtain ⟨l,o,r,pos,rfl,h⟩:=h
 ·rw[ae,ae,aT]at h;obtain ⟨⟨e1,h1⟩,h2⟩:=h;subst e1;have hm:=FT (b8 b h2) o;refine ⟨peI (Qe (jw _ (jA S)) (iha h1) (ihb h2) hm) λW H Q hq=>el hq λY F G e0 he r hw=>?_,ptI (Aj (jw _ (jA S)) (iha h1) (ihb h2) hm) λW H Q hq=>el hq λY F G e0 he r hw=>?_⟩
  ·rw[qF]at hw;refine aQ e0 he r hw λx G1 H1 F1 v q e1 x1 he1 r1 rv=>aQ e1 he1 r1 q λy G2 H2 F2 u q e2 x2 he2 r2 ru=>?_;exact ⟨F2,G2,x,y,r2,Rep.ext x2 rv,ru,iB (λd z=>PV.later z (x1.trans x2)) q⟩
  ·rw[j9,qF]at hw;refine aQ e0 he r hw λx G1 H1 F1 v q e1 x1 he1 r1 rv=>aQ e1 he1 r1 q λy G2 H2 F2 u q e2 x2 he2 r2 ru=>?_;refine ⟨F2,G2,x,y,r2,Rep.ext x2 rv,ru,iB (λd z=>?_) q⟩;intro H' F' v' x' r' rv';have e3:v'=.bl d:=rv';exact ⟨d,e3,z H' F' ((x1.trans x2).trans x') r'⟩
theorem Ge(S:Stat Z CX k c E B X){op op':CmpOp}{a b d:Ex}(iha:∀{e},aa c a e=true->PE X e (tE X.K B (wpE Z a E)))(ihb:∀{e},aa c b e=true->PE X e (tE X.K B (wpE Z b E)))(ihd:∀{e},aa c d e=true->PE X e (tE X.K B (wpE Z d E))){e:Expr}
  (h:aa c (.chn op op' a b d) e=true):PE X e (tE X.K B (wpE Z (.chn op op' a b d) E))/\PT X e (tB' X.K B (wpT Z (.val (.chn op op' a b d)) E)):=by
 replace h:=Fe h;obtain ⟨l,o,o',m,r,pos,rfl,h⟩:=h
 ·simp only[ae,aT]at h;obtain ⟨⟨⟨⟨e1,e2⟩,h1⟩,h2⟩,h3⟩:=h;subst e1 e2;have hm:lastMarks [o,o'] [m,r]=false:=FT (b8 d h3) o';have go:∀{V H Q Y F G}{W:Bool->DH->Prop},Ext B.H B.F H F->EnvR X.K H F Y V->R X.K H F G->
    wpE Z a E Y G (λx G1=>wpE Z b E Y G1 λy G2=>aW o (view G2 x) (view G2 y) λt=>match t with |true=>wpE Z d E Y G2 λz G3=>aW o' (view G3 y) (view G3 z) λt'=>W t' G3 |false=>W false G2)->
    (∀t G' H' F',W t G'->Ext H F H' F'->R X.K H' F' G'->Q (.bl t) H')->
    uF (rC2 X.K (aW o)) (rC2 X.K (aW o')) (tE X.K B (wpE Z a E)) (tE X.K B (wpE Z b E)) (tE X.K B (wpE Z d E)) V H Q:=by
   intro V H Q Y F G W e0 he r hw fin;refine aQ e0 he r hw λx G1 H1 F1 v q e1 x1 he1 r1 rv=>aQ e1 he1 r1 q λy G2 H2 F2 u q e2 x2 he2 r2 ru=>?_;refine ⟨F2,G2,x,y,r2,Rep.ext x2 rv,ru,iB (λt q=>?_) q⟩;intro H3 F3 v3 x3 r3 rv3;have e3:v3=.bl t:=rv3;refine ⟨t,e3,?_⟩;cases t with
   |true=>
    rw[if_pos rfl];refine aQ (e2.trans x3) (he2.ext x3) r3 q λz G4 H4 F4 v4 q e4 x4 he4 r4 rv4=>?_;refine ⟨F4,G4,y,z,r4,Rep.ext (x3.trans x4) ru,rv4,iB (λt' q=>?_) q⟩;intro H5 F5 v5 x5 r5 rv5;have e5:v5=.bl t':=rv5;subst e5;exact fin _ _ _ _ q ((((x1.trans x2).trans x3).trans x4).trans x5) r5
   |false=>
    rw[if_neg bd];exact fin _ _ _ _ q ((x1.trans x2).trans x3) r3
  refine ⟨peI (Qf (jw _ (jA S)) (jw _ (jA S)) (iha h1) (ihb h2) (ihd h3) hm) λV H Q hq=>el hq λY F G e0 he r hw=>?_,ptI (Qg (jw _ (jA S)) (jw _ (jA S)) (iha h1) (ihb h2) (ihd h3) hm) λV H Q hq=>el hq λY F G e0 he r hw=>?_⟩
  ·rw[qG]at hw;exact go (W:=λt G'=>PV X.K H F Q (.bl t) G') e0 he r hw λt G' H' F' z x' r'=>z H' F' _ x' r' rfl
  ·rw[j9,qG]at hw;refine go (W:=λt G'=>PB X.K H F Q t G') e0 he r hw λt G' H' F' z x' r'=>⟨t,rfl,z H' F' x' r'⟩
end
section
variable {Z:aj} {CX:CXT} {k:Nat} {c:CT} {E:EK} {B:Bs} {X:Cx}
abbrev OkE(Z:aj)(c:CT)(E:EK)(B:Bs)(X:Cx)(x:Ex):Prop:=∀{e:Expr},aa c x e=true->PE X e (tE X.K B (wpE Z x E))
abbrev gP(Z:aj)(c:CT)(E:EK)(B:Bs)(X:Cx)(x:Exs):Prop:=∀{es:List Expr},aO c x es=true->PA X es (tL X.K B (bc Z x E))
abbrev OkT(Z:aj)(c:CT)(E:EK)(B:Bs)(X:Cx)(x:Tx):Prop:=∀{e:Expr},bL c x e=true->PT X e (tB' X.K B (wpT Z x E))
theorem Wa(S:Stat Z CX k c E B X){a:Ex}(iha:OkE Z c E B X a){e:Expr}(h:aa c (.not a) e=true):PE X e (tE X.K B (wpE Z (.not a) E)):=by
 replace h:=Fb h;obtain ⟨_,_,rfl,h⟩:=h
 ·intro pins s W H Q I q;obtain ⟨Y,F,G,e0,he,r,hw⟩:=q;rw[vU]at hw;have q':tE X.K B (wpE Z a E) W H (λx H1=>∃b,pU X.K x H1 b/\Q (.bl (!b)) H1):=aQ e0 he r hw λx G1 H1 F1 v q e1 x1 he1 r1 rv=>by
   split at q
   ·rename_i b hb;exact ⟨b,Ds r1 rv hb,q _ _ _ x1 r1 rfl⟩
   ·exact q.elim
  refine UnaryOp_ (thn (iha h pins s W H _ I q') λv s1 ⟨x,H1,I1,r1,b,tb,q1⟩=>?_);refine not_of (thn (Al pins s1 W H1 x v (λb' H'=>Q (.bl (!b')) H') I1 r1 ⟨b,tb,q1⟩) λb' s2 ⟨H2,I2,q2⟩=>?_);exact ⟨.bl (!b'),H2,I2,rfl,q2⟩
theorem xm{es:List Expr}(h:aO c .nil es=true):PA X es (tL X.K B (bc Z .nil E)):=by
 unfold aO at h;cases es with
 |nil=>exact paI iu λW H Q hq=>el hq λY F G e0 he r hw=>by rw[jr]at hw;exact hw H F [] (Ext.refl _ _) r rfl
 |cons _ _=>cases h
theorem rJ{x:Ex}{xs:Exs}(ih:OkE Z c E B X x)(ihs:gP Z c E B X xs){es:List Expr}(h:aO c (.cons x xs) es=true):PA X es (tL X.K B (bc Z (.cons x xs) E)):=by
 unfold aO at h;split at h
 ·rename_i e es;rw[ae]at h;refine paI (eY (ih h.1) (ihs h.2) (cY e es X.env (dJ (b8 x h.1)))) λW H Q hq=>el hq λY F G e0 he r hw=>?_;rw[iz]at hw;refine aQ e0 he r hw λd G1 H1 F1 v q e1 x1 he1 r1 rv=>eF e1 he1 r1 q λds G2 H2 F2 vs q e2 x2 he2 r2 rvs=>?_;exact q H2 F2 _ (x1.trans x2) r2 ⟨v,vs,rfl,Rep.ext x2 rv,rvs⟩
 ·cases h
theorem Wb(S:Stat Z CX k c E B X){es:Exs}(ih:gP Z c E B X es){e:Expr}(h:aa c (.tup es) e=true):PE X e (tE X.K B (wpE Z (.tup es) E)):=by
 replace h:=Fi h;obtain ⟨_,_,_,rfl,h⟩:=h
 ·refine peI (An (ih h)) λW H Q hq=>el hq λY F G e0 he r hw=>?_;rw[vX]at hw;refine eF e0 he r hw λds G1 H1 F1 vs q e1 x1 he1 r1 rvs=>⟨by rw[<-rvs.length];exact dq q.1,qP (PV.later q.2 x1) r1 rvs⟩
theorem Wc(S:Stat Z CX k c E B X){fz:Bool}{es:Exs}(ih:gP Z c E B X es){e:Expr}(h:aa c (.lst fz es) e=true):PE X e (tE X.K B (wpE Z (.lst fz es) E)):=by
 replace h:=Fj h;obtain ⟨_,_,rfl,h⟩:=h
 ·refine peI (Qu (ih h)) λW H Q hq=>el hq λY F G e0 he r hw=>?_;rw[vY]at hw;refine eF e0 he r hw λds G1 H1 F1 vs q e1 x1 he1 r1 rvs=>⟨by rw[<-rvs.length];exact dq q.1,gH (d9 (λd G' z=>PV.later z x1) q.2) r1 rvs⟩
theorem Wd(S:Stat Z CX k c E B X){a i:Ex}(iha:OkE Z c E B X a)(ihi:OkE Z c E B X i){e:Expr}(h:aa c (.idx a i) e=true):PE X e (tE X.K B (wpE Z (.idx a i) E)):=by
 replace h:=Fl h;obtain ⟨_,_,_,rfl,h⟩:=h
 ·rw[ae]at h;refine peI (jg Uq (iha h.1) (ihi h.2) (V0 (b8 i h.2))) λW H Q hq=>el hq λY F G e0 he r hw=>?_;rw[vZ]at hw;refine aQ e0 he r hw λx G1 H1 F1 v q e1 x1 he1 r1 rv=>aQ e1 he1 r1 q λy G2 H2 F2 u q e2 x2 he2 r2 ru=>?_;exact ⟨F2,G2,x,y,r2,Rep.ext x2 rv,ru,qI (λd z=>PV.later z (x1.trans x2)) q⟩
theorem Gf{lo:Ox}(ih:∀x,lo=.ob x->OkE Z c E B X x){l:Option Expr}(h:fW c lo l=true):PO X l (Ga X.K B (wpO Z lo E)):=by
 cases lo with
 |no=>
  unfold fW at h;cases l with
  |none=>
   intro pins s W H Q I q;refine QJ pins s W H Q I ?_;obtain ⟨Y,F,G,e0,he,r,hw⟩:=q;rw[vI]at hw;exact hw H F (Ext.refl _ _) r
  |some _=>cases h
 |ob x=>
  unfold fW at h;split at h
  ·intro pins s W H Q I q;refine QK (ih x rfl h) pins s W H Q I ?_;obtain ⟨Y,F,G,e0,he,r,hw⟩:=q;rw[vJ]at hw;refine aQ e0 he r hw λd G1 H1 F1 v q e1 x1 he1 r1 rv=>?_;split at q
   ·have e2:v=.int _:=rv;exact ⟨_,e2,q H1 F1 x1 r1⟩
   ·exact q.elim
  ·cases h
theorem We(S:Stat Z CX k c E B X){fz:Bool}{a:Ex}{lo hi:Ox}(iha:OkE Z c E B X a)(ihl:∀x,lo=.ob x->OkE Z c E B X x)(ihh:∀x,hi=.ob x->OkE Z c E B X x){e:Expr}(h:aa c (.slc fz a lo hi) e=true):
  PE X e (tE X.K B (wpE Z (.slc fz a lo hi) E)):=by
 replace h:=Fp h;obtain ⟨_,_,_,_,_,rfl,h⟩:=h
 ·rw[ae,ae]at h;refine peI (QL (Uw fz) (iha h.1.1) (Gf ihl h.1.2) (Gf ihh h.2)) λW H Q hq=>el hq λY F G e0 he r hw=>?_;rw[v6]at hw;refine aQ e0 he r hw λx G1 H1 F1 v q e1 x1 he1 r1 rv=>Gb e1 he1 r1 q λl G2 H2 F2 q e2 x2 he2 r2=>Gb e2 he2 r2 q λu G3 H3 F3 q e3 x3 he3 r3=>?_;exact ⟨F3,G3,x,r3,Rep.ext (x2.trans x3) rv,Df (λd G' z=>PV.later z ((x1.trans x2).trans x3)) q⟩
theorem Wf(S:Stat Z CX k c E B X){a:Ex}(iha:OkE Z c E B X a){e:Expr}(h:aa c (.frz a) e=true):PE X e (tE X.K B (wpE Z (.frz a) E)):=by
 have h:aa c a e=true:=h;refine peI (iha h) λW H Q hq=>el hq λY F G e0 he r hw=>?_;rw[wj]at hw;refine aQ e0 he r hw λx G1 H1 F1 v q e1 x1 he1 r1 rv=>?_;split at q
 ·rename_i p;have e2:v=.ref p:=rv;subst e2;split at q
  ·rename_i ds hg;exact q _ _ _ (x1.trans vh) (r1.frz hg) (T3 r1 hg)
  ·exact q.elim
 ·exact q _ _ _ x1 r1 rv
theorem rK{es:List Expr}{xs:Exs}(h:aO c xs es=true)(env:Env)(pos:Pos):(backTo pos (starEach es env)).any (·.1)=false:=by
 induction es generalizing xs with
 |nil=>rfl
 |cons e es ih=>
  cases xs with
  |nil=>unfold aO at h;cases h
  |cons x xs=>
   unfold aO at h;rw[ae]at h;rw[cY e es env (dJ (b8 x h.1))];show (false||(backTo pos (starEach es env)).any (·.1))=false;rw[ih h.2];rfl
theorem lr{e:Expr}{es:List Expr}{xs:Exs}(h:aO c xs (e::es)=true):∃x xs',xs=.cons x xs'/\aa c x e=true/\aO c xs' es=true:=by
 cases xs with
 |nil=>unfold aO at h;cases h
 |cons x xs'=>
  unfold aO at h;rw[ae]at h;exact ⟨x,xs',rfl,h.1,h.2⟩
theorem Gg{Y:ak}:∀(xs:Exs){es:List Expr}{G:DH}{Q:List D->DH->Prop},aO c xs es=true->bc Z xs E Y G Q->bc Z xs E Y G (λds G'=>ds.length=es.length/\Q ds G')
 |.nil,es,G,Q,h,q=>by
  unfold aO at h;rw[jr]at q ⊢;cases es with
  |nil=>exact ⟨rfl,q⟩
  |cons _ _=>cases h
 |.cons x xs,es,G,Q,h,q=>by
  unfold aO at h;split at h
  ·rename_i e es;rw[ae]at h;rw[iz]at q ⊢;refine aL x (λd G1 q=>fV xs (λds G2 z=>?_) (Gg xs h.2 q)) q;exact ⟨by simp[z.1],z.2⟩
  ·cases h
theorem Wg(S:Stat Z CX k c E B X){f:String}{xs:Exs}(ih:gP Z c E B X xs){e:Expr}(h:aa c (.call f xs) e=true):PE X e (tE X.K B (wpE Z (.call f xs) E)):=by
 replace h:=Fq h;obtain ⟨x,p,args,pos,rfl,h⟩:=h
 ·simp only[ae,aT,List.any_eq_true]at h;obtain ⟨⟨⟨⟨e1,h1⟩,⟨f',n⟩,hm,e2,e3⟩,h2⟩,h3⟩:=h;simp only at e2 e3;subst e1 e2 e3;obtain ⟨g1,g2⟩:=fX h1;obtain ⟨fa,fd,ps,F0,hk,hb,hmg⟩:=S.call _ _ hm;obtain ⟨EX,hpass,_,hEX⟩:=S.exc;cases args with
  |nil=>cases h2
  |cons e es=>
   obtain ⟨x0,xs',rfl,c1,c2⟩:=lr h3;refine peI (Qx F0 S.room (S.glo _ g1) hmg hk hb .nil hpass (ih h3) (cZ g2) (cY e es X.env (dJ (b8 x0 c1))) (rK c2 X.env pos)) λW H Q hq=>el hq λY F G e0 he r hw=>?_;rw[v7]at hw;refine eF e0 he r (Gg _ h3 hw) λds G1 H1 F1 vs q e1 x1 he1 r1 rvs=>?_;rw[eI];refine ⟨by rw[<-rvs.length];exact q.1,F1,G1,ds,r1,rvs,Spec.mono q.2 (λd G' z=>PV.later z x1) λx G' z H' F' x' r'=>?_⟩;exact hEX x G' H' F' z (e1.trans x') r'
theorem Wh(S:Stat Z CX k c E B X){f:Bf}{xs:Exs}(ih:gP Z c E B X xs){e:Expr}(h:aa c (.bcl f xs) e=true):PE X e (tE X.K B (wpE Z (.bcl f xs) E)):=by
 replace h:=Ft h;obtain ⟨x,p,args,pos,rfl,h⟩:=h
 ·simp only[ae,aT]at h;obtain ⟨⟨⟨⟨⟨e1,hok⟩,h1⟩,hm⟩,h2⟩,h3⟩:=h;subst e1;obtain ⟨g1,g2⟩:=fX h1;have hmg:=S.blt _ (b3.mp hm);cases args with
  |nil=>cases h2
  |cons e es=>
   obtain ⟨x0,xs',rfl,c1,c2⟩:=lr h3;have hs:=cY e es X.env (dJ (b8 x0 c1));have ha:=rK c2 X.env pos;have go:∀W H Q,tE X.K B (wpE Z (.bcl f (.cons x0 xs')) E) W H Q->tCB (iC X.K f) (tL X.K B (bc Z (.cons x0 xs') E)) W H Q:=λW H Q hq=>el hq λY F G e0 he r hw=>by
    rw[v8]at hw;refine eF e0 he r hw λds G1 H1 F1 vs q e1 x1 he1 r1 rvs=>?_;exact ⟨F1,G1,ds,r1,rvs,Dg (λd z=>PV.later z x1) q⟩
   cases f with
   |len=>exact peI (j5 Ux (S.glo _ g1) hmg PySem.boot_len (ih h3) (eG g2) (cZ g2) hs ha) go
   |all=>exact peI (j5 (Uy S.calm) (S.glo _ g1) hmg RM (ih h3) (eG g2) (cZ g2) hs ha) go
   |int=>exact peI (pW Uz (S.glo _ g1) hmg Bv (ih h3) (eG g2) (cZ g2) hs ha) go
   |tuple=>exact peI (pW UG (S.glo _ g1) hmg (by ac_rfl) (ih h3) (eG g2) (cZ g2) hs ha) go
   |sum=>cases hok
   |min=>exact peI (j5 (U4 S.calm) (S.glo _ g1) hmg U5 (ih h3) (eG g2) (cZ g2) hs ha) go
   |max=>cases hok
   |abs=>cases hok
   |min2=>cases hok
   |str=>exact peI (pW U6 (S.glo _ g1) hmg Bw (ih h3) (eG g2) (cZ g2) hs ha) go
theorem Wj(S:Stat Z CX k c E B X){fz:Bool}{f:Lf}{xs:Exs}(ih:gP Z c E B X xs){e:Expr}(h:aa c (.lcl fz f xs) e=true):PE X e (tE X.K B (wpE Z (.lcl fz f xs) E)):=by
 replace h:=Fv h;obtain ⟨x,p,args,pos,rfl,h⟩:=h
 ·simp only[ae,aT]at h;obtain ⟨⟨⟨⟨⟨e1,hok⟩,h1⟩,hm⟩,h2⟩,h3⟩:=h;subst e1;obtain ⟨g1,g2⟩:=fX h1;have hmg:=S.blt _ (b3.mp hm);cases args with
  |nil=>cases h2
  |cons e es=>
   obtain ⟨x0,xs',rfl,c1,c2⟩:=lr h3;have hs:=cY e es X.env (dJ (b8 x0 c1));have ha:=rK c2 X.env pos;have go:∀W H Q,tE X.K B (wpE Z (.lcl fz f (.cons x0 xs')) E) W H Q->tCB (Du X.K fz f) (tL X.K B (bc Z (.cons x0 xs') E)) W H Q:=λW H Q hq=>el hq λY F G e0 he r hw=>by
    rw[v9]at hw;refine eF e0 he r hw λds G1 H1 F1 vs q e1 x1 he1 r1 rvs=>?_;exact ⟨F1,G1,ds,r1,rvs,Dh (λd z=>d9 (λd G' z=>PV.later z x1) z) q⟩
   cases f with
   |list=>exact peI (pW (UT S.calm fz) (S.glo _ g1) hmg Bx (ih h3) (eG g2) (cZ g2) hs ha) go
   |sorted=>cases hok
theorem Wk{t:String}(h:fP t=true):bootBuiltins (Str.ofString t)=some (.type t):=by
 simp only[fP,cK,aT]at h;rcases h with (((rfl |rfl) |rfl) |rfl) |rfl
 ·exact Ry
 ·exact Bv
 ·exact Bw
 ·ac_rfl
 ·exact Bx
theorem Wl(S:Stat Z CX k c E B X){a:Ex}{t:String}(iha:OkE Z c E B X a){e:Expr}(h:aa c (.isi a t) e=true):PE X e (tE X.K B (wpE Z (.isi a t) E)):=by
 replace h:=Fw h;obtain ⟨x,p,v,y,p2,pos,rfl,h⟩:=h
 ·simp only[ae,aT]at h;obtain ⟨⟨⟨⟨⟨⟨⟨e1,h1⟩,hm1⟩,h2⟩,e2⟩,h3⟩,hm2⟩,h4⟩:=h;subst e1 e2;obtain ⟨g1,g2⟩:=fX h1;obtain ⟨g3,g4⟩:=fX h3;have hmg:=S.blt _ (b3.mp hm1);have hmt:=S.blt _ (b3.mp hm2);have hty:PE X (.Name (Str.ofString t) p2) (tC (.ty t)):=RB (S.glo _ g3) hmt (Wk h4) (eG g4) (cZ g4);have sv:=dJ (b8 a h2);refine peI (j5 Rx (S.glo _ g1) hmg Rz (eY (iha h2) (eY hty iu (cY _ _ _ rfl)) (cY _ _ _ sv)) (eG g2) (cZ g2) (cY _ _ _ sv) rfl) λW H Q hq=>el hq λY F G e0 he r hw=>?_;rw[wg]at hw;refine aQ e0 he r hw λd G1 H1 F1 v q e1 x1 he1 r1 rv=>?_;split at q
  ·rename_i b hb;obtain ⟨T,hk,hT,hb'⟩:=Va hb;refine ⟨v,t,.type T,b,rfl,U7 r1 rv hk,?_,q _ _ _ x1 r1 rfl⟩;rw[U9 T t hT h4,hb' h4]
  ·exact q.elim
theorem Wm{v:Expr}(h:(!rA v)=true)(name:Str)(env:Env):attributeBase v name env (eval v env)=eval v env:=by
 cases v with
 |Call f args kw pos=>
  cases f with
  |Name id p=>
   cases args with
   |nil=>
    cases kw with
    |nil=>cases h
    |cons _ _=>rfl
   |cons _ _=>rfl
  |_=>rfl
 |_=>rfl
theorem all_plain{es:List Expr}{xs:Exs}(h:aO c xs es=true)(env:Env)(pos:Pos):(backTo pos (starEach es env)).all (λx=>!x.1)=true:=by
 induction es generalizing xs with
 |nil=>rfl
 |cons e es ih=>
  obtain ⟨x0,xs',rfl,c1,c2⟩:=lr h;rw[cY e es env (dJ (b8 x0 c1))];show (!false&&(backTo pos (starEach es env)).all (λx=>!x.1))=true;rw[ih c2];rfl
theorem Wn(S:Stat Z CX k c E B X){m:Mf}{o:Ex}{xs:Exs}(iho:OkE Z c E B X o)(ih:gP Z c E B X xs){e:Expr}(h:aa c (.mth m o xs) e=true):PE X e (tE X.K B (wpE Z (.mth m o xs) E)):=by
 replace h:=Fx h;obtain ⟨v,x,apos,args,cpos,rfl,h⟩:=h
 ·simp only[ae,aT,cb]at h;obtain ⟨⟨⟨⟨⟨⟨e1,h1⟩,hb⟩,hl⟩,hn⟩,h2⟩,h3⟩:=h;subst e1;cases args with
  |nil=>cases h2
  |cons e es=>
   obtain ⟨x0,xs',rfl,c1,c2⟩:=lr h3;have hs:=cY e es X.env (dJ (b8 x0 c1));have ha:=rK c2 X.env cpos;have hbase:=Wm hb (Str.ofString m.name) X.env;have hfew:((backTo cpos (starEach (e::es) X.env)).all (λx=>!x.1)&&(backToKw cpos (keywordEach [] X.env)).all (λx=>x.1.isSome)
    &&decide ((e::es).length+([]:List Keyword).length+(if ([]:List Keyword).isEmpty then 0 else 1) < 30))=true:=by
    rw[all_plain h3 X.env cpos];have:(e::es).length+([]:List Keyword).length+(if ([]:List Keyword).isEmpty then 0 else 1) < 30:=by have e0:(if ([]:List Keyword).isEmpty=true then 0 else 1)=0:=rfl;rw[e0];show (e::es).length+0+0 < 30;omega
    rw[bo this];rfl
   have hline:(apos.endLine==cpos.line)=true:=by rw[aT];exact hl
   have lst:∀{d:D} {u:V} {G1:DH} {H1:Hp} {F1:FZ},(match d with |.ref p=>(match G1 p with |some (.lst _)=>True |none=>False) |_=>False)->R X.K H1 F1 G1->Rep X.K H1 F1 d u->tyV X.K "list" u H1:=λ{d u G1 H1 F1} q r1 ru=>by
    split at q
    ·rename_i p;split at q
     ·rename_i ds hg;obtain ⟨vs,hv,_⟩:=r1.lst hg;have e2:u=.ref p:=ru;subst e2;exact .inl ⟨rfl,vs,SqL.of hv⟩
     ·exact q.elim
    ·exact q.elim
   have lstV:∀{d:D} {u:V} {G1:DH} {H1:Hp} {F1:FZ},T5 (view G1 d)->R X.K H1 F1 G1->Rep X.K H1 F1 d u->tyV X.K "list" u H1:=λ{d u G1 H1 F1} q r1 ru=>by
    generalize hv:view G1 d=w at q;cases w with
    |lst ds=>
     obtain ⟨a,vs,rfl,sq,_⟩:=Rep.list r1 ru hv;exact .inl ⟨rfl,vs,sq⟩
    |_=>exact (show False from q).elim
   cases m with
   |join=>
    refine peI (pY PySem.F.plainAttrs_str PySem.F.slot_str_join PySem.F.type_str_join Vb (iho h1) (ih h3) hbase hfew hline hs ha) λW H Q hq=>el hq λY F G e0 he r hw=>?_;rw[km]at hw;refine aQ e0 he r hw λd G1 H1 F1 u q e1 x1 he1 r1 ru=>⟨?_,eF e1 he1 r1 q.2 λds G2 H2 F2 vs q e2 x2 he2 r2 rvs=>?_⟩
    ·have q1:=q.1;cases d with
     |str l=>obtain ⟨e2,_⟩:=ru;subst e2;exact rfl
     |_=>exact (show False from q1).elim
    ·exact ⟨F2,G2,d,ds,r2,Rep.ext x2 ru,rvs,qJ (λd G' z=>PV.later z (x1.trans x2)) q⟩
   |append=>
    refine peI (pY PySem.F.plainAttrs_list PySem.F.slot_list_append PySem.F.type_list_append Vc (iho h1) (ih h3) hbase hfew hline hs ha) λW H Q hq=>el hq λY F G e0 he r hw=>?_;rw[km]at hw;refine aQ e0 he r hw λd G1 H1 F1 u q e1 x1 he1 r1 ru=>⟨?_,eF e1 he1 r1 q.2 λds G2 H2 F2 vs q e2 x2 he2 r2 rvs=>?_⟩
    ·refine lst (d:=d) (G1:=G1) ?_ r1 ru;have q1:=q.1;cases d <;> first |exact q1 |exact (show False from q1).elim
    ·exact ⟨F2,G2,d,ds,r2,Rep.ext x2 ru,rvs,qJ (λd G' z=>PV.later z (x1.trans x2)) q⟩
   |extend=>
    refine peI (pY PySem.F.plainAttrs_list PySem.F.slot_list_extend PySem.F.type_list_extend Ve (iho h1) (ih h3) hbase hfew hline hs ha) λW H Q hq=>el hq λY F G e0 he r hw=>?_;rw[km]at hw;refine aQ e0 he r hw λd G1 H1 F1 u q e1 x1 he1 r1 ru=>⟨?_,eF e1 he1 r1 q.2 λds G2 H2 F2 vs q e2 x2 he2 r2 rvs=>?_⟩
    ·refine lst (d:=d) (G1:=G1) ?_ r1 ru;have q1:=q.1;cases d <;> first |exact q1 |exact (show False from q1).elim
    ·exact ⟨F2,G2,d,ds,r2,Rep.ext x2 ru,rvs,qJ (λd G' z=>PV.later z (x1.trans x2)) q⟩
end
section
variable {Z:aj} {CX:CXT} {k:Nat} {c:CT} {E:EK} {B:Bs} {X:Cx}
def EachE(Z:aj)(c:CT)(E:EK)(B:Bs)(X:Cx):Exs->Prop
 |.nil=>True
 |.cons e es=>OkE Z c E B X e/\EachE Z c E B X es
def rM(Z:aj)(c:CT)(E:EK)(B:Bs)(X:Cx):Txs->Prop
 |.nil=>True
 |.cons e es=>OkT Z c E B X e/\rM Z c E B X es
theorem EachE.oks:∀{xs:Exs},EachE Z c E B X xs->gP Z c E B X xs
 |.nil,_=>λh=>xm h
 |.cons x xs,hh=>λh=>rJ hh.1 (EachE.oks hh.2) h
def rN(Z:aj)(E:EK)(isAnd:Bool)(x:Ex)(xs:Exs):ak->DH->(D->DH->Prop)->Prop:=λY G kk=>wpE Z x E Y G λd G1=>match d with |.bl b=>wpB Z xs isAnd b E Y G1 (λc G2=>kk (.bl c) G2) |_=>False
theorem Gi{isAnd:Bool}{pos:Pos}:∀(xs:Exs){x:Ex},OkE Z c E B X x->EachE Z c E B X xs->∀{v:Expr}{vs:List Expr},aa c x v=true->aO c xs vs=true->
  PE X (.BoolOp (if isAnd then .And else .Or) (v::vs) pos) (tE X.K B (rN Z E isAnd x xs))
 |.nil,x,ih,_,v,vs,h1,h2=>by
  unfold aO at h2;cases vs with
  |nil=>
   refine peI (Oh (ih h1)) λW H Q hq=>el hq λY F G e0 he r hw=>?_;unfold rN at hw;refine aQ e0 he r hw λd G1 H1 F1 u q e1 x1 he1 r1 ru=>?_;split at q
   ·rw[vG]at q;exact q _ _ _ x1 r1 ru
   ·exact q.elim
  |cons _ _=>cases h2
 |.cons y ys,x,ih,hh,v,vs,h1,h2=>by
  unfold aO at h2;split at h2
  ·rename_i w ws;rw[ae]at h2;have rest:=Gi (isAnd:=isAnd) (pos:=pos) ys hh.1 hh.2 h2.1 h2.2;cases isAnd with
   |true=>
    refine peI (Oi (ih h1) rest) λW H Q hq=>el hq λY F G e0 he r hw=>?_;unfold rN at hw;refine aQ e0 he r hw λd G1 H1 F1 u q e1 x1 he1 r1 ru=>?_;split at q
    ·rename_i b;refine ⟨b,ru,?_⟩;rw[qC]at q;cases b with
     |true=>
      rw[if_pos rfl];exact ⟨Y,F1,G1,e1,he1,r1,aL y (λd G' z=>by
       cases d <;> first |exact (show False from z).elim |exact qN ys (λc G2 z=>PV.later z x1) z) q⟩
     |false=>
      rw[if_neg bd];exact q _ _ _ x1 r1 rfl
    ·exact q.elim
   |false=>
    refine peI (Oj (ih h1) rest) λW H Q hq=>el hq λY F G e0 he r hw=>?_;unfold rN at hw;refine aQ e0 he r hw λd G1 H1 F1 u q e1 x1 he1 r1 ru=>?_;split at q
    ·rename_i b;refine ⟨b,ru,?_⟩;rw[qC]at q;cases b with
     |false=>
      rw[if_neg bd];exact ⟨Y,F1,G1,e1,he1,r1,aL y (λd G' z=>by
       cases d <;> first |exact (show False from z).elim |exact qN ys (λc G2 z=>PV.later z x1) z) q⟩
     |true=>
      rw[if_pos rfl];exact q _ _ _ x1 r1 rfl
    ·exact q.elim
  ·cases h2
theorem Wo{isAnd:Bool}{x:Ex}{xs:Exs}(ih:OkE Z c E B X x)(hh:EachE Z c E B X xs){e:Expr}(h:aa c (.boo isAnd x xs) e=true):PE X e (tE X.K B (wpE Z (.boo isAnd x xs) E)):=by
 replace h:=Ff h;obtain ⟨_,_,_,_,rfl,h⟩:=h
 ·simp only[ae,aT]at h;obtain ⟨⟨e1,h1⟩,h2⟩:=h;subst e1;refine peI (Gi xs ih hh h1 h2) λW H Q hq=>el hq λY F G e0 he r hw=>⟨Y,F,G,e0,he,r,?_⟩;rw[vV]at hw;exact hw
theorem Wq{t:Tx}{a b:Ex}(iht:OkT Z c E B X t)(iha:OkE Z c E B X a)(ihb:OkE Z c E B X b){e:Expr}(h:aa c (.ife t a b) e=true):PE X e (tE X.K B (wpE Z (.ife t a b) E)):=by
 replace h:=Fg h;obtain ⟨_,_,_,_,rfl,h⟩:=h
 ·simp only[ae]at h;obtain ⟨⟨h1,h2⟩,h3⟩:=h;refine peI (Ol (iht h1) (iha h2) (ihb h3)) λW H Q hq=>el hq λY F G e0 he r hw=>?_;rw[vW]at hw;refine jz e0 he r hw λb' G1 H1 F1 q e1 x1 he1 r1=>?_;cases b' with
  |true=>
   rw[if_pos rfl];exact ⟨Y,F1,G1,e1,he1,r1,aL a (λd G' z=>PV.later z x1) q⟩
  |false=>
   rw[if_neg bd];exact ⟨Y,F1,G1,e1,he1,r1,aL b (λd G' z=>PV.later z x1) q⟩
theorem Wr{x:Ex}(ih:OkE Z c E B X x){e:Expr}(hp:iH e=true)(h:aa c x e=true):PT X e (tB' X.K B (wpT Z (.val x) E)):=by
 refine ptI (Qi (ih h) (V1 hp X.env)) λW H Q hq=>el hq λY F G e0 he r hw=>?_;rw[j9]at hw;refine aQ e0 he r hw λd G1 H1 F1 u q e1 x1 he1 r1 ru=>?_;split at q
 ·rename_i b hb;exact ⟨b,Ds r1 ru hb,q _ _ x1 r1⟩
 ·exact q.elim
theorem Ws{t:Tx}(ih:OkT Z c E B X t){e:Expr}(h:bL c (.not t) e=true):PT X e (tB' X.K B (wpT Z (.not t) E)):=by
 replace h:=Vy h;obtain ⟨_,_,rfl,h⟩:=h
 ·refine ptI (Od (ih h)) λW H Q hq=>el hq λY F G e0 he r hw=>?_;rw[vB]at hw;exact jz e0 he r hw λb G1 H1 F1 q e1 x1 he1 r1=>q _ _ x1 r1
def lu(Z:aj)(E:EK)(isAnd:Bool)(x:Tx)(xs:Txs):ak->DH->(Bool->DH->Prop)->Prop:=λY G kk=>wpT Z x E Y G λb G1=>fQ Z xs isAnd b E Y G1 kk
theorem Gj{isAnd:Bool}{pos:Pos}:∀(xs:Txs){x:Tx},OkT Z c E B X x->rM Z c E B X xs->∀{v:Expr}{vs:List Expr},bL c x v=true->iJ c xs vs=true->
  PW X (.BoolOp (if isAnd then .And else .Or) (v::vs) pos) (tB' X.K B (lu Z E isAnd x xs))
 |.nil,x,ih,_,v,vs,h1,h2=>by
  unfold iJ at h2;cases vs with
  |nil=>
   have go:∀W H Q,tB' X.K B (lu Z E isAnd x .nil) W H Q->tB' X.K B (wpT Z x E) W H Q:=λW H Q hq=>el hq λY F G e0 he r hw=>by
    unfold lu at hw;refine ⟨Y,F,G,e0,he,r,eE x (λb G1 q=>?_) hw⟩;rw[vH]at q;exact q
   cases isAnd with
   |true=>exact pwI (N8 (ih h1)) go
   |false=>exact pwI (Oa (ih h1)) go
  |cons _ _=>cases h2
 |.cons y ys,x,ih,hh,v,vs,h1,h2=>by
  unfold iJ at h2;split at h2
  ·rename_i w ws;rw[ae]at h2;have rest:=Gj (isAnd:=isAnd) (pos:=pos) ys hh.1 hh.2 h2.1 h2.2;cases isAnd with
   |true=>
    refine pwI (Ob (ih h1) rest) λW H Q hq=>el hq λY F G e0 he r hw=>?_;unfold lu at hw;refine jz e0 he r hw λb G1 H1 F1 q e1 x1 he1 r1=>?_;rw[qD]at q;cases b with
    |true=>
     rw[if_pos rfl];exact ⟨Y,F1,G1,e1,he1,r1,eE y (λb' G' z=>qO ys (λc G2 z=>PB.later z x1) z) q⟩
    |false=>
     rw[if_neg bd];exact q _ _ x1 r1
   |false=>
    refine pwI (Oc (ih h1) rest) λW H Q hq=>el hq λY F G e0 he r hw=>?_;unfold lu at hw;refine jz e0 he r hw λb G1 H1 F1 q e1 x1 he1 r1=>?_;rw[qD]at q;cases b with
    |false=>
     rw[if_neg bd];exact ⟨Y,F1,G1,e1,he1,r1,eE y (λb' G' z=>qO ys (λc G2 z=>PB.later z x1) z) q⟩
    |true=>
     rw[if_pos rfl];exact q _ _ x1 r1
  ·cases h2
theorem Wt{isAnd:Bool}{x:Tx}{xs:Txs}(ih:OkT Z c E B X x)(hh:rM Z c E B X xs){e:Expr}(h:bL c (.boo isAnd x xs) e=true):PT X e (tB' X.K B (wpT Z (.boo isAnd x xs) E)):=by
 replace h:=Vz h;obtain ⟨_,_,_,_,rfl,h⟩:=h
 ·simp only[ae,aT]at h;obtain ⟨⟨e1,h1⟩,h2⟩:=h;subst e1;refine ptI (PW.pt (Gj xs ih hh h1 h2)) λW H Q hq=>el hq λY F G e0 he r hw=>⟨Y,F,G,e0,he,r,?_⟩;rw[vC]at hw;exact hw
def tG(K:PF)(B:Bs)(t:Tg):TG:=λv X H Q=>∃Y F G d,Ext B.H B.F H F/\EnvR K H F Y X/\R K H F G/\Rep K H F d v/\aY t d Y G (λρ'=>∀σ',EnvR K H F ρ' σ'->Q σ' H)
def tGs(K:PF)(B:Bs)(t:Tgs):TGs:=λvs X H Q=>∃Y F G ds,Ext B.H B.F H F/\EnvR K H F Y X/\R K H F G/\Reps K H F ds vs/\bO t ds Y G (λρ'=>∀σ',EnvR K H F ρ' σ'->Q σ' H)
theorem rO:∀{ts:Tgs}{es:List Expr}{env:Env},cF c ts es=true->(assignEach es env).length=es.length/\(assignEach es env).findIdx? (·.1)=none/\(assignEach es env).map (·.2)=es.map λe=>assign e env
 |.nil,[],env,_=>⟨rfl,rfl,rfl⟩
 |.nil,_::_,env,h=>by unfold cF at h;cases h
 |.cons t r,[],env,h=>by unfold cF at h;cases h
 |.cons t r,e::es,env,h=>by
  unfold cF at h;rw[ae]at h;obtain ⟨h1,h2,h3⟩:=rO (env:=env) h.2;have hs:assignEach (e::es) env=(false,assign e env)::assignEach es env:=by
   cases t with
   |nm i=>
    have h':=h.1;obtain ⟨_,_,rfl,_⟩:=xg h';rfl
   |tp ts=>
    have h':=h.1;obtain ⟨_,_,_,rfl,_⟩:=xj h';rfl
  rw[hs];refine ⟨by simp[h1],?_,by simp[h3]⟩;rw[en];simp[h2]
section
variable {prog:Program} {w:World} {A:Around} {E:Value->Shared->Prop} {s:Shared}
theorem Gk{it t:Addr}{items:Array Value}(hne:t≠it):∀(n i:Nat)(s:Shared)(Q:List Value->Shared->Prop),s.heap.IsListIter it t i->s.heap.IsList t items->i+n<=items.size->
  (∀h',h'.IsListIter it t (i+n)->Heap.SameBut it s.heap h'->Q ((items.toList.drop i).take n) { s with heap:=h' })->wpAny (model prog w) A (draw (.ref it) n) Q E s
 |0,i,s,Q,hit,_,_,hQ=>by
  show wpAny _ _ (pure []) Q E s;exact av (by simpa using hQ s.heap hit (Heap.SameBut.refl ..))
 |n+1,i,s,Q,hit,ht,hle,hQ=>by
  have hlt:i < items.size:=by omega
  show wpAny _ _ (pyNext (.ref it) >>= _) Q E s;refine ab (wpAny_pyNext_list_item hit ht (x:=items[i]) (by simp[hlt]) λh₁ hit₁ hs₁=>?_);refine ab (dL (Gk hne n (i+1) _ _ hit₁ (ht.extBut hs₁.extBut hne) (by omega) λh₂ hit₂ hs₂=>av ?_));have hd:items.toList.drop i=items[i]::items.toList.drop (i+1):=by simp[a9,hlt]
  have:=hQ h₂ (by rw[show i+(n+1)=i+1+n by omega];exact hit₂) (hs₁.trans hs₂);rw[hd,List.take_succ_cons]at this;exact this
theorem Wu{t:Addr}{items:Array Value}{Q:List Value->Shared->Prop}(hh:A.handled=none)(ht:s.heap.IsList t items)
  (hQ:∀h',Heap.ExtBut (~~~s) s.heap h'->Q items.toList { s with heap:=h' }):wpAny (model prog w) A (unpackItems (.ref t) items.size none) Q E s:=by
 have hlt:t≠(~~~s):=by obtain ⟨o,ho,_⟩:=ht;exact b5 (ay ho)
 unfold unpackItems;refine ab ?_;unfold notIterableAtAll;refine ab (wpAny_specialOf ht.typeIs PySem.F.slot_list_iter.lookup ?_);refine av ?_;simp only[Bool.false_eq_true,if_false];refine ab (dL (wpAny_pyIter_list ht ?_));refine ab (dL (Gk hlt items.size 0 _ _ ⟨_,a7 _ rfl,rfl,rfl⟩ (ht.push _) (by omega) λh₁ hit₁ hs₁=>?_));have hall:List.take items.size (List.drop 0 items.toList)=items.toList:=by rw[List.drop_zero];exact fh (by simp)
 rw[hall];rw[if_neg (by simp)];have ht₁:h₁.IsList t items:=(ht.push _).extBut hs₁.extBut hlt;refine ab (dL (wpAny_pyNext_list_end hh hit₁ ht₁ (by simp) λh₂ he₂=>?_));simp only[Option.isSome_none,Bool.false_eq_true,if_false];refine av (hQ h₂ λb o hb e=>he₂ b o hb (hs₁.extBut b o hb (ah _ e)))
theorem Wv{env:Env}{elts:List Expr}{x1}{pos:Pos}{t:Addr}{items:Array Value}{Q:Unit->Shared->Prop}(hh:A.handled=none)(ht:s.heap.IsList t items)
  (hn:(assignEach elts env).length=items.size) (hstar:(assignEach elts env).findIdx? (·.1)=none)
  (h:∀h',Heap.ExtBut (~~~s) s.heap h'->wpAny (model prog w) A (assignInOrder ((assignEach elts env).map (·.2)) items.toList) Q E { s with heap:=h' }):
  wpAny (model prog w) A (assign (.Tuple elts x1 pos) env (.ref t)) Q E s:=by
 rw[assign_Tuple];refine ab (wpAny_standAt ?_);unfold unpack;rw[hn,hstar];exact ab (dL (Wu hh ht h))
end
section
variable {X:Cx} {pos:Pos}
def Ww(K:PF)(n:Nat)(t:TGs):TG:=λv Y H Q=>∃a xs,v=.ref a/\SqL K H a xs/\xs.length=n/\t xs Y H Q
theorem Wx{es:List Expr}{k:Nat}{t:TGs}{n:Nat}(hc:X.calm=true)(h:PGs X es t)
  (hn:(assignEach es X.env).length=n:=by rfl) (hst:(assignEach es X.env).findIdx? (·.1)=none:=by rfl):PG X (.Tuple es k pos) (Ww X.K n t):=by
 intro pins s Y H v u Q I r hw;obtain ⟨a,xs,e1,hq,hl,hw⟩:=hw;subst e1;cases r;obtain ⟨its,rv,pl,hz⟩:=I.list hq;refine Wv (I.ok.hd hc) pl.isList (by simp[hn,<-hl,rv.length]) hst λh' hx=>?_;have I1:Inv X pins Y H { s with heap:=h' }:=I.kept (t':=s.toks) λb o e=>hx b o (b5 (ay e)) e;exact h pins _ Y H xs _ Q I1 (by simpa using rv) hw
end
mutual
theorem rP(S:Stat Z CX k c E B X):∀(t:Tg){e:Expr},cL c t e=true->PG X e (tG X.K B t)
 |.nm i,e,h=>by
  replace h:=xg h;obtain ⟨x,pos,rfl,h⟩:=h
  ·skip;rw[ae,aT]at h;obtain ⟨l,f⟩:=S.sto x h.2;intro pins s W H v u Q I rv q;refine pO (i:=i) S.nd (by rw[S.N];exact h.1) l f pins s W H v u Q I rv ?_;obtain ⟨Y,F,G,d,e0,he,r,rd,hw⟩:=q;unfold aY at hw;exact hw _ (he.set rd i)
 |.tp ts,e,h=>by
  replace h:=xj h;obtain ⟨es,kk,pos,rfl,h⟩:=h
  ·skip;obtain ⟨h1,h2,h3⟩:=rO (env:=X.env) h;intro pins s W H v u Q I rv q;obtain ⟨Y,F,G,d,e0,he,r,rd,hw⟩:=q;unfold aY at hw;split at hw
   ·rename_i ds;refine z6 (n:=es.length) S.calm (xn S ts h) h1 h2 pins s W H v u Q I rv ?_;obtain ⟨a,vs,e1,q,t⟩:=rd;refine ⟨a,vs,e1,q.sq,?_,Y,F,G,ds,e0,he,r,t,hw⟩;rw[<-t.length];exact xq ts h hw
   ·rename_i ds;refine Wx (n:=es.length) S.calm (xn S ts h) h1 h2 pins s W H v u Q I rv ?_;obtain ⟨a,vs,e1,q,t⟩:=rd;refine ⟨a,vs,e1,q.sq,?_,Y,F,G,ds,e0,he,r,t,hw⟩;rw[<-t.length];exact xq ts h hw
   ·exact hw.elim
theorem xn(S:Stat Z CX k c E B X):∀(ts:Tgs){es:List Expr},cF c ts es=true->PGs X es (tGs X.K B ts)
 |.nil,es,h=>by
  unfold cF at h;cases es with
  |nil=>
   intro pins s W H vs us Q I rv q;refine zZ pins s W H vs us Q I rv ?_;obtain ⟨Y,F,G,ds,e0,he,r,rd,hw⟩:=q;unfold bO at hw;split at hw
   ·exact ⟨rd,hw _ he⟩
   ·exact hw.elim
  |cons _ _=>cases h
 |.cons t r,es,h=>by
  unfold cF at h;split at h
  ·rename_i e es;rw[ae]at h;intro pins s W H vs us Q I rv q;have hs:(assignEach (e::es) X.env).map (·.2)=assign e X.env::(assignEach es X.env).map (·.2):=by
    have hh:cF c (.cons t r) (e::es)=true:=by unfold cF;show (cL c t e&&cF c r es)=true;rw[h.1,h.2];rfl
    rw[(rO (env:=X.env) hh).2.2,(rO (env:=X.env) h.2).2.2];rfl
   refine uC (rP S t h.1) (xn S r h.2) hs pins s W H vs us Q I rv ?_;obtain ⟨Y,F,G,ds,e0,he,rr,rd,hw⟩:=q;unfold bO at hw;split at hw
   ·rename_i d ds;obtain ⟨v,vs',e1,rd1,rds⟩:=rd;refine ⟨v,vs',e1,Y,F,G,d,e0,he,rr,rd1,fU (λρ' z σ' he'=>?_) t hw⟩;exact ⟨ρ',F,G,ds,e0,he',rr,rds,z⟩
   ·exact hw.elim
  ·cases h
theorem xq{G:DH}:∀(ts:Tgs){es:List Expr}{ds:List D}{Y:ak}{Q:ak->Prop},cF c ts es=true->bO ts ds Y G Q->ds.length=es.length
 |.nil,es,ds,Y,Q,h,q=>by
  unfold cF at h;unfold bO at q;split at q
  ·cases es with
   |nil=>rfl
   |cons _ _=>cases h
  ·exact q.elim
 |.cons t r,es,ds,Y,Q,h,q=>by
  unfold cF at h;split at h
  ·rw[ae]at h;unfold bO at q;split at q
   ·rename_i d ds;have:∃ρ',bO r ds ρ' G Q:=Gm t q;obtain ⟨ρ',q'⟩:=this;have:=xq r h.2 q';simp[this]
   ·exact q.elim
  ·cases h
theorem Gm{G:DH}:∀(t:Tg){d:D}{Y:ak}{Q:ak->Prop},aY t d Y G Q->∃ρ',Q ρ'
 |.nm i,d,Y,Q,q=>⟨_,q⟩
 |.tp ts,d,Y,Q,q=>by
  unfold aY at q;split at q
  ·exact xr ts q
  ·exact xr ts q
  ·exact q.elim
theorem xr{G:DH}:∀(ts:Tgs){ds:List D}{Y:ak}{Q:ak->Prop},bO ts ds Y G Q->∃ρ',Q ρ'
 |.nil,ds,Y,Q,q=>by
  unfold bO at q;split at q
  ·exact ⟨_,q⟩
  ·exact q.elim
 |.cons t r,ds,Y,Q,q=>by
  unfold bO at q;split at q
  ·obtain ⟨ρ',q'⟩:=Gm t q;exact xr r q'
  ·exact q.elim
end
end
structure WalkJ(K:PF)(H:Hp)(F:FZ)(items:List D)(g:Hld)(J:It):Prop where
 go:∀H' F' G i,Ext H F H' F'->R K H' F' G->held g G->i < items.length->J.go i H'
 stop:∀H' F' G,Ext H F H' F'->R K H' F' G->held g G->J.stop items.length H'
 yld:∀H' F' i x H'' d G,Ext H F H' F'->R K H' F' G->held g G->items[i]?=some d->J.yld i H' x H''->Ext H' F' H'' F'/\R K H'' F' G/\Rep K H'' F' d x
section
variable {K:PF} {H:Hp} {F:FZ}
structure Src(K:PF)(H:Hp)(F:FZ)(u:Value)(ds:List D)(g:Hld)(k:SK):Prop where
 val:k.val=u
 sat:∀H' F' G,Ext H F H' F'->R K H' F' G->held g G->∃vs,k.Sat H' vs/\Reps K H' F' ds vs
theorem rQ{d:D}{v:V}{u:Value}{G:DH}{ds:List D×Hld}(h:Rep K H F d v)(r:RelV v u)(e:itemsOf G d=some ds):∃k,Src K H F u ds.1 ds.2 k:=by
 cases d with
 |lst xs=>
  simp only[itemsOf,aS]at e;subst e;obtain ⟨a,vs,e1,q,t⟩:=h;subst e1;have hu:u=Value.ref a:=r;subst hu;exact ⟨.lst a,rfl,λH' F' G' x _ _=>⟨vs,(FzL.ext x q).2,Reps.ext x t⟩⟩
 |tup xs=>
  simp only[itemsOf,aS]at e;subst e;obtain ⟨a,vs,e1,q,t⟩:=h;subst e1;have hu:u=Value.ref a:=r;subst hu;exact ⟨.tup a,rfl,λH' F' G' x _ _=>⟨vs,(TpT.ext (K:=K) x q).it,Reps.ext x t⟩⟩
 |str l=>
  simp only[itemsOf,aS]at e;subst e;obtain ⟨e1,hl⟩:=h;subst e1;obtain ⟨t,hu⟩:∃t,u=Value.str (tx l) t:=r;subst hu;exact ⟨.str (tx l) t,rfl,λH' F' G' x _ _=>⟨_,rfl,by simpa using wN l⟩⟩
 |ref p=>
  simp only[itemsOf]at e;split at e
  ·rename_i xs hg;simp only[aS]at e;subst e;have e1:v=.ref p:=h;subst e1;have hu:u=Value.ref p:=r;subst hu;exact ⟨.lst p,rfl,λH' F' G' x r' hh=>r'.lst hh.1⟩
  ·cases e
 |_=>cases e
theorem rR{G:DH}{d:D}{ds:List D×Hld}(e:itemsOf G d=some ds):held ds.2 G:=by
 cases d with
 |ref p=>
  simp only[itemsOf]at e;split at e
  ·rename_i xs hg;simp only[aS]at e;subst e;exact ⟨hg,trivial⟩
  ·cases e
 |_=>simp only[itemsOf]at e;first | (cases e;done) | (simp only[aS]at e;subst e;exact trivial)
theorem Wy{u:Value}{ds:List D}{g:Hld}{k:SK}(s:Src K H F u ds g k):WalkJ K H F ds g (Jk k) where
 go:=λH' F' G i x r hh hi=>by
  obtain ⟨vs,h1,h2⟩:=s.sat H' F' G x r hh;exact ⟨vs,h1,by rw[<-h2.length];exact hi⟩
 stop:=λH' F' G x r hh=>by
  obtain ⟨vs,h1,h2⟩:=s.sat H' F' G x r hh;exact ⟨vs,h1,h2.length.symm⟩
 yld:=λH' F' i v H'' d G x r hh hd y=>by
  obtain ⟨e,hv⟩:=y;subst e;obtain ⟨vs,h1,h2⟩:=s.sat _ F' G x r hh;obtain ⟨w,e1,rw'⟩:=h2.get hd;have e2:=hv vs h1;rw[e1]at e2;cases e2;exact ⟨Ext.refl _ _,r,rw'⟩
theorem jB:∀(n:Nat)(ds:List D),(dH n ds).length=ds.length
 |_,[]=>rfl
 |n,d::ds=>by simp[dH,jB (n+1) ds]
theorem jC:∀(n:Nat)(ds:List D)(i:Nat),(dH n ds)[i]?=(ds[i]?).map λd=>.tup [.int ((n+i:Nat):Int),d]
 |_,[],_=>by simp[dH]
 |n,d::ds,0=>by simp[dH]
 |n,d::ds,i+1=>by
  simp only[dH,List.getElem?_cons_succ];rw[jC (n+1) ds i];congr 1;funext d;rw[show n+1+i=n+(i+1) by omega]
theorem xu:∀(as bs:List D),(b7 as bs).length=min as.length bs.length
 |[],bs=>by simp[b7]
 |a::as,[]=>by simp[b7]
 |a::as,b::bs=>by simp[b7,xu as bs]
theorem Gn:∀(as bs:List D)(i:Nat)(d:D),(b7 as bs)[i]?=some d->∃a b,as[i]?=some a/\bs[i]?=some b/\d=.tup [a,b]
 |[],bs,i,d,h=>by simp[b7]at h
 |a::as,[],i,d,h=>by simp[b7]at h
 |a::as,b::bs,0,d,h=>by simp[b7]at h;exact ⟨a,b,rfl,rfl,h.symm⟩
 |a::as,b::bs,i+1,d,h=>by
  simp only[b7,List.getElem?_cons_succ]at h;obtain ⟨x,y,h1,h2,h3⟩:=Gn as bs i d h;exact ⟨x,y,by simpa using h1,by simpa using h2,h3⟩
theorem Wz{u:Value}{ds:List D}{g:Hld}{k:SK}(s:Src K H F u ds g k):WalkJ K H F (dH 0 ds) g (Je k) where
 go:=λH' F' G i x r hh hi=>by
  obtain ⟨vs,h1,h2⟩:=s.sat H' F' G x r hh;exact ⟨vs,h1,by rw[<-h2.length,<-jB 0];exact hi⟩
 stop:=λH' F' G x r hh=>by
  obtain ⟨vs,h1,h2⟩:=s.sat H' F' G x r hh;exact ⟨vs,h1,by rw[jB];exact h2.length.symm⟩
 yld:=λH' F' i v H'' d G x r hh hd y=>by
  obtain ⟨vs,h1,h2⟩:=s.sat H' F' G x r hh;obtain ⟨T,y,hT,e1,e2,hv⟩:=y;subst e1 e2;rw[jC]at hd;obtain ⟨d',hd',e3⟩:=ar.mp hd;subst e3;obtain ⟨w,e1,rw'⟩:=h2.get hd';have e2:=hv vs h1;rw[e1]at e2;cases e2;refine ⟨dm r hT,r.new hT,?_⟩;rw[Nat.zero_add];exact vg r hT (Reps.cons rfl (Reps.cons rw' Reps.nil))
theorem jD{g g':Hld}{G:DH}:held (g++g') G->held g G/\held g' G:=by
 induction g with
 |nil=>exact λh=>⟨trivial,h⟩
 |cons p r ih=>
  intro h;obtain ⟨h1,h2⟩:=ih h.2;exact ⟨⟨h.1,h1⟩,h2⟩
theorem WD{u u':Value}{ds es:List D}{g g':Hld}{k l:SK}(s:Src K H F u ds g k)(s':Src K H F u' es g' l):WalkJ K H F (b7 ds es) (g++g') (Jz k l) where
 go:=λH' F' G i x r hh hi=>by
  obtain ⟨vs,h1,h2⟩:=s.sat H' F' G x r (jD hh).1;obtain ⟨ws,h3,h4⟩:=s'.sat H' F' G x r (jD hh).2;rw[xu]at hi;exact ⟨vs,ws,h1,h3,by rw[<-h2.length];omega,by rw[<-h4.length];omega⟩
 stop:=λH' F' G x r hh=>by
  obtain ⟨vs,h1,h2⟩:=s.sat H' F' G x r (jD hh).1;obtain ⟨ws,h3,h4⟩:=s'.sat H' F' G x r (jD hh).2;exact ⟨vs,ws,h1,h3,by rw[xu,<-h2.length,<-h4.length];omega⟩
 yld:=λH' F' i v H'' d G x r hh hd y=>by
  obtain ⟨T,y,z,hT,e1,e2,hv,hz⟩:=y;subst e1 e2;obtain ⟨a,b,ha,hb,e3⟩:=Gn _ _ _ _ hd;subst e3;obtain ⟨vs,h1,h2⟩:=s.sat H' F' G x r (jD hh).1;obtain ⟨ws,h3,h4⟩:=s'.sat H' F' G x r (jD hh).2;obtain ⟨w,e1,rw'⟩:=h2.get ha;obtain ⟨w2,e3,rw2⟩:=h4.get hb;have e2:=hv vs h1;have e4:=hz ws h3;rw[e1]at e2;cases e2;rw[e3]at e4;cases e4;exact ⟨dm r hT,r.new hT,vg r hT (Reps.cons rw' (Reps.cons rw2 Reps.nil))⟩
theorem WF(lo:Int)(n:Nat):WalkJ K H F (aZ lo n) [] (Itr lo n) where
 go:=λH' F' G i x _ _ hi=>by show i < n;simpa [aZ] using hi
 stop:=λH' F' G x _ _=>by show n<=(aZ lo n).length;simp[aZ]
 yld:=λH' F' i v H'' d G x r _ hd y=>by
  obtain ⟨e1,e2⟩:=y;subst e1 e2;refine ⟨Ext.refl _ _,r,?_⟩;unfold aZ at hd;rw[aw]at hd;obtain ⟨j,hj,e3⟩:=ar.mp hd;have:j=i:=by have:=ag.mp hj;obtain ⟨h1,h2⟩:=this;simpa using h2.symm
  subst this;subst e3;rfl
end
def tI(K:PF)(B:Bs)(w:ak->DH->(List D->Hld->DH->Prop)->Prop):TI:=λX H Rr=>∃Y F G,Ext B.H B.F H F/\EnvR K H F Y X/\R K H F G/\
 w Y G (λitems g G'=>∀H' F' J,Ext H F H' F'->R K H' F' G'->WalkJ K H' F' items g J->Rr J H')
section
variable {Z:aj} {CX:CXT} {k:Nat} {c:CT} {E:EK} {B:Bs} {X:Cx}
theorem lw{pins:List (Addr×Obj)}{Y:L2.St}{H:Hp}{s:Shared}(I:Inv X pins Y H s){kk:SK}{vs:List V}(h:kk.Sat H vs):∃its:Array Value,kk.On its s.heap:=by
 cases kk with
 |lst a=>obtain ⟨its,_,pl,_⟩:=I.list (SqL.of (show H a=some _ from h));exact ⟨its.toArray,pl.isList⟩
 |tup a=>obtain ⟨its,_,pl,_⟩:=I.tuple (SqT.of (show H a=some _ from h));exact ⟨its.toArray,pl⟩
 |str x t=>exact ⟨#[],trivial⟩
theorem WK{x:Ex}(ih:OkE Z c E B X x){tg e:Expr}(h:aa c x e=true):PI X tg e (tI X.K B (wpI Z (.seq x) E)):=by
 intro pins s W H Rr I q;obtain ⟨Y,F,G,e0,he,r,hw⟩:=q;rw[vK]at hw;have q':tE X.K B (wpE Z x E) W H (λv H1=>∃F1 G1 d items,R X.K H1 F1 G1/\Rep X.K H1 F1 d v/\itemsOf G1 d=some items/\∀J,WalkJ X.K H1 F1 items.1 items.2 J->Rr J H1):=
  aQ e0 he r hw λd G1 H1 F1 u q e1 x1 he1 r1 ru=>by
   split at q
   ·rename_i ds hd;exact ⟨F1,G1,d,ds,r1,ru,hd,λJ w=>q H1 F1 J x1 r1 w⟩
   ·exact q.elim
 refine thn (ih h pins s W H _ I q') λu s1 ⟨v,H1,I1,rv,F1,G1,d,items,r1,rd,hd,q1⟩=>?_;obtain ⟨kk,src⟩:=rQ rd rv hd;obtain ⟨vs,sat,_⟩:=src.sat H1 F1 G1 (Ext.refl _ _) r1 (rR hd);obtain ⟨its,on⟩:=lw I1 sat;rw[<-src.val];refine SK.iter on ?_;refine ⟨s1.heap.objs.size,[s1.heap.objs.size],_,_,H1,rfl,I1.kept (t':=s1.toks) λb o e=>ah _ e,Vj kk _,SK.pos0,λb hb=>?_,q1 _ (Wy src)⟩;have e:b=s1.heap.objs.size:=by simpa using hb
 subst e;exact I1.fpOk (ax _) (I1.hok.fresh (ax _))
theorem WL(S:Stat Z CX k c E B X){a:Ex}(ih:OkE Z c E B X a){tg e:Expr}(h:cM c (.rng a) tg e=true):PI X tg e (tI X.K B (wpI Z (.rng a) E)):=by
 replace h:=FJ h;obtain ⟨_,_,_,_,rfl,h⟩:=h
 ·simp only[ae,aT]at h;obtain ⟨⟨⟨e1,h1⟩,hm⟩,h2⟩:=h;subst e1;obtain ⟨g1,g2⟩:=fX h1;have hmg:=S.blt _ (b3.mp hm);have hs:=cY _ [] X.env (dJ (b8 a h2));intro pins s W H Rr I q;refine Pu (S.glo _ g1) hmg (eY (ih h2) iu hs) hs pins s W H Rr I ?_;obtain ⟨Y,F,G,e0,he,r,hw⟩:=q;rw[vL]at hw;refine aQ e0 he r hw λd G1 H1 F1 u q e1 x1 he1 r1 ru=>?_;split at q
  ·rename_i n;have e2:u=.int n:=ru;subst e2;exact ⟨n,rfl,q.1.1,q.1.2,q.2 H1 F1 _ x1 r1 (WF 0 n.toNat)⟩
  ·exact q.elim
theorem WM(S:Stat Z CX k c E B X){a:Ex}(ih:OkE Z c E B X a){tg e:Expr}(h:cM c (.enm a) tg e=true):PI X tg e (tI X.K B (wpI Z (.enm a) E)):=by
 replace h:=FN h;obtain ⟨_,_,_,_,_,_,_,rfl,rfl,h⟩:=h
 ·skip
  ·simp only[ae,aT]at h;obtain ⟨⟨⟨e1,h1⟩,hm⟩,h2⟩:=h;subst e1;obtain ⟨g1,g2⟩:=fX h1;have hmg:=S.blt _ (b3.mp hm);have hs:=cY _ [] X.env (dJ (b8 a h2));intro pins s V H Rr I q;obtain ⟨Y,F,G,e0,he,r,hw⟩:=q;rw[vM]at hw;have q':tL X.K B (bc Z (.cons a .nil) E) V H (λvs H1=>∃v F1 G1 d items,vs=[v]/\R X.K H1 F1 G1/\Rep X.K H1 F1 d v/\itemsOf G1 d=some items/\∀J,WalkJ X.K H1 F1 (dH 0 items.1) items.2 J->Rr J H1):=by
    refine eF (W:=λds G1=>∃d items,ds=[d]/\itemsOf G1 d=some items/\∀H' F' J,Ext H F H' F'->R X.K H' F' G1->WalkJ X.K H' F' (dH 0 items.1) items.2 J->Rr J H') e0 he r ?_ λds G1 H1 F1 vs q e1 x1 he1 r1 rvs=>?_
    ·rw[iz];refine aL a (λd G1 q=>?_) hw;rw[jr];split at q
     ·rename_i items hd;exact ⟨d,items,rfl,hd,q⟩
     ·exact q.elim
    ·obtain ⟨d,items,e2,hd,q⟩:=q;subst e2;obtain ⟨v,e3,rv⟩:=bY rvs;exact ⟨v,F1,G1,d,items,e3,r1,rv,hd,λJ w=>q H1 F1 J x1 r1 w⟩
   refine Call_ (ir I (S.glo _ g1) hmg (u:=.type "enumerate") boot_enumerate (dr (thn (rJ ih (λh=>xm h) (c:=c) (es:=[_]) (by unfold aO;show (aa c a _&&true)=true;rw[h2];rfl) _ pins s V H _ I q') λus s1 ⟨vs,H1,I1,r1v,q1⟩=>?_) hs rfl) (eG g2) (cZ g2));obtain ⟨v,F1,G1,d,items,e1,r1,rd,hd,q1⟩:=q1;subst e1;obtain ⟨u,rfl,ru⟩:=vals1 r1v;obtain ⟨kk,src⟩:=rQ rd ru hd;obtain ⟨vs,sat,_⟩:=src.sat H1 F1 G1 (Ext.refl _ _) r1 (rR hd);obtain ⟨its,on⟩:=lw I1 sat;rw[<-src.val];refine DX on λh' hen hit hsz hk=>?_;refine wpAny_pyIter_enum hen ?_;have n1:H1 s1.heap.objs.size=none:=I1.hok.fresh (ax _);have n2:H1 (s1.heap.objs.size+1)=none:=I1.hok.fresh (dn _);refine ⟨s1.heap.objs.size+1,[s1.heap.objs.size+1,s1.heap.objs.size],_,_,H1,rfl,I1.kept (t':=s1.toks) hk,DW kk _ _ (Nat.succ_ne_self _),⟨⟨_,hen⟩,hit⟩,λb hb=>?_,q1 _ (Wz src)⟩;have hb':b=s1.heap.objs.size+1\/b=s1.heap.objs.size:=by simpa using hb
   rcases hb' with rfl |rfl
   ·exact I1.fpOk (dn _) n2
   ·exact I1.fpOk (ax _) n1
theorem zap(n:Nat):ZApart (n+4) (n+2) (n+3) n (n+1):=
 ⟨(by omega:(n+2:Nat)≠n+4),(by omega:(n+3:Nat)≠n+4),(by omega:(n:Nat)≠n+4),(by omega:(n+1:Nat)≠n+4),(by omega:(n+2:Nat)≠n+3),(by omega:(n+2:Nat)≠n),(by omega:(n+2:Nat)≠n+1),(by omega:(n+3:Nat)≠n),(by omega:(n+3:Nat)≠n+1),(by omega:(n:Nat)≠n+1)⟩
theorem WN(S:Stat Z CX k c E B X){a b:Ex}(iha:OkE Z c E B X a)(ihb:OkE Z c E B X b){tg e:Expr}(h:cM c (.zip a b) tg e=true):PI X tg e (tI X.K B (wpI Z (.zip a b) E)):=by
 replace h:=FP h;obtain ⟨_,_,_,_,_,v,v',pos,rfl,rfl,h⟩:=h
 ·skip
  ·simp only[ae,aT]at h;obtain ⟨⟨⟨⟨e1,h1⟩,hm⟩,h2⟩,h3⟩:=h;subst e1;obtain ⟨g1,g2⟩:=fX h1;have hmg:=S.blt _ (b3.mp hm);have hs2:=cY v' [] X.env (dJ (b8 b h3));have hs:=cY v [v'] X.env (dJ (b8 a h2));intro pins s V H Rr I q;obtain ⟨Y,F,G,e0,he,r,hw⟩:=q;rw[vN]at hw;have hA:aO c (.cons a (.cons b .nil)) [v,v']=true:=by
    unfold aO aO aO;show (aa c a v&&(aa c b v'&&true))=true;rw[h2,h3];rfl
   have q':tL X.K B (bc Z (.cons a (.cons b .nil)) E) V H (λvs H1=>∃v v' F1 G1 d d' items items',vs=[v,v']/\R X.K H1 F1 G1/\Rep X.K H1 F1 d v/\Rep X.K H1 F1 d' v'/\itemsOf G1 d=some items/\itemsOf G1 d'=some items'/\∀J,WalkJ X.K H1 F1 (b7 items.1 items'.1) (items.2++items'.2) J->Rr J H1):=by
    refine eF (W:=λds G1=>∃d d' items items',ds=[d,d']/\itemsOf G1 d=some items/\itemsOf G1 d'=some items'/\∀H' F' J,Ext H F H' F'->R X.K H' F' G1->WalkJ X.K H' F' (b7 items.1 items'.1) (items.2++items'.2) J->Rr J H') e0 he r ?_ λds G1 H1 F1 vs q e1 x1 he1 r1 rvs=>?_
    ·rw[iz];refine aL a (λd G1 q=>?_) hw;rw[iz];refine aL b (λd' G2 q=>?_) q;rw[jr];split at q
     ·rename_i items items' hd hd';exact ⟨d,d',items,items',rfl,hd,hd',q⟩
     ·exact q.elim
    ·obtain ⟨d,d',items,items',e2,hd,hd',q⟩:=q;subst e2;obtain ⟨w1,r2,e3,rw1,t2⟩:=rvs;obtain ⟨w2,e4,rw2⟩:=bY t2;subst e4;exact ⟨w1,w2,F1,G1,d,d',items,items',e3,r1,rw1,rw2,hd,hd',λJ w=>q H1 F1 J x1 r1 w⟩
   refine Call_ (ir I (S.glo _ g1) hmg (u:=.type "zip") RN (dr (thn (rJ iha (λh=>rJ ihb (λh=>xm h) h) (c:=c) (es:=[v,v']) hA _ pins s V H _ I q') λus s1 ⟨vs,H1,I1,r1v,q1⟩=>?_) hs (by rw[hs2];rfl)) (eG g2) (cZ g2));obtain ⟨w1,w2,F1,G1,d,d',items,items',e1,r1,rd,rd',hd,hd',q1⟩:=q1;subst e1;obtain ⟨u,u',rfl,ru,ru'⟩:=vals2 r1v;obtain ⟨kk,src⟩:=rQ rd ru hd;obtain ⟨ll,src'⟩:=rQ rd' ru' hd';obtain ⟨vs,sat,_⟩:=src.sat H1 F1 G1 (Ext.refl _ _) r1 (rR hd);obtain ⟨ws,sat',_⟩:=src'.sat H1 F1 G1 (Ext.refl _ _) r1 (rR hd');obtain ⟨its,on⟩:=lw I1 sat;obtain ⟨its',on'⟩:=lw I1 sat';rw[<-src.val,<-src'.val];refine Vq on on' λh' hz hTI hTO p1 p2 hsz hk=>?_;refine wpAny_pyIter_zip hz ?_;have fr:∀j,H1 (s1.heap.objs.size+j)=none:=λj=>I1.hok.fresh (c9 _ _);refine ⟨s1.heap.objs.size+4,[s1.heap.objs.size+4,s1.heap.objs.size+2,s1.heap.objs.size+3,s1.heap.objs.size,s1.heap.objs.size+1],_,_,H1,rfl,I1.kept (t':=s1.toks) hk,
    Vn kk ll (s1.heap.objs.size+4) (s1.heap.objs.size+2) (s1.heap.objs.size+3) s1.heap.objs.size (s1.heap.objs.size+1) (zap s1.heap.objs.size),⟨hz,hTI,⟨_,_,hTO⟩,p1,p2⟩,λb hb=>?_,q1 _ (WD src src')⟩
   have hb':b=s1.heap.objs.size+4\/b=s1.heap.objs.size+2\/b=s1.heap.objs.size+3\/b=s1.heap.objs.size\/b=s1.heap.objs.size+1:=by simpa using hb
   rcases hb' with rfl |rfl |rfl |rfl |rfl
   ·exact I1.fpOk (c9 _ _) (fr 4)
   ·exact I1.fpOk (c9 _ _) (fr 2)
   ·exact I1.fpOk (c9 _ _) (fr 3)
   ·exact I1.fpOk (ax _) (fr 0)
   ·exact I1.fpOk (c9 _ _) (fr 1)
end
section
variable {Z:aj} {CX:CXT} {k:Nat} {c:CT} {E:EK} {B:Bs} {X:Cx}
theorem xF:∀{l:List Str},fj l=true->l.Nodup
 |[],_=>List.nodup_nil
 |x::r,h=>by
  unfold fj at h;rw[ae]at h;refine e7.mpr ⟨λhm=>?_,xF h.2⟩;have:=h.1;rw[b3.mpr hm]at this;cases this
theorem rT{N:List Str}{scope:Scope}:∀{N':List Str}{cap:List (Option Nat)},X.N=N->gJ N scope N' cap=true->Caps X scope N' cap
 |[],[],_,_=>trivial
 |_::N',none::cap,e,h=>rT (N':=N') (cap:=cap) e h
 |x::N',some j::cap,e,h=>by
  unfold gJ at h;simp only[ae,aT]at h;exact ⟨⟨by rw[e];exact h.1.1,h.1.2⟩,rT (N':=N') (cap:=cap) e h.2⟩
 |[],_::_,_,h=>by cases h
 |_::_,[],_,h=>by cases h
theorem lz{scope:Scope}{env:Env}(x:Str):(relabel scope env).names.lookup x=(scope.names.lookup x).map λkk=>if (kk==NameKind.free&&env.scope.kind==.function&&env.kindOf x==some .cell)=true then NameKind.cell else kk:=pZ
theorem Stat.comp(S:Stat Z CX k c E B X){N':List Str}{scope:Scope}(hn:fj N'=true)(cl:List (Str×Addr))(C:Addr)(s₁:Shared)(H₁:Hp)(fp:List Addr)(pn:List (Addr×Obj)):
  Stat Z CX k (c.comp N' scope) noE B (X.comp N' scope cl C s₁ H₁ fp pn) where
 N:=rfl
 nd:=xF hn
 calm:=S.calm
 own:=PassesOwn.never
 kd:=rfl
 vis:=λx h=>by
  have h:iG (scope.names.lookup x)=true:=h;show (relabel scope X.env).names.lookup x=_\/(relabel scope X.env).names.lookup x=_\/(relabel scope X.env).names.lookup x=_;rw[lz];cases e:scope.names.lookup x with
  |none=>rw[e]at h;cases h
  |some kk=>
   rw[e]at h;cases kk with
   | «local»=>exact .inl (by simp[show (NameKind.«local»==NameKind.free)=false by decide])
   |cell=>exact .inr (.inl (by simp[show (NameKind.cell==NameKind.free)=false by decide]))
   |free=>
    by_cases q:(NameKind.free==NameKind.free&&X.env.scope.kind==ScopeKind.function&&X.env.kindOf x==some NameKind.cell)=true
    ·exact .inr (.inl (by simp only[d4,if_pos q]))
    ·exact .inr (.inr (by simp only[d4,if_neg q]))
   |globalExplicit=>cases h
   |globalImplicit=>cases h
 cel:=λx h=>by
  have h:scope.names.lookup x=some .cell\/scope.names.lookup x=some .free:=h;show (relabel scope X.env).names.lookup x=_\/(relabel scope X.env).names.lookup x=_;rw[lz];rcases h with h |h
  ·exact .inl (by rw[h];simp[show (NameKind.cell==NameKind.free)=false by decide])
  ·rw[h];by_cases q:(NameKind.free==NameKind.free&&X.env.scope.kind==ScopeKind.function&&X.env.kindOf x==some NameKind.cell)=true
   ·exact .inl (by simp only[d4,if_pos q])
   ·exact .inr (by simp only[d4,if_neg q])
 glo:=λx h=>by
  have h:scope.names.lookup x=some .globalImplicit:=h;show (relabel scope X.env).names.lookup x=_;rw[lz,h];simp[show (NameKind.globalImplicit==NameKind.free)=false by decide]
 sto:=λx h=>by
  have h:(scope.names.lookup x==some .local||(false&&scope.names.lookup x==some .cell))=true:=h;rw[ej,Bool.or_false,aT]at h;have e:(relabel scope X.env).names.lookup x=some .local:=by rw[lz,h];simp[show (NameKind.«local»==NameKind.free)=false by decide]
  exact ⟨.inl e,.inr e⟩
 room:=S.room
 call:=S.call
 blt:=S.blt
 con:=S.con
 exc:=⟨_,S.nox _,λ_ _ _ _ _ _ _ _ _ _ q=>q.elim,λx G' H' F' h=>h.elim⟩
 nox:=S.nox
 xcl:=λC h=>nZf h
 loc:=λx h=>by show (relabel scope X.env).names.lookup x=_;rw[lz,show scope.names.lookup x=some .local from h];simp[show (NameKind.«local»==NameKind.free)=false by decide]
 xis:=λC h=>nZf h
 mth:=S.mth
 mko:=S.mko
 fld:=S.fld
 xko:=λC f h=>⟨(S.xko C f h).1,λ_ _ z=>nomatch (show false=true from z)⟩
 trc:=λh=>absurd rfl h
theorem WP(S:Stat Z CX k c E B X){t:Tx}(ih:OkT Z c E B X t){ifs:List Expr}(h:lg c t ifs=true):PIf X ifs (tB' X.K B (wpT Z t E)):=by
 unfold lg at h;rw[cK]at h;rcases h with h |h
 ·rw[ae,List.isEmpty_iff]at h;obtain ⟨hy,rfl⟩:=h;cases t with
  |yes=>
   intro pins s W H Q I q;refine Rq pins s W H Q I ?_;obtain ⟨Y,F,G,e0,he,r,hw⟩:=q;rw[vD]at hw;exact hw.now r
  |_=>cases hy
 ·obtain ⟨e,he,h⟩:=bJ h;rw[gO he];exact Br (ih h)
theorem Gp(S:Stat Z CX k c E B X){fz:Bool}{elt:Ex}{tg:Tg}{it:It'}{cond:Tx}{N':List Str}{cap:List (Option Nat)}{scope:Scope}{elt' tg':Expr}{ifs:List Expr}(hn:fj N'=true)
  (ihe:∀{X':Cx},Stat Z CX k (c.comp N' scope) noE B X'->OkE Z (c.comp N' scope) noE B X' elt) (iht:∀{X':Cx},Stat Z CX k (c.comp N' scope) noE B X'->OkT Z (c.comp N' scope) noE B X' cond)
  (hg:cL (c.comp N' scope) tg tg'=true) (hi:lg (c.comp N' scope) cond ifs=true) (he:aa (c.comp N' scope) elt elt'=true)
  {V:L2.St} {H:Hp} {Q:VK} {Y:ak} {F:FZ} {G:DH} (e0:Ext B.H B.F H F) (henv:EnvR X.K H F Y V) (r:R X.K H F G)
  (hw:wpI Z it E Y G λitems g G1=>
   compLoop (λd ρ' G' k'=>aY tg d ρ' G' λρ1=>wpT Z cond noE ρ1 G' λb G2=>match b with |true=>wpE Z elt noE ρ1 G2 λy G3=>k' (some y) ρ1 G3 |false=>k' none ρ1 G2)
    g items [] (cap.map λo=>match o with |none=>none |some j=>(Y[j]?).join) G1 λds G2=>mk fz ds G2 (PV X.K H F Q)):
  tI X.K B (wpI Z it E) V H (λJ H1=>BW true X N' scope tg' (emT ifs elt') J (cO cap V) H1 Q):=by
 refine ⟨Y,F,G,e0,henv,r,kI it (λitems g G1 q H1 F1 J x1 r1 W=>?_) hw⟩;let step:D->ak->DH->(Option D->ak->DH->Prop)->Prop:=λd ρ' G' k'=>aY tg d ρ' G' λρ1=>wpT Z cond noE ρ1 G' λb G2=>match b with |true=>wpE Z elt noE ρ1 G2 λy G3=>k' (some y) ρ1 G3 |false=>k' none ρ1 G2
 let fin:List D->DH->Prop:=λds G2=>mk fz ds G2 (PV X.K H F Q)
 refine ⟨λi m ys σ' H'=>m=items.length - i/\i<=items.length/\∃ρ' F' G' acc,Ext B.H B.F H' F'/\Ext H1 F1 H' F'/\EnvR X.K H' F' ρ' σ'/\R X.K H' F' G'/\Reps X.K H' F' acc ys/\compLoop step g (items.drop i) acc ρ' G' fin,
  ⟨items.length,by simp,eS _,_,F1,G1,[],e0.trans x1,Ext.refl _ _,(henv.ext x1).cap cap,r1,rfl,q⟩,?_⟩
 rintro i m ys σ' H' ⟨rfl,hle,ρ',F',G',acc,eB,e1,he',r',ra,hl⟩;by_cases hlt:i < items.length
 ·have hd:items.drop i=items[i]::items.drop (i+1):=a9 hlt;rw[hd]at hl;obtain ⟨hh,hz,hl⟩:=hl;refine .inr ⟨W.go H' F' G' i e1 r' hh hlt,λ_=>by rw[<-ra.length];exact bp hz szl,λcl C s₁ H₁ fp pn=>?_⟩;have S':=S.comp (scope:=scope) hn cl C s₁ H₁ fp pn;refine ⟨_,tmT _ _,rP S' tg hg,λa ha=>Sd rfl ha (WP S' (iht S') hi) (ihe S' he),λx H2 hy=>?_⟩;obtain ⟨xy,ry,rx⟩:=W.yld H' F' i x H2 items[i] G' e1 r' hh (by simp[hlt]) hy;refine ⟨ρ',F',G',items[i],eB.trans xy,he'.ext xy,ry,rx,fU (λρ1 z σ1 hσ1=>?_) tg hl⟩;unfold tmT;refine jz (eB.trans xy) hσ1 ry z λb G2 H3 F3 z e3 x3 he3 r3=>?_;cases b with
  |true=>
   rw[if_pos rfl];refine aQ e3 he3 r3 z λy G4 H4 F4 v z e4 x4 he4 r4 rv=>?_;exact ⟨items.length - (i+1),by omega,rfl,hlt,ρ1,F4,G4,acc++[y],e4,e1.trans (xy.trans (x3.trans x4)),he4,r4,(Reps.ext (xy.trans (x3.trans x4)) ra).append (Reps.cons rv Reps.nil),z⟩
  |false=>
   rw[if_neg bd];exact ⟨items.length - (i+1),by omega,rfl,hlt,ρ1,F3,G2,acc,e3,e1.trans (xy.trans x3),he3,r3,Reps.ext (xy.trans x3) ra,z⟩
 ·have hi':i=items.length:=by omega
  subst hi';rw[eh]at hl;obtain ⟨hh,hz,hl⟩:=hl;refine .inl ⟨W.stop H' F' G' e1 r' hh,by rw[<-ra.length];exact dq hz,λp hp=>?_⟩;exact gH (d9 (λd G' z=>PV.later z (x1.trans e1)) hl) r' ra p hp
structure CompC(c:CT)(elt:Ex)(tg:Tg)(it:It')(cond:Tx)(N':List Str)(cap:List (Option Nat))(elt' tg' iter:Expr)(ifs:List Expr)(scope:Scope):Prop where
 it:cM c it tg' iter=true
 cap:gJ c.N scope N' cap=true
 sc:jx c scope=true
 nd:fj N'=true
 tg:cL (c.comp N' scope) tg tg'=true
 cd:lg (c.comp N' scope) cond ifs=true
 el:aa (c.comp N' scope) elt elt'=true
theorem Gq(S:Stat Z CX k c E B X){scope:Scope}(h:jx c scope=true):scope.names.all (λy=>y.2 != NameKind.cell)=true/\scope.names.all (λy=>y.2 != NameKind.local||scope.names.lookup y.1==some NameKind.local)=true/\
  scope.names.all (λy=>y.2 != NameKind.free||(X.env.kindOf y.1==some NameKind.cell||X.env.kindOf y.1==some NameKind.free))=true/\scope.kind=.function:=by
 unfold jx at h;simp only[ae,cb]at h;obtain ⟨⟨⟨⟨h1,h2⟩,h3⟩,h4⟩,_⟩:=h;refine ⟨h1,h2,?_,h4⟩;rw[bX]at h3 ⊢;intro y hy;have:=h3 y hy;rw[cK,cK,aT,aT]at this;rw[cK,cK,aT,aT];rcases this with q |q
 ·exact .inl q
 ·exact .inr (S.cel y.1 q)
theorem Gs{fz:Bool}{elt:Ex}{tg:Tg}{it:It'}{cond:Tx}{N:List String}{cap:List (Option Nat)}{e:Expr}(h:aa c (.comp fz elt tg it cond N cap) e=true):
  ∃elt' tg' iter ifs scope pos,e=.ListComp elt' [⟨tg',iter,ifs,0⟩] scope pos/\CompC c elt tg it cond (N.map Str.ofString) cap elt' tg' iter ifs scope:=by
 replace h:=Fy h;obtain ⟨_,_,_,_,_,_,_,rfl,h⟩:=h;simp only[ae,cb]at h;obtain ⟨⟨⟨⟨⟨⟨⟨h1,h2⟩,h3⟩,h4⟩,h5⟩,h6⟩,h7⟩,h8⟩:=h;subst h1;exact ⟨_,_,_,_,_,_,rfl,h2,h3,h4,h5,h6,h7,h8⟩
theorem xG{it:It'}{tg' iter:Expr}(h:cM c it tg' iter=true)(env:Env)(x:Value):foldedSetIterable iter env x=pure x:=by
 cases it with
 |seq y=>exact VV (b8 y (show aa c y iter=true from h)) env x
 |rng a=>obtain ⟨_,_,_,_,rfl,_⟩:=FJ h;rfl
 |enm a=>obtain ⟨_,_,_,_,_,_,_,_,rfl,_⟩:=FN h;rfl
 |zip a b=>obtain ⟨_,_,_,_,_,_,_,_,_,rfl,_⟩:=FP h;rfl
theorem WQ(S:Stat Z CX k c E B X){fz:Bool}{elt:Ex}{tg:Tg}{it:It'}{cond:Tx}{N:List String}{cap:List (Option Nat)}
  (ihe:∀{c':CT}{X':Cx},Stat Z CX k c' noE B X'->OkE Z c' noE B X' elt) (iht:∀{c':CT}{X':Cx},Stat Z CX k c' noE B X'->OkT Z c' noE B X' cond)
  (ihi:∀{tg' iter:Expr},cM c it tg' iter=true->PI X tg' iter (tI X.K B (wpI Z it E))) {e:Expr} (h:aa c (.comp fz elt tg it cond N cap) e=true):
  PE X e (tE X.K B (wpE Z (.comp fz elt tg it cond N cap) E)):=by
 obtain ⟨elt',tg',iter,ifs,scope,pos,rfl,C⟩:=Gs h;obtain ⟨s1,s2,s3,s4⟩:=Gq S C.sc;refine peI (Sg (lim:=true) (N.map Str.ofString) cap S.calm (ihi C.it) (rT S.N C.cap) s1 s2 s3 s4 (xG C.it X.env) (BV _ _ _ _ _ _)) λW H Q hq=>el hq λY F G e0 he r hw=>?_;rw[wH]at hw;exact Gp S C.nd (λS'=>ihe S') (λS'=>iht S') C.tg C.cd C.el e0 he r hw
theorem cu{x:Ex}(ih:OkE Z c E B X x)(hn:∀l os rs pos,aa c x (.Compare l os rs pos)=true->False){e:Expr}(h:bL c (.val x) e=true):PT X e (tB' X.K B (wpT Z (.val x) E)):=by
 have h:((iH e||kZ e)&&aa c x e&&Ep x)=true:=h;simp only[ae,cK]at h;obtain ⟨⟨h1,h2⟩,h3⟩:=h;rcases h1 with h1 |h1
 ·exact Wr ih h1 h2
 ·obtain ⟨⟨t,ht⟩,_⟩:=bB.mp h1;rw[ht]at h2;exact (hn _ _ _ _ h2).elim
end
mutual
theorem aD{Z:aj}{CX:CXT}{k:Nat}{B:Bs}:∀(x:Ex){c:CT}{E:EK}{X:Cx},Stat Z CX k c E B X->OkE Z c E B X x
 |.var i,c,E,X,S=>λh=>V5 S h
 |.cst d,c,E,X,S=>λh=>V6 S h
 |.glb x d,c,E,X,S=>λh=>V7 S h
 |.bin op fz a b,c,E,X,S=>λh=>V8 S (aD a S) (aD b S) h
 |.neg a,c,E,X,S=>λh=>V9 S (aD a S) h
 |.cmp op a b,c,E,X,S=>λh=>(Gd S (aD a S) (aD b S) h).1
 |.chn op op' a b d,c,E,X,S=>λh=>(Ge S (aD a S) (aD b S) (aD d S) h).1
 |.not a,c,E,X,S=>λh=>Wa S (aD a S) h
 |.boo isAnd e es,c,E,X,S=>λh=>Wo (aD e S) (gQ es S) h
 |.ife t a b,c,E,X,S=>λh=>Wq (iK t S) (aD a S) (aD b S) h
 |.tup es,c,E,X,S=>λh=>Wb S (EachE.oks (gQ es S)) h
 |.lst fz es,c,E,X,S=>λh=>Wc S (EachE.oks (gQ es S)) h
 |.idx a i,c,E,X,S=>λh=>Wd S (aD a S) (aD i S) h
 |.slc fz a lo hi,c,E,X,S=>λh=>We S (aD a S) (Gv lo S) (Gv hi S) h
 |.call f es,c,E,X,S=>λh=>Wg S (EachE.oks (gQ es S)) h
 |.bcl f es,c,E,X,S=>λh=>Wh S (EachE.oks (gQ es S)) h
 |.lcl fz f es,c,E,X,S=>λh=>Wj S (EachE.oks (gQ es S)) h
 |.isi a t,c,E,X,S=>λh=>Wl S (aD a S) h
 |.mth m o es,c,E,X,S=>λh=>Wn S (aD o S) (EachE.oks (gQ es S)) h
 |.comp fz elt tg it cond N cap,c,E,X,S=>λh=>WQ S (λS'=>aD elt S') (λS'=>iK cond S') (xH it S) h
 |.frz a,c,E,X,S=>λh=>Wf S (aD a S) h
theorem gQ{Z:aj}{CX:CXT}{k:Nat}{B:Bs}:∀(x:Exs){c:CT}{E:EK}{X:Cx},Stat Z CX k c E B X->EachE Z c E B X x
 |.nil,_,_,_,_=>trivial
 |.cons e es,c,E,X,S=>⟨aD e S,gQ es S⟩
theorem iK{Z:aj}{CX:CXT}{k:Nat}{B:Bs}:∀(x:Tx){c:CT}{E:EK}{X:Cx},Stat Z CX k c E B X->OkT Z c E B X x
 |.not t,c,E,X,S=>λh=>Ws (iK t S) h
 |.boo isAnd t ts,c,E,X,S=>λh=>Wt (iK t S) (Gu ts S) h
 |.yes,c,E,X,S=>λh=>nZf h
 |.val (.cmp op a b),c,E,X,S=>by
  intro h;have h:((iH _||kZ _)&&aa c (.cmp op a b) _&&true)=true:=h;simp only[ae]at h;exact (Gd S (aD a S) (aD b S) h.1.2).2
 |.val (.chn op op' a b d),c,E,X,S=>by
  intro h;have h:((iH _||kZ _)&&aa c (.chn op op' a b d) _&&true)=true:=h;simp only[ae]at h;exact (Ge S (aD a S) (aD b S) (aD d S) h.1.2).2
 |.val (.frz a),c,E,X,S=>by
  intro h;have h:((iH _||kZ _)&&aa c (.frz a) _&&false)=true:=h;rw[fo]at h;cases h
 |.val (.var i),c,E,X,S=>λh=>cu (aD (.var i) S) (λ_ _ _ _ h=>nZf h) h
 |.val (.cst d),c,E,X,S=>λh=>cu (aD (.cst d) S) (λ_ _ _ _ h=>nZf h) h
 |.val (.glb x d),c,E,X,S=>λh=>cu (aD (.glb x d) S) (λ_ _ _ _ h=>nZf h) h
 |.val (.bin op fz a b),c,E,X,S=>λh=>cu (aD (.bin op fz a b) S) (λ_ _ _ _ h=>nZf h) h
 |.val (.neg a),c,E,X,S=>λh=>cu (aD (.neg a) S) (λ_ _ _ _ h=>nZf h) h
 |.val (.not a),c,E,X,S=>λh=>cu (aD (.not a) S) (λ_ _ _ _ h=>nZf h) h
 |.val (.boo isAnd e es),c,E,X,S=>λh=>cu (aD (.boo isAnd e es) S) (λ_ _ _ _ h=>nZf h) h
 |.val (.ife t a b),c,E,X,S=>λh=>cu (aD (.ife t a b) S) (λ_ _ _ _ h=>nZf h) h
 |.val (.tup es),c,E,X,S=>λh=>cu (aD (.tup es) S) (λ_ _ _ _ h=>nZf h) h
 |.val (.lst fz es),c,E,X,S=>λh=>cu (aD (.lst fz es) S) (λ_ _ _ _ h=>nZf h) h
 |.val (.idx a i),c,E,X,S=>λh=>cu (aD (.idx a i) S) (λ_ _ _ _ h=>nZf h) h
 |.val (.slc fz a lo hi),c,E,X,S=>λh=>cu (aD (.slc fz a lo hi) S) (λ_ _ _ _ h=>nZf h) h
 |.val (.call f es),c,E,X,S=>λh=>cu (aD (.call f es) S) (λ_ _ _ _ h=>nZf h) h
 |.val (.bcl f es),c,E,X,S=>λh=>cu (aD (.bcl f es) S) (λ_ _ _ _ h=>nZf h) h
 |.val (.lcl fz f es),c,E,X,S=>λh=>cu (aD (.lcl fz f es) S) (λ_ _ _ _ h=>nZf h) h
 |.val (.isi a t),c,E,X,S=>λh=>cu (aD (.isi a t) S) (λ_ _ _ _ h=>nZf h) h
 |.val (.mth m o es),c,E,X,S=>λh=>cu (aD (.mth m o es) S) (λ_ _ _ _ h=>nZf h) h
 |.val (.comp fz elt tg it cond N cap),c,E,X,S=>λh=>cu (aD (.comp fz elt tg it cond N cap) S) (λ_ _ _ _ h=>nZf h) h
theorem Gu{Z:aj}{CX:CXT}{k:Nat}{B:Bs}:∀(x:Txs){c:CT}{E:EK}{X:Cx},Stat Z CX k c E B X->rM Z c E B X x
 |.nil,_,_,_,_=>trivial
 |.cons e es,c,E,X,S=>⟨iK e S,Gu es S⟩
theorem Gv{Z:aj}{CX:CXT}{k:Nat}{B:Bs}:∀(x:Ox){c:CT}{E:EK}{X:Cx},Stat Z CX k c E B X->∀y,x=.ob y->OkE Z c E B X y
 |.no,c,E,X,S,y,e=>by cases e
 |.ob z,c,E,X,S,y,e=>by injection e with e;subst e;exact aD z S
theorem xH{Z:aj}{CX:CXT}{k:Nat}{B:Bs}:∀(x:It'){c:CT}{E:EK}{X:Cx},Stat Z CX k c E B X->∀{tg e:Expr},cM c x tg e=true->PI X tg e (tI X.K B (wpI Z x E))
 |.seq y,c,E,X,S,tg,e,h=>WK (aD y S) (show aa c y e=true from h)
 |.rng a,c,E,X,S,tg,e,h=>WL S (aD a S) h
 |.enm a,c,E,X,S,tg,e,h=>WM S (aD a S) h
 |.zip a b,c,E,X,S,tg,e,h=>WN S (aD a S) (aD b S) h
end
def EnD(K:PF)(H:Hp)(F:FZ)(D:Ends):En where
 nx:=λY G'=>∀H' F' σ',Ext H F H' F'->EnvR K H' F' Y σ'->R K H' F' G'->D.nx σ' H'
 rt:=PV K H F D.rt
 bk:=λY G'=>∀H' F' σ',Ext H F H' F'->EnvR K H' F' Y σ'->R K H' F' G'->D.bk σ' H'
 ct:=λY G'=>∀H' F' σ',Ext H F H' F'->EnvR K H' F' Y σ'->R K H' F' G'->D.ct σ' H'
theorem EnD.later{K:PF}{H H1:Hp}{F F1:FZ}{D:Ends}(x:Ext H F H1 F1):(EnD K H F D).Le (EnD K H1 F1 D):=
 ⟨λ_ _ h H' F' σ' x1=>h H' F' σ' (x.trans x1),λ_ _ h=>PV.later h x,λ_ _ h H' F' σ' x1=>h H' F' σ' (x.trans x1),λ_ _ h H' F' σ' x1=>h H' F' σ' (x.trans x1)⟩
def tS(K:PF)(B:Bs)(w:ak->DH->En->Prop):TS:=λD X H=>∃Y F G,Ext B.H B.F H F/\EnvR K H F Y X/\R K H F G/\w Y G (EnD K H F D)
theorem psI{X:Cx}{st:Stmt}{t t':TS}(h:PS X st t)(i:∀D Y H,t' D Y H->t D Y H):PS X st t':=λpins s Y H D I q=>h pins s Y H D I (i D Y H q)
theorem Gw{X:Cx}{st:List Stmt}{t t':TS}(h:PSs X st t)(i:∀D Y H,t' D Y H->t D Y H):PSs X st t':=λpins s Y H D I q=>h pins s Y H D I (i D Y H q)
theorem xJ{e:Expr}(h:dw e=false)(t:Option Expr)(n:Nat)(env:Env):swapsWith e t n env=pure false:=by cases e <;> first |rfl |exact nomatch (show true=false from h)
theorem Gx{e:Expr}(h:dw e=false)(t:Expr)(n:Nat)(env:Env):swapsWithSole [t] e n env=pure false:=xJ h _ _ _
section
variable {Z:aj} {CX:CXT} {k:Nat} {c:CT} {E:EK} {B:Bs} {X:Cx}
abbrev OkS(Z:aj)(c:CT)(E:EK)(B:Bs)(X:Cx)(x:Sx):Prop:=∀{st:Stmt},bA c x st=true->PS X st (tS X.K B (wpS Z x E))
abbrev lA(Z:aj)(c:CT)(E:EK)(B:Bs)(X:Cx)(x:Sxs):Prop:=∀{st:List Stmt},aC c x st=true->PSs X st (tS X.K B (au Z x E))
theorem WR(S:Stat Z CX k c E B X){x:Ex}{st:Stmt}(h:bA c (.exp x) st=true):PS X st (tS X.K B (wpS Z (.exp x) E)):=by
 replace h:=VB h;obtain ⟨_,_,rfl,h⟩:=h
 ·rw[ae]at h;refine psI (OJ (aD x S h.2) (xJ (by simpa using h.1) _ _ _)) λD W H hq=>el hq λY F G e0 he r hw=>?_;rw[wk]at hw;exact aQ e0 he r hw λd G1 H1 F1 v q e1 x1 he1 r1 rv=>q _ _ _ x1 he1 r1
theorem WT(S:Stat Z CX k c E B X){i:Nat}{x:Ex}{st:Stmt}(h:bA c (.asg (.nm i) x) st=true):PS X st (tS X.K B (wpS Z (.asg (.nm i) x) E)):=by
 replace h:=FQ h;obtain ⟨tg,e,pos,rfl,h⟩:=h
 ·simp only[ae]at h;obtain ⟨⟨h1,h2⟩,h3⟩:=h;have h3:(!dw e||Es x)=true:=h3;replace h1:=xg h1;obtain ⟨y,py,rfl,h1⟩:=h1
  ·rw[ae,aT]at h1;obtain ⟨l,f⟩:=S.sto y h1.2;have hi:X.N[i]?=some y:=by rw[S.N];exact h1.1
   have go:∀(D:Ends)(W:L2.St)(H:Hp),tS X.K B (wpS Z (.asg (.nm i) x) E) D W H->pP (tE X.K B (wpE Z x E)) (jZ i) D W H:=λD W H hq=>el hq λY F G e0 he r hw=>by
    rw[kE]at hw;refine aQ e0 he r hw λd G1 H1 F1 v q e1 x1 he1 r1 rv=>?_;unfold aY at q;exact q _ _ _ x1 (he1.set rv i) r1
   cases hc:dw e with
   |false=>exact psI (uD S.nd hi l (aD x S h2) (xJ hc _ _ _) f) go
   |true=>
    rw[hc,Bool.not_true,Bool.false_or]at h3;cases x with
    |comp fz elt tg it cond N cap=>
     obtain ⟨elt',tg',iter,ifs,scope,pos',rfl,C⟩:=Gs h2;obtain ⟨s1,s2,s3,s4⟩:=Gq S C.sc;have hb:∃b:Bool,swapsWith (.ListComp elt' [⟨tg',iter,ifs,0⟩] scope pos') (some (.Name y py)) pos.line X.env=pure b:=⟨_,rfl⟩;obtain ⟨b,hb⟩:=hb;cases b with
     |false=>exact psI (uD S.nd hi l (aD _ S h2) hb f) go
     |true=>
      refine psI (Sq (lim:=true) (BV _ _ _ _ _ _) S.nd hi l (N.map Str.ofString) cap S.calm (xH it S C.it) (rT S.N C.cap) s1 s2 s3 s4 (xG C.it X.env) hb f) λD W H hq=>el hq λY F G e0 he r hw=>?_;rw[kE]at hw;rw[wH]at hw;refine Gp (fz:=fz) (Q:=λv H1=>D.nx (W.set i (some v)) H1) S C.nd (λS'=>aD elt S') (λS'=>iK cond S') C.tg C.cd C.el e0 he r (kI it (λitems g G1 q=>?_) hw);refine qM (λd ρ' G' k1 k2 hk z=>fU (λρ1 z=>eE cond (λb G2 z=>by
       cases b with
       |true=>exact aL elt (λy G3 z=>hk _ _ _ z) z
       |false=>exact hk _ _ _ z) z) tg z) ?_ _ _ _ _ q
      ·intro ds G2 q;refine d9 (λd G3 q=>?_) q;intro H1 F1 v x1 r1 rv;unfold aY at q;exact q _ _ _ x1 ((he.ext x1).set rv i) r1
    |_=>cases h3
theorem WW(S:Stat Z CX k c E B X){ts:Tgs}{x:Ex}{st:Stmt}(h:bA c (.asg (.tp ts) x) st=true):PS X st (tS X.K B (wpS Z (.asg (.tp ts) x) E)):=by
 replace h:=FQ h;obtain ⟨tg,e,pos,rfl,h⟩:=h
 ·rw[ae,ae]at h;have h34:(!Et e&&!dw e)=true:=h.2;obtain ⟨h1,h2⟩:=h.1;rw[ae,fm,fm]at h34;obtain ⟨h3,h4⟩:=h34;have hg:=rP S (.tp ts) h1;replace h1:=xj h1;obtain ⟨_,_,_,rfl,h1⟩:=h1
  ·refine psI (z7 (aD x S h2) hg (Gx h4 _ _ _) ?_ rfl) λD W H hq=>el hq λY F G e0 he r hw=>?_
   ·cases e <;> first |rfl |exact nomatch (show true=false from h3)
   ·rw[kE]at hw;refine aQ e0 he r hw λd G1 H1 F1 v q e1 x1 he1 r1 rv=>?_;exact ⟨Y,F1,G1,d,e1,he1,r1,rv,fU (λρ' z σ' hσ=>z H1 F1 σ' x1 hσ r1) (.tp ts) q⟩
theorem WX(S:Stat Z CX k c E B X){o i x:Ex}{st:Stmt}(h:bA c (.set o i x) st=true):PS X st (tS X.K B (wpS Z (.set o i x) E)):=by
 replace h:=VD h;obtain ⟨o',i',tpos,e,pos,rfl,h⟩:=h
 ·simp only[ae,fm]at h;obtain ⟨⟨⟨h1,h2⟩,h3⟩,h4⟩:=h;have hi:=b8 i h2;refine psI (z7 (aD x S h3) (Pb (aD o S h1) (aD i S h2) DQ ?_) (Gx h4 _ _ _) ?_ rfl) λD W H hq=>el hq λY F G e0 he r hw=>?_
  ·intro v;cases i' <;> first |rfl |exact nomatch (show false=true from hi)
  ·cases e <;> rfl
  ·rw[wu]at hw;refine aQ e0 he r hw λd G1 H1 F1 v q e1 x1 he1 r1 rv=>?_;refine aQ e1 he1 r1 q λa G2 H2 F2 w q e2 x2 he2 r2 rw'=>?_;refine aQ e2 he2 r2 q λy G3 H3 F3 u q e3 x3 he3 r3 ru=>?_;refine ⟨F3,G3,a,y,d,r3,rw'.ext x3,ru,rv.ext (x2.trans x3),qK (λG4 q=>?_) q⟩;intro H4 F4 x4 r4;exact q _ _ _ (x1.trans (x2.trans (x3.trans x4))) (he3.ext x4) r4
theorem WY(S:Stat Z CX k c E B X){i:Nat}{op:Operator}{x:Ex}{st:Stmt}(h:bA c (.aug i op x) st=true):PS X st (tS X.K B (wpS Z (.aug i op x) E)):=by
 replace h:=VF h;obtain ⟨y,py,o,e,pos,rfl,h⟩:=h
 ·simp only[ae,aT]at h;obtain ⟨⟨⟨⟨rfl,h1⟩,h2⟩,h3⟩,h4⟩:=h;obtain ⟨l,f⟩:=S.sto y h2;refine psI (Ph S.nd (by rw[S.N];exact h1) l (aD x S h4) (DR o) f) λD W H hq=>el hq λY F G e0 he r hw=>?_;rw[ww]at hw;split at hw
  ·rename_i a ha;obtain ⟨v,e1,rv⟩:=he.get ha;refine ⟨v,e1,aQ e0 he r hw λb G1 H1 F1 u q e1 x1 he1 r1 ru=>?_⟩;refine ⟨F1,G1,a,b,r1,rv.ext x1,ru,qL (λd q=>?_) q⟩;intro H2 F2 w x2 r2 rw';exact q _ _ _ (x1.trans x2) ((he1.ext x2).set rw' i) r2
  ·exact hw.elim
theorem W0(S:Stat Z CX k c E B X){o i:Ex}{op:Operator}{x:Ex}{st:Stmt}(h:bA c (.augs o i op x) st=true):PS X st (tS X.K B (wpS Z (.augs o i op x) E)):=by
 replace h:=VG h;obtain ⟨o',i',tpos,p,e,pos,rfl,h⟩:=h
 ·simp only[ae,aT]at h;obtain ⟨⟨⟨rfl,h1⟩,h2⟩,h3⟩:=h;have hi:=b8 i h2;refine psI (Pk (aD o S h1) (aD i S h2) Vf (aD x S h3) (DR p) DQ ?_) λD W H hq=>el hq λY F G e0 he r hw=>?_
  ·intro a b d;cases i' <;> first |rfl |exact nomatch (show false=true from hi)
  ·rw[wy]at hw;refine aQ e0 he r hw λa G1 H1 F1 v q e1 x1 he1 r1 rv=>?_;refine aQ e1 he1 r1 q λy G2 H2 F2 u q e2 x2 he2 r2 ru=>?_;refine ⟨F2,G2,a,y,r2,rv.ext x2,ru,qI (λold q=>?_) q⟩;intro H3 F3 w x3 r3 rw';refine aQ (e2.trans x3) (he2.ext x3) r3 q λb G4 H4 F4 z q e4 x4 he4 r4 rz=>?_;refine ⟨F4,G4,old,b,r4,rw'.ext x4,rz,qL (λcc q=>?_) q⟩;intro H5 F5 z' x5 r5 rz';refine ⟨F5,G4,a,y,cc,r5,rv.ext (x2.trans (x3.trans (x4.trans x5))),ru.ext (x3.trans (x4.trans x5)),rz',qK (λG6 q=>?_) q⟩;intro H6 F6 x6 r6;exact q _ _ _ (x1.trans (x2.trans (x3.trans (x4.trans (x5.trans x6))))) (he4.ext (x5.trans x6)) r6
theorem W2(S:Stat Z CX k c E B X){x:Ex}{st:Stmt}(h:bA c (.ret x) st=true):PS X st (tS X.K B (wpS Z (.ret x) E)):=by
 replace h:=VH h;obtain ⟨_,_,rfl,h⟩:=h
 ·refine psI (zY (aD x S h)) λD W H hq=>el hq λY F G e0 he r hw=>?_;rw[wz]at hw;exact ⟨Y,F,G,e0,he,r,hw⟩
theorem W3{st:Stmt}(h:bA c .rtn st=true):PS X st (tS X.K B (wpS Z .rtn E)):=by
 replace h:=VJ h;obtain ⟨_,rfl,h⟩:=h
 ·refine psI O2 λD W H hq=>el hq λY F G e0 he r hw=>?_;rw[wA]at hw;exact hw.now r rfl
theorem W4(S:Stat Z CX k c E B X){t:Tx}{a b:Sxs}(iha:lA Z c E B X a)(ihb:lA Z c E B X b){st:Stmt}(h:bA c (.ite t a b) st=true):PS X st (tS X.K B (wpS Z (.ite t a b) E)):=by
 replace h:=VL h;obtain ⟨_,_,_,_,rfl,h⟩:=h
 ·simp only[ae]at h;obtain ⟨⟨h1,h2⟩,h3⟩:=h;refine psI (O4 (iK t S h1) (iha h2) (ihb h3)) λD W H hq=>el hq λY F G e0 he r hw=>?_;rw[wB]at hw;refine jz e0 he r hw λb' G1 H1 F1 q e1 x1 he1 r1=>?_;cases b' with
  |true=>
   rw[if_pos rfl];exact ⟨Y,F1,G1,e1,he1,r1,eZ a (EnD.later x1) q⟩
  |false=>
   rw[if_neg bd];exact ⟨Y,F1,G1,e1,he1,r1,eZ b (EnD.later x1) q⟩
theorem W5(S:Stat Z CX k c E B X){t:Tg}{it:It'}{b:Sxs}(ihb:lA Z c E B X b){st:Stmt}(h:bA c (.for_ t it b) st=true):PS X st (tS X.K B (wpS Z (.for_ t it b) E)):=by
 replace h:=VM h;obtain ⟨tg,iter,body,pos,rfl,h⟩:=h
 ·simp only[ae]at h;obtain ⟨⟨h1,h2⟩,h3⟩:=h;refine psI (Ac S.own S.calm (xH it S h2) (rP S t h1) (ihb h3) (xG h2 X.env)) λD V H hq=>el hq λY F G e0 he r hw=>?_;rw[CW]at hw;refine ⟨Y,F,G,e0,he,r,kI it (λitems g G1 q H1 F1 J x1 r1 W=>?_) hw⟩;let step:RF.D->ak->DH->(ak->DH->Prop)->Prop:=λd ρ' G' k=>aY t d ρ' G' λρ1=>au Z b E ρ1 G' { EnD X.K H F D with nx:=k,ct:=k,bk:=(EnD X.K H F D).nx }
  let P:Nat->L2.St->Hp->Prop:=λi σ' H'=>∃ρ' F' G',Ext B.H B.F H' F'/\Ext H1 F1 H' F'/\EnvR X.K H' F' ρ' σ'/\R X.K H' F' G'/\forLoop step g (items.drop i) ρ' G' (EnD X.K H F D).nx
  refine ⟨λi m σ' H'=>m=items.length - i/\i<=items.length/\P i σ' H',⟨items.length,by simp,eS _,Y,F1,G1,e0.trans x1,Ext.refl _ _,he.ext x1,r1,q⟩,?_⟩;rintro i m σ' H' ⟨rfl,hle,ρ',F',G',eB,e1,he',r',hl⟩;by_cases hlt:i < items.length
  ·have hd:items.drop i=items[i]::items.drop (i+1):=a9 hlt;rw[hd]at hl;obtain ⟨hh,hl⟩:=hl;refine .inr ⟨W.go H' F' G' i e1 r' hh hlt,P (i+1),λσ2 H2 p=>⟨items.length - (i+1),by omega,rfl,hlt,p⟩,λx H2 hy=>?_⟩;obtain ⟨xy,ry,rx⟩:=W.yld H' F' i x H2 items[i] G' e1 r' hh (by simp[hlt]) hy;refine ⟨ρ',F',G',items[i],eB.trans xy,he'.ext xy,ry,rx,fU (λρ1 z σ1 hσ1=>?_) t hl⟩;refine ⟨ρ1,F',G',eB.trans xy,hσ1,ry,eZ b (D:={ EnD X.K H F D with nx:=λρ' G'=>forLoop step g (items.drop (i+1)) ρ' G' (EnD X.K H F D).nx,ct:=λρ' G'=>forLoop step g (items.drop (i+1)) ρ' G' (EnD X.K H F D).nx,bk:=(EnD X.K H F D).nx }) ⟨λρ2 G2 z H3 F3 σ3 x3 he3 r3=>?_,λd G2 z=>PV.later z (x1.trans (e1.trans xy)),λρ2 G2 z H3 F3 σ3 x3=>z H3 F3 σ3 (x1.trans (e1.trans (xy.trans x3))),λρ2 G2 z H3 F3 σ3 x3 he3 r3=>?_⟩ z⟩
   ·exact ⟨ρ2,F3,G2,eB.trans (xy.trans x3),e1.trans (xy.trans x3),he3,r3,z⟩
   ·exact ⟨ρ2,F3,G2,eB.trans (xy.trans x3),e1.trans (xy.trans x3),he3,r3,z⟩
  ·have hi':i=items.length:=by omega
   subst hi';rw[eh]at hl;exact .inl ⟨W.stop H' F' G' e1 r' hl.1,hl.2 _ _ _ (x1.trans e1) he' r'⟩
theorem W6{st:List Stmt}(h:aC c .nil st=true):PSs X st (tS X.K B (au Z .nil E)):=by
 unfold aC at h;cases st with
 |nil=>exact Gw Oq λD W H hq=>el hq λY F G e0 he r hw=>by rw[kh]at hw;exact hw _ _ _ (Ext.refl _ _) he r
 |cons _ _=>cases h
theorem W7{x:Sx}{xs:Sxs}(ih:OkS Z c E B X x)(ihs:lA Z c E B X xs){st:List Stmt}(h:aC c (.cons x xs) st=true):PSs X st (tS X.K B (au Z (.cons x xs) E)):=by
 unfold aC at h;split at h
 ·rw[ae]at h;refine Gw (jX (ih h.1) (ihs h.2)) λD W H hq=>el hq λY F G e0 he r hw=>?_;rw[kj]at hw;refine ⟨Y,F,G,e0,he,r,wpS_mono x (D:={ EnD X.K H F D with nx:=λρ' G'=>au Z xs E ρ' G' (EnD X.K H F D) }) ⟨λρ1 G1 q H1 F1 σ1 x1 he1 r1=>?_,λ_ _ z=>z,λ_ _ z=>z,λ_ _ z=>z⟩ hw⟩;exact ⟨ρ1,F1,G1,e0.trans x1,he1,r1,eZ xs (EnD.later x1) q⟩
 ·cases h
end
mutual
theorem Gy{Z:aj}{CX:CXT}{k:Nat}{B:Bs}{c:CT}{E:EK}{X:Cx}(S:Stat Z CX k c E B X):∀(x:Sx),OkS Z c E B X x
 |.exp e=>λh=>WR S h
 |.asg (.nm i) e=>λh=>WT S h
 |.asg (.tp ts) e=>λh=>WW S h
 |.set o i e=>λh=>WX S h
 |.aug i op e=>λh=>WY S h
 |.augs o i op e=>λh=>W0 S h
 |.ret e=>λh=>W2 S h
 |.rtn=>λh=>W3 h
 |.ite t a b=>λh=>W4 S (lB S a) (lB S b) h
 |.for_ t it b=>λh=>W5 S (lB S b) h
 |.pas=>by
  intro h;obtain ⟨_,rfl,_⟩:=VN h;exact psI Ov λD W H hq=>el hq λY F G e0 he r hw=>by rw[wC]at hw;exact hw _ _ _ (Ext.refl _ _) he r
 |.brk=>by
  intro h;obtain ⟨_,rfl,_⟩:=VP h;exact psI Ow λD W H hq=>el hq λY F G e0 he r hw=>by rw[wD]at hw;exact hw _ _ _ (Ext.refl _ _) he r
 |.cnt=>by
  intro h;obtain ⟨_,rfl,_⟩:=VR h;exact psI Oz λD W H hq=>el hq λY F G e0 he r hw=>by rw[wF]at hw;exact hw _ _ _ (Ext.refl _ _) he r
 |.nev=>by
  intro h;exact psI O6 λD W H hq=>el hq λY F G e0 he r hw=>by rw[wG]at hw;exact hw.elim
theorem lB{Z:aj}{CX:CXT}{k:Nat}{B:Bs}{c:CT}{E:EK}{X:Cx}(S:Stat Z CX k c E B X):∀(x:Sxs),lA Z c E B X x
 |.nil=>λh=>W6 h
 |.cons s r=>λh=>W7 (Gy S s) (lB S r) h
end
end RF
namespace L2
open PySem PySem.Spec PyProof.Rows
theorem Fun.okX{P:Program}{w:World}{K:PF}{mg:Str->Option Value}{base:Heap}{CX:CXT}{x qual:Str}{st:Stmt}{f:Addr}{fd:FuncData}{N ps:List Str}{k:Nat}{sp:Sp}(F:Fun K x qual st f fd)(S:FnScope N ps (ao st))(len:∀vs H Q E,sp vs H Q E->vs.length=ps.length)
  (hbody:∀(cdv:Value)(A:Around)(outer:List Env)(s:Shared)(H:Hp)(vs:List V)(Q:VK)(E:XK),Room k (A.deeper (envOfC qual (ao st) (~~~s) f cdv))->sp vs H Q E->
   ∃t,PSs (di CX P w K mg base N qual (ao st) f cdv A outer s H E) (aG st) t/\t { nx:=λ_ H'=>Q .non H',rt:=Q } (start N vs) H):FnOk P w K mg base CX (k+1) f fd ps sp:=by
 obtain ⟨oc,od,kV,doc,pm,an,cdv,ct,osl,rfl,lk,hcd⟩:=F.ex;exact Qy lk hcd S len λA outer s H vs Q E hr hsp=>hbody cdv A outer s H vs Q E hr hsp
theorem FnOk.cx{P:Program}{w:World}{K:PF}{mg:Str->Option Value}{base:Heap}{k:Nat}{CX:CXT}{f:Addr}{fd:FuncData}{ps:List Str}{sp:Sp}(F:FnOk P w K mg base CX0 k f fd ps sp):FnOk P w K mg base CX k f fd ps sp:=
 ⟨F.len,λA outer s H args us vs Q E hr he hb hv hs=>codeAny_mono (F.run A outer s H args us vs Q E hr he hb hv hs) λr s' hq=>by
  cases r with
  |error e=>exact False.elim hq
  |ok fl=>cases fl <;> exact hq⟩
end L2
namespace RF
open PySem PySem.Spec PyProof.Rows L2
def fnB(N ps:List Str)(sc:Scope):Bool:=
 decide (sc.kind=.function)&&!sc.isCoroutine&&!sc.isGenerator&&fj N&&(N.take ps.length==ps)&&ps.all (λx=>sc.names.lookup x==some .local||sc.names.lookup x==some .cell)&&sc.names.all (λy=>y.2 != .free)
theorem xK{N ps:List Str}{sc:Scope}(h:fnB N ps sc=true):FnScope N ps sc:=by unfold fnB at h;simp only[ae,fm,cb,aT,bX,cK,bne_iff_ne]at h;obtain ⟨⟨⟨⟨⟨⟨h1,h2⟩,h3⟩,h4⟩,h5⟩,h6⟩,h7⟩:=h;exact ⟨h1,h2,h3,xF h4,h5,h6,λy hy=>h7 y hy⟩
structure Bse(Z:aj)(P:Program)(w:World)(K:PF)(mg:Str->Option Value)(base:Heap)(CX:CXT)(k:Nat)(fs:List (String×Nat))(bt:List String)(cn:List (String×D))(xs:List (String×Bool))(ot:OT):Prop where
 call:∀f n,(f,n)∈fs->∃fa fd ps,FnOk P w K mg base CX k fa fd ps (lift K n (Z f))/\PySem.W.keepIn K (.ref fa)=true/\Binds K fd ps []/\mg (Str.ofString f)=some (.ref fa)
 blt:∀f,f∈bt->mg (Str.ofString f)=none
 con:∀x d,(x,d)∈cn->∃u v,mg (Str.ofString x)=some u/\RelV v u/\∀H F,Rep K H F d v
 xcl:∀C,xs.contains (C,true)=true->∃a,mg (Str.ofString C)=some (.ref a)/\p7 K a=true/\PySem.W.nsIn K mainGlobals (Str.ofString C)=some (some (.ref a))
 xis:∀C',xs.contains (C',false)=true->∃cv,CV K mg C' cv/\∀C,xs.contains (C,true)=true->XI K C C' cv
 mth:∀f C m n,(f,C,m,n)∈ot.ms->MthOk Z P w K mg base CX k f C m n
 mko:∀C n,(C,n)∈ot.ks->MkoOk Z P w K mg base CX k C n
 fld:∀C f,(C,f)∈ot.fl->FW K C f
 xko:∀C f,(C,f)∈ot.xk->XkoX P w K mg base CX k xs C f
def aK(N:List Str)(sc:Scope)(fs:List (String×Nat))(bt:List String)(cn:List (String×D))(xs:List (String×Bool))(ot:OT):CT:={ N:=N,kd:=sc.names,fn:=true,fs:=fs,bt:=bt,cn:=cn,xs:=xs,ot:=ot }
section
variable {Z:aj} {P:Program} {w:World} {K:PF} {mg:Str->Option Value} {base:Heap} {k:Nat} {fs:List (String×Nat)} {bt:List String} {cn:List (String×D)} {xs:List (String×Bool)} {ot:OT}
theorem Gz{N ps:List Str}{sc:Scope}{qual:Str}{f:Addr}{cdv:Value}{A:Around}{outer:List Env}{s:Shared}{H:Hp}{EX:XK}{B:Bs}(T:Bse Z P w K mg base (CX1 P w) k fs bt cn xs ot)(hs:fnB N ps sc=true)
  (hr:Room k (A.deeper (envOfC qual sc (~~~s) f cdv))):Stat Z (CX1 P w) k (aK N sc fs bt cn xs ot) noE B (di (CX1 P w) P w K mg base N qual sc f cdv A outer s H EX).nox where
 N:=rfl
 nd:=(xK hs).nd
 calm:=rfl
 own:=PassesOwn.never
 kd:=rfl
 vis:=λx h=>by
  have h:iG (sc.names.lookup x)=true:=h;show sc.names.lookup x=_\/sc.names.lookup x=_\/sc.names.lookup x=_;unfold iG at h;split at h <;> first | (cases h;done) |simp_all
 cel:=λx h=>h
 glo:=λx h=>h
 sto:=λx h=>by
  have h:(sc.names.lookup x==some .local||(true&&sc.names.lookup x==some .cell))=true:=h;rw[fx,cK,aT,aT]at h;exact ⟨h,.inl rfl⟩
 room:=hr
 call:=T.call
 blt:=T.blt
 con:=T.con
 exc:=⟨_,BK _,λ_ _ _ _ _ _ _ _ _ _ q=>q.elim,λ_ _ _ _ h=>h.elim⟩
 nox:=λY=>BK Y
 xcl:=T.xcl
 loc:=λx h=>h
 xis:=T.xis
 mth:=T.mth
 mko:=T.mko
 fld:=T.fld
 xko:=T.xko
 trc:=λ_=>⟨rfl,rfl,rfl⟩
theorem W8{outer:List Env}{H:Hp}{s s':Shared}{e:Value}(h:CX1 P w outer H s (λ_ _ _=>False) e s'):False:=by obtain ⟨_,_,_,_,_,_,_,_,_,q⟩:=h;exact q
def ends(Q:D->DH->Prop):En:={ nx:=λ_ G=>Q .non G,rt:=Q,bk:=λ_ _=>False,ct:=λ_ _=>False }
def env0(ds:List D)(n:Nat):ak:=ds.map some++List.replicate n none
theorem lC{x qual:Str}{st:Stmt}{f:Addr}{fd:FuncData}(Fu:Fun K x qual st f fd)(T:Bse Z P w K mg base (CX1 P w) k fs bt cn xs ot){N ps:List Str}{body:Sxs}(S:RF.Spec)(n m:Nat)(hs:fnB N ps (ao st)=true)
  (hc:aC (aK N (ao st) fs bt cn xs ot) body (aG st)=true) (hn:ps.length=n) (hm:N.length=n+m)
  (hw:∀ds G a,ds.length=n->S.pre ds G a->au Z body noE (env0 ds m) G (ends (S.post a))):FnOk P w K mg base (CX1 P w) (k+1) f fd ps (lift K n S):=by
 refine Fu.okX (xK hs) (λvs H Q E h=>by rw[hn];exact h.1) λcdv A outer s H vs Q EX hr hsp=>?_;obtain ⟨hl,F,G,ds,r,rs,a,h1,h2,h3⟩:=hsp;have St:Stat Z (CX1 P w) k (aK N (ao st) fs bt cn xs ot) noE ⟨H,F⟩ (di (CX1 P w) P w K mg base N qual (ao st) f cdv A outer s H EX).nox:=Gz T hs hr;refine ⟨_,(lB St body hc).nox,?_⟩;refine ⟨env0 ds m,F,G,Ext.refl _ _,?_,r,eZ body (D:=ends (S.post a)) ⟨λY G' q=>?_,λd G' q=>h2 d G' q,λ_ _ q=>False.elim q,λ_ _ q=>False.elim q⟩ (hw ds G a (by rw[rs.length];exact hl) h1)⟩
 ·unfold L2.start;rw[show N.length - vs.length=m by omega];exact EnvR.start m rs
 ·intro H' F' σ' x1 _ r1;exact h2 .non G' q H' F' .non x1 r1 rfl
end
def bj(pre:List D->DH->Prop)(post:List D->DH->D->DH->Prop):RF.Spec where
 A:=List D×DH
 pre:=λds G a=>a=(ds,G)/\pre ds G
 post:=λa d G'=>post a.1 a.2 d G'
 exc:=λ_ _ _=>False
theorem bM{pre:List D->DH->Prop}{post:List D->DH->D->DH->Prop}{ds:List D}{G:DH}{k:D->DH->Prop}{E:EK}(h:pre ds G)(hk:∀d G',post ds G d G'->k d G'):(bj pre post).t ds G k E:=
 ⟨(ds,G),⟨rfl,h⟩,hk,λ_ _ z=>z.elim⟩
theorem bQ{Z:aj}{body:Sxs}{m n:Nat}{pre:List D->DH->Prop}{post:List D->DH->D->DH->Prop}(h:∀ds G,pre ds G->au Z body noE (env0 ds m) G (ends (post ds G))):
  ∀ds G a,ds.length=n->(bj pre post).pre ds G a->au Z body noE (env0 ds m) G (ends ((bj pre post).post a)):=by
 rintro ds G a _ ⟨rfl,h1⟩;exact h ds G h1
def aM(f:List D->Option D):RF.Spec:=bj (λds _=>(f ds).isSome=true) (λds G d G'=>G'=G/\f ds=some d)
theorem cg{f:List D->Option D}{ds:List D}{d:D}{G:DH}{k:D->DH->Prop}{E:EK}(h:f ds=some d)(hk:k d G):(aM f).t ds G k E:=
 bM (by rw[h];rfl) λd' G' ⟨e1,e2⟩=>by rw[h]at e2;cases e2;rw[e1];exact hk
theorem fY{Z:aj}{body:Sxs}{m n:Nat}{f:List D->Option D}(h:∀ds G d,f ds=some d->au Z body noE (env0 ds m) G (ends λd' G'=>G'=G/\d'=d)):
  ∀ds G a,ds.length=n->(aM f).pre ds G a->au Z body noE (env0 ds m) G (ends ((aM f).post a)):=by
 refine bQ λds G hf=>?_;obtain ⟨d,e⟩:=bB.mp hf;refine eZ body (D:=ends λd' G'=>G'=G/\d'=d) ⟨λY G' q=>?_,λd' G' q=>?_,λ_ _ q=>q,λ_ _ q=>q⟩ (h ds G d e)
 ·exact ⟨q.1,by rw[e];exact eg some q.2.symm⟩
 ·exact ⟨q.1,by rw[e];exact eg some q.2.symm⟩
theorem W9{step:D->ak->DH->(ak->DH->Prop)->Prop}{g:Hld}{items:List D}{Y:ak}{G:DH}{k:ak->DH->Prop}(P:Nat->ak->DH->Prop)(h0:P 0 Y G)(hh:∀i Y G,P i Y G->held g G)
  (hs:∀i d Y G,items[i]?=some d->P i Y G->∀kk:ak->DH->Prop,(∀ρ' G',P (i+1) ρ' G'->kk ρ' G')->step d Y G kk) (he:∀Y G,P items.length Y G->k Y G):forLoop step g items Y G k:=by
 have go:∀(l:List D)(i:Nat)(Y:ak)(G:DH),items.drop i=l->i<=items.length->P i Y G->forLoop step g l Y G k:=by
  intro l;induction l with
  |nil=>
   intro i Y G e hi p;have:i=items.length:=by have:=eg List.length e;rw[bS]at this;simp at this;omega
   subst this;exact ⟨hh _ _ _ p,he _ _ p⟩
  |cons d l ih=>
   intro i Y G e hi p;have hl:i < items.length:=by
    by_cases h:i < items.length
    ·exact h
    ·rw[List.drop_eq_nil_of_le (by omega)]at e;cases e
   rw[a9 hl]at e;injection e with e1 e2;refine ⟨hh _ _ _ p,hs i d Y G (by rw[ai hl,e1]) p _ λρ' G' p'=>ih (i+1) ρ' G' e2 hl p'⟩
 exact go _ 0 Y G (by simp) (eS _) h0
theorem GC{step:D->ak->DH->(Option D->ak->DH->Prop)->Prop}{g:Hld}{items acc:List D}{Y:ak}{G:DH}{k:List D->DH->Prop}(P:Nat->List D->ak->DH->Prop)(h0:P 0 acc Y G)(hh:∀i acc Y G,P i acc Y G->held g G)
  (hl:acc.length+items.length<=sz)
  (hs:∀i d acc Y G,items[i]?=some d->P i acc Y G->∀kk:Option D->ak->DH->Prop,(∀o ρ' G',P (i+1) (acc++o.toList) ρ' G'->kk o ρ' G')->step d Y G kk) (he:∀acc Y G,P items.length acc Y G->k acc G):compLoop step g items acc Y G k:=by
 have go:∀(l:List D)(i:Nat)(acc:List D)(Y:ak)(G:DH),items.drop i=l->i<=items.length->acc.length+l.length<=sz->P i acc Y G->compLoop step g l acc Y G k:=by
  intro l;induction l with
  |nil=>
   intro i acc Y G e hi ha p;have:i=items.length:=by have:=eg List.length e;rw[bS]at this;simp at this;omega
   subst this;exact ⟨hh _ _ _ _ p,by simpa using ha,he _ _ _ p⟩
  |cons d l ih=>
   intro i acc Y G e hi ha p;have hl:i < items.length:=by
    by_cases h:i < items.length
    ·exact h
    ·rw[List.drop_eq_nil_of_le (by omega)]at e;cases e
   rw[a9 hl]at e;injection e with e1 e2;have ha':acc.length+(l.length+1)<=sz:=ha;refine ⟨hh _ _ _ _ p,by omega,hs i d acc Y G (by rw[ai hl,e1]) p _ λo ρ' G' p'=>?_⟩;cases o with
   |some y=>exact ih (i+1) (acc++[y]) ρ' G' e2 hl (by rw[al];simp;omega) p'
   |none=>exact ih (i+1) acc ρ' G' e2 hl (by omega) (by simpa using p')
 exact go _ 0 acc Y G (by simp) (eS _) hl h0
theorem GD{step:D->ak->DH->(Option D->ak->DH->Prop)->Prop}{items:List D}{Y:ak}{G:DH}{k:List D->DH->Prop}(g:Hld)(f:D->Option D)(I:ak->Prop)(h0:I Y)(hg:held g G)(hl:items.length<=sz)
  (hs:∀d Y,d∈items->I Y->∀kk:Option D->ak->DH->Prop,(∀ρ',I ρ'->kk (f d) ρ' G)->step d Y G kk) (he:k (items.filterMap f) G):compLoop step g items [] Y G k:=by
 refine GC (λi acc ρ' G'=>I ρ'/\G'=G/\acc=(items.take i).filterMap f) ⟨h0,rfl,rfl⟩ (λi acc ρ' G' p=>by rw[p.2.1];exact hg) (by simpa using hl) ?_ ?_
 ·rintro i d acc ρ' G' hd ⟨p1,rfl,rfl⟩ kk hk;refine hs d ρ' (ba hd) p1 kk λρ2 i2=>hk _ _ _ ⟨i2,rfl,?_⟩;rw[cw,hd,List.filterMap_append];congr 1
 ·rintro acc ρ' G' ⟨_,rfl,rfl⟩;rw[da];exact he
theorem Xa{step:D->ak->DH->(Option D->ak->DH->Prop)->Prop}{items:List D}{Y:ak}{G:DH}{k:List D->DH->Prop}(g:Hld)(f:D->D)(I:ak->Prop)(h0:I Y)(hg:held g G)(hl:items.length<=sz)
  (hs:∀d Y,d∈items->I Y->∀kk:Option D->ak->DH->Prop,(∀ρ',I ρ'->kk (some (f d)) ρ' G)->step d Y G kk) (he:k (items.map f) G):compLoop step g items [] Y G k:=
 GD g (λd=>some (f d)) I h0 hg hl hs (by rw[<-List.filterMap_eq_map]at he;exact he)
theorem rW{α:Type}(f:α->Bool):∀l:List α,bools (l.map λx=>D.bl (f x))=some (l.map f)
 |[]=>rfl
 |x::l=>by simp[bools,rW f l]
theorem strs_map{α:Type}(f:α->List Nat):∀l:List α,bh (l.map λx=>D.str (f x))=some (l.map f)
 |[]=>rfl
 |x::l=>by simp[bh,strs_map f l]
theorem GF:∀l:List (List Nat),d7 [] l=l.flatten
 |[]=>rfl
 |[x]=>by simp[d7]
 |x::y::r=>by simp[d7,GF (y::r)]
def Sa(G G':DH):Prop:=∀b o,G b=some o->G' b=some o
def Sb(p:Addr)(G G':DH):Prop:=∀b o,G b=some o->b≠p->G' b=some o
theorem Sa.refl(G:DH):Sa G G:=λ_ _ h=>h
theorem Sb.refl(p:Addr)(G:DH):Sb p G G:=λ_ _ h _=>h
theorem Sa.trans{G G1 G2:DH}(a:Sa G G1)(b:Sa G1 G2):Sa G G2:=λc o h=>b c o (a c o h)
theorem Sb.trans{p:Addr}{G G1 G2:DH}(a:Sb p G G1)(b:Sb p G1 G2):Sb p G G2:=λc o h n=>b c o (a c o h n) n
theorem Sa.sb{p:Addr}{G G':DH}(a:Sa G G'):Sb p G G':=λc o h _=>a c o h
theorem Sa.new{G:DH}{p:Addr}{o:DO}(h:G p=none):Sa G (aX G p o):=λb u e=>by rw[dj (vf e h)];exact e
theorem Sb.upd{G:DH}{p:Addr}{o:DO}:Sb p G (aX G p o):=λb u e n=>by rw[dj n];exact e
theorem Sa.then{p:Addr}{G G1 G2:DH}(a:Sa G G1)(hp:G p=none)(b:Sb p G1 G2):Sa G G2:=λc o h=>b c o (a c o h) (vf h hp)
theorem Xb{α:Type}{a:α}{l:List α}:atI (a::l) 0=some a:=bf (j:=0) rfl
theorem Xc{α:Type}{a b:α}{l:List α}:atI (a::b::l) 1=some b:=bf (j:=1) rfl
theorem Xd{α:Type}{a b c:α}{l:List α}:atI (a::b::c::l) 2=some c:=bf (j:=2) rfl
theorem Xe{α:Type}{a b c d:α}{l:List α}:atI (a::b::c::d::l) 3=some d:=bf (j:=3) rfl
theorem xM{n j:Nat}(h:j < n):ixN n (j:Int)=some j:=by unfold ixN;rw[if_pos (by omega),if_pos (by omega)];simp
theorem Xf{n:Nat}:ixN (n+1) 0=some 0:=by unfold ixN;rw[if_pos (by omega),if_pos (by omega)];rfl
theorem Xg{n:Nat}:ixN (n+2) 1=some 1:=by unfold ixN;rw[if_pos (by omega),if_pos (by omega)];rfl
theorem Xh{n:Nat}:ixN (n+3) 2=some 2:=by unfold ixN;rw[if_pos (by omega),if_pos (by omega)];rfl
theorem Xi{α:Type}{xs:List α}{i:Int}(h0:0<=i)(h1:i < xs.length):∃a,atI xs i=some a/\a∈xs:=by
 obtain ⟨n,rfl⟩:=cp h0;have hn:n < xs.length:=by omega
 exact ⟨xs[n],bf (by simp[hn]),ce _⟩
theorem GJ{α:Type}(xs:List α)(lo hi:Option Int):(cut xs lo hi).length<=xs.length:=by unfold cut;rw[bb,bS];omega
theorem GK{l:List D}:bZ l []=l.isEmpty:=by cases l <;> rfl
theorem iM{α:Type}(l:List α)(n:Nat):cut l none (some (n:Int))=l.take n:=by
 unfold cut;rw[show HT.sIx l.length 0 none=0 from rfl,HT.Ay,List.drop_zero,Nat.sub_zero];by_cases h:n<=l.length
 ·rw[Nat.min_eq_left h]
 ·rw[Nat.min_eq_right (by omega),fh (ax _),fh (by omega)]
theorem rY{α:Type}(l:List α)(n:Nat):cut l (some (n:Int)) none=l.drop n:=by
 unfold cut;rw[show HT.sIx l.length l.length none=l.length from rfl,HT.Ay];by_cases h:n<=l.length
 ·rw[Nat.min_eq_left h,fh (by rw[bS];exact ax _)]
 ·rw[Nat.min_eq_right (by omega),Nat.sub_self,List.take_zero,List.drop_eq_nil_of_le (by omega)]
theorem rZ{α:Type}(l:List α)(n:Nat):cut l (some ((n:Int)+1)) none=l.drop (n+1):=rY l (n+1)
theorem jE:∀{l:List D},(∀d∈l,nr d=true)->nrs l=true
 |[],_=>rfl
 |a::l,h=>by rw[nrs,h a bq,jE λd hd=>h d (bm _ hd)];rfl
theorem sr{n:Nat}:∀{l:List D},(∀d∈l,dpt d<=n)->aV l<=n
 |[],_=>eS _
 |a::l,h=>by rw[aV];exact Nat.max_le.mpr ⟨h a bq,sr λd hd=>h d (bm _ hd)⟩
theorem GP{α:Type}{motive:List α->Prop}(l:List α)(nil:motive [])(snoc:∀(l:List α)(a:α),motive l->motive (l++[a])):motive l:=by
 have go:∀(n:Nat)(l:List α),l.length=n->motive l:=by
  intro n;induction n with
  |zero=>intro l h;rw[db.mp h];exact nil
  |succ n ih=>
   intro l h;have hne:l≠[]:=by rintro rfl;simp at h
   rw[<-eD hne];exact snoc _ _ (ih _ (by rw[List.length_dropLast];omega))
 exact go _ l rfl
section
variable {G:DH} {k:D->DH->Prop} {fz:Bool} {kb:Bool->Prop} {kd:D->Prop} {p:Addr}
theorem Xj{i j:Int}:cP .Add fz (.int i) (.int j) G k=k (.int (i+j)) G:=rfl
theorem Xk{x y:List Nat}:cP .Add fz (.str x) (.str y) G k=(x.length+y.length<=sz/\k (.str (x++y)) G):=rfl
theorem Xl{x y:List D}:cP .Add fz (.lst x) (.lst y) G k=(x.length+y.length<=sz/\mk fz (x++y) G k):=rfl
theorem Xm{x y:List D}:cP .Add fz (.tup x) (.tup y) G k=(x.length+y.length<=sz/\k (.tup (x++y)) G):=rfl
theorem Xo{i j:Int}:cP .Sub fz (.int i) (.int j) G k=k (.int (i - j)) G:=rfl
theorem Xp{i j:Int}:cP .Mult fz (.int i) (.int j) G k=(CMul i j/\k (.int (i * j)) G):=rfl
theorem Xq{x:List Nat}{n:Int}:cP .Mult fz (.str x) (.int n) G k=(0<=n/\n<=1000/\x.length * n.toNat<=sz/\k (.str (reps x n.toNat)) G):=rfl
theorem Xr{i j:Int}:cP .FloorDiv fz (.int i) (.int j) G k=((0 < j/\j < 1152921504606846976)/\k (.int (i / j)) G):=rfl
theorem Xu{i j:Int}:cP .Mod fz (.int i) (.int j) G k=(0 < j/\k (.int (i % j)) G):=rfl
theorem Xv{i j:Int}:cP .Pow fz (.int i) (.int j) G k=(pR i j/\k (.int (i ^ j.toNat)) G):=rfl
def fu:D->Bool
 |.non=>true
 |_=>false
theorem Xw{a b:D}:aW .Eq a b kb=((nr a=true/\nr b=true/\min (dpt a) (dpt b)<=60)/\kb (deq a b)):=rfl
theorem Xx{a b:D}:aW .NotEq a b kb=((nr a=true/\nr b=true/\min (dpt a) (dpt b)<=60)/\kb (!deq a b)):=rfl
theorem Xy{i j:Int}:aW .Lt (.int i) (.int j) kb=kb (decide (i < j)):=rfl
theorem Xz{i j:Int}:aW .LtE (.int i) (.int j) kb=kb (decide (i<=j)):=rfl
theorem XC{i j:Int}:aW .Gt (.int i) (.int j) kb=kb (decide (j < i)):=rfl
theorem XD{i j:Int}:aW .GtE (.int i) (.int j) kb=kb (decide (j<=i)):=rfl
theorem XF{i j:List Nat}:aW .Lt (.str i) (.str j) kb=kb (decide (i < j)):=rfl
theorem XH{i j:List Nat}:aW .LtE (.str i) (.str j) kb=kb (!decide (j < i)):=rfl
theorem XJ{a:D}:aW .Is a .non kb=kb (fu a):=by cases a <;> rfl
theorem XM{a:D}:aW .IsNot a .non kb=kb (!fu a):=by cases a <;> rfl
theorem XN{a b:Bool}:aW .Is (.bl a) (.bl b) kb=kb (a==b):=rfl
theorem XQ{a b:Bool}:aW .IsNot (.bl a) (.bl b) kb=kb (a != b):=rfl
theorem XS{c:Nat}{l:List Nat}:aW .In (.str [c]) (.str l) kb=kb (l.contains c):=rfl
theorem XX{c:Nat}{l:List Nat}:aW .NotIn (.str [c]) (.str l) kb=kb (!l.contains c):=rfl
theorem X3{a:D}{l:List D}:aW .In a (.lst l) kb=((nr a=true/\nrs l=true/\aV l<=60)/\kb (isIn a l)):=rfl
theorem X4{a:D}{l:List D}:aW .In a (.tup l) kb=((nr a=true/\nrs l=true/\aV l<=60)/\kb (isIn a l)):=rfl
theorem X5{a:D}{l:List D}:aW .NotIn a (.lst l) kb=((nr a=true/\nrs l=true/\aV l<=60)/\kb (!isIn a l)):=rfl
theorem X6{a:D}{l:List D}:aW .NotIn a (.tup l) kb=((nr a=true/\nrs l=true/\aV l<=60)/\kb (!isIn a l)):=rfl
theorem X7{i:Int}:fu (.int i)=false:=rfl
theorem X8{i:Bool}:fu (.bl i)=false:=rfl
theorem Yb{i:List Nat}:fu (.str i)=false:=rfl
theorem Yc{i:List D}:fu (.tup i)=false:=rfl
theorem Yd{i:List D}:fu (.lst i)=false:=rfl
theorem Ye{i:Addr}:fu (.ref i)=false:=rfl
theorem Yg:fu .non=true:=rfl
def bu{α:Type}(o:Option α)(k:α->Prop):Prop:=match o with |some a=>k a |none=>False
theorem Yh{α:Type}{a:α}{k:α->Prop}:bu (some a) k=k a:=rfl
theorem bz{α:Type}{o:Option α}{a:α}{k:α->Prop}(e:o=some a)(h:k a):bu o k:=by rw[e];exact h
theorem jF{α:Type}{xs:List α}{i:Int}{k:α->Prop}(h0:0<=i)(h1:i < xs.length)(h:∀a,a∈xs->k a):bu (atI xs i) k:=by obtain ⟨a,e,m⟩:=Xi h0 h1;exact bz e (h a m)
theorem Yi{ds:List D}{i:Int}:cB (.lst ds) (.int i) kd=bu (atI ds i) kd:=by unfold cB bu;(try dsimp only) <;> (cases atI ds i <;> rfl)
theorem Yj{ds:List D}{i:Int}:cB (.tup ds) (.int i) kd=bu (atI ds i) kd:=by unfold cB bu;(try dsimp only) <;> (cases atI ds i <;> rfl)
theorem Yk{l:List Nat}{i:Int}:cB (.str l) (.int i) kd=bu (atI l i) (λc=>kd (.str [c])):=by unfold cB bu;(try dsimp only) <;> (cases atI l i <;> rfl)
theorem Yl{ds:List D}{lo hi:Option Int}:dZ fz (.lst ds) lo hi G k=mk fz (cut ds lo hi) G k:=rfl
theorem Ym{ds:List D}{y:D}:qm fz (.lst ds) y G k=(y=.int (-1)/\mk fz ds.reverse G k):=rfl
theorem Yn{ds:List Int}{lo hi:Option Int}:dZ fz (.scr ds) lo hi G k=mk fz ((cut ds lo hi).map .int) G k:=rfl
theorem Yo{ds:List D}{lo hi:Option Int}:dZ fz (.tup ds) lo hi G k=k (.tup (cut ds lo hi)) G:=rfl
theorem Yp{ds:List Nat}{lo hi:Option Int}:dZ fz (.str ds) lo hi G k=k (.str (cut ds lo hi)) G:=rfl
theorem Yq{ds:List D}:opB .len [.lst ds] kd=kd (.int ds.length):=rfl
theorem Yr{ds:List D}:opB .len [.tup ds] kd=kd (.int ds.length):=rfl
theorem Ys{ds:List Nat}:opB .len [.str ds] kd=kd (.int ds.length):=rfl
theorem Yt{ds:List D}:opB .all [.lst ds] kd=bu (bools ds) (λbs=>kd (.bl (bs.all id))):=by unfold opB qp bu;(try dsimp only) <;> (cases bools ds <;> rfl)
theorem Yu{b:Bool}:opB .int [.bl b] kd=kd (.int (if b then 1 else 0)):=rfl
theorem Yv{b:Int}:opB .int [.int b] kd=kd (.int b):=rfl
theorem Yw{l:List Nat}:opB .int [.str l] kd=bu (PySem.intText? (tx l)) (λn=>l.length<=640/\kd (.int n)):=by unfold opB qt bu;(try dsimp only) <;> (cases PySem.intText? (tx l) <;> rfl)
theorem Yx{ds:List D}:opB .sum [.lst ds] kd=bu (cC ds) (λns=>kd (.int ns.sum)):=by unfold opB vq bu;(try dsimp only) <;> (cases cC ds <;> rfl)
theorem Yy{a:Int}:opB .str [.int a] kd=((0<=a/\a < 100)/\kd (.str (gF a.toNat))):=rfl
theorem Yz{a:Int}:opB .abs [.int a] kd=kd (.int (if a < 0 then -a else a)):=rfl
theorem YB{a b:Int}:opB .min2 [.int a,.int b] kd=kd (.int (if b < a then b else a)):=rfl
theorem YC{a b:Int}:opB .max [.int a,.int b] kd=kd (.int (if b > a then b else a)):=rfl
theorem YD{ds:List D}{kl:List D->Prop}:cQ .sorted [.tup ds] kl=bu (cC ds) (λns=>ns.length < 64/\∀ns':List Int,ns'.Perm ns->ns'.Pairwise (·<=·)->kl (ns'.map D.int)):=by unfold cQ qu bu;(try dsimp only) <;> (cases cC ds <;> rfl)
theorem YF{ds:List D}{kl:List D->Prop}:j8 (.lst ds) kl=bu (bh ds) (λls=>(ls.length<=1000/\(qw ls).length<=64)/\∀ls':List (List Nat),ls'.Perm (qw ls)->kl (ls'.map D.str)):=by unfold j8 bu;(try dsimp only) <;> (cases bh ds <;> rfl)
theorem YG{ds:List D}{kl:List D->Prop}:cQ .sorted [.lst ds] kl=bu (bh ds) (λls=>ls.length < 64/\∀ls':List (List Nat),ls'.Perm ls->PyProof.Rows.sortedS (ls'.map tx)=true->kl (ls'.map D.str)):=by unfold cQ qu bu;(try dsimp only) <;> (cases bh ds <;> rfl)
theorem YH{ds:List D}:opB .tuple [.lst ds] kd=kd (.tup ds):=rfl
theorem YJ{ds:List D}:opB .tuple [.tup ds] kd=kd (.tup ds):=rfl
theorem YK{ds:List D}{kl:List D->Prop}:cQ .list [.lst ds] kl=kl ds:=rfl
theorem YL{ds:List D}{kl:List D->Prop}:cQ .list [.tup ds] kl=kl ds:=rfl
theorem YM{l:List Nat}{kl:List D->Prop}:cQ .list [.str l] kl=kl (l.map λc=>.str [c]):=rfl
theorem YQ{s:List Nat}{ds:List D}:opM .join (.str s) [.lst ds] G k=bu (bh ds) (λls=>((ls.map (·.length)).sum+ls.length * s.length<=sz)/\k (.str (d7 s ls)) G):=by unfold opM qx bu;(simp only[bi,fi,view]) <;> (cases bh ds <;> rfl)
def trk(G:DH)(p:Addr)(k:List D->Prop):Prop:=match G p with |some (.lst ds)=>k ds |none=>False
theorem cT{ds:List D}{k:List D->Prop}(e:G p=some (.lst ds)):trk G p k=k ds:=by unfold trk;rw[e]
theorem YS{x:D}:opM .append (.ref p) [x] G k=trk G p (λds=>ds.length < sz/\k .non (aX G p (.lst (ds++[x])))):=by unfold opM qy trk;(try dsimp only) <;> (cases G p <;> first |rfl | (rename_i o;cases o;rfl))
theorem YT{xs:List D}:opM .extend (.ref p) [.lst xs] G k=trk G p (λds=>ds.length+xs.length < sz/\k .non (aX G p (.lst (ds++xs)))):=by unfold opM qz trk;(simp only[bi,fi,view]) <;> (cases G p <;> first |rfl | (rename_i o;cases o;rfl))
theorem YW{i j:Nat}{ds:List D}{Y:ak}{kk:ak->DH->Prop}:T6 i j (.lst ds) Y G kk=(ds≠[]/\∀xs y,ds=xs++[y]->kk ((Y.set i (some (.lst xs))).set j (some y)) G):=rfl
theorem YX{C c:String}{xs:List String}{kk:Bool->Prop}:CG C xs (.exn c) kk=(xs.contains c=true/\kk (gG c C)):=rfl
theorem YZ{C c f:String}{d:D}{xs:List String}{kk:Bool->Prop}:CG C xs (.exa c f d) kk=(xs.contains c=true/\kk (gG c C)):=rfl
theorem x_at{C f:String}{v:D}{kk:D->Prop}:CJ C f (.exa C f v) kk=kk v:=by simp[CJ]
theorem Y0{b f:String}{d:D}:view G (.exa b f d)=.exa b f d:=rfl
theorem Y4{s:List Nat}:recv .join (.str s) G=True:=rfl
theorem Y5:recv .append (.ref p) G=trk G p (λ_=>True):=by unfold recv trk;(try dsimp only) <;> (cases G p <;> first |rfl | (rename_i o;cases o;rfl))
theorem Y6:recv .extend (.ref p) G=trk G p (λ_=>True):=by unfold recv trk;(try dsimp only) <;> (cases G p <;> first |rfl | (rename_i o;cases o;rfl))
theorem Y7{i:Int}{x:D}{kg:DH->Prop}:d8 (.ref p) (.int i) x G kg=trk G p (λds=>bu (ixN ds.length i) (λj=>kg (aX G p (.lst (ds.set j x))))):=by
 unfold d8 trk bu
 (try dsimp only) <;> (cases G p <;> first |rfl | (rename_i o;cases o;(try dsimp only) <;> (rename_i ds;cases ixN ds.length i <;> rfl)))
theorem Y8{i j:Int}:dI .Add (.int i) (.int j) kd=kd (.int (i+j)):=rfl
theorem Y9{x y:List Nat}:dI .Add (.str x) (.str y) kd=(x.length+y.length<=sz/\kd (.str (x++y))):=rfl
theorem Za{i j:Int}:dI .Sub (.int i) (.int j) kd=kd (.int (i - j)):=rfl
theorem Zb{xs:List D}:mk true xs G k=k (.lst xs) G:=rfl
theorem Zc{xs:List D}:mk false xs G k=∀p,G p=none->k (.ref p) (aX G p (.lst xs)):=rfl
theorem Zd:view G .non=.non:=rfl
theorem Ze{b:Bool}:view G (.bl b)=.bl b:=rfl
theorem Zf{b:Int}:view G (.int b)=.int b:=rfl
theorem Zg{b:List Nat}:view G (.str b)=.str b:=rfl
theorem Zh{b:List D}:view G (.tup b)=.tup b:=rfl
theorem Zi{b:List D}:view G (.lst b)=.lst b:=rfl
theorem Zj{C f:String}{q:Addr}:view G (.obj C f q)=.obj C f q:=rfl
theorem Zk{b:String}:view G (.exn b)=.exn b:=rfl
theorem Zm{b:List Int}:view G (.scr b)=.scr b:=rfl
theorem cU{ds:List D}(e:G p=some (.lst ds)):view G (.ref p)=.lst ds:=by unfold view;dsimp only;rw[e]
theorem Zn:truth .non=some false:=rfl
theorem Zo{b:Bool}:truth (.bl b)=some b:=rfl
theorem Zq{i:Int}:truth (.int i)=some (i != 0):=rfl
theorem Zr{l:List Nat}:truth (.str l)=some (!l.isEmpty):=rfl
theorem Zt{l:List D}:truth (.tup l)=some (!l.isEmpty):=rfl
theorem Zu{l:List D}:truth (.lst l)=some (!l.isEmpty):=rfl
theorem Zv{l:List D}:itemsOf G (.lst l)=some (l,[]):=rfl
theorem Zw{l:List D}:itemsOf G (.tup l)=some (l,[]):=rfl
theorem Zx{l:List Nat}:itemsOf G (.str l)=some (l.map λc=>.str [c],[]):=rfl
theorem Zy{t:String}:isT t .non=some false:=rfl
theorem Zz {t:String} {b:Bool}:isT t (.bl b)=some (t=="bool"||t=="int"):=rfl
theorem ZC {t:String} {b:Int}:isT t (.int b)=some (t=="int"):=rfl
theorem ZD {t:String} {b:List Nat}:isT t (.str b)=some (t=="str"):=rfl
theorem is_tup {t:String} {b:List D}:isT t (.tup b)=some (t=="tuple"):=rfl
theorem ZF {t:String} {b:List D}:isT t (.lst b)=some (t=="list"):=rfl
theorem ZG{i:Nat}{d:D}{Y:ak}{kr:ak->Prop}:aY (.nm i) d Y G kr=kr (Y.set i (some d)):=rfl
theorem ZJ{ts:Tgs}{ds:List D}{Y:ak}{kr:ak->Prop}:aY (.tp ts) (.lst ds) Y G kr=bO ts ds Y G kr:=rfl
theorem ZK{ts:Tgs}{ds:List D}{Y:ak}{kr:ak->Prop}:aY (.tp ts) (.tup ds) Y G kr=bO ts ds Y G kr:=rfl
theorem ZL{ρ:ak}{kr:ak->Prop}:bO .nil [] ρ G kr=kr ρ:=rfl
theorem ZM{t:Tg}{r:Tgs}{d:D}{ds:List D}{Y:ak}{kr:ak->Prop}:bO (.cons t r) (d::ds) Y G kr=aY t d Y G (λρ'=>bO r ds ρ' G kr):=rfl
theorem ZP:deq .non .non=true:=rfl
theorem ZQ  {y:Bool}:deq .non (.bl y)=false:=rfl
theorem ZR  {y:Int}:deq .non (.int y)=false:=rfl
theorem ZS  {y:List Nat}:deq .non (.str y)=false:=rfl
theorem ZV  {y:List D}:deq .non (.tup y)=false:=rfl
theorem ZW  {y:List D}:deq .non (.lst y)=false:=rfl
theorem ZX{x:Bool} :deq (.bl x) .non=false:=rfl
theorem ZZ{x:Bool}{y:Bool}:deq (.bl x) (.bl y)=(x==y):=by rw[deq]
theorem Z0{x:Bool}{y:List Nat}:deq (.bl x) (.str y)=false:=rfl
theorem Z1{x:Bool}{y:List D}:deq (.bl x) (.tup y)=false:=rfl
theorem Z2{x:Bool}{y:List D}:deq (.bl x) (.lst y)=false:=rfl
theorem Z3{x:Int} :deq (.int x) .non=false:=rfl
theorem Z4{x:Int}{y:Int}:deq (.int x) (.int y)=(x==y):=by rw[deq]
theorem Z5{x:Int}{y:List Nat}:deq (.int x) (.str y)=false:=rfl
theorem Z6{x:Int}{y:List D}:deq (.int x) (.tup y)=false:=rfl
theorem Z7{x:Int}{y:List D}:deq (.int x) (.lst y)=false:=rfl
theorem Z8{x:List Nat} :deq (.str x) .non=false:=rfl
theorem Z9{x:List Nat}{y:Bool}:deq (.str x) (.bl y)=false:=rfl
theorem aaa{x:List Nat}{y:Int}:deq (.str x) (.int y)=false:=rfl
theorem GQ{x:List Nat}{y:List Nat}:deq (.str x) (.str y)=(x==y):=by rw[deq]
theorem aab{x:List Nat}{y:List D}:deq (.str x) (.tup y)=false:=rfl
theorem aac{x:List Nat}{y:List D}:deq (.str x) (.lst y)=false:=rfl
theorem aad{x:List D} :deq (.tup x) .non=false:=rfl
theorem aae{x:List D}{y:Bool}:deq (.tup x) (.bl y)=false:=rfl
theorem aaf{x:List D}{y:Int}:deq (.tup x) (.int y)=false:=rfl
theorem aag{x:List D}{y:List Nat}:deq (.tup x) (.str y)=false:=rfl
theorem aah{x:List D}{y:List D}:deq (.tup x) (.tup y)=bZ x y:=by rw[deq]
theorem aai{x:List D}{y:List D}:deq (.tup x) (.lst y)=false:=rfl
theorem aaj{x:List D} :deq (.lst x) .non=false:=rfl
theorem aak{x:List D}{y:Bool}:deq (.lst x) (.bl y)=false:=rfl
theorem aal{x:List D}{y:Int}:deq (.lst x) (.int y)=false:=rfl
theorem aam{x:List D}{y:List Nat}:deq (.lst x) (.str y)=false:=rfl
theorem aan{x:List D}{y:List D}:deq (.lst x) (.tup y)=false:=rfl
theorem aao{x:List D}{y:List D}:deq (.lst x) (.lst y)=bZ x y:=by rw[deq]
theorem aap:bZ [] []=true:=rfl
theorem aaq{a b:D}{as bs:List D}:bZ (a::as) (b::bs)=(deq a b&&bZ as bs):=by rw[bZ]
theorem aar{b:D}{bs:List D}:bZ [] (b::bs)=false:=rfl
theorem aas{b:D}{bs:List D}:bZ (b::bs) []=false:=rfl
theorem aat :nr .non=true:=rfl
theorem aau :dpt .non=0:=rfl
theorem aav{x:Bool}:nr (.bl x)=true:=rfl
theorem aaw{x:Bool}:dpt (.bl x)=0:=rfl
theorem aax{x:Int}:nr (.int x)=true:=rfl
theorem aay{x:Int}:dpt (.int x)=0:=rfl
theorem aaz{x:List Nat}:nr (.str x)=true:=rfl
theorem aaA{x:List Nat}:dpt (.str x)=0:=rfl
theorem aaB{x:List D}:nr (.tup x)=nrs x:=by rw[nr]
theorem aaC{x:List D}:dpt (.tup x)=aV x+1:=by rw[dpt]
theorem aaD{x:List D}:nr (.lst x)=nrs x:=by rw[nr]
theorem aaE{x:List D}:dpt (.lst x)=aV x+1:=by rw[dpt]
theorem aaF:nrs []=true:=rfl
theorem aaG{a:D}{l:List D}:nrs (a::l)=(nr a&&nrs l):=by rw[nrs]
theorem aaH:aV []=0:=rfl
theorem aaI{a:D}{l:List D}:aV (a::l)=max (dpt a) (aV l):=by rw[aV]
end
theorem seq{Z:aj}{s:Sx}{r:Sxs}{E:EK}{Y:ak}{G:DH}{D:En}(h:∀M:ak->DH->Prop,(∀ρ' G',au Z r E ρ' G' D->M ρ' G')->wpS Z s E Y G { D with nx:=M }):au Z (.cons s r) E Y G D:=by rw[kj];exact h _ λ_ _ x=>x
theorem last{Z:aj}{s:Sx}{E:EK}{Y:ak}{G:DH}{D:En}(h:wpS Z s E Y G D):au Z (.cons s .nil) E Y G D:=by rw[kj];exact wpS_mono s (D:=D) (D':={ D with nx:=λρ' G'=>au Z .nil E ρ' G' D }) ⟨λρ' G' q=>(show au Z .nil E ρ' G' D from by rw[kh];exact q),λ_ _ q=>q,λ_ _ q=>q,λ_ _ q=>q⟩ h
theorem done{Z:aj}{E:EK}{Y:ak}{G:DH}{D:En}(h:D.nx Y G):au Z .nil E Y G D:=by rw[kh];exact h
section
variable {Z:aj} {E:EK} {ρ:ak} {G:DH}
def ForG(Z:aj)(t:Tg)(body:Sxs)(E:EK)(D:En)(items:List RF.D)(g:Hld)(ρ:ak)(G:DH):Prop:=
 forLoop (λd ρ' G' k=>aY t d ρ' G' λρ1=>au Z body E ρ1 G' { D with nx:=k,ct:=k,bk:=D.nx }) g items ρ G D.nx
theorem aaJ{t:Tg}{it:It'}{body:Sxs}{D:En}:wpS Z (.for_ t it body) E ρ G D=wpI Z it E ρ G λitems g G1=>ForG Z t body E D items g ρ G1:=rfl
theorem ForG.inv{t:Tg}{body:Sxs}{D:En}{items:List RF.D}{g:Hld}(P:Nat->ak->DH->Prop)(h0:P 0 ρ G)(hh:∀i ρ G,P i ρ G->held g G)
  (hs:∀i d ρ G,items[i]?=some d->P i ρ G->∀kk:ak->DH->Prop,(∀ρ' G',P (i+1) ρ' G'->kk ρ' G')->aY t d ρ G λρ1=>au Z body E ρ1 G { D with nx:=kk,ct:=kk,bk:=D.nx })
  (he:∀ρ G,P items.length ρ G->D.nx ρ G):ForG Z t body E D items g ρ G:=W9 P h0 hh hs he
def CompG(Z:aj)(elt:Ex)(tg:Tg)(cond:Tx)(items:List D)(g:Hld)(ρ:ak)(G:DH)(k:List D->DH->Prop):Prop:=
 compLoop (λd ρ' G' k'=>aY tg d ρ' G' λρ1=>wpT Z cond noE ρ1 G' λb G2=>match b with |true=>wpE Z elt noE ρ1 G2 λy G3=>k' (some y) ρ1 G3 |false=>k' none ρ1 G2) g items [] ρ G k
def jG(cap:List (Option Nat))(ρ:ak):ak:=cap.map λo=>match o with |none=>none |some j=>(ρ[j]?).join
theorem aaK{ρ:ak}:jG [] ρ=[]:=rfl
theorem aaL{cap:List (Option Nat)}{ρ:ak}:jG (none::cap) ρ=none::jG cap ρ:=rfl
theorem aaM{cap:List (Option Nat)}{ρ:ak}{j:Nat}:jG (some j::cap) ρ=(ρ[j]?).join::jG cap ρ:=rfl
theorem aaN{fz:Bool}{elt:Ex}{tg:Tg}{it:It'}{cond:Tx}{N:List String}{cap:List (Option Nat)}{k:D->DH->Prop}:
  wpE Z (.comp fz elt tg it cond N cap) E ρ G k=wpI Z it E ρ G λitems g G1=>CompG Z elt tg cond items g (jG cap ρ) G1 λds G2=>mk fz ds G2 k:=rfl
theorem CompG.inv{elt:Ex}{tg:Tg}{cond:Tx}{items:List D}{g:Hld}{k:List D->DH->Prop}(P:Nat->List D->ak->DH->Prop)(h0:P 0 [] ρ G)(hh:∀i acc ρ G,P i acc ρ G->held g G)(hl:items.length<=sz)
  (hs:∀i d acc ρ G,items[i]?=some d->P i acc ρ G->∀kk:Option D->ak->DH->Prop,(∀o ρ' G',P (i+1) (acc++o.toList) ρ' G'->kk o ρ' G')->
   aY tg d ρ G λρ1=>wpT Z cond noE ρ1 G λb G2=>match b with |true=>wpE Z elt noE ρ1 G2 λy G3=>kk (some y) ρ1 G3 |false=>kk none ρ1 G2)
  (he:∀acc ρ G,P items.length acc ρ G->k acc G):CompG Z elt tg cond items g ρ G k:=GC P h0 hh (by simpa using hl) hs he
theorem CompG.pure{elt:Ex}{tg:Tg}{cond:Tx}{items:List D}{g:Hld}{k:List D->DH->Prop}(f:D->Option D)(I:ak->Prop)(h0:I ρ)(hg:held g G)(hl:items.length<=sz)
  (hs:∀d ρ,d∈items->I ρ->∀kk:Option D->ak->DH->Prop,(∀ρ',I ρ'->kk (f d) ρ' G)->aY tg d ρ G λρ1=>wpT Z cond noE ρ1 G λb G2=>match b with |true=>wpE Z elt noE ρ1 G2 λy G3=>kk (some y) ρ1 G3 |false=>kk none ρ1 G2)
  (he:k (items.filterMap f) G):CompG Z elt tg cond items g ρ G k:=GD g f I h0 hg hl hs he
theorem CompG.map{elt:Ex}{tg:Tg}{cond:Tx}{items:List D}{g:Hld}{k:List D->DH->Prop}(f:D->D)(I:ak->Prop)(h0:I ρ)(hg:held g G)(hl:items.length<=sz)
  (hs:∀d ρ,d∈items->I ρ->∀kk:Option D->ak->DH->Prop,(∀ρ',I ρ'->kk (some (f d)) ρ' G)->aY tg d ρ G λρ1=>wpT Z cond noE ρ1 G λb G2=>match b with |true=>wpE Z elt noE ρ1 G2 λy G3=>kk (some y) ρ1 G3 |false=>kk none ρ1 G2)
  (he:k (items.map f) G):CompG Z elt tg cond items g ρ G k:=Xa g f I h0 hg hl hs he
end
theorem len0{α:Type}{l:List α}(h:l.length=0):l=[]:=db.mp h
theorem xN{α:Type}{n:Nat}{l:List α}(h:l.length=n+1):∃a r,l=a::r/\r.length=n:=by
 cases l with
 |nil=>cases h
 |cons a r=>exact ⟨a,r,rfl,Nat.succ.inj h⟩
theorem cG{α:Type}{l:List α}(h:l.length=1):∃a,l=[a]:=by obtain ⟨a,r,rfl,h2⟩:=xN h;cases len0 h2;exact ⟨a,rfl⟩
theorem bC{α:Type}{l:List α}(h:l.length=2):∃a b,l=[a,b]:=by obtain ⟨a,r,rfl,h2⟩:=xN h;obtain ⟨b,rfl⟩:=cG h2;exact ⟨a,b,rfl⟩
theorem fZ{α:Type}{l:List α}(h:l.length=3):∃a b c,l=[a,b,c]:=by obtain ⟨a,r,rfl,h2⟩:=xN h;obtain ⟨b,c,rfl⟩:=bC h2;exact ⟨a,b,c,rfl⟩
structure Fo(Z:aj)(P:Program)(w:World)(K:PF)(mg:Str->Option Value)(base:Heap)(k:Nat)(f:String)(n:Nat):Prop where
 ex:∃fa fd ps,FnOk P w K mg base (CX1 P w) k fa fd ps (lift K n (Z f))/\PySem.W.keepIn K (.ref fa)=true/\Binds K fd ps []/\mg (Str.ofString f)=some (.ref fa)
section
variable {Z:aj} {P:Program} {w:World} {K:PF} {mg:Str->Option Value} {base:Heap} {k:Nat} {xs:List (String×Bool)} {ot:OT}
def AllF(Z:aj)(P:Program)(w:World)(K:PF)(mg:Str->Option Value)(base:Heap)(k:Nat):List (String×Nat)->Prop
 |[]=>True
 | (f,n)::r=>Fo Z P w K mg base k f n/\AllF Z P w K mg base k r
def AllB(mg:Str->Option Value):List String->Prop
 |[]=>True
 |f::r=>mg (Str.ofString f)=none/\AllB mg r
def AllC(K:PF)(mg:Str->Option Value):List (String×D)->Prop
 |[]=>True
 | (x,d)::r=>(∃u v,mg (Str.ofString x)=some u/\RelV v u/\∀H F,Rep K H F d v)/\AllC K mg r
theorem AllF.get:∀{fs:List (String×Nat)}{f:String}{n:Nat},AllF Z P w K mg base k fs->(f,n)∈fs->Fo Z P w K mg base k f n
 | (f',n')::r,f,n,h,m=>by
  rcases bP.mp m with e |m
  ·cases e;exact h.1
  ·exact AllF.get h.2 m
theorem AllB.get:∀{fs:List String}{f:String},AllB mg fs->f∈fs->mg (Str.ofString f)=none
 |f'::r,f,h,m=>by
  rcases bP.mp m with e |m
  ·cases e;exact h.1
  ·exact AllB.get h.2 m
theorem AllC.get:∀{fs:List (String×D)}{x:String}{d:D},AllC K mg fs->(x,d)∈fs->∃u v,mg (Str.ofString x)=some u/\RelV v u/\∀H F,Rep K H F d v
 | (f',n')::r,f,n,h,m=>by
  rcases bP.mp m with e |m
  ·cases e;exact h.1
  ·exact AllC.get h.2 m
def cvB(K:PF)(C':String):Option V:=match PySem.W.nsIn K mainGlobals (Str.ofString C') with
 |some (some (.ref a))=>if BR K a then some (.ref a) else none
 |some none=>if C'=="ValueError" then some (.ty "ValueError") else none
 |_=>none
def xiB(K:PF)(C C':String)(cv:V):Bool:=match PySem.W.nsIn K mainGlobals (Str.ofString C) with
 |some (some (.ref c))=>uQ K c&&PySem.W.mroIn K c (valOf cv)==some (gG C C')&&(gG C C'||!(Value.ref c==valOf cv))
 |_=>false
def xO(K:PF)(C:String):Bool:=match PySem.W.nsIn K mainGlobals (Str.ofString C) with
 |some (some (.ref c))=>p7 K c
 |_=>false
def xsB(K:PF)(xs:List (String×Bool)):Bool:=xs.all λp=>match p.2 with
 |true=>xO K p.1
 |false=>(cvB K p.1).any λcv=>xs.all λq=>!q.2||xiB K q.1 p.1 cv
theorem aaO{h:Heap}(X:K.In h)(Gh:h.Ns mainGlobals mg){xs:List (String×Bool)}(e:xsB K xs=true)(C:String)(hC:xs.contains (C,true)=true):∃a,mg (Str.ofString C)=some (.ref a)/\p7 K a=true/\PySem.W.nsIn K mainGlobals (Str.ofString C)=some (some (.ref a)):=by
 have e1:xO K C=true:=bX.mp e _ (b3.mp hC);unfold xO at e1;split at e1
 ·rename_i a hn;exact ⟨a,PySem.W.mg_of X Gh hn,e1,hn⟩
 ·cases e1
theorem aaP{h:Heap}(X:K.In h)(Gh:h.Ns mainGlobals mg){xs:List (String×Bool)}(e:xsB K xs=true)(C':String)(hC:xs.contains (C',false)=true):∃cv,CV K mg C' cv/\∀C,xs.contains (C,true)=true->XI K C C' cv:=by
 have e1:((cvB K C').any λcv=>xs.all λq=>!q.2||xiB K q.1 C' cv)=true:=bX.mp e _ (b3.mp hC);obtain ⟨cv,hcv,h2⟩:=bJ e1;refine ⟨cv,?_,λC hC=>?_⟩
 ·unfold cvB at hcv;split at hcv
  ·rename_i a hn;split at hcv
   ·rename_i hb;cases hcv;exact .inl ⟨a,rfl,PySem.W.mg_of X Gh hn,hb⟩
   ·cases hcv
  ·rename_i hn;split at hcv
   ·rename_i hb;cases hcv;exact .inr ⟨aT.mp hb,rfl,PySem.W.mg_none_of X Gh hn⟩
   ·cases hcv
  ·cases hcv
 ·have e3:(!true||xiB K C C' cv)=true:=bX.mp h2 _ (b3.mp hC);have e3:xiB K C C' cv=true:=e3;unfold xiB at e3;split at e3
  ·rename_i c hn;rw[ae,ae,aT]at e3;refine ⟨c,hn,e3.1.1,e3.1.2,λhs=>?_⟩;have:=e3.2;rw[hs,Bool.false_or,fm]at this;exact this
  ·cases e3
theorem bse{h:Heap}{fs:List (String×Nat)}{bt:List String}{cn:List (String×D)}(h1:AllF Z P w K mg base k fs)(h2:AllB mg bt)(h3:AllC K mg cn)(X:K.In h)(Gh:h.Ns mainGlobals mg)(e:xsB K xs=true):Bse Z P w K mg base (CX1 P w) k fs bt cn xs {}:=
 ⟨λ_ _ m=>(h1.get m).ex,λ_ m=>h2.get m,λ_ _ m=>h3.get m,aaO X Gh e,aaP X Gh e,(λ_ _ _ _ h=>(nomatch h)),(λ_ _ h=>(nomatch h)),(λ_ _ h=>(nomatch h)),(λ_ _ h=>(nomatch h))⟩
theorem xP{x:String}{i:Int}{t:Tok}(h:mg (Str.ofString x)=some (.int i t)):∃u v,mg (Str.ofString x)=some u/\RelV v u/\∀H F,Rep K H F (.int i) v:=⟨_,.int i,h,⟨t,rfl⟩,λ_ _=>rfl⟩
theorem aaQ{x:String}{l:List Nat}{s:Str}{t:Tok}(h:mg (Str.ofString x)=some (.str s t))(e:s=tx l)(hl:l.length<=sz):∃u v,mg (Str.ofString x)=some u/\RelV v u/\∀H F,Rep K H F (.str l) v:=⟨_,.str s,h,⟨t,rfl⟩,λ_ _=>⟨by rw[e],hl⟩⟩
theorem xQ{n:Nat}{S:RF.Spec}{fa:Addr}{fd:FuncData}{ps:List Str}(h:∀ds G a,¬S.pre ds G a):FnOk P w K mg base (CX1 P w) k fa fd ps (lift K n S):=
 ⟨λ_ _ _ _ ⟨_,_,_,_,_,_,a,hp,_⟩=>absurd hp (h _ _ a),λ_ _ _ _ _ _ _ _ _ _ _ _ _ ⟨_,_,_,_,_,_,a,hp,_⟩=>absurd hp (h _ _ a)⟩
end
section
variable {Z:aj} {P:Program} {w:World} {K:PF} {mg:Str->Option Value} {base:Heap} {k j n:Nat} {fs:List (String×Nat)} {bt:List String} {cn:List (String×D)} {xs:List (String×Bool)} {ot:OT} {x:String} {S:RF.Spec} {fa:Addr} {fd:FuncData} {ps:List Str}
theorem MthOk.mono{f C m:String}(h:MthOk Z P w K mg base (CX1 P w) k f C m n)(hk:k<=j):MthOk Z P w K mg base (CX1 P w) j f C m n:=by obtain ⟨c,fa,fd,ps,h1,h2,h3,h4,h5⟩:=h;exact ⟨c,fa,fd,ps,h1,h2,h3,h4,h5.mono hk⟩
theorem MkoOk.mono{C:String}(h:MkoOk Z P w K mg base (CX1 P w) k C n)(hk:k<=j):MkoOk Z P w K mg base (CX1 P w) j C n:=by obtain ⟨c,fa,fd,ps,sp,i,h0,h⟩:=h;exact ⟨c,fa,fd,ps,sp,i,bv h0 hk,h⟩
theorem XkoX.mono{C f:String}(h:XkoX P w K mg base (CX1 P w) k xs C f)(hk:k<=j):XkoX P w K mg base (CX1 P w) j xs C f:=by obtain ⟨⟨c,fa,fd,ps,i,h0,h⟩,h2⟩:=h;exact ⟨⟨c,fa,fd,ps,i,bv h0 hk,h⟩,h2⟩
theorem Bse.add(B:Bse Z P w K mg base (CX1 P w) k fs bt cn xs ot)(e:Z x=S)(o:FnOk P w K mg base (CX1 P w) (k+j) fa fd ps (lift K n S))(h2:PySem.W.keepIn K (.ref fa)=true)(h3:Binds K fd ps [])(h4:mg (Str.ofString x)=some (.ref fa)):Bse Z P w K mg base (CX1 P w) (k+j) ((x,n)::fs) bt cn xs ot:=by
 refine ⟨λf m hm=>?_,B.blt,B.con,B.xcl,B.xis,λf C m n h=>(B.mth f C m n h).mono (c9 _ _),λC n h=>(B.mko C n h).mono (c9 _ _),B.fld,λC f h=>(B.xko C f h).mono (c9 _ _)⟩;rcases bP.mp hm with e' |hm
 ·cases e';exact ⟨fa,fd,ps,by rw[e];exact o,h2,h3,h4⟩
 ·obtain ⟨fa,fd,ps,h1,h⟩:=B.call f m hm;exact ⟨fa,fd,ps,h1.mono (c9 _ _),h⟩
theorem Bse.step{qual:Str}{st:Stmt}{N:List Str}{body:Sxs}(B:Bse Z P w K mg base (CX1 P w) k fs bt cn xs ot)(F:Fun K (Str.ofString x) qual st fa fd)(h3:Binds K fd ps [])(h4:mg (Str.ofString x)=some (.ref fa))(e:Z x=S)(m:Nat)
  (hs:fnB N ps (ao st)=true) (hc:aC (aK N (ao st) fs bt cn xs ot) body (aG st)=true) (hn:ps.length=n) (hm:N.length=n+m)
  (hw:∀ds G a,ds.length=n->S.pre ds G a->au Z body noE (env0 ds m) G (ends (S.post a))):Bse Z P w K mg base (CX1 P w) (k+1) ((x,n)::fs) bt cn xs ot:=
 B.add e (lC F B S n m hs hc hn hm hw) F.kp h3 h4
def gR(Z:aj)(x:String)(S:RF.Spec):aj:=λf=>if f=x then S else Z f
theorem jH{y:String}(e:Z y=S){S':RF.Spec}(h:(y==x)=false):gR Z x S' y=S:=by unfold gR;rw[if_neg (by simpa using h)];exact e
theorem Bse.self(B:Bse Z P w K mg base (CX1 P w) k fs bt cn xs {})(hx:(fs.map (·.1)).contains x=false)(o:FnOk P w K mg base (CX1 P w) (k+j) fa fd ps (lift K n S))(h2:PySem.W.keepIn K (.ref fa)=true)(h3:Binds K fd ps [])(h4:mg (Str.ofString x)=some (.ref fa)):Bse (gR Z x S) P w K mg base (CX1 P w) (k+j) ((x,n)::fs) bt cn xs {}:=by
 refine ⟨λf m hm=>?_,B.blt,B.con,B.xcl,B.xis,(λ_ _ _ _ h=>(nomatch h)),(λ_ _ h=>(nomatch h)),(λ_ _ h=>(nomatch h)),(λ_ _ h=>(nomatch h))⟩;rcases bP.mp hm with e' |hm'
 ·cases e';exact ⟨fa,fd,ps,by unfold gR;rw[if_pos rfl];exact o,h2,h3,h4⟩
 ·obtain ⟨fa,fd,ps,h1,h⟩:=B.call f m hm';have hf:f≠x:=by
   rintro rfl;rw[<-Bool.not_eq_true,b3]at hx;exact hx (bg.mpr ⟨(f,m),hm',rfl⟩)
  exact ⟨fa,fd,ps,by unfold gR;rw[if_neg hf];exact h1.mono (c9 _ _),h⟩
end
theorem aaR{S:RF.Spec}(hS:∀(ns:List Int)(G:DH),ns.length<=63->∃a,S.pre [.scr ns] G a/\(∀d G',S.post a d G'->d=.bl true)/\∀x G',¬S.exc a x G')(K:PF)(H:Hp)(a:Addr)(ns:List Int)(hl:ns.length<=63)(hO:Only H)(hs:SqL K H a (ns.map V.int)):
  lift K 1 S [.ref a] H (λv _=>v=.bl true) λ_ _ _=>False:=by
 obtain ⟨b,h1,h2,h3⟩:=hS ns (λ_=>none) hl;refine ⟨rfl,λ_=>False,λ_=>none,[.scr ns],⟨λ_ f=>f.elim,λ_ _ e=>by cases e⟩,⟨.ref a,[],rfl,⟨a,rfl,?_⟩,rfl⟩,b,h1,λd G' q H' F' v _ _ rv=>?_,λx G' q=>absurd q (h3 x G')⟩
 ·rcases hs with (h |h) |h
  ·exfalso;rcases hO a with z |⟨o,u,z⟩
   ·rw[z]at h;cases h
   ·rw[z]at h;cases h
  ·exact .inl h
  ·exact .inr h
 ·rw[h2 d G' q]at rv;exact rv
theorem aaS{pre:List D->DH->Prop}(h:∀(ns:List Int)(G:DH),ns.length<=63->pre [.scr ns] G):∀(ns:List Int)(G:DH),ns.length<=63->∃a,(bj pre (λ_ _ d _=>d=.bl true)).pre [.scr ns] G a/\(∀d G',(bj pre (λ_ _ d _=>d=.bl true)).post a d G'->d=.bl true)/\∀x G',¬(bj pre (λ_ _ d _=>d=.bl true)).exc a x G':=
 λns G hl=>⟨([.scr ns],G),⟨rfl,h ns G hl⟩,λ_ _ q=>q,λ_ _ z=>z⟩
def ghS{A:Type}(pre:A->List D->DH->Prop)(post:A->DH->D->DH->Prop):RF.Spec where
 A:=A×DH
 pre:=λds G a=>a.2=G/\pre a.1 ds G
 post:=λa d G'=>post a.1 a.2 d G'
 exc:=λ_ _ _=>False
theorem gU{A:Type}{pre:A->List D->DH->Prop}{post:A->DH->D->DH->Prop}{ds:List D}{G:DH}{k:D->DH->Prop}{E:EK}(a:A)(h:pre a ds G)(hk:∀d G',post a G d G'->k d G'):(ghS pre post).t ds G k E:=
 ⟨(a,G),⟨rfl,h⟩,hk,λ_ _ z=>z.elim⟩
theorem iQ{A:Type}{Z:aj}{body:Sxs}{m n:Nat}{pre:A->List D->DH->Prop}{post:A->DH->D->DH->Prop}(h:∀a ds G,pre a ds G->au Z body noE (env0 ds m) G (ends (post a G))):
  ∀ds G a,ds.length=n->(ghS pre post).pre ds G a->au Z body noE (env0 ds m) G (ends ((ghS pre post).post a)):=by
 rintro ds G ⟨a,G0⟩ _ ⟨rfl,h1⟩;exact h a ds _ h1
def cH{A:Type}(args:A->List D)(ok:A->Prop)(val:A->D):RF.Spec:=ghS (λa ds _=>ds=args a/\ok a) (λa G d G'=>G'=G/\d=val a)
theorem cV{A:Type}{args:A->List D}{ok:A->Prop}{val:A->D}{ds:List D}{G:DH}{k:D->DH->Prop}{E:EK}(a:A)(e:ds=args a)(h:ok a)(hk:k (val a) G):(cH args ok val).t ds G k E:=
 gU a ⟨e,h⟩ λd G' ⟨e1,e2⟩=>by subst e1 e2;exact hk
theorem c7{A:Type}{Z:aj}{body:Sxs}{m n:Nat}{args:A->List D}{ok:A->Prop}{val:A->D}(h:∀a G,ok a->au Z body noE (env0 (args a) m) G (ends λd G'=>G'=G/\d=val a)):
  ∀ds G a,ds.length=n->(cH args ok val).pre ds G a->au Z body noE (env0 ds m) G (ends ((cH args ok val).post a)):=
 iQ λa ds G ⟨e,h1⟩=>by subst e;exact h a G h1
section
local macro_rules|`(#[])=>`(.nil)|`(#[$x])=>`(.cons $x .nil)|`(#[$x,$y,*])=>`(.cons $x #[$y,*])
local macro_rules|`(-$x)=>`(.var $x)
local macro_rules|`(¬$x)=>`(.cst (.int $x))
local macro_rules|`(!$x)=>`(.cst (.str $x))
local macro_rules|`($x<|$y)=>`(.call $x $y)
def xR:Sxs:=#[.set (-0) (¬2) (¬0),.ret (-0)]
def xT:Sxs:=#[.ite (.val (.cmp .GtE (-0) (.bin .Pow true (¬10) (¬18)))) #[.ret (-0)] #[],.asg (.nm 2) (.bin .Mod true (.bin .Add true (.bin .Add true (.bin .Mult true (.bin .Mod true (-0) (¬1000000007)) (¬69069)) (.bin .Mult true (-1) (¬40503))) (¬977)) (¬2147483629)),.asg (.nm 3) (.bin .Mod true (.bin .Add true (.bin .Add true (.bin .Mult true (-2) (-2)) (.bin .Mult true (-1) (¬7919))) (.bin .Mod true (-0) (¬65537))) (¬2147483587)),.asg (.nm 4) (.bin .Mod true (.bin .Add true (.bin .Add true (.bin .Mult true (-3) (-3)) (.bin .Mult true (-2) (¬31))) (¬5)) (¬2147483563)),.ret (.bin .Add true (.bin .Mult true (.bin .Add true (.bin .Mult true (-2) (¬2147483659)) (-3)) (¬2147483693)) (-4))]
def xU:Sxs:=#[.ite (.val (.cmp .Lt (.idx (-0) (¬2)) (-1))) #[.asg (.nm 2) (.idx (-0) (¬1)),.asg (.nm 3) (¬0),.ite (.val (.cmp .Lt (-2) (.bcl .len #[.idx (-0) (¬0)]))) #[.asg (.nm 3) (.idx (.idx (-0) (¬0)) (-2))] #[.ite (.val (.cmp .Gt (.bcl .len #[.idx (-0) (¬0)]) (¬0))) #[.asg (.nm 3) (.bin .Mod true (.idx (.idx (-0) (¬0)) (.bin .Mod true (.bin .Add true (.bin .Mult true (-2) (¬5)) (¬3)) (.bcl .len #[.idx (-0) (¬0)]))) (.bin .Add true (.bin .Pow true (¬10) (¬17)) (-2)))] #[]],.set (-0) (¬1) (.bin .Add true (-2) (¬1)),.set (-0) (¬2) ("_law_spread"<|#[-3,-2])] #[],.asg (.nm 4) (.bin .Mod true (.idx (-0) (¬2)) (-1)),.set (-0) (¬2) (.bin .FloorDiv true (.idx (-0) (¬2)) (-1)),.ret (-4)]
def xV:Sxs:=#[.ret (.mth .join (![]) #[.comp true (.idx (-1) ("_law_take"<|#[-2,.bcl .len #[-1]])) (.nm 0) (.rng (-1)) .yes ["at","signs","pen"] [none,some 2,some 0]])]
def xW:Sxs:=#[.asg (.nm 2) (.lst true #[![97],![103,111],![115,116,97,121],![97,98,99,100,101,102,103,104],![110,111,110,101],![121,101,115],![105,110],![111,117,116],![107,101,101,112],![119,111,114,100],![122,122]]),.asg (.nm 3) ("_law_take"<|#[-0,¬11]),.asg (.nm 4) (.comp true (.idx (-1) (.bin .Mod true (.bin .Add true (-2) (.bin .Mult true (¬3) (-0))) (¬11))) (.nm 0) (.rng (.bin .Add true (¬1) ("_law_take"<|#[-0,-1]))) .yes ["k","some","turn"] [none,some 2,some 3]),.ite (.val (.cmp .Eq ("_law_take"<|#[-0,¬3]) (¬0))) #[.asg (.nm 5) (![97,98,99,100,101,102,103,104,105,106,107,108,109,110,111,112,113,114,115,116,117,118,119,120,121,122]),.asg (.nm 4) (.comp true ("_law_signs"<|#[-1,.bin .Add true (¬1) ("_law_take"<|#[-1,¬8]),-2]) (.nm 0) (.seq (-4)) .yes ["one","pen","letters"] [none,some 0,some 5])] #[],.ret (-4)]
def xX:Sxs:=#[.ret ("_law_signs"<|#[-0,-1,.idx (.lst true #[![48,49,42],![48,49,42,42],![48,49,42,42,42,42],![48,42],![48,49]]) ("_law_take"<|#[-0,¬5])])]
def xY:Sxs:=#[.asg (.nm 2) (![]),.for_ (.nm 3) (.seq (-1)) #[.ite (.val (.cmp .Eq ("_law_take"<|#[-0,¬3]) (¬0))) #[.asg (.nm 3) (![42])] #[],.asg (.nm 2) (.bin .Add true (-2) (-3))],.ret (-2)]
def xZ:Sxs:=#[.asg (.nm 2) (![]),.for_ (.nm 3) (.seq (-1)) #[.ite (.boo true (.val (.cmp .Eq (-3) (![42]))) #[.val (.cmp .Eq ("_law_take"<|#[-0,¬2]) (¬0))]) #[.asg (.nm 3) (.idx (![48,49]) ("_law_take"<|#[-0,¬2]))] #[],.asg (.nm 2) (.bin .Add true (-2) (-3))],.ret (-2)]
def yc:Sxs:=#[.asg (.nm 3) ("_law_take"<|#[-0,¬7]),.ite (.boo false (.val (.cmp .Eq (-2) (.lst true #[]))) #[.val (.cmp .Lt (-3) (¬2))]) #[.ret ("_law_form"<|#[-0,-1])] #[],.asg (.nm 4) (.idx (-2) ("_law_take"<|#[-0,.bcl .len #[-2]])),.ite (.val (.cmp .Eq (-3) (¬2))) #[.ret (-4)] #[],.ite (.val (.cmp .Lt (-3) (¬5))) #[.asg (.nm 5) ("_law_take"<|#[-0,-1]),.ret (.bin .Add true (.bin .Add true (.slc true (-4) .no (.ob (-5))) (.idx (![48,49,42]) ("_law_take"<|#[-0,¬3]))) (.slc true (-4) (.ob (.bin .Add true (-5) (¬1))) .no))] #[],.ite (.val (.cmp .Eq (-3) (¬5))) #[.ret ("_law_within"<|#[-0,-4])] #[],.ret ("_law_wider"<|#[-0,-4])]
def yd:Sxs:=#[.asg (.nm 3) (.bin .Add true (¬1) ("_law_take"<|#[-0,-1])),.asg (.nm 4) ("_law_deeds_of"<|#[-0,¬3]),.asg (.nm 5) (.lst false #[]),.asg (.nm 6) (.lst false #[]),.for_ (.nm 7) (.rng ("_law_take"<|#[-0,.bin .Add true (-2) (¬1)])) #[.exp (.mth .append (-5) #["_law_form_like"<|#[-0,-3,-5]]),.exp (.mth .append (-6) #[.tup #[.idx (-5) (.neg (¬1)),.idx (-4) ("_law_take"<|#[-0,.bcl .len #[-4]])]])],.ret (.tup #[-3,.bcl .tuple #[-6]])]
def lE:Sxs:=#[.asg (.nm 1) (¬1),.for_ (.nm 2) (.seq (-0)) #[.ite (.val (.cmp .Eq (-2) (![42]))) #[.asg (.nm 1) (.bin .Mult true (-1) (¬2))] #[]],.ret (-1)]
def lF:Sxs:=#[.asg (.nm 2) (![]),.for_ (.tp #[.nm 3,.nm 4]) (.zip (-0) (-1)) #[.ite (.val (.cmp .Eq (-3) (![42]))) #[.aug 2 .Add (-4)] #[.ite (.boo false (.val (.cmp .Eq (-4) (![42]))) #[.val (.cmp .Eq (-4) (-3))]) #[.aug 2 .Add (-3)] #[.ret (.cst .non)]]],.ret (-2)]
def lG:Sxs:=#[.for_ (.tp #[.nm 2,.nm 3]) (.enm (-0)) #[.ite (.val (.cmp .IsNot ("both"<|#[.idx (-3) (¬0),-1]) (.cst .non))) #[.ret (-2)] #[]],.ret (.cst .non)]
def lH:Sxs:=#[.asg (.nm 2) ("first_touching"<|#[-0,-1]),.ite (.val (.cmp .Is (-2) (.cst .non))) #[.ret (.cst .non)] #[],.for_ (.tp #[.nm 3,.nm 4]) (.enm (.idx (.idx (-0) (-2)) (¬0))) #[.ite (.boo true (.val (.cmp .Eq (.idx (-1) (-3)) (![42]))) #[.val (.cmp .NotEq (-4) (![42]))]) #[.ret (-3)] #[]],.ret (.cst .non)]
def lJ:Sxs:=#[.ret (.bin .Add true (.bin .Add true (.slc true (-0) .no (.ob (-1))) (-2)) (.slc true (-0) (.ob (.bin .Add true (-1) (¬1))) .no))]
def jJ:Sxs:=#[.for_ (.nm 3) (.seq (-1)) #[.asg (.nm 4) ("splitting_place"<|#[-3,-2]),.ite (.val (.cmp .IsNot (-4) (.cst .non))) #[.asg (.nm 5) ("grown"<|#[-0,-1,"with_sign"<|#[-2,-4,![48]]]),.asg (.nm 6) ("grown"<|#[-0,-1,"with_sign"<|#[-2,-4,![49]]]),.ret (.tup #[![115,112,108,105,116],-4,-5,-6])] #[]],.ret (.bin .Add true (.tup #[-0]) (.bcl .tuple #[.comp true ("first_touching"<|#[-0,-1]) (.nm 0) (.seq (-1)) .yes ["rows","box"] [none,some 2]]))]
def lK:Sxs:=#[.ite (.boo false (.not (.val (.isi (-0) "str"))) #[.not (.val (.chn .LtE .LtE (¬1) (.bcl .len #[-0]) (.glb "LONGEST_DEED" (.int 8))))]) #[.ret (.cst (.bl false))] #[],.ret (.bcl .all #[.comp true (.cmp .In (-0) (.glb "LETTERS" (.str [97,98,99,100,101,102,103,104,105,106,107,108,109,110,111,112,113,114,115,116,117,118,119,120,121,122]))) (.nm 0) (.seq (-0)) .yes ["sign"] [none]])]
def lL:Sxs:=#[.ite (.boo false (.not (.val (.isi (-2) "str"))) #[.val (.cmp .NotEq (.bcl .len #[-2]) (-1))]) #[.ret (.cst (.bl false))] #[],.ret (.bcl .all #[.comp true (.cmp .In (-0) (-1)) (.nm 0) (.seq (-2)) .yes ["sign","signs"] [none,some 0]])]
def lM:Sxs:=#[.ret ("is_text_of"<|#[![48,49,42],-0,-1])]
def lN:Sxs:=#[.ite (.boo false (.not (.val (.isi (-1) "tuple"))) #[.val (.cmp .NotEq (.bcl .len #[-1]) (¬2))]) #[.ret (.cst (.bl false))] #[],.ret (.boo true ("is_form"<|#[-0,.idx (-1) (¬0)]) #["is_deed"<|#[.idx (-1) (¬1)]])]
def lO:Sxs:=#[.ret (.boo true (.isi (-0) "int") #[.not (.isi (-0) "bool")])]
def lQ:Sxs:=#[.ret (.boo true ("is_whole"<|#[-0]) #[.chn .LtE .LtE (¬1) (-0) (.glb "WIDEST" (.int 6))])]
def lR:Sxs:=#[.ite (.boo false (.not (.val (.isi (-0) "tuple"))) #[.val (.cmp .NotEq (.bcl .len #[-0]) (¬2))]) #[.ret (.cst (.bl false))] #[],.asg (.tp #[.nm 1,.nm 2]) (-0),.ite (.boo false (.not (.val ("is_width"<|#[-1]))) #[.not (.val (.isi (-2) "tuple")),.val (.cmp .Gt (.bcl .len #[-2]) (.glb "MOST_ROWS" (.int 12)))]) #[.ret (.cst (.bl false))] #[],.ret (.bcl .all #[.comp true ("is_row"<|#[-1,-0]) (.nm 0) (.seq (-2)) .yes ["row","width"] [none,some 1]])]
def lU:Sxs:=#[.ite (.not (.val ("is_book"<|#[-0]))) #[.nev] #[]]
def lV:Sxs:=#[.ret (.bin .Mult true (![42]) (-0))]
def lW:Sxs:=#[.exp ("need_book"<|#[-0]),.asg (.tp #[.nm 1,.nm 2]) (-0),.ret ("grown"<|#[![109,101,116],.lst true #[-2],"stars"<|#[-1]])]
def lX:Sxs:=#[.ret (.boo true (.isi (-2) "tuple") #[.cmp .Eq (.bcl .len #[-2]) (.bin .Add true (-1) (¬1)),.cmp .Eq (.idx (-2) (¬0)) (-0)])]
def lY:Sxs:=#[.ret (.boo true ("is_whole"<|#[-1]) #[.chn .LtE .Lt (¬0) (-1) (-0)])]
def iR:Sxs:=#[.ite (.not (.val ("is_named"<|#[![115,112,108,105,116],¬3,-1]))) #[.ret (.lst true #[.tup #[-0,-1]])] #[],.asg (.nm 2) (.idx (-1) (¬1)),.ite (.boo false (.not (.val ("is_place"<|#[.bcl .len #[-0],-2]))) #[.val (.cmp .NotEq (.idx (-0) (-2)) (![42]))]) #[.ret (.cst .non)] #[],.asg (.nm 3) ("leaves"<|#["with_sign"<|#[-0,-2,![48]],.idx (-1) (¬2)]),.asg (.nm 4) ("leaves"<|#["with_sign"<|#[-0,-2,![49]],.idx (-1) (¬3)]),.ite (.boo false (.val (.cmp .Is (-3) (.cst .non))) #[.val (.cmp .Is (-4) (.cst .non))]) #[.ret (.cst .non)] #[],.ret (.bin .Add true (-3) (-4))]
def lZ:Sxs:=#[.asg (.nm 1) ("laid"<|#[-0]),.asg (.tp #[.nm 2,.nm 3]) (-0),.asg (.nm 4) (.bin .Add false (.comp true (¬0) (.nm 0) (.seq (-3)) .yes ["row"] [none]) (.lst true #[¬0])),.for_ (.tp #[.nm 5,.nm 6]) (.seq ("leaves"<|#["stars"<|#[-2],-1])) #[.asg (.nm 7) (.ife (.val (.cmp .Is (.idx (-6) (¬1)) (.cst .non))) (.bcl .len #[-3]) (.idx (-6) (¬1))),.augs (-4) (-7) .Add ("how_many"<|#[-5])],.ret (-4)]
def ye:Sxs:=#[.asg (.nm 1) (.lcl false .list #[.slc true (-0) .no (.ob (¬12))]),.for_ (.tp #[.nm 2,.nm 3]) (.enm (.slc true (-0) (.ob (¬12)) (.ob (¬63)))) #[.set (-1) (.bin .Mod true (-2) (¬12)) (.bin .Add true (.idx (-1) (.bin .Mod true (-2) (¬12))) (-3))],.ret (.lst false #[.frz (-1),¬0,¬0])]
def su:Sxs:=#[.ite (.val (.cmp .NotEq (.idx (-1) (¬0)) (![115,112,108,105,116]))) #[.ret (.lst true #[.tup #[-0,-1]])] #[],.asg (.nm 2) (.idx (-1) (¬1)),.ite (.boo false (.val (.cmp .Lt (-2) (¬0))) #[.val (.cmp .GtE (-2) (.bcl .len #[-0])),.val (.cmp .NotEq (.idx (-0) (-2)) (![42]))]) #[.ret (.lst true #[.cst .non])] #[],.asg (.nm 3) ("_law_boxes"<|#[.bin .Add true (.bin .Add true (.slc true (-0) .no (.ob (-2))) (![48])) (.slc true (-0) (.ob (.bin .Add true (-2) (¬1))) .no),.idx (-1) (¬2)]),.ret (.bin .Add true (-3) ("_law_boxes"<|#[.bin .Add true (.bin .Add true (.slc true (-0) .no (.ob (-2))) (![49])) (.slc true (-0) (.ob (.bin .Add true (-2) (¬1))) .no),.idx (-1) (¬3)]))]
def yf:Sxs:=#[.asg (.nm 1) (.lst true #[![]]),.for_ (.nm 2) (.seq (-0)) #[.asg (.nm 3) (.lst false #[]),.for_ (.nm 4) (.seq (-1)) #[.exp (.mth .extend (-3) #[.comp true (.bin .Add true (-1) (-0)) (.nm 0) (.seq (.idx (.lst true #[![48,49],-2]) (.bcl .int #[.cmp .NotEq (-2) (![42])]))) .yes ["one","text"] [none,some 4]])],.asg (.nm 1) (.frz (-3))],.ret (-1)]
def mj:Sxs:=#[.exp ("need_book"<|#[-0]),.ite (.not (.val ("is_place"<|#[.bcl .len #[.idx (-0) (¬1)],-1]))) #[.nev] #[]]
def mq:Sxs:=#[.exp ("need_row"<|#[-0,-1]),.asg (.nm 2) (.idx (-0) (¬1)),.asg (.nm 3) (.idx (.idx (-2) (-1)) (¬0)),.asg (.nm 4) ("grown"<|#[![117,110,100,101,114],.lst true #[.slc true (-2) .no (.ob (-1))],-3]),.asg (.nm 5) (.comp true ("least"<|#[-0]) (.tp #[.nm 0,.nm 1]) (.seq ("leaves"<|#[-3,-4])) (.val (.cmp .Is (.idx (-1) (¬1)) (.cst .non))) ["box","leaf"] [none,none]),.ite (.val (-5)) #[.ret (.tup #[![119,111,114,100],.bcl .min #[-5]])] #[],.ret (.tup #[![104,105,100,100,101,110],-4])]
def my:Sxs:=#[.exp ("need_book"<|#[-0]),.ret (.comp false (-0) (.nm 0) (.rng (.bcl .len #[.idx (-0) (¬1)])) (.val (.cmp .Eq (.idx ("reach"<|#[-1,-0]) (¬0)) (![104,105,100,100,101,110]))) ["number","book"] [none,some 0])]
def mz:Sxs:=#[.ite (.val (.cmp .NotEq (.bcl .len #[-0]) (.bcl .len #[-1]))) #[.ret (.cst (.bl false))] #[],.ret (.bcl .all #[.comp true (.boo false (.cmp .Eq (-0) (![42])) #[.cmp .Eq (-0) (-1)]) (.tp #[.nm 0,.nm 1]) (.zip (-0) (-1)) .yes ["sign","given"] [none,none]])]
def mC:Sxs:=#[.ret ("fits"<|#[-1,-0])]
def mD:Sxs:=#[.ite (.val (.cmp .Is (-2) (.cst .non))) #[.ret (.cmp .Is ("first_touching"<|#[-0,-1]) (.cst .non))] #[],.ite (.boo false (.not (.val ("is_place"<|#[.bcl .len #[-0],-2]))) #[.not (.val ("lies_in"<|#[-1,.idx (.idx (-0) (-2)) (¬0)]))]) #[.ret (.cst (.bl false))] #[],.ret (.cmp .Eq ("first_touching"<|#[-0,-1]) (-2))]
def mF:Sxs:=#[.exp ("need_book"<|#[-0]),.asg (.tp #[.nm 2,.nm 3]) (-0),.asg (.nm 4) ("leaves"<|#["stars"<|#[-2],-1]),.ite (.val (.cmp .Is (-4) (.cst .non))) #[.ret (.cst (.bl false))] #[],.ret (.bcl .all #[.comp true (.boo true ("is_named"<|#[![109,101,116],¬1,-1]) #["is_met"<|#[-2,-0,.idx (-1) (¬1)]]) (.tp #[.nm 0,.nm 1]) (.seq (-4)) .yes ["box","leaf","rows"] [none,none,some 3]])]
def mG:Sxs:=#[.ret ("is_text_of"<|#[![48,49],-0,-1])]
def mH:Sxs:=#[.exp ("need_book"<|#[-0]),.asg (.tp #[.nm 2,.nm 3]) (-0),.ite (.not (.val ("is_word"<|#[-2,-1]))) #[.nev] #[],.for_ (.tp #[.nm 4,.nm 5]) (.enm (-3)) #[.ite (.val ("fits"<|#[.idx (-5) (¬0),-1])) #[.ret (-4)] #[]],.ret (.cst .non)]
def yg:Sxs:=#[.asg (.nm 1) ("laid"<|#[-0]),.ite (.val (.cmp .IsNot ("is_laid"<|#[-0,-1]) (.cst (.bl true)))) #[.ret (.cst (.bl false))] #[],.asg (.nm 2) (.bin .Add false (.comp true (¬0) (.nm 0) (.seq (.idx (-0) (¬1))) .yes ["row"] [none]) (.lst true #[¬0])),.for_ (.tp #[.nm 3,.nm 4]) (.seq ("_law_boxes"<|#[.bin .Mult true (![42]) (.idx (-0) (¬0)),-1])) #[.asg (.nm 5) (.ife (.val (.cmp .Is (.idx (-4) (¬1)) (.cst .non))) (.bcl .len #[.idx (-0) (¬1)]) (.idx (-4) (¬1))),.set (-2) (-5) (.bin .Add true (.idx (-2) (-5)) (.bcl .len #["_law_words"<|#[-3]])),.ite (.val (.cmp .NotEq (.comp true (-0) (.nm 0) (.seq ("_law_words"<|#[-3])) (.val (.cmp .NotEq ("met"<|#[-1,-0]) (.idx (-2) (¬1)))) ["word","book","leaf"] [none,some 0,some 4]) (.lst true #[]))) #[.ret (.cst (.bl false))] #[]],.ite (.val (.cmp .NotEq (-2) ("counts"<|#[-0]))) #[.ret (.cst (.bl false))] #[],.ret (.cmp .Eq (.comp true (-0) (.nm 0) (.rng (.bcl .len #[.idx (-0) (¬1)])) (.val (.cmp .Eq (.idx (-1) (-0)) (¬0))) ["k","many"] [none,some 2]) ("hidden"<|#[-0]))]
def yh:Sxs:=#[.ret (.cmp .Eq (.comp true (¬1) (.tp #[.nm 0,.nm 1]) (.zip (-0) (-1)) (.val (.cmp .In (.bin .Add true (-0) (-1)) (.tup #[![48,49],![49,48]]))) ["one","two"] [none,none]) (.lst true #[]))]
def yj:Sxs:=#[.asg (.nm 2) ("_law_take"<|#[-0,.bcl .len #[-1]]),.asg (.tp #[.nm 3,.nm 4]) (.idx (-1) (-2)),.asg (.nm 5) (.comp true (-0) (.nm 0) (.rng (.bcl .len #[-3])) (.val (.cmp .Eq (.idx (-1) (-0)) (![42]))) ["place","form"] [none,some 3]),.asg (.nm 6) ("_law_take"<|#[-0,¬5]),.ite (.boo true (.val (.cmp .Eq (-6) (¬0))) #[.val (.cmp .NotEq (-5) (.lst true #[]))]) #[.asg (.nm 7) (.idx (-5) ("_law_take"<|#[-0,.bcl .len #[-5]])),.asg (.nm 8) (.comp true (.tup #[.bin .Add true (.bin .Add true (.slc true (-2) .no (.ob (-3))) (-0)) (.slc true (-2) (.ob (.bin .Add true (-3) (¬1))) .no),-1]) (.nm 0) (.seq (.idx (.lst true #[![48,49],![49,48]]) ("_law_take"<|#[-0,¬2]))) .yes ["sign","one","form","place"] [none,some 4,some 3,some 7]),.ret (.bin .Add true (.bin .Add true (.slc true (-1) .no (.ob (-2))) (-8)) (.slc true (-1) (.ob (.bin .Add true (-2) (¬1))) .no))] #[],.ite (.val (.cmp .Eq (-6) (¬1))) #[.asg (.nm 7) (.bin .Add true (.bin .Add true (-2) (¬1)) ("_law_take"<|#[-0,.bin .Sub true (.bcl .len #[-1]) (-2)])),.ret (.bin .Add true (.bin .Add true (.slc true (-1) .no (.ob (-7))) (.lst true #[.tup #["_law_within"<|#[-0,-3],.idx (.idx (-1) ("_law_take"<|#[-0,.bcl .len #[-1]])) (¬1)]])) (.slc true (-1) (.ob (-7)) .no))] #[],.ite (.val (.cmp .Eq (-6) (¬2))) #[.ret (.bin .Add true (.bin .Add true (.slc true (-1) .no (.ob (-2))) (.lst true #[.tup #["_law_within"<|#[-0,-3],-4]])) (.slc true (-1) (.ob (-2)) .no))] #[],.ite (.boo true (.val (.cmp .Lt (.bin .Add true (-2) (¬1)) (.bcl .len #[-1]))) #[.boo false (.val (.cmp .Eq (.idx (.idx (-1) (.bin .Add true (-2) (¬1))) (¬1)) (-4))) #[.not (.val ("_law_meet"<|#[-3,.idx (.idx (-1) (.bin .Add true (-2) (¬1))) (¬0)]))]]) #[.ret (.bin .Add true (.bin .Add true (.slc true (-1) .no (.ob (-2))) (.lst true #[.idx (-1) (.bin .Add true (-2) (¬1)),.idx (-1) (-2)])) (.slc true (-1) (.ob (.bin .Add true (-2) (¬2))) .no))] #[],.ret (-1)]
def yl:Sxs:=#[.asg (.nm 3) (.lcl true .list #[.idx (-1) (¬1)]),.for_ (.nm 4) (.rng (.bin .Mult true (-2) (.bcl .int #[.cmp .NotEq (-3) (.lst true #[])]))) #[.ite (.val (.cmp .Lt (.bcl .len #[-3]) (¬12))) #[.asg (.nm 3) ("_law_one_turning"<|#[-0,-3])] #[]],.ret (.tup #[.idx (-1) (¬0),.bcl .tuple #[-3]])]
def jK:Sxs:=#[.ite (.val (.cmp .Is (-1) (.cst .non))) #[.ret (.cst .non)] #[],.ret (.idx (.idx (.idx (-0) (¬1)) (-1)) (¬1))]
def mJ:Sxs:=#[.ret ("deed_of"<|#[-0,"met"<|#[-0,-1]])]
def ym:Sxs:=#[.asg (.nm 1) ("_law_open"<|#[-0]),.for_ (.nm 2) (.rng (¬3)) #[.asg (.nm 3) ("_law_book"<|#["_law_anew"<|#[-1],.idx (.lst true #[¬5,¬6,¬4]) (-2),.idx (.lst true #[¬9,¬11,¬8]) (-2)]),.asg (.nm 4) ("_law_turned_alike"<|#[-1,-3,¬3]),.asg (.nm 5) (.tup #[.idx (-3) (¬0),.bin .Add true (.idx (-3) (¬1)) (.tup #[.tup #[.bin .Mult true (![42]) (.idx (-3) (¬0)),![97]]])]),.ite (.boo false (.not (.val ("_law_told_right"<|#[-3]))) #[.not (.val ("_law_told_right"<|#[-4]))]) #[.ret (.cst (.bl false))] #[],.ite (.boo false (.val (.cmp .NotEq (.idx ("counts"<|#[-5]) (.neg (¬1))) (¬0))) #[.val (.cmp .NotEq ("_law_by_deeds"<|#[-3]) ("_law_by_deeds"<|#[-4]))]) #[.ret (.cst (.bl false))] #[],.asg (.nm 6) ("_law_words"<|#[.bin .Mult true (![42]) (.idx (-3) (¬0))]),.asg (.nm 7) (.idx (-6) ("_law_take"<|#[-1,.bcl .len #[-6]])),.ite (.val (.cmp .NotEq ("deed"<|#[-3,-7]) ("deed"<|#[-4,-7]))) #[.ret (.cst (.bl false))] #[]],.ret (.cst (.bl true))]
end
end RF
local macro_rules | `(tactic| simp_arith! [$l,*] $[$c:location]?) => `(tactic| simp only [↓RF.wk, ↓RF.kE, ↓RF.wu, ↓RF.ww, ↓RF.wy, ↓RF.wz, ↓RF.wA, ↓RF.wB, ↓RF.wC, ↓RF.wD, ↓RF.wF, ↓RF.wG, ↓RF.vO, ↓RF.CP, ↓RF.CQ, ↓RF.T7, ↓RF.T8, ↓RF.aaJ, ↓RF.vB, ↓RF.vC, ↓RF.vD, ↓RF.j9, ↓RF.jr, ↓RF.iz, ↓RF.vG, ↓RF.qC, ↓RF.vH, ↓RF.qD, ↓RF.vI, ↓RF.vJ, ↓RF.vK, ↓RF.vL, ↓RF.vM, ↓RF.vN, ↓RF.YS, ↓RF.YW, ↓RF.x_at, ↓RF.Y0, ↓RF.YX, ↓RF.YZ, ↓RF.jt, ↓RF.vP, ↓RF.vQ, ↓RF.vR, ↓RF.qF, ↓RF.qG, ↓RF.vU, ↓RF.vV, ↓RF.vW, ↓RF.vX, ↓RF.vY, ↓RF.vZ, ↓RF.v6, ↓RF.v7, ↓RF.v8, ↓RF.v9, ↓RF.wg, ↓RF.km, ↓RF.wj, ↓RF.aaN, ↓RF.Xj, ↓RF.Xk, ↓RF.Xl, ↓RF.Xm, ↓RF.Xo, ↓RF.Xp, ↓RF.Xq, ↓RF.Xr, ↓RF.Xu, ↓RF.Xv, ↓RF.Xw, ↓RF.Xx, ↓RF.Xy, ↓RF.Xz, ↓RF.XC, ↓RF.XD, ↓RF.XF, ↓RF.XH, ↓RF.XJ, ↓RF.XM, ↓RF.XN, ↓RF.XQ, ↓RF.XS, ↓RF.XX, ↓RF.X3, ↓RF.X4, ↓RF.X5, ↓RF.X6, ↓RF.X7, ↓RF.X8, ↓RF.Yb, ↓RF.Yc, ↓RF.Yd, ↓RF.Ye, ↓RF.Yg, ↓RF.Yi, ↓RF.Yj, ↓RF.Yk, ↓RF.Yl, ↓RF.Yn, ↓RF.Ym, ↓RF.Yo, ↓RF.Yp, ↓RF.Yq, ↓RF.Yr, ↓RF.Ys, ↓RF.Yt, ↓RF.Yu, ↓RF.Yv, ↓RF.Yw, ↓RF.Yx, ↓RF.YF, ↓RF.YG, ↓RF.YD, ↓RF.YH, ↓RF.YC, ↓RF.Yz, ↓RF.YB, ↓RF.Yy, ↓RF.YJ, ↓RF.YK, ↓RF.YL, ↓RF.YM, ↓RF.YQ, ↓RF.Zk, ↓RF.Zj, ↓RF.YT, ↓RF.Y4, ↓RF.Y5, ↓RF.Y6, ↓RF.Y7, ↓RF.Y8, ↓RF.Y9, ↓RF.Za, ↓RF.Zb, ↓RF.Zc, ↓RF.Zd, ↓RF.Ze, ↓RF.Zf, ↓RF.Zg, ↓RF.Zh, ↓RF.Zi, ↓RF.Zm, ↓RF.Zn, ↓RF.Zo, ↓RF.Zq, ↓RF.Zr, ↓RF.Zt, ↓RF.Zu, ↓RF.Zv, ↓RF.Zw, ↓RF.Zx, ↓RF.Zy, ↓RF.Zz, ↓RF.ZC, ↓RF.ZD, ↓RF.is_tup, ↓RF.ZF, ↓RF.ZG, ↓RF.ZK, ↓RF.ZJ, ↓RF.ZL, ↓RF.ZM, ↓RF.Yh, RF.aaK, RF.aaL, RF.aaM, Option.join_some, List.map_cons, List.map_nil, List.cons_append, List.nil_append, List.replicate_succ, List.replicate_zero, List.getElem?_cons_zero, List.getElem?_cons_succ, List.set_cons_zero, List.set_cons_succ, List.length_cons, List.length_nil, RF.Xb, RF.Xc, RF.Xd, RF.Xe, RF.Xf, RF.Xg, RF.Xh, true_and, and_true, Nat.min_self, Nat.zero_min, Nat.min_zero, Nat.zero_le, Bool.or_false, Bool.or_true, Bool.false_or, Bool.true_or, Bool.not_true, Bool.not_false, RF.ZP, RF.ZQ, RF.ZR, RF.ZS, RF.ZV, RF.ZW, RF.ZX, RF.ZZ, RF.Z0, RF.Z1, RF.Z2, RF.Z3, RF.Z4, RF.Z5, RF.Z6, RF.Z7, RF.Z8, RF.Z9, RF.aaa, RF.GQ, RF.aab, RF.aac, RF.aad, RF.aae, RF.aaf, RF.aag, RF.aah, RF.aai, RF.aaj, RF.aak, RF.aal, RF.aam, RF.aan, RF.aao, RF.aap, RF.aaq, RF.aar, RF.aas, RF.aat, RF.aau, RF.aav, RF.aaw, RF.aax, RF.aay, RF.aaz, RF.aaA, RF.aaB, RF.aaC, RF.aaD, RF.aaE, RF.aaF, RF.aaG, RF.aaH, RF.aaI, RF.env0, RF.ends, String.reduceBEq, $l,*] $[$c:location]?)
local macro_rules | `(tactic| simp_arith [$l,*] $[$c:location]?) => `(tactic| simp_arith! [↓RF.kh, ↓RF.kj, $l,*] $[$c:location]?)
local macro_rules | `(tactic| simp_all_arith [$l,*]) => `(tactic| simp only [RF.env0, RF.ends, List.map_cons, List.map_nil, List.cons_append, List.nil_append, List.replicate_succ, List.replicate_zero, $l,*])
local macro_rules|`(tactic|bv_omega)=>`(tactic|(have hsz:RF.sz=1000000:=rfl;omega))
local macro_rules|`(tactic|symm)=>do let M:=Lean.mkIdent `M;let h:=Lean.mkIdent `hM;`(tactic|refine $h _ _ (RF.seq fun $M $h=>?_))
local macro_rules|`(tactic|nofun)=>do let M:=Lean.mkIdent `M;let h:=Lean.mkIdent `hM;`(tactic|refine RF.seq fun $M $h=>?_)
local macro_rules|`(tactic|ac_nf0)=>do let h:=Lean.mkIdent `hM;`(tactic|refine $h _ _ (RF.last ?_))
local macro_rules|`(tactic|erw[$[$x:term],*]$[$c:location]?)=>`(tactic|simp_arith[$[$x:term],*]$[$c:location]?)
namespace RF
open PySem L2
theorem gb{i j:Int}(h:-(2 ^ 64) < j/\j < 2 ^ 64):CMul i j:=.inr h
theorem yo{i j:Int}(h:-(2 ^ 64) < i/\i < 2 ^ 64):CMul i j:=.inl h
theorem GR{j:Int}(h:0<=j/\j<=1000):pR 10 j:=⟨h.1,by omega,by decide⟩
def sy:RF.Spec:=bj (λds _=>∃c k:Int,ds=[.int c,.int k]/\0<=k) (λ_ G d G'=>G'=G/\∃r:Int,d=.int r/\0<=r)
theorem aaT(Z:aj)(ds:List D)(G:DH)(h:∃c k:Int,ds=[.int c,.int k]/\0<=k):au Z xT noE (env0 ds 3) G (ends λd G'=>G'=G/\∃r:Int,d=.int r/\0<=r):=by
 obtain ⟨c,k,rfl,hk⟩:=h;erw[xT];refine ⟨GR (by decide),?_⟩;cases hc:decide (10 ^ Int.toNat 18<=c) with
 |true=>
  refine ⟨c,rfl,?_⟩;have:=ci hc;have h2:(0:Int)<=(10:Int) ^ (18:Int).toNat:=by decide
  exact Int.le_trans h2 this
 |false=>
  generalize hone:(c % 1000000007 * 69069+k * 40503+977) % 2147483629=one;have o1:0<=one:=by rw[<-hone];exact eJ _ (by decide)
  have o2:one < 2147483629:=by rw[<-hone];exact eA _ (by decide)
  generalize htwo:(one * one+k * 7919+c % 65537) % 2147483587=two;have t1:0<=two:=by rw[<-htwo];exact eJ _ (by decide)
  have t2:two < 2147483587:=by rw[<-htwo];exact eA _ (by decide)
  generalize hthree:(two * two+one * 31+5) % 2147483563=three;have h1:0<=three:=by rw[<-hthree];exact eJ _ (by decide)
  clear hone htwo hthree;refine ⟨by decide,gb (by decide),gb (by decide),by decide,yo (by omega),gb (by decide),by decide,by decide,yo (by omega),gb (by decide),by decide,gb (by decide),gb (by decide),_,rfl,?_⟩;omega
def Pen(G:DH)(p:Addr):Prop:=∃(ns:List Int)(k st:Int),G p=some (.lst [.lst (ns.map D.int),.int k,.int st])/\0<=k/\0<=st
theorem Pen.sa{G G':DH}{p:Addr}(h:Pen G p)(s:Sa G G'):Pen G' p:=by obtain ⟨ns,k,st,e,h1⟩:=h;exact ⟨ns,k,st,s _ _ e,h1⟩
theorem Pen.ne{G:DH}{p q:Addr}(h:Pen G p)(e:G q=none):p≠q:=by obtain ⟨ns,k,st,e1,h1⟩:=h;exact vf e1 e
theorem Pen.sb{G G':DH}{p q:Addr}(h:Pen G p)(s:Sb q G G')(n:p≠q):Pen G' p:=by obtain ⟨ns,k,st,e,h1⟩:=h;exact ⟨ns,k,st,s _ _ e n,h1⟩
def sE:RF.Spec:=bj (λds G=>∃p,ds=[.ref p]/\Pen G p) (λds G d G'=>∃p,ds=[.ref p]/\d=.ref p/\Pen G' p/\Sb p G G')
theorem aaU(Z:aj)(ds:List D)(G:DH)(h:∃p,ds=[.ref p]/\Pen G p):au Z xR noE (env0 ds 0) G (ends λd G'=>∃p,ds=[.ref p]/\d=.ref p/\Pen G' p/\Sb p G G'):=by obtain ⟨p,rfl,ns,k,st,e,h1,h2⟩:=h;erw[xR,cT e];exact ⟨p,rfl,rfl,⟨ns,k,0,bF,h1,by decide⟩,Sb.upd⟩
def dM:RF.Spec:=bj (λds G=>∃p,∃m:Int,ds=[.ref p,.int m]/\Pen G p/\0 < m/\m < 1152921504606846976) (λds G d G'=>∃p,∃m r:Int,ds=[.ref p,.int m]/\d=.int r/\0<=r/\r < m/\Pen G' p/\Sb p G G')
theorem aaV (Z:aj) (hΦ:Z "_law_spread"=sy) (ds:List D) (G:DH) (h:∃p,∃m:Int,ds=[.ref p,.int m]/\Pen G p/\0 < m/\m < 1152921504606846976):
  au Z xU noE (env0 ds 3) G (ends λd G'=>∃p,∃m r:Int,ds=[.ref p,.int m]/\d=.int r/\0<=r/\r < m/\Pen G' p/\Sb p G G'):=by
 obtain ⟨p,m,rfl,⟨ns,k,st,e,h1,h2⟩,h3,h4⟩:=h;simp_all_arith[xU];nofun;have fin:∀(ρ2 ρ3 ρ4:Option D)(G1:DH)(k1 s1:Int),0<=k1->0<=s1->G1 p=some (.lst [.lst (ns.map D.int),.int k1,.int s1])->Sb p G G1->M [some (.ref p),some (.int m),ρ2,ρ3,ρ4] G1:=by intro ρ2 ρ3 ρ4 G1 k1 s1 q1 q2 e1 sb;refine hM _ _ ?_;erw[cU e1,cT e1];refine ⟨h3,⟨h3,h4⟩,p,m,_,rfl,rfl,eJ _ (by omega),eA _ h3,⟨ns,k1,_,bF,q1,?_⟩,sb.trans Sb.upd⟩;exact Int.ediv_nonneg q2 (by omega)
 erw[cU e,cT e,hΦ];have draw:∀c:Int,sy.t [.int c,.int k] (aX G p (.lst [.lst (ns.map D.int),.int (k+1),.int st])) (λx G1=>trk G1 p λds=>bu (ixN ds.length 2) λj=>M [some (.ref p),some (.int m),some (.int k),some (.int c),none] (aX G1 p (.lst (ds.set j x)))) noE:=by intro c;refine bM ⟨c,k,rfl,h1⟩ λd G' hx=>?_;obtain ⟨e1,r,e2,hr⟩:=hx;subst e1 e2;erw[cT bF];refine fin _ _ _ _ (k+1) r (by omega) hr bF (Sb.trans Sb.upd Sb.upd)
 cases hc:decide (st < m) with
 |false=>exact fin _ _ _ _ k st h1 h2 e (Sb.refl _ _)
 |true=>
  cases hk:decide (k < ((ns.map D.int).length:Int)) with
  |true=>
   have hk:=ci hk;rw[af]at hk;refine bz (a:=.int ns[k.toNat]) ?_ ?_
   ·obtain ⟨n,rfl⟩:=cp h1;exact bf (by simp at hk ⊢)
   ·exact draw _
  |false=>
   cases hz:decide (0 < ((ns.map D.int).length:Int)) with
   |false=>exact draw 0
   |true=>
    have hz:=ci hz;have j1:0<=(k * 5+3) % ((ns.map D.int).length:Int):=eJ _ (by omega);have j2:(k * 5+3) % ((ns.map D.int).length:Int) < ((ns.map D.int).length:Int):=eA _ hz;obtain ⟨j,hj⟩:=cp j1;rw[hj]at j2;have j3:j < ns.length:=by rw[af]at j2;omega
    refine ⟨gb (by decide),hz,bz (a:=.int ns[j]) ?_ ⟨GR (by decide),?_⟩⟩
    ·rw[hj];exact bf (by simp[j3])
    ·erw[cT e];refine ⟨?_,draw _⟩;have:(0:Int) < 10 ^ Int.toNat 17:=by decide
     omega
def mK:RF.Spec:=bj (λds G=>∃p,∃n:Nat,∃cs:List Nat,ds=[.ref p,.int n,.str cs]/\Pen G p/\n<=1000/\cs≠[]/\cs.length<=1000)
 (λds G d G'=>∃p,∃n:Nat,∃cs l:List Nat,ds=[.ref p,.int n,.str cs]/\d=.str l/\l.length=n/\(∀c∈l,c∈cs)/\Pen G' p/\Sb p G G')
theorem aaW(l:List Nat):((l.map λc=>[c]).map (·.length)).sum=l.length:=by
 induction l with
 |nil=>rfl
 |cons a l ih=>simp at ih ⊢;omega
theorem aaX(l:List Nat):(l.map λc=>[c]).flatten=l:=by
 induction l with
 |nil=>rfl
 |cons a l ih=>simp at ih ⊢;exact ih
theorem aaY (Z:aj) (hΦ:Z "_law_take"=dM) (ds:List D) (G:DH) (h:∃p,∃n:Nat,∃cs:List Nat,ds=[.ref p,.int n,.str cs]/\Pen G p/\n<=1000/\cs≠[]/\cs.length<=1000):
  au Z xV noE (env0 ds 0) G (ends λd G'=>∃p,∃n:Nat,∃cs l:List Nat,ds=[.ref p,.int n,.str cs]/\d=.str l/\l.length=n/\(∀c∈l,c∈cs)/\Pen G' p/\Sb p G G'):=by
 obtain ⟨p,n,cs,rfl,hp,hn,hc,hl⟩:=h;have hc1:0 < cs.length:=eW.mpr hc;erw[xV,hΦ];refine ⟨by omega,CompG.inv (P:=λi acc Y G'=>(∃o,Y=[o,some (.str cs),some (.ref p)])/\Pen G' p/\Sb p G G'/\∃l:List Nat,acc=l.map (λc=>D.str [c])/\l.length=i/\∀c∈l,c∈cs) (h0:=⟨⟨_,rfl⟩,hp,Sb.refl _ _,[],rfl,rfl,by simp⟩) (hh:=λ_ _ _ _ _=>trivial) (hl:=by simp[aZ];bv_omega) (hs:=?_) (he:=?_)⟩
 ·rintro i d acc Y G' hd ⟨⟨o,rfl⟩,hp',sb,l,rfl,hl',hm⟩ kk hk;erw[hΦ];refine bM ⟨p,_,rfl,hp',by omega,by omega⟩ λd' G2 hx=>?_;obtain ⟨p2,m2,r,e1,e2,r0,r1,pp2,sb2⟩:=hx;cases e1;subst e2;obtain ⟨j,rfl⟩:=cp r0;have hj:j < cs.length:=by omega
  erw[ends];refine bz (a:=cs[j]) (bf (by simp[hj])) (hk _ _ _ ⟨⟨_,rfl⟩,pp2,sb.trans sb2,l++[cs[j]],by simp,by simp[hl'],?_⟩);intro c hc;rcases a8.mp hc with h |h
  ·exact hm c h
  ·rw[aI.mp h];exact ce _
 ·rintro acc Y G' ⟨_,hp',sb,l,rfl,hl',hm⟩;erw[strs_map];have hl2:l.length=n:=by rw[hl'];simp[aZ]
  refine ⟨?_,p,n,cs,l,rfl,?_,hl2,hm,hp',sb⟩
  ·rw[aaW];simp;bv_omega
  ·rw[GF,aaX]
def isF(c:Nat):Prop:=c=48\/c=49\/c=42
def yp:RF.Spec:=bj (λds G=>∃p,∃n:Nat,ds=[.ref p,.int n]/\Pen G p/\n<=1000) (λds G d G'=>∃p,∃n:Nat,∃l:List Nat,ds=[.ref p,.int n]/\d=.str l/\l.length=n/\(∀c∈l,isF c)/\Pen G' p/\Sb p G G')
theorem aaZ (Z:aj) (h1:Z "_law_take"=dM) (h2:Z "_law_signs"=mK) (ds:List D) (G:DH) (h:∃p,∃n:Nat,ds=[.ref p,.int n]/\Pen G p/\n<=1000):
  au Z xX noE (env0 ds 0) G (ends λd G'=>∃p,∃n:Nat,∃l:List Nat,ds=[.ref p,.int n]/\d=.str l/\l.length=n/\(∀c∈l,isF c)/\Pen G' p/\Sb p G G'):=by
 obtain ⟨p,n,rfl,hp,hn⟩:=h;erw[xX,h1,h2];refine ⟨by decide,bM ⟨p,_,rfl,hp,by decide,by decide⟩ λd' G2 ⟨p2,m2,r,e1,e2,r0,r1,pp2,sb2⟩=>?_⟩;cases e1;subst e2;obtain ⟨j,rfl⟩:=cp r0;erw[ends];have:∃cs:List Nat,atI [D.str [48,49,42],D.str [48,49,42,42],D.str [48,49,42,42,42,42],D.str [48,42],D.str [48,49]] ((j:Nat):Int)=some (.str cs)/\cs≠[]/\cs.length<=1000/\∀c∈cs,isF c:=by
  have hj:j=0\/j=1\/j=2\/j=3\/j=4:=by omega
  rcases hj with rfl |rfl |rfl |rfl |rfl <;> exact ⟨_,rfl,by decide,by decide,by simp[isF]⟩
 obtain ⟨cs,e,c1,c2,c3⟩:=this;refine bz e (bM ⟨p,n,cs,rfl,pp2,hn,c1,c2⟩ λd G3 ⟨p3,n3,cs3,l,e1,e2,q1,q2,q3,q4⟩=>?_);cases e1;exact ⟨p,n,l,rfl,e2,q1,λc hc=>c3 c (q2 c hc),q3,sb2.trans q4⟩
def yq:RF.Spec:=bj (λds _=>∃ns:List Int,ds=[.scr ns]/\ns.length<=63) (λ_ G d G'=>∃p,d=.ref p/\G p=none/\Pen G' p/\Sa G G')
theorem aa0(Z:aj)(ds:List D)(G:DH)(h:∃ns:List Int,ds=[.scr ns]/\ns.length<=63):au Z ye noE (env0 ds 3) G (ends λd G'=>∃p,d=.ref p/\G p=none/\Pen G' p/\Sa G G'):=by
 obtain ⟨ns,rfl,hl⟩:=h;simp_all_arith[ye];nofun;erw[ends];intro c hc;refine hM _ _ ?_;nofun;erw[ends];refine ForG.inv (λi Y G'=>∃(o2 o3:Option D)(xs:List Int),Y=[some (.scr ns),some (.ref c),o2,o3]/\G'=aX G c (.lst (xs.map D.int))/\(12<=xs.length\/cut ns (some 12) (some 63)=[])) ⟨_,_,cut ns none (some 12),rfl,rfl,?_⟩ (λ_ _ _ _=>trivial) ?_ ?_
 ·by_cases h12:12<=ns.length
  ·left;simp[cut,HT.sIx];omega
  ·right;simp[cut,HT.sIx];omega
 ·rintro i d Y G' hd ⟨o2,o3,xs,rfl,rfl,hx⟩ kk hk;rw[jC]at hd;obtain ⟨d',hd',e3⟩:=ar.mp hd;subst e3;rw[aw]at hd';obtain ⟨x,hx',e4⟩:=ar.mp hd';subst e4;have h12:12<=xs.length:=by
   rcases hx with h |h
   ·exact h
   ·rw[h]at hx';simp at hx'
  obtain ⟨j,hj⟩:=cp (eJ ((0+i:Nat):Int) (by decide:(12:Int)≠0));have hj12:j < 12:=by have:=eA ((0+i:Nat):Int) (by decide:(0:Int) < 12);omega
  have hjx:j < xs.length:=by omega
  erw[hj,cU bF,cT bF];refine ⟨by decide,bz (a:=.int xs[j]) (bf (by simp[hjx])) ?_⟩;erw[hj,cU bF,cT bF,af,xM hjx];refine ⟨by decide,hk _ _ ⟨_,_,xs.set j (xs[j]+x),rfl,?_,by simp[h12]⟩⟩;rw[TV,List.map_set]
 ·rintro Y G' ⟨o2,o3,xs,rfl,rfl,hx⟩;refine hM _ _ ?_;erw[bF];refine ⟨by bv_omega,λp hp=>⟨p,rfl,?_,⟨xs,0,0,bF,by decide,by decide⟩,?_⟩⟩
  ·rw[Cu hc]at hp;exact hp
  ·rw[Cu hc]at hp ⊢;exact Sa.new hp
def mL:RF.Spec:=bj (λds _=>∃ns:List Int,ds=[.scr ns]/\ns.length<=63) (λ_ _ d _=>d=.bl true)
def whole:D->Bool
 |.int _=>true
 |_=>false
def iT:List D->Option D
 |[x]=>if nr x then some (.bl (whole x)) else none
 |_=>none
theorem aa1(Z:aj)(ds:List D)(G:DH)(d:D)(h:iT ds=some d):au Z lO noE (env0 ds 0) G (ends λd' G'=>G'=G/\d'=d):=by
 unfold iT at h;split at h
 ·rename_i x;split at h
  ·rename_i hx;cases h;cases x <;> first | (simp[nr]at hx;done) | (erw[lO,whole];try simp)
  ·cases h
 ·cases h
def okF(w:Nat)(l:List Nat):Prop:=l.length=w/\∀c∈l,isF c
theorem okF.app{w v:Nat}{l m:List Nat}(h:okF w l)(h':okF v m):okF (w+v) (l++m):=⟨by rw[al,h.1,h'.1],λc hc=>(a8.mp hc).elim (h.2 c) (h'.2 c)⟩
theorem okF.one{c:Nat}(h:isF c):okF 1 [c]:=⟨rfl,λd hd=>by rw[aI.mp hd];exact h⟩
theorem bR{p:Addr}{m:Int}{G:DH}{k:D->DH->Prop}{E:EK}(hp:Pen G p)(h1:0 < m)(h2:m < 1152921504606846976)(hk:∀(r:Nat)(G':DH),(r:Int) < m->Pen G' p->Sb p G G'->k (.int r) G'):dM.t [.ref p,.int m] G k E:=by refine bM ⟨p,m,rfl,hp,h1,h2⟩ λd G' hx=>?_;obtain ⟨p2,m2,r,e1,e2,r0,r1,hp',sb⟩:=hx;cases e1;subst e2;obtain ⟨n,rfl⟩:=cp r0;exact hk n G' r1 hp' sb
theorem aa2{n:Nat}(h:(n:Int) < 2):∃c,atI [48,49] (n:Int)=some c/\isF c:=by
 have:n=0\/n=1:=by omega
 rcases this with rfl |rfl
 ·exact ⟨48,rfl,.inl rfl⟩
 ·exact ⟨49,rfl,.inr (.inl rfl)⟩
theorem aa3{n:Nat}(h:(n:Int) < 3):∃c,atI [48,49,42] (n:Int)=some c/\isF c:=by
 have:n=0\/n=1\/n=2:=by omega
 rcases this with rfl |rfl |rfl
 ·exact ⟨48,rfl,.inl rfl⟩
 ·exact ⟨49,rfl,.inr (.inl rfl)⟩
 ·exact ⟨42,rfl,.inr (.inr rfl)⟩
def sG(ds:List D)(G:DH):Prop:=∃p l,ds=[.ref p,.str l]/\Pen G p/\(∀c∈l,isF c)/\l.length<=1000
def GX(ds:List D)(G:DH)(d:D)(G':DH):Prop:=∃p l m,ds=[.ref p,.str l]/\d=.str m/\okF l.length m/\Pen G' p/\Sb p G G'
def sH:RF.Spec:=bj sG GX
theorem aa4{p:Addr}{l:List Nat}{G:DH}{k:D->DH->Prop}{E:EK}(hp:Pen G p)(hl:∀c∈l,isF c)(h2:l.length<=1000)(hk:∀(m:List Nat)(G':DH),okF l.length m->Pen G' p->Sb p G G'->k (.str m) G'):sH.t [.ref p,.str l] G k E:=by refine bM ⟨p,l,rfl,hp,hl,h2⟩ λd G' hx=>?_;obtain ⟨p2,l2,m,e1,e2,h,hp',sb⟩:=hx;cases e1;subst e2;exact hk m G' h hp' sb
def Wi(l m:List Nat):Prop:=∀(i c s:Nat),l[i]?=some c->m[i]?=some s->c=42\/c=s
def GZ(ds:List D)(G:DH)(d:D)(G':DH):Prop:=∃p l m,ds=[.ref p,.str l]/\d=.str m/\okF l.length m/\Wi l m/\Pen G' p/\Sb p G G'
def jL:RF.Spec:=bj sG GZ
theorem yr{p:Addr}{l:List Nat}{G:DH}{k:D->DH->Prop}{E:EK}(hp:Pen G p)(hl:∀c∈l,isF c)(h2:l.length<=1000)(hk:∀(m:List Nat)(G':DH),okF l.length m->Wi l m->Pen G' p->Sb p G G'->k (.str m) G'):jL.t [.ref p,.str l] G k E:=by refine bM ⟨p,l,rfl,hp,hl,h2⟩ λd G' hx=>?_;obtain ⟨p2,l2,m,e1,e2,h,hw,hp',sb⟩:=hx;cases e1;subst e2;exact hk m G' h hw hp' sb
theorem aa5{p:Addr}{l:List Nat}{G:DH}{k:D->DH->Prop}{E:EK}(hp:Pen G p)(hl:∀c∈l,isF c)(h2:l.length<=1000)(hk:∀(m:List Nat)(G':DH),okF l.length m->Pen G' p->Sb p G G'->k (.str m) G'):jL.t [.ref p,.str l] G k E:=
 yr hp hl h2 λm G' h1 _ h2 h3=>hk m G' h1 h2 h3
theorem Wi.snoc{l m:List Nat}{i c s:Nat}(h:Wi l m)(hm:m.length=i)(hc:l[i]?=some c)(hs:c=42\/c=s):Wi l (m++[s]):=by
 intro j c' s' h1 h2;by_cases hj:j < i
 ·rw[cq (by omega)]at h2;exact h j c' s' h1 h2
 ·have hji:j=i:=by
   have:=(ag.mp h2).1;rw[al,ek]at this;omega
  subst hji;rw[hc]at h1;rw[eT (by omega),hm,Nat.sub_self]at h2;have e1:c=c':=by simpa using h1
  have e2:s=s':=by simpa using h2
  subst e1 e2;exact hs
theorem aa6 (Z:aj) (h1:Z "_law_take"=dM) (ds:List D) (G:DH) (h:sG ds G):au Z xZ noE (env0 ds 2) G (ends (GZ ds G)):=by
 obtain ⟨p,l,rfl,hp,hl,hl2⟩:=h;simp_all_arith[xZ];nofun;erw[ends];symm;simp_arith![ends];refine ForG.inv (P:=λi Y G'=>(∃o m,Y=[some (.ref p),some (.str l),some (.str m),o]/\okF i m/\Wi l m)/\Pen G' p/\Sb p G G') ⟨⟨_,_,rfl,⟨rfl,by simp⟩,λi c s _ h=>by simp at h⟩,hp,Sb.refl _ _⟩ (λ_ _ _ _=>trivial) ?_ ?_
 ·rintro i d Y G2 hd ⟨⟨o,m,rfl,hm,hwi⟩,hp2,sb2⟩ kk hk;rw[aw]at hd;obtain ⟨c,hc,rfl⟩:=ar.mp hd;have hi:i < l.length:=(ag.mp hc).1;have fc:=hl c (ba hc);have l1:=hm.1;simp_arith![ends];nofun;have fin:∀(c':Nat)(G3:DH),isF c'->(c=42\/c=c')->Pen G3 p->Sb p G2 G3->M [some (.ref p),some (.str l),some (.str m),some (.str [c'])] G3:=by
   intro c' G3 fc hcc hp3 sb3;ac_nf0;erw[ends];exact ⟨by bv_omega,hk _ _ ⟨⟨_,_,rfl,hm.app (okF.one fc),hwi.snoc l1 hc hcc⟩,hp3,sb2.trans sb3⟩⟩
  erw[h1];cases ht:([c]==[42]) with
  |false=>exact fin c G2 fc (.inr rfl) hp2 (Sb.refl _ _)
  |true=>
   have h42:c=42:=by simpa using ht
   refine bR hp2 (by decide) (by decide) λr G3 hr hp3 sb3=>?_;erw[ends];cases hr0:((r:Int)==0) with
   |false=>exact fin c G3 fc (.inr rfl) hp3 sb3
   |true=>
    refine bR hp3 (by decide) (by decide) λr' G4 hr' hp4 sb4=>?_;obtain ⟨c',e,fc'⟩:=aa2 hr';erw[e];exact fin c' G4 fc' (.inl h42) hp4 (sb3.trans sb4)
 ·rintro Y G2 ⟨⟨o,m,rfl,hm,hwi⟩,hp2,sb2⟩;refine hM _ _ ?_;erw[ends];exact ⟨p,l,m,rfl,rfl,by simpa using hm,hwi,hp2,sb2⟩
theorem aa7 (Z:aj) (h1:Z "_law_take"=dM) (ds:List D) (G:DH) (h:sG ds G):au Z xY noE (env0 ds 2) G (ends (GX ds G)):=by
 obtain ⟨p,l,rfl,hp,hl,hl2⟩:=h;simp_all_arith[xY];nofun;erw[ends];symm;simp_arith![ends];refine ForG.inv (P:=λi Y G'=>(∃o m,Y=[some (.ref p),some (.str l),some (.str m),o]/\okF i m)/\Pen G' p/\Sb p G G') ⟨⟨_,_,rfl,rfl,by simp⟩,hp,Sb.refl _ _⟩ (λ_ _ _ _=>trivial) ?_ ?_
 ·rintro i d Y G2 hd ⟨⟨o,m,rfl,hm⟩,hp2,sb2⟩ kk hk;rw[aw]at hd;obtain ⟨c,hc,rfl⟩:=ar.mp hd;have hi:i < l.length:=(ag.mp hc).1;have fc:=hl c (ba hc);have l1:=hm.1;simp_arith![ends];nofun;have fin:∀(c:Nat)(G3:DH),isF c->Pen G3 p->Sb p G2 G3->M [some (.ref p),some (.str l),some (.str m),some (.str [c])] G3:=by
   intro c G3 fc hp3 sb3;ac_nf0;erw[ends];exact ⟨by bv_omega,hk _ _ ⟨⟨_,_,rfl,hm.app (okF.one fc)⟩,hp3,sb2.trans sb3⟩⟩
  erw[h1];refine bR hp2 (by decide) (by decide) λr G3 hr hp3 sb3=>?_;erw[ends];cases hr0:((r:Int)==0) with
  |false=>exact fin c G3 fc hp3 sb3
  |true=>exact fin 42 G3 (.inr (.inr rfl)) hp3 sb3
 ·rintro Y G2 ⟨⟨o,m,rfl,hm⟩,hp2,sb2⟩;refine hM _ _ ?_;erw[ends];exact ⟨p,l,m,rfl,rfl,by simpa using hm,hp2,sb2⟩
theorem Ha{G G':DH}{p:Addr}{x:D}{fs:List (List Nat)}(hv:view G x=.lst (fs.map D.str))(hp:Pen G p)(sb:Sb p G G'):view G' x=.lst (fs.map D.str):=by
 cases x with
 |ref q=>
  unfold view at hv;dsimp only at hv;cases g:G q with
  |none=>rw[g]at hv;cases hv
  |some o=>
   cases o with
   |lst ds=>
    rw[g]at hv;have e:ds=fs.map D.str:=by simpa using hv
    have hn:q≠p:=by
     rintro rfl;obtain ⟨ns,k,st,e1,_⟩:=hp;rw[g,e]at e1;cases fs with
     |nil=>simp at e1
     |cons a r=>simp at e1
    rw[cU (sb q _ g hn),e]
 |lst l=>exact hv
 |_=>cases hv
def Hb(ds:List D)(G:DH):Prop:=∃p,∃w:Nat,∃x,∃fs:List (List Nat),ds=[.ref p,.int w,x]/\Pen G p/\0 < w/\w<=1000/\view G x=.lst (fs.map D.str)/\fs.length<=1000/\∀f∈fs,okF w f
def yt(ds:List D)(G:DH)(d:D)(G':DH):Prop:=∃p,∃w:Nat,∃x m,ds=[.ref p,.int w,x]/\d=.str m/\okF w m/\Pen G' p/\Sb p G G'
def sI:RF.Spec:=bj Hb yt
theorem aa8{p:Addr}{w:Nat}{x:D}{fs:List (List Nat)}{G:DH}{k:D->DH->Prop}{E:EK}(hp:Pen G p)(h1:0 < w)(h2:w<=1000)(hv:view G x=.lst (fs.map D.str))(h3:fs.length<=1000)(h4:∀f∈fs,okF w f)
  (hk:∀(m:List Nat)(G':DH),okF w m->Pen G' p->Sb p G G'->k (.str m) G'):sI.t [.ref p,.int w,x] G k E:=by
 refine bM ⟨p,w,x,fs,rfl,hp,h1,h2,hv,h3,h4⟩ λd G' hx=>?_;obtain ⟨p2,w2,x2,m,e1,e2,h,hp',sb⟩:=hx;simp only[cf,D.ref.injEq,D.int.injEq,Int.ofNat_inj,eP]at e1;obtain ⟨rfl,rfl,rfl⟩:=e1;subst e2;exact hk m G' h hp' sb
theorem aa9(fs:List (List Nat)):nrs (fs.map D.str)=true:=by
 induction fs with
 |nil=>rfl
 |cons a l ih=>rw[bi,nrs,ih];rfl
theorem aba(fs:List (List Nat)):aV (fs.map D.str)=0:=by
 induction fs with
 |nil=>rfl
 |cons a l ih=>rw[bi,aV,ih];rfl
theorem abb{w n:Nat}{l:List Nat}{c:Nat}(h:okF w l)(hn:n < w)(fc:isF c):okF w (cut l none (some (n:Int))++[c]++cut l (some ((n:Int)+1)) none):=by
 have h1:=h.1;rw[iM,rZ];refine ⟨?_,λd hd=>?_⟩
 ·simp;omega
 ·rcases a8.mp hd with hd |hd
  ·rcases a8.mp hd with hd |hd
   ·exact h.2 d (List.mem_of_mem_take hd)
   ·rw[aI.mp hd];exact fc
  ·exact h.2 d (List.mem_of_mem_drop hd)
theorem abd (Z:aj) (h1:Z "_law_take"=dM) (h2:Z "_law_form"=yp) (h3:Z "_law_within"=jL) (h4:Z "_law_wider"=sH) (ds:List D) (G:DH) (h:Hb ds G):au Z yc noE (env0 ds 3) G (ends (yt ds G)):=by
 obtain ⟨p,w,x,fs,rfl,hp,w1,w2,hv,hf,hfs⟩:=h;simp_all_arith[yc];nofun;erw[h1];refine bR hp (by decide) (by decide) λkd G2 hkd hp2 sb2=>?_;have hv2:=Ha hv hp sb2;symm;have drawn:∀(Y:ak) (G3:DH),Pen G3 p->Sb p G G3->au Z (.cons (.ret (.call "_law_form" (.cons (.var 0) (.cons (.var 1) .nil)))) .nil) noE (some (.ref p)::some (.int w)::Y) G3 { nx:=M,rt:=yt [.ref p,.int w,x] G,bk:=λ_ _=>False,ct:=λ_ _=>False }:=by intro Y G3 hp3 sb3;erw[h2];refine bM ⟨p,w,rfl,hp3,w2⟩ λd G4 hx=>?_;obtain ⟨p4,n4,l,e1,e2,l1,l2,hp4,sb4⟩:=hx;simp only[cf,D.ref.injEq,D.int.injEq,Int.ofNat_inj,eP]at e1;obtain ⟨rfl,rfl⟩:=e1;exact ⟨p,w,x,l,rfl,e2,⟨l1,l2⟩,hp4,sb3.trans sb4⟩
 simp_arith![hv2,GK,aba,aa9];refine ⟨by decide,?_⟩;cases he:(fs.map D.str).isEmpty with
 |true=>exact drawn _ _ hp2 sb2
 |false=>
  have hlen:0 < fs.length:=by
   cases fs with
   |nil=>simp at he
   |cons a r=>simp
  simp_arith![ends];cases hk2:decide ((kd:Int) < 2) with
  |true=>exact drawn _ _ hp2 sb2
  |false=>
   erw[ends];symm;erw[h1,hv2,af];refine bR hp2 (by omega) (by omega) λr G3 hr hp3 sb3=>?_;have hv3:=Ha hv2 hp2 sb3;erw[hv3];have hr':r < fs.length:=by omega
   refine bz (a:=.str fs[r]) (bf (by simp[hr'])) ?_;have fok:=hfs fs[r] (ce _);generalize fs[r]=f at fok;symm;have sb':=sb2.trans sb3;erw[ends];cases hk3:((kd:Int)==2) with
   |true=>exact ⟨p,w,x,f,rfl,rfl,fok,hp3,sb'⟩
   |false=>
    symm;simp_arith![ends];cases hk5:decide ((kd:Int) < 5) with
    |true=>
     erw[h1];refine bR hp3 (by omega) (by omega) λat' G4 hat hp4 sb4=>?_;refine bR hp4 (by decide) (by decide) λs G5 hs hp5 sb5=>?_;obtain ⟨c,e,fc⟩:=aa3 hs;have c1:=GJ f none (some (at':Int));have c2:=GJ f (some ((at':Int)+1)) none;have f1:=fok.1;erw[e,al];exact ⟨by bv_omega,by bv_omega,p,w,x,_,rfl,rfl,abb fok (by omega) fc,hp5,sb'.trans (sb4.trans sb5)⟩
    |false=>
     erw[ends];symm;have f1:=fok.1;erw[h3];cases hk6:((kd:Int)==5) with
     |true=>
      refine aa5 hp3 fok.2 (by omega) λm G4 hm hp4 sb4=>?_;rw[f1]at hm;exact ⟨p,w,x,m,rfl,rfl,hm,hp4,sb'.trans sb4⟩
     |false=>
      refine hM _ _ ?_;erw[h4];refine aa4 hp3 fok.2 (by omega) λm G4 hm hp4 sb4=>?_;rw[f1]at hm;exact ⟨p,w,x,m,rfl,rfl,hm,hp4,sb'.trans sb4⟩
def okD(l:List Nat):Prop:=1<=l.length/\l.length<=8/\∀c∈l,97<=c/\c<=122
theorem abe{p:Addr}{n:Nat}{cs:List Nat}{G:DH}{k:D->DH->Prop}{E:EK}(hp:Pen G p)(hn:n<=1000)(h1:cs≠[])(h2:cs.length<=1000)(hk:∀(l:List Nat)(G':DH),l.length=n->(∀c∈l,c∈cs)->Pen G' p->Sb p G G'->k (.str l) G'):mK.t [.ref p,.int n,.str cs] G k E:=by refine bM ⟨p,n,cs,rfl,hp,hn,h1,h2⟩ λd G' hx=>?_;obtain ⟨p2,n2,cs2,l,e1,e2,l1,l2,hp',sb⟩:=hx;simp only[cf,D.ref.injEq,D.int.injEq,D.str.injEq,Int.ofNat_inj,eP]at e1;obtain ⟨rfl,rfl,rfl⟩:=e1;subst e2;exact hk l G' l1 l2 hp' sb
def Hd(ds:List D)(G:DH):Prop:=∃p,∃m:Int,ds=[.ref p,.int m]/\Pen G p/\0 < m/\m<=100
def Hf(ds:List D)(G:DH)(d:D)(G':DH):Prop:=∃p,∃m:Int,∃xs:List (List Nat),ds=[.ref p,.int m]/\d=.lst (xs.map D.str)/\0 < xs.length/\xs.length<=100/\(∀x∈xs,okD x)/\Pen G' p/\Sb p G G'
def sJ:RF.Spec:=bj Hd Hf
def yu:List (List Nat):=[[97],[103,111],[115,116,97,121],[97,98,99,100,101,102,103,104],[110,111,110,101],[121,101,115],[105,110],[111,117,116],[107,101,101,112],[119,111,114,100],[122,122]]
theorem abf:∀x∈yu,okD x:=by
 have h:∀x∈yu,1<=x.length/\x.length<=8/\∀c∈x,97<=c/\c<=122:=by decide
 exact h
theorem Hg{c:Nat}(h:c∈[97,98,99,100,101,102,103,104,105,106,107,108,109,110,111,112,113,114,115,116,117,118,119,120,121,122]):97<=c/\c<=122:=by
 have:∀c∈[97,98,99,100,101,102,103,104,105,106,107,108,109,110,111,112,113,114,115,116,117,118,119,120,121,122],97<=c/\c<=122:=by decide
 exact this c h
theorem abg (Z:aj) (h1:Z "_law_take"=dM) (h2:Z "_law_signs"=mK) (ds:List D) (G:DH) (h:Hd ds G):au Z xW noE (env0 ds 4) G (ends (Hf ds G)):=by
 obtain ⟨p,m,rfl,hp,m1,m2⟩:=h;simp_all_arith[xW];nofun;erw[ends];refine ⟨by decide,hM _ _ ?_⟩;refine (λtail=>tail yu rfl abf) (?_:∀xs:List (List Nat),xs.length=11->(∀x∈xs,okD x)->au Z _ noE [some (.ref p),some (.int m),some (.lst (xs.map D.str)),none,none,none] G _);intro xs x1 x2;nofun;erw[h1];refine bR hp (by decide) (by decide) λt G2 ht hp2 sb2=>?_;symm;erw[h1];refine bR hp2 (by omega) (by omega) λr G3 hr hp3 sb3=>?_;erw[ends];refine ⟨by omega,?_⟩;refine CompG.inv (P:=λi acc Y G'=>(∃o,Y=[o,some (.lst (xs.map D.str)),some (.int t)])/\G'=G3/\∃ys:List (List Nat),acc=ys.map D.str/\ys.length=i/\∀y∈ys,okD y) ⟨⟨_,rfl⟩,rfl,[],rfl,rfl,by simp⟩ (λ_ _ _ _ _=>trivial) (by simp[aZ];bv_omega) ?_ ?_
 ·rintro i d acc Y G' hd ⟨⟨o,rfl⟩,rfl,ys,rfl,y1,y2⟩ kk hk;unfold aZ at hd;rw[aw]at hd;obtain ⟨j,hj,rfl⟩:=ar.mp hd;erw[ends];have q0:0<=((t:Int)+3 * (0+(j:Int))) % 11:=eJ _ (by decide);have q1:((t:Int)+3 * (0+(j:Int))) % 11 < 11:=eA _ (by decide);refine ⟨yo (by decide),by decide,jF q0 (by rw[af,x1];exact q1) λa ha=>?_⟩;obtain ⟨x,hx,rfl⟩:=bg.mp ha;refine hk _ _ _ ⟨⟨_,rfl⟩,rfl,ys++[x],by simp,by simp[y1],λy hy=>?_⟩;rcases a8.mp hy with h |h
  ·exact y2 y h
  ·rw[aI.mp h];exact x2 x hx
 ·rintro acc Y G' ⟨_,rfl,ys,rfl,y1,y2⟩;have hy:ys.length=r+1:=by rw[y1];simp[aZ];omega
  symm;erw[h1];refine bR hp3 (by decide) (by decide) λq G4 hq hp4 sb4=>?_;have sb':=sb2.trans (sb3.trans sb4);erw[ends];cases hq0:((q:Int)==0) with
  |false=>
   refine hM _ _ ?_;erw[ends];exact ⟨p,m,ys,rfl,rfl,by omega,by omega,y2,hp4,sb'⟩
  |true=>
   erw[ends];refine CompG.inv (P:=λi acc Y G'=>(∃o,Y=[o,some (.ref p),some (.str [97,98,99,100,101,102,103,104,105,106,107,108,109,110,111,112,113,114,115,116,117,118,119,120,121,122])])/\Pen G' p/\Sb p G G'/\∃zs:List (List Nat),acc=zs.map D.str/\zs.length=i/\∀z∈zs,okD z) ⟨⟨_,rfl⟩,hp4,sb',[],rfl,rfl,by simp⟩ (λ_ _ _ _ _=>trivial) (by simp;bv_omega) ?_ ?_
   ·rintro i d acc Y G' hd ⟨⟨o,rfl⟩,hp5,sb5,zs,rfl,z1,z2⟩ kk hk;erw[h1,h2];refine bR hp5 (by decide) (by decide) λn G6 hn hp6 sb6=>?_;erw[ends];rw[show (1:Int)+(n:Int)=((n+1:Nat):Int) by omega];refine abe hp6 (by omega) (by simp) (by simp) λl G7 l1 l2 hp7 sb7=>?_;refine hk _ _ _ ⟨⟨_,rfl⟩,hp7,sb5.trans (sb6.trans sb7),zs++[l],by simp,by simp[z1],λz hz=>?_⟩;rcases a8.mp hz with h |h
    ·exact z2 z h
    ·rw[aI.mp h];exact ⟨by omega,by omega,λc hc=>Hg (l2 c hc)⟩
   ·rintro acc Y G' ⟨_,hp5,sb5,zs,rfl,z1,z2⟩;rw[af]at z1;refine hM _ _ ?_;erw[ends];exact ⟨p,m,zs,rfl,rfl,by omega,by omega,z2,hp5,sb5⟩
abbrev Row:=List Nat×List Nat
def aq(r:Row):D:=.tup [.str r.1,.str r.2]
def aA(w:Nat)(rs:List Row):D:=.tup [.int w,.tup (rs.map aq)]
structure okB(w:Nat)(rs:List Row):Prop where
 w1:1<=w
 w6:w<=6
 len:rs.length<=12
 form:∀r∈rs,okF w r.1
 deed:∀r∈rs,okD r.2
def Hh(ds:List D)(G:DH):Prop:=∃p,∃w m:Nat,ds=[.ref p,.int w,.int m]/\Pen G p/\1<=w/\w<=6/\m<=12
def Hi(ds:List D)(G:DH)(d:D)(G':DH):Prop:=∃p,∃w m v:Nat,∃rs:List Row,ds=[.ref p,.int w,.int m]/\d=aA v rs/\okB v rs/\v<=w/\rs.length<=m/\Pen G' p/\Sb p G G'
def sO:RF.Spec:=bj Hh Hi
theorem abh{p:Addr}{w m:Nat}{G:DH}{k:D->DH->Prop}{E:EK}(hp:Pen G p)(h1:1<=w)(h2:w<=6)(h3:m<=12)(hk:∀(v:Nat)(rs:List Row)(G':DH),okB v rs->v<=w->rs.length<=m->Pen G' p->Sb p G G'->k (aA v rs) G'):sO.t [.ref p,.int w,.int m] G k E:=by refine bM ⟨p,w,m,rfl,hp,h1,h2,h3⟩ λd G' hx=>?_;obtain ⟨p2,w2,m2,v,rs,e1,e2,o,q1,q2,hp',sb⟩:=hx;simp only[cf,D.ref.injEq,D.int.injEq,Int.ofNat_inj,eP]at e1;obtain ⟨rfl,rfl,rfl⟩:=e1;subst e2;exact hk v rs G' o q1 q2 hp' sb
theorem abi{p:Addr}{m:Int}{G:DH}{k:D->DH->Prop}{E:EK}(hp:Pen G p)(h1:0 < m)(h2:m<=100)(hk:∀(xs:List (List Nat))(G':DH),0 < xs.length->xs.length<=100->(∀x∈xs,okD x)->Pen G' p->Sb p G G'->k (.lst (xs.map D.str)) G'):sJ.t [.ref p,.int m] G k E:=by refine bM ⟨p,m,rfl,hp,h1,h2⟩ λd G' hx=>?_;obtain ⟨p2,m2,xs,e1,e2,q1,q2,q3,hp',sb⟩:=hx;cases e1;subst e2;exact hk xs G' q1 q2 q3 hp' sb
theorem Bg{α:Type}{l:List α}{a:α}:atI (l++[a]) (-1)=some a:=by unfold atI ixN;rw[if_neg (by decide),if_pos (by simp;omega),al,ek,show (-1+((l.length+1:Nat):Int)).toNat=l.length by omega];simp
theorem abj (Z:aj) (h1:Z "_law_take"=dM) (h2:Z "_law_deeds_of"=sJ) (h3:Z "_law_form_like"=sI) (ds:List D) (G:DH) (h:Hh ds G):au Z yd noE (env0 ds 5) G (ends (Hi ds G)):=by
 obtain ⟨p,w,m,rfl,hp,w1,w2,m1⟩:=h;simp_all_arith[yd];nofun;erw[h1];refine bR hp (by omega) (by omega) λn G2 hn hp2 sb2=>?_;erw[ends];rw[show (1:Int)+(n:Int)=((n+1:Nat):Int) by omega];symm;erw[h2];refine abi hp2 (by decide) (by decide) λxs G3 x1 x2 x3 hp3 sb3=>?_;symm;erw[ends];refine λq hq=>hM _ _ (seq λM hM=>?_);erw[ends];refine λs hs=>hM _ _ (seq λM hM=>?_);have hqs:q≠s:=by rintro rfl;rw[bF]at hs;cases hs
 have hs3:G3 s=none:=by rw[dj (Ne.symm hqs)]at hs;exact hs
 have npq:p≠q:=hp3.ne hq;have nps:p≠s:=hp3.ne hs3;have sa4:Sa G3 (aX (aX G3 q (.lst [])) s (.lst [])):=(Sa.new hq).trans (Sa.new hs);have hp4:=hp3.sa sa4;simp_arith![h1];refine bR hp4 (by omega) (by omega) λr G5 hr hp5 sb5=>?_;simp_arith![ends];refine ⟨by omega,?_⟩;refine ForG.inv (P:=λi Y G'=>(∃o,Y=[some (.ref p),some (.int w),some (.int m),some (.int ((n+1:Nat):Int)),some (.lst (xs.map D.str)),some (.ref q),some (.ref s),o])/\Pen G' p/\Sb p G G'/\
   ∃rs:List Row,G' q=some (.lst ((rs.map (·.1)).map D.str))/\G' s=some (.lst (rs.map aq))/\rs.length=i/\(∀r∈rs,okF (n+1) r.1)/\∀r∈rs,okD r.2) ⟨⟨_,rfl⟩,hp5,sb2.trans (sb3.trans (sa4.sb.trans sb5)),[],?_,?_,rfl,by simp,by simp⟩ (λ_ _ _ _=>trivial) ?_ ?_
 ·exact sb5 q _ (by rw[dj hqs];exact bF) (Ne.symm npq)
 ·exact sb5 s _ bF (Ne.symm nps)
 ·rintro i d Y G' hd ⟨⟨o,rfl⟩,hp6,sb6,rs,g1,g2,r1,r2,r3⟩ kk hk;have hi:i < r:=by
   have:=(ag.mp hd).1;simpa [aZ] using this
  simp_arith![ends];nofun;erw[h3,cT g1];refine aa8 (fs:=rs.map (·.1)) hp6 (by omega) (by omega) (cU g1) (by simp;omega) (λf hf=>?_) λf G7 hf hp7 sb7=>?_
  ·obtain ⟨r',hr',rfl⟩:=bg.mp hf;exact r2 r' hr'
  have g1':=sb7 q _ g1 (Ne.symm npq);have g2':=sb7 s _ g2 (Ne.symm nps);erw[cT g1'];refine ⟨by simp;bv_omega,hM _ _ (last ?_)⟩;have e2:aX G7 q (.lst ((rs.map (·.1)).map D.str++[.str f])) s=some (.lst (rs.map aq)):=by rw[dj (Ne.symm hqs)];exact g2'
  have hp8:Pen (aX G7 q (.lst ((rs.map (·.1)).map D.str++[.str f]))) p:=hp7.sb Sb.upd npq;erw[h1,cT e2,cU bF,Bg,af];refine bR hp8 (by omega) (by omega) λt G9 ht hp9 sb9=>?_;have e1':=sb9 q _ bF (Ne.symm npq);have e2':=sb9 s _ e2 (Ne.symm nps);erw[cT e2'];refine jF (by omega) (by simp;omega) λx hx=>?_;obtain ⟨dd,hdd,rfl⟩:=bg.mp hx;refine ⟨by decide,by simp;bv_omega,hk _ _ ⟨⟨_,rfl⟩,hp9.sb Sb.upd nps,?_,rs++[(f,dd)],?_,?_,by simp[r1],?_,?_⟩⟩
  ·intro b ob hb nb;by_cases hbs:b=s
   ·subst hbs;exfalso;have z:=sb2 b _ hb nb;have z:=sb3 b _ z nb;rw[hs3]at z;cases z
   ·by_cases hbq:b=q
    ·subst hbq;exfalso;have z:=sb2 b _ hb nb;have z:=sb3 b _ z nb;rw[hq]at z;cases z
    ·rw[dj hbs];exact sb9 b _ (by rw[dj hbq];exact sb7 b _ (sb6 b _ hb nb) nb) nb
  ·rw[dj hqs,e1'];simp
  ·rw[bF];simp[aq]
  ·intro r' hr';rcases a8.mp hr' with h |h
   ·exact r2 r' h
   ·rw[aI.mp h];exact hf
  ·intro r' hr';rcases a8.mp hr' with h |h
   ·exact r3 r' h
   ·rw[aI.mp h];exact x3 dd hdd
 ·rintro Y G' ⟨⟨o,rfl⟩,hp6,sb6,rs,g1,g2,r1,r2,r3⟩;have hl:rs.length=r:=by rw[r1];simp[aZ]
  refine hM _ _ ?_;erw[cU g2];exact ⟨by decide,p,w,m,n+1,rs,rfl,rfl,⟨by omega,by omega,by omega,r2,r3⟩,by omega,by omega,hp6,sb6⟩
def alt(c:Nat):List Nat:=if c=42 then [48,49] else [c]
def step1(acc:List (List Nat))(c:Nat):List (List Nat):=acc.flatMap λt=>(alt c).map λs=>t++[s]
def aP(f:List Nat):List (List Nat):=f.foldl step1 [[]]
def Fits(f w:List Nat):Prop:=f.length=w.length/\∀(i c s:Nat),f[i]?=some c->w[i]?=some s->s∈alt c
theorem yw(f:List Nat)(c:Nat):aP (f++[c])=step1 (aP f) c:=by unfold aP;rw[List.foldl_append];rfl
theorem abk{acc:List (List Nat)}{c:Nat}{w:List Nat}:w∈step1 acc c↔∃t s,t∈acc/\s∈alt c/\w=t++[s]:=by
 unfold step1;rw[List.mem_flatMap];constructor
 ·rintro ⟨t,ht,h⟩;obtain ⟨s,hs,rfl⟩:=bg.mp h;exact ⟨t,s,ht,hs,rfl⟩
 ·rintro ⟨t,s,ht,hs,rfl⟩;exact ⟨t,ht,bg.mpr ⟨s,hs,rfl⟩⟩
theorem yx{f w:List Nat}{c s:Nat}:Fits (f++[c]) (w++[s])↔Fits f w/\s∈alt c:=by
 constructor
 ·rintro ⟨h1,h2⟩;have hl:f.length=w.length:=by simpa using h1
  refine ⟨⟨hl,λi c' s' hc hs=>?_⟩,?_⟩
  ·have i1:=(ag.mp hc).1;exact h2 i c' s' (by rw[cq i1];exact hc) (by rw[cq (by omega)];exact hs)
  ·exact h2 f.length c s (by simp) (by rw[hl];simp)
 ·rintro ⟨⟨h1,h2⟩,h3⟩;refine ⟨by simp[h1],λi c' s' hc hs=>?_⟩;by_cases hi:i < f.length
  ·rw[cq hi]at hc;rw[cq (by omega)]at hs;exact h2 i c' s' hc hs
  ·have i2:=(ag.mp hc).1;simp at i2;have e:i=f.length:=by omega
   subst e;simp at hc;rw[h1]at hs;simp at hs;subst hc hs;exact h3
theorem cz{f w:List Nat}:w∈aP f↔Fits f w:=by
 induction f using GP generalizing w with
 |nil=>
  simp[aP,Fits];constructor
  ·rintro rfl;simp
  ·intro h;exact db.mp h.symm
 |snoc f c ih=>
  rw[yw,abk];constructor
  ·rintro ⟨t,s,ht,hs,rfl⟩;exact yx.mpr ⟨ih.mp ht,hs⟩
  ·intro h;have hl:=h.1;simp at hl;have hne:w≠[]:=by rintro rfl;simp at hl
   refine ⟨w.dropLast,w.getLast hne,?_,?_,(eD hne).symm⟩
   ·rw[<-eD hne]at h;exact ih.mpr (yx.mp h).1
   ·rw[<-eD hne]at h;exact (yx.mp h).2
theorem abl{f w:List Nat}(h:w∈aP f):w.length=f.length:=(cz.mp h).1.symm
theorem Hj{acc:List (List Nat)}{c:Nat}:(step1 acc c).length<=2 * acc.length:=by
 unfold step1;induction acc with
 |nil=>simp
 |cons a r ih=>
  rw[eM,al,af,cS];have:(alt c).length<=2:=by unfold alt;split <;> simp
  omega
theorem abm(f:List Nat):(aP f).length<=2 ^ f.length:=by
 induction f using GP with
 |nil=>simp[aP]
 |snoc f c ih=>
  rw[yw,al,ek,Nat.pow_succ];have:=@Hj (aP f) c;omega
theorem abn{a b:List (List Nat)}{c:Nat}:step1 (a++b) c=step1 a c++step1 b c:=by unfold step1;rw[List.flatMap_append]
def Hk(ds:List D)(_:DH):Prop:=∃f:List Nat,ds=[.str f]/\f.length<=12
def Hl(ds:List D)(G:DH)(d:D)(G':DH):Prop:=∃f:List Nat,ds=[.str f]/\d=.lst ((aP f).map D.str)/\Sa G G'
def mO:RF.Spec:=bj Hk Hl
theorem yz{f:List Nat}{G:DH}{k:D->DH->Prop}{E:EK}(h:f.length<=12)(hk:∀G',Sa G G'->k (.lst ((aP f).map D.str)) G'):mO.t [.str f] G k E:=by refine bM ⟨f,rfl,h⟩ λd G' hx=>?_;obtain ⟨f2,e1,e2,sa⟩:=hx;cases e1;subst e2;exact hk G' sa
theorem abo(Z:aj)(ds:List D)(G:DH)(h:Hk ds G):au Z yf noE (env0 ds 4) G (ends (Hl ds G)):=by
 obtain ⟨f,rfl,hf⟩:=h;simp_all_arith[yf];nofun;erw[ends];refine ⟨by decide,hM _ _ (seq λM hM=>?_)⟩;simp_arith![ends];refine ForG.inv (P:=λi Y G'=>(∃o2 o3 o4,Y=[some (.str f),some (.lst ((aP (f.take i)).map D.str)),o2,o3,o4])/\Sa G G') ⟨⟨_,_,_,rfl⟩,Sa.refl G⟩ (λ_ _ _ _=>trivial) ?_ ?_
 ·rintro i d Y G2 hd ⟨⟨o2,o3,o4,rfl⟩,sa⟩ kk hk;rw[aw]at hd;obtain ⟨c,hc,rfl⟩:=ar.mp hd;have hi:=(ag.mp hc).1;have ht:f.take (i+1)=f.take i++[c]:=by rw[cw,hc];rfl
  have hcard:(aP (f.take i)).length<=4096:=by
   have h1:=abm (f.take i);have h2:(f.take i).length<=12:=by rw[bb];omega
   have h3:=dk (show 0 < 2 by decide) h2;have h4:2 ^ 12=4096:=by decide
   omega
  simp_arith![ends];nofun;erw[ends];refine λq hq=>hM _ _ (seq λM hM=>?_);simp_arith![ends];refine ForG.inv (P:=λj Y G'=>(∃o4,Y=[some (.str f),some (.lst ((aP (f.take i)).map D.str)),some (.str [c]),some (.ref q),o4])/\Sa G G'/\G' q=some (.lst ((step1 ((aP (f.take i)).take j) c).map D.str))) ⟨⟨_,rfl⟩,sa.trans (Sa.new hq),bF⟩ (λ_ _ _ _=>trivial) ?_ ?_
  ·rintro j d Y G3 hd3 ⟨⟨o4,rfl⟩,sa3,g3⟩ kk' hk';rw[aw]at hd3;obtain ⟨t,htt,rfl⟩:=ar.mp hd3;have hj:=(ag.mp htt).1;have tlen:t.length<=12:=by rw[abl (ba htt),bb];omega
   have tk:(aP (f.take i)).take (j+1)=(aP (f.take i)).take j++[t]:=by rw[cw,htt];rfl
   have st:step1 [t] c=(alt c).map λs=>t++[s]:=by simp[step1]
   have l1:(step1 ((aP (f.take i)).take j) c).length<=8192:=by
    have:=@Hj ((aP (f.take i)).take j) c;have:((aP (f.take i)).take j).length<=4096:=by rw[bb];omega
    omega
   have al2:(alt c).length<=2:=by unfold alt;split <;> simp
   simp_arith![ends];refine last ?_;erw[cT g3];refine ⟨by decide,?_⟩;have ix:atI [D.str [48,49],D.str [c]] (if (!([c]==[42]))=true then 1 else 0)=some (.str (alt c)):=by
    unfold alt;by_cases h42:c=42
    ·subst h42;rfl
    ·have:([c]==[42])=false:=by simp[h42]
     rw[this,if_neg h42];rfl
   erw[ix];refine CompG.map (f:=λd=>match d with |.str [s]=>.str (t++[s]) |_=>.non) (I:=λY=>∃o,Y=[o,some (.str t)]) ⟨_,rfl⟩ trivial (by simp;bv_omega) ?_ ?_
   ·rintro d Y hd ⟨o,rfl⟩ kk2 hk2;obtain ⟨s,_,rfl⟩:=bg.mp hd;erw[ends];exact ⟨by bv_omega,hk2 _ ⟨_,rfl⟩⟩
   ·rw[df];erw[Function.comp_def,cT g3,af];refine ⟨by bv_omega,hk' _ _ ⟨⟨_,rfl⟩,?_,?_⟩⟩
    ·intro b ob hb;by_cases hbq:b=q
     ·subst hbq;exfalso;have:=sa b _ hb;rw[hq]at this;cases this
     ·rw[dj hbq];exact sa3 b _ hb
    ·rw[bF,tk,abn,st,b4,df];rfl
  ·rintro Y G3 ⟨⟨o4,rfl⟩,sa3,g3⟩;rw[af,da]at g3;ac_nf0;erw[g3];refine hk _ _ ⟨⟨_,_,_,by rw[ht,yw]⟩,?_⟩;intro b ob hb;have hbq:b≠q:=by
    rintro rfl;have:=sa b _ hb;rw[hq]at this;cases this
   rw[vd hbq];exact sa3 b _ hb
 ·rintro Y G2 ⟨⟨o2,o3,o4,rfl⟩,sa⟩;rw[af,da];refine hM _ _ ?_;erw[ends];exact ⟨f,rfl,rfl,sa⟩
def letters:List Nat:=[97,98,99,100,101,102,103,104,105,106,107,108,109,110,111,112,113,114,115,116,117,118,119,120,121,122]
theorem abp:∀c:Fin 123,97<=c.1->letters.contains c.1=true:=by decide
theorem abq{c:Nat}:letters.contains c=true↔97<=c/\c<=122:=
 ⟨λh=>Hg (b3.mp h),λ⟨h1,h2⟩=>abp ⟨c,Nat.lt_succ_of_le h2⟩ h1⟩
def okW(w:Nat)(l:List Nat):Prop:=l.length=w/\∀c∈l,c=48\/c=49
theorem yC{α:Type}(l:List α):bools (l.map λ_=>D.bl true)=some (l.map λ_=>true):=rW _ l
theorem yD{α:Type}(l:List α):(l.map λ_=>true).all id=true:=bX.mpr λx hx=>by obtain ⟨_,_,rfl⟩:=bg.mp hx;rfl
def sS:RF.Spec:=cH (λa:List Nat×List Nat=>[.str a.1,.int a.2.length,.str a.2]) (λa=>a.2.length<=1000/\∀c∈a.2,a.1.contains c=true) (λ_=>.bl true)
theorem abr(Z:aj)(a:List Nat×List Nat)(G:DH)(h:a.2.length<=1000/\∀c∈a.2,a.1.contains c=true):au Z lL noE (env0 [.str a.1,.int a.2.length,.str a.2] 0) G (ends λd G'=>G'=G/\d=.bl true):=by
 obtain ⟨s,l⟩:=a;obtain ⟨h1,h2⟩:=h;dsimp only at h1 h2;erw[lL,BEq.rfl];refine CompG.map (f:=λ_=>.bl true) (I:=λY=>∃o,Y=[o,some (.str s)]) ⟨_,rfl⟩ trivial (by simp;bv_omega) ?_ ?_
 ·rintro d Y hd ⟨o,rfl⟩ kk hk;obtain ⟨c,hc,rfl⟩:=bg.mp hd;erw[h2 c hc];exact hk _ ⟨_,rfl⟩
 ·erw[yC,yD]
def sU:RF.Spec:=cH (λl:List Nat=>[.int l.length,.str l]) (λl=>l.length<=1000/\∀c∈l,c=48\/c=49) (λ_=>.bl true)
theorem abt (Z:aj) (h1:Z "is_text_of"=sS) (l:List Nat) (G:DH) (h:l.length<=1000/\∀c∈l,c=48\/c=49):au Z mG noE (env0 [.int l.length,.str l] 0) G (ends λd G'=>G'=G/\d=.bl true):=by erw[mG,h1];exact cV ([48,49],l) rfl ⟨h.1,λc hc=>by rcases h.2 c hc with rfl |rfl <;> rfl⟩ ⟨rfl,rfl⟩
theorem abu{w:Nat}{l:List Nat}{G:DH}{k:D->DH->Prop}{E:EK}(h:okW w l)(hw:w<=1000)(hk:k (.bl true) G):sU.t [.int w,.str l] G k E:=
 cV l (by rw[h.1]) ⟨by rw[h.1];exact hw,h.2⟩ hk
def yE:RF.Spec:=cH (λl:List Nat=>[.int l.length,.str l]) (λl=>l.length<=1000/\∀c∈l,isF c) (λ_=>.bl true)
theorem abv (Z:aj) (h1:Z "is_text_of"=sS) (l:List Nat) (G:DH) (h:l.length<=1000/\∀c∈l,isF c):au Z lM noE (env0 [.int l.length,.str l] 0) G (ends λd G'=>G'=G/\d=.bl true):=by erw[lM,h1];exact cV ([48,49,42],l) rfl ⟨h.1,λc hc=>by rcases h.2 c hc with rfl |rfl |rfl <;> rfl⟩ ⟨rfl,rfl⟩
def yF:RF.Spec:=cH (λl:List Nat=>[.str l]) okD (λ_=>.bl true)
theorem abw(Z:aj)(l:List Nat)(G:DH)(h:okD l):au Z lK noE (env0 [.str l] 0) G (ends λd G'=>G'=G/\d=.bl true):=by
 obtain ⟨h1,h2,h3⟩:=h;have b1:decide ((1:Int)<=(l.length:Int))=true:=bo (by omega);have b2:decide ((l.length:Int)<=8)=true:=bo (by omega);erw[lK,b1,b2];refine CompG.map (f:=λ_=>.bl true) (I:=λY=>∃o,Y=[o]) ⟨_,rfl⟩ trivial (by simp;bv_omega) ?_ ?_
 ·rintro d Y hd ⟨o,rfl⟩ kk hk;obtain ⟨c,hc,rfl⟩:=bg.mp hd;have hcl:[97,98,99,100,101,102,103,104,105,106,107,108,109,110,111,112,113,114,115,116,117,118,119,120,121,122].contains c=true:=abq.mpr (h3 c hc);erw[hcl];exact hk _ ⟨_,rfl⟩
 ·erw[yC,yD]
def yG:RF.Spec:=cH (λa:Nat×Row=>[.int a.1,aq a.2]) (λa=>a.1<=6/\okF a.1 a.2.1/\okD a.2.2) (λ_=>.bl true)
theorem abx (Z:aj) (h1:Z "is_form"=yE) (h2:Z "is_deed"=yF) (a:Nat×Row) (G:DH) (h:a.1<=6/\okF a.1 a.2.1/\okD a.2.2):au Z lN noE (env0 [.int a.1,aq a.2] 0) G (ends λd G'=>G'=G/\d=.bl true):=by obtain ⟨w,f,d⟩:=a;obtain ⟨hw,hf,hd⟩:=h;dsimp only at hw hf hd;erw[lN,aq,h1,h2];erw[show ((0+1+1:Nat):Int)=2 from rfl,BEq.rfl];refine cV f (by rw[hf.1]) ⟨by rw[hf.1];omega,hf.2⟩ ?_;erw[ends];exact cV d rfl hd ⟨rfl,rfl⟩
def yH:RF.Spec:=cH (λw:Nat=>[.int w]) (λw=>1<=w/\w<=6) (λ_=>.bl true)
theorem aby (Z:aj) (h1:Z "is_whole"=aM iT) (w:Nat) (G:DH) (h:1<=w/\w<=6):au Z lQ noE (env0 [.int w] 0) G (ends λd G'=>G'=G/\d=.bl true):=by have b1:decide ((1:Int)<=(w:Int))=true:=bo (by omega);have b2:decide ((w:Int)<=6)=true:=bo (by omega);erw[lQ,h1];refine cg (d:=.bl true) rfl ?_;erw[b1,b2]
def yI:RF.Spec:=cH (λa:Nat×List Row=>[aA a.1 a.2]) (λa=>okB a.1 a.2) (λ_=>.bl true)
theorem abz (Z:aj) (h1:Z "is_width"=yH) (h2:Z "is_row"=yG) (a:Nat×List Row) (G:DH) (h:okB a.1 a.2):au Z lR noE (env0 [aA a.1 a.2] 2) G (ends λd G'=>G'=G/\d=.bl true):=by
 obtain ⟨w,rs⟩:=a;dsimp only at h ⊢;have hlen:=h.len;simp_all_arith[lR,aA];nofun;erw[ends];erw[show ((0+1+1:Nat):Int)=2 from rfl,BEq.rfl];symm;erw[ends];symm;erw[h1];refine cV w rfl ⟨h.w1,h.w6⟩ ?_;have hd:decide ((12:Int) < ((rs.map aq).length:Int))=false:=bn (by rw[af];omega);erw[hd];refine hM _ _ ?_;erw[ends];refine CompG.map (f:=λ_=>.bl true) (I:=λY=>∃o,Y=[o,some (.int w)]) ⟨_,rfl⟩ trivial (by rw[af];bv_omega) ?_ ?_
 ·rintro d Y hd ⟨o,rfl⟩ kk hk;obtain ⟨r,hr,rfl⟩:=bg.mp hd;erw[h2];exact cV (w,r) rfl ⟨h.w6,h.form r hr,h.deed r hr⟩ (hk _ ⟨_,rfl⟩)
 ·erw[yC,yD]
def gW:RF.Spec:=cH (λa:Nat×List Row=>[aA a.1 a.2]) (λa=>okB a.1 a.2) (λ_=>.non)
theorem mQ{w:Nat}{rs:List Row}{G:DH}{k:D->DH->Prop}{E:EK}(h:okB w rs)(hk:k .non G):gW.t [aA w rs] G k E:=cV (w,rs) rfl h hk
theorem abA (Z:aj) (h1:Z "is_book"=yI) (a:Nat×List Row) (G:DH) (h:okB a.1 a.2):au Z lU noE (env0 [aA a.1 a.2] 0) G (ends λd G'=>G'=G/\d=.non):=by erw[lU,h1];refine cV a rfl h ?_;erw[ends]
def dN(c s:Nat):Bool:=c==42||c==s
def bG:List Nat->List Nat->Bool
 |c::f,s::w=>dN c s&&bG f w
 |_,_=>true
def aB(f w:List Nat):Bool:=decide (f.length=w.length)&&bG f w
def jM:List D->Option D
 |[.str f,.str w]=>if decide (f.length<=100000) then some (.bl (aB f w)) else none
 |_=>none
theorem sV:∀(f w:List Nat),b7 (f.map λc=>D.str [c]) (w.map λc=>D.str [c])=(f.zip w).map λp=>D.tup [.str [p.1],.str [p.2]]
 |[],w=>by simp[b7]
 |c::f,[]=>by simp[b7]
 |c::f,s::w=>by simp[b7,sV f w]
theorem Hm:∀(f w:List Nat),((f.zip w).map λp=>dN p.1 p.2).all id=bG f w
 |[],w=>by simp[bG]
 |c::f,[]=>by simp[bG]
 |c::f,s::w=>by simp[bG,Hm f w]
theorem gf{c s:Nat}:(([c]==[s]):Bool)=(c==s):=by
 by_cases h:c=s
 ·subst h;simp
 ·rw[b9.mpr h,b9.mpr (by simp[h])]
theorem abB{a b:Nat}:((((a:Nat):Int)==((b:Nat):Int)):Bool)=decide (a=b):=by
 by_cases h:a=b
 ·subst h;simp
 ·rw[bn h,b9];omega
theorem abC(Z:aj)(ds:List D)(G:DH)(d:D)(h:jM ds=some d):au Z mz noE (env0 ds 0) G (ends λd' G'=>G'=G/\d'=d):=by
 unfold jM at h;split at h
 ·rename_i f w;split at h
  ·rename_i hl;have hl:=ci hl;cases h;erw[mz,abB,aB];cases he:decide (f.length=w.length) with
   |false=>erw[ej]
   |true=>
    erw[sV,fx];refine CompG.map (f:=λd=>match d with |.tup [.str [c],.str [s]]=>.bl (dN c s) |_=>.non) (I:=λY=>∃o o',Y=[o,o']) ⟨_,_,rfl⟩ trivial (by simp;bv_omega) ?_ ?_
    ·rintro d Y hd ⟨o,o',rfl⟩ kk hk;obtain ⟨⟨c,s⟩,_,rfl⟩:=bg.mp hd;erw[gf];have:=hk [some (.str [c]),some (.str [s])] ⟨_,_,rfl⟩;unfold dN at this;cases hc:(c==42) with
     |true=>erw[hc]at this ⊢;exact this
     |false=>erw[hc]at this ⊢;exact this
    ·rw[df];erw[Function.comp_def,rW,Hm,and_self]
  ·cases h
 ·cases h
theorem yJ{c s:Nat}(hs:s=48\/s=49):dN c s=true↔s∈alt c:=by
 unfold dN alt;by_cases h:c=42
 ·subst h;simp;rcases hs with rfl |rfl <;> simp
 ·simp[h];exact eq_comm
theorem yK:∀{f w:List Nat},f.length=w.length->(∀s∈w,s=48\/s=49)->(bG f w=true↔∀(i c s:Nat),f[i]?=some c->w[i]?=some s->s∈alt c)
 |[],[],_,_=>by simp[bG]
 |[],s::w,h,_=>by simp at h
 |c::f,[],h,_=>by simp at h
 |c::f,s::w,h,hw=>by
  rw[bG,ae,yK (by simpa using h) λs hs=>hw s (bm _ hs),yJ (hw s bq)];constructor
  ·rintro ⟨h1,h2⟩ i c' s' hc hs;cases i with
   |zero=>simp at hc hs;subst hc hs;exact h1
   |succ i=>exact h2 i c' s' (by simpa using hc) (by simpa using hs)
  ·intro h;exact ⟨h 0 c s rfl rfl,λi c' s' hc hs=>h (i+1) c' s' (by simpa using hc) (by simpa using hs)⟩
theorem gh{f w:List Nat}(hw:∀s∈w,s=48\/s=49):aB f w=true↔Fits f w:=by
 unfold aB Fits;rw[ae,cb];constructor
 ·rintro ⟨h1,h2⟩;exact ⟨h1,(yK h1 hw).mp h2⟩
 ·rintro ⟨h1,h2⟩;exact ⟨h1,(yK h1 hw).mpr h2⟩
def aJ(rs:List Row)(w:List Nat):Option Nat:=rs.findIdx? λr=>aB r.1 w
def aN:Option Nat->D
 |some n=>.int n
 |none=>.non
def mR:RF.Spec:=bj (λds _=>∃w rs l,ds=[aA w rs,.str l]/\okB w rs/\okW w l) (λds G d G'=>G'=G/\∃w rs l,ds=[aA w rs,.str l]/\d=aN (aJ rs l))
theorem mU{w v:Nat}{rs ss:List Row}(h:aA w rs=aA v ss):w=v/\rs=ss:=by
 unfold aA at h;simp only[D.tup.injEq,cf,D.int.injEq,Int.ofNat_inj,eP]at h;refine ⟨h.1,?_⟩;have h2:=h.2;clear h;induction rs generalizing ss with
 |nil=>cases ss with
  |nil=>rfl
  |cons _ _=>simp at h2
 |cons r rs ih=>cases ss with
  |nil=>simp at h2
  |cons s ss=>
   simp only[bi,cf]at h2;have e:r=s:=by have:=h2.1;unfold aq at this;simp only[D.tup.injEq,cf,D.str.injEq,eP]at this;exact Prod.ext this.1 this.2
   rw[e,ih h2.2]
theorem Hn{w:Nat}{rs:List Row}{l:List Nat}{G:DH}{k:D->DH->Prop}{E:EK}(h:okB w rs)(hl:okW w l)(hk:k (aN (aJ rs l)) G):mR.t [aA w rs,.str l] G k E:=by refine bM ⟨w,rs,l,rfl,h,hl⟩ λd G' hx=>?_;obtain ⟨e1,w2,rs2,l2,e2,e3⟩:=hx;simp only[cf,D.str.injEq,eP]at e2;obtain ⟨e2,rfl⟩:=e2;obtain ⟨rfl,rfl⟩:=mU e2;subst e1 e3;exact hk
theorem yL{rs:List Row}{l:List Nat}{i:Nat}{r:Row}(h:rs[i]?=some r):aJ (rs.drop i) l=if aB r.1 l then some 0 else (aJ (rs.drop (i+1)) l).map (·+1):=by
 have hi:=(ag.mp h).1;have e:rs.drop i=r::rs.drop (i+1):=by rw[a9 hi];rw[(ag.mp h).2]
 rw[e];unfold aJ;rw[en]
theorem abD (Z:aj) (h1:Z "need_book"=gW) (h2:Z "is_word"=sU) (h3:Z "fits"=aM jM) (ds:List D) (G:DH) (h:∃w rs l,ds=[aA w rs,.str l]/\okB w rs/\okW w l):
  au Z mH noE (env0 ds 4) G (ends λd G'=>G'=G/\∃w rs l,ds=[aA w rs,.str l]/\d=aN (aJ rs l)):=by
 obtain ⟨w,rs,l,rfl,hb,hl⟩:=h;have hl1:=hl.1;have hw6:=hb.w6;simp_all_arith[mH];nofun;erw[h1];refine mQ hb (hM _ _ (seq λM hM=>?_));conv=>enter [4,1,1];rw[aA]
 erw[ends];symm;erw[h2];refine abu hl (by omega) ?_;erw[ends];symm;simp_arith![ends];refine ForG.inv (P:=λi Y G'=>(∃o4 o5,Y=[some (.tup [.int w,.tup (rs.map aq)]),some (.str l),some (.int w),some (.tup (rs.map aq)),o4,o5])/\G'=G/\aJ rs l=(aJ (rs.drop i) l).map (·+i)) ⟨⟨_,_,rfl⟩,rfl,by simp⟩ (λ_ _ _ _=>trivial) ?_ ?_
 ·rintro i d Y G' hd ⟨⟨o4,o5,rfl⟩,rfl,hmet⟩ kk hk;rw[jC]at hd;obtain ⟨d',hd',rfl⟩:=ar.mp hd;rw[aw]at hd';obtain ⟨r,hr,rfl⟩:=ar.mp hd';have hrf:=(hb.form r (ba hr)).1;rw[yL hr]at hmet;simp_arith![ends];refine last ?_;erw[h3,aq];refine cg (d:=.bl (aB r.1 l)) (if_pos (bo (by omega))) ?_;erw[ends];cases hf:aB r.1 l with
  |true=>
   rw[hf,if_pos rfl]at hmet;exact ⟨w,rs,l,rfl,by rw[hmet];simp[aN]⟩
  |false=>
   rw[hf,if_neg bd]at hmet;refine hk _ _ ⟨⟨_,_,rfl⟩,rfl,?_⟩;rw[hmet,ff];congr 1;funext n;simp;omega
 ·rintro Y G' ⟨⟨o4,o5,rfl⟩,rfl,hmet⟩;rw[jB,af,eh]at hmet;refine hM _ _ ?_;erw[ends];exact ⟨w,rs,l,rfl,by rw[hmet];rfl⟩
def eN(rs:List Row):Option Nat->D
 |some n=>match rs[n]? with |some r=>.str r.2 |none=>.non
 |none=>.non
theorem jN{rs:List Row}{l:List Nat}{n:Nat}(h:aJ rs l=some n):n < rs.length:=by unfold aJ at h;exact (List.findIdx?_eq_some_iff_findIdx_eq.mp h).1
def sW:RF.Spec:=bj (λds _=>∃w rs o,ds=[aA w rs,aN o]/\∀n,o=some n->n < rs.length) (λds G d G'=>G'=G/\∃w rs o,ds=[aA w rs,aN o]/\d=eN rs o)
theorem abE{a b:Option Nat}(h:aN a=aN b):a=b:=by cases a <;> cases b <;> simp[aN]at h ⊢ <;> omega
theorem abF{w:Nat}{rs:List Row}{o:Option Nat}{G:DH}{k:D->DH->Prop}{E:EK}(h:∀n,o=some n->n < rs.length)(hk:k (eN rs o) G):sW.t [aA w rs,aN o] G k E:=by refine bM ⟨w,rs,o,rfl,h⟩ λd G' hx=>?_;obtain ⟨e1,w2,rs2,o2,e2,e3⟩:=hx;simp only[cf,eP]at e2;obtain ⟨e2,e4⟩:=e2;obtain ⟨rfl,rfl⟩:=mU e2;cases abE e4;subst e1 e3;exact hk
theorem abG(Z:aj)(ds:List D)(G:DH)(h:∃w rs o,ds=[aA w rs,aN o]/\∀n,o=some n->n < rs.length):au Z jK noE (env0 ds 0) G (ends λd G'=>G'=G/\∃w rs o,ds=[aA w rs,aN o]/\d=eN rs o):=by
 obtain ⟨w,rs,o,rfl,ho⟩:=h;cases o with
 |none=>
  erw[jK,aN];exact ⟨w,rs,none,rfl,rfl⟩
 |some n=>
  have hn:=ho n rfl;erw[jK,aN,aA];refine bz (a:=aq rs[n]) (bf (by simp[hn])) ?_;erw[aq];exact ⟨w,rs,some n,rfl,by simp[eN,hn]⟩
def sX:RF.Spec:=bj (λds _=>∃w rs l,ds=[aA w rs,.str l]/\okB w rs/\okW w l) (λds G d G'=>G'=G/\∃w rs l,ds=[aA w rs,.str l]/\d=eN rs (aJ rs l))
theorem Ho{w:Nat}{rs:List Row}{l:List Nat}{G:DH}{k:D->DH->Prop}{E:EK}(h:okB w rs)(hl:okW w l)(hk:k (eN rs (aJ rs l)) G):sX.t [aA w rs,.str l] G k E:=by refine bM ⟨w,rs,l,rfl,h,hl⟩ λd G' hx=>?_;obtain ⟨e1,w2,rs2,l2,e2,e3⟩:=hx;simp only[cf,D.str.injEq,eP]at e2;obtain ⟨e2,rfl⟩:=e2;obtain ⟨rfl,rfl⟩:=mU e2;subst e1 e3;exact hk
theorem abH (Z:aj) (h1:Z "deed_of"=sW) (h2:Z "met"=mR) (ds:List D) (G:DH) (h:∃w rs l,ds=[aA w rs,.str l]/\okB w rs/\okW w l):au Z mJ noE (env0 ds 0) G (ends λd G'=>G'=G/\∃w rs l,ds=[aA w rs,.str l]/\d=eN rs (aJ rs l)):=by obtain ⟨w,rs,l,rfl,hb,hl⟩:=h;erw[mJ,h1,h2];refine Hn hb hl ?_;refine abF (λn hn=>jN hn) ?_;exact ⟨rfl,w,rs,l,rfl,rfl⟩
theorem sY{α β:Type}(f:α->β)(l:List α)(n:Nat):cut (l.map f) none (some (n:Int))=(l.take n).map f:=by rw[iM,List.map_take]
theorem Hq{α β:Type}(f:α->β)(l:List α)(n:Nat):cut (l.map f) (some (n:Int)) none=(l.drop n).map f:=by rw[rY,List.map_drop]
theorem abI(a b:List Row)(l:List Nat):aJ (a++b) l=match aJ a l with |some n=>some n |none=>(aJ b l).map (a.length + ·):=by
 unfold aJ;rw[List.findIdx?_append];cases List.findIdx? (λr=>aB r.1 l) a with
 |some n=>rfl
 |none=>
  cases List.findIdx? (λr=>aB r.1 l) b with
  |none=>rfl
  |some n=>simp[Nat.add_comm]
theorem sZ(c:Nat)(n:Nat):reps [c] n=List.replicate n c:=by
 unfold reps;induction n with
 |zero=>rfl
 |succ n ih=>rw[ee,fy,ih,ee];rfl
theorem tu(w:Nat):okF w (List.replicate w 42):=⟨b6,λc hc=>.inr (.inr (List.eq_of_mem_replicate hc))⟩
theorem mV{w:Nat}{l:List Nat}:Fits (List.replicate w 42) l↔okW w l:=by
 constructor
 ·rintro ⟨h1,h2⟩;rw[b6]at h1;refine ⟨h1.symm,λc hc=>?_⟩;obtain ⟨i,hi,rfl⟩:=List.getElem_of_mem hc;have:=h2 i 42 l[i] (by rw[List.getElem?_replicate];rw[if_pos (by omega)]) (by simp[hi]);simpa [alt] using this
 ·rintro ⟨h1,h2⟩;refine ⟨by rw[b6,h1],λi c s hc hs=>?_⟩;rw[List.getElem?_replicate]at hc;split at hc
  ·cases hc;have:=h2 s (ba hs);simpa [alt] using this
  ·cases hc
theorem abJ{p:Addr}{G:DH}{k:D->DH->Prop}{E:EK}(hp:Pen G p)(hk:∀G',Pen G' p->Sb p G G'->k (.ref p) G'):sE.t [.ref p] G k E:=
 bM ⟨p,rfl,hp⟩ λd G' hx=>by obtain ⟨p2,e1,e2,hp',sb⟩:=hx;cases e1;subst e2;exact hk G' hp' sb
def bT(a b:Nat):Option Nat:=if a=42 then some b else if b=42\/b=a then some a else none
def bw:List Nat->List Nat->Option (List Nat)
 |a::f,b::g=>match bT a b with |some c=>(bw f g).map (c::·) |none=>none
 |_,_=>some []
def gk:Option (List Nat)->D
 |some l=>.str l
 |none=>.non
def mW:List D->Option D
 |[.str f,.str g]=>if decide (f.length<=100000) then some (gk (bw f g)) else none
 |_=>none
theorem abK{f g:List Nat}{i a b:Nat}(h:(f.zip g)[i]?=some (a,b)):bw (f.drop i) (g.drop i)=match bT a b with |some c=>(bw (f.drop (i+1)) (g.drop (i+1))).map (c::·) |none=>none:=by
 have hz:=ag.mp h;obtain ⟨hl,he⟩:=hz;rw[List.length_zip]at hl;have h1:i < f.length:=by omega
 have h2:i < g.length:=by omega
 rw[List.getElem_zip]at he;rw[a9 h1,a9 h2];simp only[Prod.mk.injEq]at he;rw[he.1,he.2];rfl
theorem abL{f g:List Nat}:bw (f.drop (f.zip g).length) (g.drop (f.zip g).length)=some []:=by
 rw[List.length_zip];by_cases h:f.length<=g.length
 ·rw[Nat.min_eq_left h,eh];cases g.drop f.length <;> rfl
 ·rw[Nat.min_eq_right (by omega),eh];cases f.drop g.length <;> rfl
theorem abM(Z:aj)(ds:List D)(G:DH)(d:D)(h:mW ds=some d):au Z lF noE (env0 ds 3) G (ends λd' G'=>G'=G/\d'=d):=by
 unfold mW at h;split at h
 ·rename_i f g;split at h
  ·rename_i hl;have hl:=ci hl;cases h;simp_all_arith[lF];nofun;erw[ends];symm;simp_arith![sV];refine ForG.inv (P:=λi Y G'=>(∃o3 o4 m,Y=[some (.str f),some (.str g),some (.str m),o3,o4]/\m.length=i/\bw f g=(bw (f.drop i) (g.drop i)).map (m ++ ·))/\G'=G) ⟨⟨_,_,[],rfl,rfl,by simp⟩,rfl⟩ (λ_ _ _ _=>trivial) ?_ ?_
   ·rintro i d Y G' hd ⟨⟨o3,o4,m,rfl,hm,hb⟩,rfl⟩ kk hk;rw[aw]at hd;obtain ⟨⟨a,b⟩,hab,rfl⟩:=ar.mp hd;have hi:=(ag.mp hab).1;rw[List.length_zip]at hi;rw[abK hab]at hb;simp_arith![ends];refine last ?_;have put:∀(c:Nat)(o3 o4:Option D),bT a b=some c->m.length+1<=sz/\kk [some (.str f),some (.str g),some (.str (m++[c])),o3,o4] G':=by
     intro c o3 o4 hc;rw[hc]at hb;refine ⟨by bv_omega,hk _ _ ⟨⟨_,_,_,rfl,by simp[hm],?_⟩,rfl⟩⟩;rw[hb,ff];congr 1;funext x;simp
    erw[gf];by_cases h42:a=42
    ·have:((a==42):Bool)=true:=by simp[h42]
     erw[this];exact put b _ _ (if_pos h42)
    ·have h0:((a==42):Bool)=false:=by simp[h42]
     erw[h0,gf];by_cases hb42:b=42
     ·have:((b==42):Bool)=true:=by simp[hb42]
      erw[this];exact put a _ _ (by unfold bT;rw[if_neg h42,if_pos (.inl hb42)])
     ·have h1:((b==42):Bool)=false:=by simp[hb42]
      erw[h1,gf];by_cases hba:b=a
      ·have:((b==a):Bool)=true:=by simp[hba]
       erw[this];exact put a _ _ (by unfold bT;rw[if_neg h42,if_pos (.inr hba)])
      ·have:((b==a):Bool)=false:=by simp[hba]
       erw[this];have hn:bT a b=none:=by unfold bT;rw[if_neg h42,if_neg (by rintro (h |h);exact hb42 h;exact hba h)]
       rw[hn]at hb;rw[hb];rfl
   ·rintro Y G' ⟨⟨o3,o4,m,rfl,hm,hb⟩,rfl⟩;rw[af,abL]at hb;refine hM _ _ ?_;erw[ends];rw[hb];simp[gk]
  ·cases h
 ·cases h
def gY:List D->Option D
 |[.str f,.int n,.str [c]]=>if decide (0<=n)&&decide (n < f.length)&&decide (f.length<=1000) then some (.str (f.set n.toNat c)) else none
 |_=>none
theorem tB{l:List Nat}{n c:Nat}(h:n < l.length):l.take n++[c]++l.drop (n+1)=l.set n c:=by rw[List.set_eq_take_append_cons_drop,if_pos h];simp
theorem abN(Z:aj)(ds:List D)(G:DH)(d:D)(h:gY ds=some d):au Z lJ noE (env0 ds 0) G (ends λd' G'=>G'=G/\d'=d):=by
 unfold gY at h;split at h
 ·rename_i f n c;split at h
  ·rename_i hl;simp only[ae,cb]at hl;obtain ⟨⟨h0,h1⟩,h2⟩:=hl;cases h;obtain ⟨k,rfl⟩:=cp h0;erw[lJ,iM,rZ,al,bb,bS,br,tB (show k < f.length by omega)];exact ⟨by bv_omega,by bv_omega⟩
  ·cases h
 ·cases h
def eO:List D->Option D
 |[.int n]=>if decide (0<=n)&&decide (n<=1000) then some (.str (List.replicate n.toNat 42)) else none
 |_=>none
theorem abO(Z:aj)(ds:List D)(G:DH)(d:D)(h:eO ds=some d):au Z lV noE (env0 ds 0) G (ends λd' G'=>G'=G/\d'=d):=by
 unfold eO at h;split at h
 ·rename_i n;split at h
  ·rename_i hl;simp only[ae,cb]at hl;cases h;erw[lV,sZ];exact ⟨hl.1,hl.2,by bv_omega⟩
  ·cases h
 ·cases h
def aF(rs:List Row)(b:List Nat):Option Nat:=rs.findIdx? λr=>(bw r.1 b).isSome
def Hr(ds:List D)(_:DH):Prop:=∃(rs:List Row)(b:List Nat),ds=[.tup (rs.map aq),.str b]/\∀r∈rs,r.1.length<=1000
def Hs(ds:List D)(G:DH)(d:D)(G':DH):Prop:=G'=G/\∃(rs:List Row)(b:List Nat),ds=[.tup (rs.map aq),.str b]/\d=aN (aF rs b)
def jO:RF.Spec:=bj Hr Hs
theorem yM{rs ss:List Row}(h:rs.map aq=ss.map aq):rs=ss:=(mU (w:=0) (v:=0) (by unfold aA;rw[h])).2
theorem tD{rs:List Row}{b:List Nat}{G:DH}{k:D->DH->Prop}{E:EK}(h:∀r∈rs,r.1.length<=1000)(hk:k (aN (aF rs b)) G):jO.t [.tup (rs.map aq),.str b] G k E:=by refine bM ⟨rs,b,rfl,h⟩ λd G' hx=>?_;obtain ⟨e1,rs2,b2,e2,e3⟩:=hx;simp only[cf,D.str.injEq,D.tup.injEq,eP]at e2;obtain ⟨e2,rfl⟩:=e2;cases yM e2;subst e1 e3;exact hk
theorem abP{o:Option (List Nat)}:fu (gk o)=!o.isSome:=by cases o <;> rfl
theorem abQ{G:DH}{o:Option (List Nat)}:view G (gk o)=gk o:=by cases o <;> rfl
theorem abR{rs:List Row}{b:List Nat}{i:Nat}{r:Row}(h:rs[i]?=some r):aF (rs.drop i) b=if (bw r.1 b).isSome then some 0 else (aF (rs.drop (i+1)) b).map (·+1):=by
 have hi:=(ag.mp h).1;have e:rs.drop i=r::rs.drop (i+1):=by rw[a9 hi];rw[(ag.mp h).2]
 rw[e];unfold aF;rw[en]
theorem abS (Z:aj) (h1:Z "both"=aM mW) (ds:List D) (G:DH) (h:Hr ds G):au Z lG noE (env0 ds 2) G (ends (Hs ds G)):=by
 obtain ⟨rs,b,rfl,hb⟩:=h;simp_all_arith[lG];nofun;simp_arith![ends];refine ForG.inv (P:=λi Y G'=>(∃o2 o3,Y=[some (.tup (rs.map aq)),some (.str b),o2,o3])/\G'=G/\aF rs b=(aF (rs.drop i) b).map (·+i)) ⟨⟨_,_,rfl⟩,rfl,by simp⟩ (λ_ _ _ _=>trivial) ?_ ?_
 ·rintro i d Y G' hd ⟨⟨o2,o3,rfl⟩,rfl,hmet⟩ kk hk;rw[jC]at hd;obtain ⟨d',hd',rfl⟩:=ar.mp hd;rw[aw]at hd';obtain ⟨r,hr,rfl⟩:=ar.mp hd';have hrl:=hb r (ba hr);rw[abR hr]at hmet;simp_arith![ends];refine last ?_;erw[h1,aq];refine cg (d:=gk (bw r.1 b)) (if_pos (bo (by omega))) ?_;erw[abQ,abP];cases hf:(bw r.1 b).isSome with
  |true=>
   rw[hf,if_pos rfl]at hmet;exact ⟨rfl,rs,b,rfl,by rw[hmet];simp[aN]⟩
  |false=>
   rw[hf,if_neg bd]at hmet;refine hk _ _ ⟨⟨_,_,rfl⟩,rfl,?_⟩;rw[hmet,ff];congr 1;funext n;simp;omega
 ·rintro Y G' ⟨⟨o2,o3,rfl⟩,rfl,hmet⟩;rw[jB,af,eh]at hmet;refine hM _ _ ?_;erw[ends];exact ⟨rfl,rs,b,rfl,by rw[hmet];rfl⟩
def bU(f b:List Nat):Option Nat:=(f.zip b).findIdx? λp=>p.2==42&&!(p.1==42)
def cW(rs:List Row)(b:List Nat):Option Nat:=match aF rs b with |some n=>(match rs[n]? with |some r=>bU r.1 b |none=>none) |none=>none
def Ht(ds:List D)(_:DH):Prop:=∃(rs:List Row)(b:List Nat),ds=[.tup (rs.map aq),.str b]/\(∀r∈rs,r.1.length=b.length)/\b.length<=1000
def Hu(ds:List D)(G:DH)(d:D)(G':DH):Prop:=G'=G/\∃(rs:List Row)(b:List Nat),ds=[.tup (rs.map aq),.str b]/\d=aN (cW rs b)
def tH:RF.Spec:=bj Ht Hu
theorem abT{rs:List Row}{b:List Nat}{G:DH}{k:D->DH->Prop}{E:EK}(h:∀r∈rs,r.1.length=b.length)(hl:b.length<=1000)(hk:k (aN (cW rs b)) G):tH.t [.tup (rs.map aq),.str b] G k E:=by refine bM ⟨rs,b,rfl,h,hl⟩ λd G' hx=>?_;obtain ⟨e1,rs2,b2,e2,e3⟩:=hx;simp only[cf,D.str.injEq,D.tup.injEq,eP]at e2;obtain ⟨e2,rfl⟩:=e2;cases yM e2;subst e1 e3;exact hk
theorem mX{rs:List Row}{b:List Nat}{n:Nat}(h:aF rs b=some n):n < rs.length:=(List.findIdx?_eq_some_iff_findIdx_eq.mp h).1
theorem abU{f b:List Nat}{i s c:Nat}(hs:f[i]?=some s)(hc:b[i]?=some c):bU (f.drop i) (b.drop i)=if (c==42&&!(s==42))=true then some 0 else (bU (f.drop (i+1)) (b.drop (i+1))).map (·+1):=by have h1:=ag.mp hs;have h2:=ag.mp hc;rw[a9 h1.1,a9 h2.1,h1.2,h2.2];unfold bU;rw[List.zip_cons_cons,en]
theorem abV (Z:aj) (h1:Z "first_touching"=jO) (ds:List D) (G:DH) (h:Ht ds G):au Z lH noE (env0 ds 3) G (ends (Hu ds G)):=by
 obtain ⟨rs,b,rfl,hb,hbl⟩:=h;simp_all_arith[lH];nofun;erw[h1];refine tD (λr hr=>by rw[hb r hr];exact hbl) (hM _ _ (seq λM hM=>?_));cases ht:aF rs b with
 |none=>
  erw[aN];exact ⟨rfl,rs,b,rfl,by unfold cW;rw[ht];rfl⟩
 |some n=>
  have hn:=mX ht;have hlen:=hb rs[n] (ce _);have hsp:cW rs b=bU rs[n].1 b:=by unfold cW;rw[ht];simp[hn]
  erw[aN];symm;simp_arith![ends];refine bz (a:=aq rs[n]) (bf (by simp[hn])) ?_;simp_arith![aq];generalize rs[n].1=f at hlen hsp;refine ForG.inv (P:=λi Y G'=>(∃o3 o4,Y=[some (.tup (rs.map aq)),some (.str b),some (.int (n:Int)),o3,o4])/\G'=G/\bU f b=(bU (f.drop i) (b.drop i)).map (·+i)) ⟨⟨_,_,rfl⟩,rfl,by simp⟩ (λ_ _ _ _=>trivial) ?_ ?_
  ·rintro i d Y G' hd ⟨⟨o3,o4,rfl⟩,rfl,hs⟩ kk hk;rw[jC]at hd;obtain ⟨d',hd',rfl⟩:=ar.mp hd;rw[aw]at hd';obtain ⟨s,hsi,rfl⟩:=ar.mp hd';have hi:=(ag.mp hsi).1;have hib:i < b.length:=by omega
   have hbi:b[i]?=some b[i]:=by simp[hib]
   rw[abU hsi hbi]at hs;simp_arith![ends];refine last ?_;erw[ends];refine bz (a:=b[i]) (by rw[Nat.zero_add];exact bf hbi) ?_;erw[gf];cases h42:(b[i]==42) with
   |false=>
    simp only[h42,ej,if_neg bd]at hs;erw[ends];refine hk _ _ ⟨⟨_,_,rfl⟩,rfl,?_⟩;rw[hs,ff];congr 1;funext n;simp;omega
   |true=>
    erw[gf];cases hs42:(s==42) with
    |true=>
     simp only[h42,hs42,Bool.not_true,fo,if_neg bd]at hs;erw[ends];refine hk _ _ ⟨⟨_,_,rfl⟩,rfl,?_⟩;rw[hs,ff];congr 1;funext n;simp;omega
    |false=>
     simp only[h42,hs42,Bool.not_false,Bool.and_true,if_pos]at hs;erw[ends];exact ⟨rfl,rs,b,rfl,by rw[hsp,hs];simp[aN]⟩
  ·rintro Y G' ⟨⟨o3,o4,rfl⟩,rfl,hs⟩;rw[jB,af,eh]at hs;refine hM _ _ ?_;erw[ends];exact ⟨rfl,rs,b,rfl,by rw[hsp,hs];simp[bU,aN]⟩
def eQ:List Nat:=[115,112,108,105,116]
def stc(b:List Nat):Nat:=b.countP (·==42)
theorem gZ{b:List Nat}{n c:Nat}(h:b[n]?=some 42)(hc:c≠42):stc (b.set n c)+1=stc b:=by
 obtain ⟨hl,he⟩:=ag.mp h;have e1:b=b.take n++42::b.drop (n+1):=by rw[<-he,<-a9 hl,dE]
 have e2:b.set n c=b.take n++c::b.drop (n+1):=by rw[List.set_eq_take_append_cons_drop,if_pos hl]
 unfold stc;rw[e2];conv=>rhs;rw[e1]
 rw[e9,e9,List.countP_cons_of_neg (by simp[hc]),List.countP_cons_of_pos (by simp)];omega
theorem jP{w n c:Nat}{b:List Nat}(h:okF w b)(hc:isF c):okF w (b.set n c):=⟨by rw[cm];exact h.1,λd hd=>by
 rcases List.mem_or_eq_of_mem_set hd with h' |h'
 ·exact h.2 d h'
 ·rw[h'];exact hc⟩
theorem tM:isF 48:=.inl rfl
theorem tQ:isF 49:=.inr (.inl rfl)
inductive Gr (name:List Nat) (rss:List (List Row)):List Nat->D->Prop
 |leaf (b:List Nat) (h:∀rs∈rss,cW rs b=none):Gr name rss b (.tup (.str name::rss.map λrs=>aN (aF rs b)))
 |node (b:List Nat) (n:Nat) (z o:D) (h:b[n]?=some 42) (hz:Gr name rss (b.set n 48) z) (ho:Gr name rss (b.set n 49) o):Gr name rss b (.tup [.str eQ,.int n,z,o])
def dO(rss:List (List Row)):List D:=rss.map λrs=>.tup (rs.map aq)
structure okG(w:Nat)(name:List Nat)(rss:List (List Row)):Prop where
 len:rss.length<=100
 nl:name.length<=100
 form:∀rs∈rss,∀r∈rs,r.1.length=w
 w1000:w<=1000
def Hv(n:Nat)(ds:List D)(_:DH):Prop:=∃(w:Nat)(name:List Nat)(rss:List (List Row))(b:List Nat),ds=[.str name,.lst (dO rss),.str b]/\okG w name rss/\b.length=w/\stc b < n
def Hw(ds:List D)(G:DH)(d:D)(G':DH):Prop:=G'=G/\∃(name:List Nat)(rss:List (List Row))(b:List Nat),ds=[.str name,.lst (dO rss),.str b]/\Gr name rss b d
def eU(n:Nat):RF.Spec:=bj (Hv n) Hw
theorem abW{a b:List (List Row)}(h:dO a=dO b):a=b:=by
 unfold dO at h;induction a generalizing b with
 |nil=>cases b with
  |nil=>rfl
  |cons _ _=>simp at h
 |cons x a ih=>cases b with
  |nil=>simp at h
  |cons y b=>
   simp only[bi,cf,D.tup.injEq]at h;rw[yM h.1,ih h.2]
theorem tR{n w:Nat}{name:List Nat}{rss:List (List Row)}{b:List Nat}{G:DH}{k:D->DH->Prop}{E:EK}(h:okG w name rss)(hb:b.length=w)(hs:stc b < n)(hk:∀d,Gr name rss b d->k d G):(eU n).t [.str name,.lst (dO rss),.str b] G k E:=by refine bM ⟨w,name,rss,b,rfl,h,hb,hs⟩ λd G' hx=>?_;obtain ⟨e1,name2,rss2,b2,e2,e3⟩:=hx;simp only[cf,D.str.injEq,D.lst.injEq,eP]at e2;obtain ⟨rfl,e2,rfl⟩:=e2;cases abW e2;subst e1;exact hk d e3
theorem abX{f b:List Nat}{n:Nat}(h:bU f b=some n):b[n]?=some 42:=by unfold bU at h;have h2:=dP.mp h;obtain ⟨hl,hp,_⟩:=h2;rw[List.length_zip]at hl;rw[List.getElem_zip]at hp;simp only[ae,aT]at hp;rw[ai (by omega),hp.1]
theorem abY{rs:List Row}{b:List Nat}{n:Nat}(h:cW rs b=some n):b[n]?=some 42:=by
 unfold cW at h;split at h
 ·split at h
  ·exact abX h
  ·cases h
 ·cases h
theorem tU{b:List Nat}{n c:Nat}{G:DH}{k:D->DH->Prop}{E:EK}(h:n < b.length)(hl:b.length<=1000)(hk:k (.str (b.set n c)) G):(aM gY).t [.str b,.int n,.str [c]] G k E:=
 cg (by
  unfold gY;dsimp only;rw[if_pos (by simp only[ae,cb];omega),br]) hk
theorem abZ (Z:aj) (n:Nat) (h0:Z "grown"=eU n) (h1:Z "first_touching"=jO) (h2:Z "splitting_place"=tH) (h3:Z "with_sign"=aM gY) (ds:List D) (G:DH) (h:Hv (n+1) ds G):au Z jJ noE (env0 ds 4) G (ends (Hw ds G)):=by
 obtain ⟨w,name,rss,b,rfl,hg,hb,hs⟩:=h;have hw:=hg.w1000;simp_all_arith[jJ];nofun;simp_arith![ends];refine ForG.inv (P:=λi Y G'=>(∃o3 o4 o5 o6,Y=[some (.str name),some (.lst (dO rss)),some (.str b),o3,o4,o5,o6])/\G'=G/\∀rs∈rss.take i,cW rs b=none) ⟨⟨_,_,_,_,rfl⟩,rfl,by simp⟩ (λ_ _ _ _=>trivial) ?_ ?_
 ·rintro i d Y G' hd ⟨⟨o3,o4,o5,o6,rfl⟩,rfl,hall⟩ kk hk;unfold dO at hd;rw[aw]at hd;obtain ⟨rs,hrs,rfl⟩:=ar.mp hd;simp_arith![ends];nofun;erw[h2];refine abT (λr hr=>by rw[hg.form rs (ba hrs) r hr,hb]) (by omega) (hM _ _ (last ?_));cases hsp:cW rs b with
  |none=>
   erw[aN];refine hk _ _ ⟨⟨_,_,_,_,rfl⟩,rfl,λrs' hrs'=>?_⟩;rw[cw,hrs]at hrs';rcases a8.mp hrs' with h |h
   ·exact hall rs' h
   ·have:rs'=rs:=by simpa using h
    rw[this];exact hsp
  |some at'=>
   have hst:=abY hsp;have hat:=(ag.mp hst).1;simp_arith![aN];nofun;erw[h0,h3];refine tU hat (by omega) (tR hg (by rw[cm];exact hb) (by have:=gZ hst (show 48≠42 by decide);omega) λz hz=>hM _ _ (seq λM hM=>?_));erw[h0,h3];refine tU hat (by omega) (tR hg (by rw[cm];exact hb) (by have:=gZ hst (show 49≠42 by decide);omega) λo ho=>hM _ _ (last ?_));erw[ends];exact ⟨by decide,rfl,name,rss,b,rfl,.node b at' z o hst hz ho⟩
 ·rintro Y G' ⟨⟨o3,o4,o5,o6,rfl⟩,rfl,hall⟩;have hlen:(dO rss).length=rss.length:=af _;rw[hlen,da]at hall;have hrl:=hg.len;refine hM _ _ ?_;erw[h1];refine ⟨by decide,CompG.inv (P:=λi acc Y G''=>(∃o,Y=[o,some (.str b)])/\G''=G'/\acc=(rss.take i).map λrs=>aN (aF rs b)) ⟨⟨_,rfl⟩,rfl,rfl⟩ (λ_ _ _ _ _=>trivial) (by rw[hlen];bv_omega) ?_ ?_⟩
  ·rintro i d acc Y G'' hd ⟨⟨o,rfl⟩,rfl,rfl⟩ kk hk;unfold dO at hd;rw[aw]at hd;obtain ⟨rs,hrs,rfl⟩:=ar.mp hd;erw[h1];refine tD (λr hr=>by rw[hg.form rs (ba hrs) r hr];omega) (hk _ _ _ ⟨⟨_,rfl⟩,rfl,?_⟩);rw[cw,hrs];simp
  ·rintro acc Y G'' ⟨_,rfl,rfl⟩;rw[hlen,da];erw[af];exact ⟨by bv_omega,rfl,name,rss,b,rfl,.leaf b hall⟩
theorem ab0(ds:List D)(G:DH)(a:(eU 0).A):¬(eU 0).pre ds G a:=λ⟨_,_,_,_,_,_,_,_,h⟩=>by omega
def dh:List Nat:=[109,101,116]
def mY:RF.Spec:=bj (λds _=>∃w rs,ds=[aA w rs]/\okB w rs) (λds G d G'=>G'=G/\∃w rs,ds=[aA w rs]/\Gr dh [rs] (List.replicate w 42) d)
theorem Hx{w:Nat}{rs:List Row}{G:DH}{k:D->DH->Prop}{E:EK}(h:okB w rs)(hk:∀d,Gr dh [rs] (List.replicate w 42) d->k d G):mY.t [aA w rs] G k E:=by refine bM ⟨w,rs,rfl,h⟩ λd G' hx=>?_;obtain ⟨e1,w2,rs2,e2,e3⟩:=hx;simp only[cf,eP]at e2;obtain ⟨rfl,rfl⟩:=mU e2;subst e1;exact hk d e3
theorem yN(w:Nat):stc (List.replicate w 42)<=w:=by have:=ft (p:=(·==42)) (l:=List.replicate w 42);rw[b6]at this;exact this
theorem ab1{w:Nat}{rs:List Row}(h:okB w rs):okG w dh [rs]:=⟨by simp,by decide,λrs' hrs' r hr=>by rw[aI.mp hrs']at hr;exact (h.form r hr).1,by have:=h.w6;omega⟩
theorem ab2 (Z:aj) (h1:Z "need_book"=gW) (h2:Z "grown"=eU 9) (h3:Z "stars"=aM eO) (ds:List D) (G:DH) (h:∃w rs,ds=[aA w rs]/\okB w rs):
  au Z lW noE (env0 ds 2) G (ends λd G'=>G'=G/\∃w rs,ds=[aA w rs]/\Gr dh [rs] (List.replicate w 42) d):=by
 obtain ⟨w,rs,rfl,hb⟩:=h;have hw6:=hb.w6;simp_all_arith[lW];nofun;erw[h1];refine mQ hb (hM _ _ (seq λM hM=>?_));erw[aA];refine hM _ _ ?_;erw[h2,h3];refine ⟨by decide,cg (d:=.str (List.replicate w 42)) (by unfold eO;dsimp only;rw[if_pos (by simp only[ae,cb];omega),br]) ?_⟩;have e:[D.tup (rs.map aq)]=dO [rs]:=rfl;rw[e];refine tR (ab1 hb) b6 (by have:=yN w;omega) λd hd=>?_;exact ⟨rfl,w,rs,rfl,hd⟩
theorem yO:∀{f b w:List Nat},bw f b=none->(∀s∈w,s=48\/s=49)->Fits b w->bG f w=true->False
 |[],b,w,h,_,_,_=>by cases b <;> cases h
 |a::f,[],w,h,_,_,_=>by cases h
 |a::f,c::b,[],h,_,hf,_=>by have:=hf.1;simp at this
 |a::f,c::b,s::w,h,hw,hf,hz=>by
  rw[bG,ae]at hz;have hs:=hf.2 0 c s rfl rfl;have hf':Fits b w:=⟨by have:=hf.1;simpa using this,λi c' s' h1 h2=>hf.2 (i+1) c' s' (by simpa using h1) (by simpa using h2)⟩;unfold bw at h;cases h1:bT a c with
  |some x=>
   rw[h1]at h;simp only[Option.map_eq_none_iff]at h;exact yO h (λs hs=>hw s (bm _ hs)) hf' hz.2
  |none=>
   unfold bT at h1;split at h1
   ·cases h1
   ·split at h1
    ·cases h1
    ·rename_i ha hc;have h2:=(yJ (hw s bq)).mp hz.1;unfold alt at hs h2;rw[if_neg ha]at h2;have es:s=a:=by simpa using h2
     split at hs
     ·rename_i e;exact hc (.inl e)
     ·have:s=c:=by simpa using hs
      exact hc (.inr (by omega))
theorem Hy:∀{f b w:List Nat},f.length=b.length->(bw f b).isSome=true->bU f b=none->(∀s∈w,s=48\/s=49)->Fits b w->bG f w=true
 |[],b,w,_,_,_,_,_=>rfl
 |a::f,[],w,h,_,_,_,_=>by simp at h
 |a::f,c::b,[],_,_,_,_,hf=>rfl
 |a::f,c::b,s::w,hl,hb,hs,hw,hf=>by
  have hs0:=hf.2 0 c s rfl rfl;have hf':Fits b w:=⟨by have:=hf.1;simpa using this,λi c' s' h1 h2=>hf.2 (i+1) c' s' (by simpa using h1) (by simpa using h2)⟩;unfold bU at hs;rw[List.zip_cons_cons,en]at hs;split at hs
  ·cases hs
  ·rename_i hne;have hs':bU f b=none:=by unfold bU;simpa using hs
   unfold bw at hb;cases h1:bT a c with
   |none=>rw[h1]at hb;cases hb
   |some x=>
    rw[h1]at hb;have hb':(bw f b).isSome=true:=by simpa using hb
    rw[bG,ae];refine ⟨?_,Hy (by simpa using hl) hb' hs' (λs hs=>hw s (bm _ hs)) hf'⟩;rw[yJ (hw s bq)];by_cases ha:a=42
    ·unfold alt;rw[if_pos ha];rcases hw s bq with e |e <;> simp[e]
    ·have hc:c≠42:=by
      rintro rfl;exact hne (by simp[ha])
     unfold alt at hs0 ⊢;rw[if_neg hc]at hs0;rw[if_neg ha];unfold bT at h1;rw[if_neg ha]at h1;split at h1
     ·rename_i h2;rcases h2 with h2 |h2
      ·exact absurd h2 hc
      ·rw[<-h2];exact hs0
     ·cases h1
theorem yP{rs:List Row}{b l:List Nat}(hf:∀r∈rs,r.1.length=b.length)(hs:cW rs b=none)(hl:∀s∈l,s=48\/s=49)(hb:Fits b l):aJ rs l=aF rs b:=by
 have no:∀r∈rs,(bw r.1 b).isSome=false->aB r.1 l=false:=by
  intro r hr h;cases e:aB r.1 l with
  |false=>rfl
  |true=>
   unfold aB at e;rw[ae]at e;exact (yO (by simpa using h) hl hb e.2).elim
 cases ht:aF rs b with
 |none=>
  unfold aF at ht;unfold aJ;rw[List.findIdx?_eq_none_iff]at ht ⊢;exact λr hr=>no r hr (by simpa using ht r hr)
 |some n=>
  have hn:=mX ht;have ht':=dP.mp ht;obtain ⟨_,t1,t2⟩:=ht';unfold aJ;rw[dP];refine ⟨hn,?_,λj hj=>?_⟩
  ·have hsf:bU rs[n].1 b=none:=by
    unfold cW at hs;rw[ht]at hs;simpa [hn] using hs
   have hlen:=hf rs[n] (ce _);unfold aB;rw[ae];exact ⟨bo (by rw[hlen,hb.1]),Hy hlen t1 hsf hl hb⟩
  ·have:=no rs[j] (ce _) (by simpa using t2 j hj);simp[this]
theorem ab3{f l:List Nat}(h:f.length=l.length):aB f l=bG f l:=by unfold aB;rw[bo h];rfl
def iU(name:List Nat)(rss:List (List Row))(b:List Nat):D:=.tup (.str name::rss.map λrs=>aN (aF rs b))
def gm(name:List Nat)(rss:List (List Row))(b:List Nat):D:=.tup [.str b,iU name rss b]
inductive Lv (name:List Nat) (rss:List (List Row)):List Nat->D->List (List Nat)->Prop
 |leaf (b:List Nat) (h:∀rs∈rss,cW rs b=none):Lv name rss b (iU name rss b) [b]
 |node (b:List Nat) (n:Nat) (z o:D) (l m:List (List Nat)) (h:b[n]?=some 42) (hz:Lv name rss (b.set n 48) z l) (ho:Lv name rss (b.set n 49) o m):Lv name rss b (.tup [.str eQ,.int n,z,o]) (l++m)
theorem Gr.lv{name:List Nat}{rss:List (List Row)}{b:List Nat}{d:D}(h:Gr name rss b d):∃bs,Lv name rss b d bs:=by
 induction h with
 |leaf b h=>exact ⟨_,.leaf b h⟩
 |node b n z o h _ _ hz ho=>
  obtain ⟨l,hl⟩:=hz;obtain ⟨m,hm⟩:=ho;exact ⟨_,.node b n z o l m h hl hm⟩
theorem Lv.len{name:List Nat}{rss:List (List Row)}{b:List Nat}{d:D}{bs:List (List Nat)}(h:Lv name rss b d bs):bs.length<=2 ^ stc b:=by
 induction h with
 |leaf b h=>exact Nat.one_le_two_pow
 |node b n z o l m h _ _ hz ho=>
  have e1:=gZ h (show 48≠42 by decide);have e2:=gZ h (show 49≠42 by decide);rw[<-e1,Nat.pow_succ,al];have e3:stc (b.set n 49)=stc (b.set n 48):=by omega
  rw[e3]at ho;omega
theorem Lv.len'{name:List Nat}{rss:List (List Row)}{b:List Nat}{d:D}{bs:List (List Nat)}(h:Lv name rss b d bs)(hb:b.length<=12):bs.length<=4096:=by
 have h1:=h.len;have h2:stc b<=12:=bv (ft) hb;have h3:=dk (show 0 < 2 by decide) h2;have h4:2 ^ 12=4096:=by decide
 omega
theorem Lv.box{name:List Nat}{rss:List (List Row)}{b:List Nat}{d:D}{bs:List (List Nat)}(h:Lv name rss b d bs):∀c∈bs,c.length=b.length/\∀rs∈rss,cW rs c=none:=by
 induction h with
 |leaf b h=>intro c hc;rw[aI.mp hc];exact ⟨rfl,h⟩
 |node b n z o l m h _ _ hz ho=>
  intro c hc;rcases a8.mp hc with hc |hc
  ·have:=hz c hc;rw[cm]at this;exact this
  ·have:=ho c hc;rw[cm]at this;exact this
theorem Lv.okf{w:Nat}{name:List Nat}{rss:List (List Row)}{b:List Nat}{d:D}{bs:List (List Nat)}(h:Lv name rss b d bs):okF w b->∀c∈bs,okF w c:=by
 induction h with
 |leaf b h=>intro hb c hc;rw[aI.mp hc];exact hb
 |node b n z o l m h _ _ hz ho=>
  intro hb c hc;rcases a8.mp hc with hc |hc
  ·exact hz (jP hb tM) c hc
  ·exact ho (jP hb tQ) c hc
theorem mZ{w:Nat}{f l:List Nat}(h:okF w f)(hf:Fits f l):∀s∈l,s=48\/s=49:=by
 intro s hs;obtain ⟨i,hi,rfl⟩:=List.getElem_of_mem hs;have hif:i < f.length:=by rw[hf.1];exact hi
 have:=hf.2 i f[i] l[i] (by simp[hif]) (by simp[hi]);rcases h.2 f[i] (ce _) with e |e |e <;> rw[e]at this <;> simp[alt]at this <;> omega
structure LvA where
 name:List Nat
 rss:List (List Row)
 b:List Nat
 d:D
 bs:List (List Nat)
def okL(n:Nat)(a:LvA):Prop:=Lv a.name a.rss a.b a.d a.bs/\a.name≠eQ/\a.b.length<=12/\stc a.b < n
def lvD(a:LvA):D:=.lst (a.bs.map (gm a.name a.rss))
def fB(n:Nat):RF.Spec:=cH (λa:LvA=>[.str a.b,a.d]) (okL n) lvD
theorem yQ{n:Nat}{name:List Nat}{rss:List (List Row)}{b:List Nat}{d:D}{bs:List (List Nat)}{G:DH}{k:D->DH->Prop}{E:EK}(h:Lv name rss b d bs)(h1:name≠eQ)(h2:b.length<=12)(h3:stc b < n)(hk:k (.lst (bs.map (gm name rss))) G):(fB n).t [.str b,d] G k E:=
 cV ⟨name,rss,b,d,bs⟩ rfl ⟨h,h1,h2,h3⟩ hk
theorem ab4 (Z:aj) (n:Nat) (h0:Z "_law_boxes"=fB n) (a:LvA) (G:DH) (h:okL (n+1) a):au Z su noE (env0 [.str a.b,a.d] 2) G (ends λd G'=>G'=G/\d=lvD a):=by
 obtain ⟨name,rss,b,d,bs⟩:=a;obtain ⟨hL,hne,hbl,hs⟩:=h;dsimp only at hL hne hbl hs;unfold lvD;dsimp only;have hnb:((name==eQ):Bool)=false:=by simp[hne]
 cases hL with
 |leaf _ hsp=>
  simp_all_arith[su];nofun;erw[iU];unfold eQ at hnb;erw[hnb];exact ⟨by decide,by decide,rfl⟩
 |node _ m z o l1 l2 hst hz ho=>
  have hm:=(ag.mp hst).1;have hl1:=hz.len' (by rw[cm];exact hbl);have hl2:=ho.len' (by rw[cm];exact hbl);have s1:=gZ hst (show 48≠42 by decide);have s2:=gZ hst (show 49≠42 by decide);simp_all_arith[su];nofun;erw[eQ,BEq.rfl];symm;erw[ends];symm;have d1:decide ((m:Int) < 0)=false:=bn (by omega);have d2:decide ((b.length:Int)<=(m:Int))=false:=bn (by omega);erw[d1,d2];refine bz (a:=42) (bf hst) ?_;erw[BEq.rfl];symm;erw[h0,iM,rZ,al,bb,bS,tB hm];refine ⟨by bv_omega,by bv_omega,yQ hz hne (by rw[cm];exact hbl) (by omega) (hM _ _ (last ?_))⟩;erw[h0,iM,rZ,al,bb,bS,tB hm];refine ⟨by bv_omega,by bv_omega,yQ ho hne (by rw[cm];exact hbl) (by omega) ?_⟩;erw[af,b4];bv_omega
theorem ab5(ds:List D)(G:DH)(a:(fB 0).A):¬(fB 0).pre ds G a:=λ⟨_,_,_,_,_,h⟩=>by omega
def isPlace(m:Int):D->Bool
 |.int i=>decide (0<=i)&&decide (i < m)
 |_=>false
def gn:List D->Option D
 |[.int m,x]=>if nr x then some (.bl (isPlace m x)) else none
 |_=>none
theorem ab6 (Z:aj) (h1:Z "is_whole"=aM iT) (ds:List D) (G:DH) (d:D) (h:gn ds=some d):au Z lY noE (env0 ds 0) G (ends λd' G'=>G'=G/\d'=d):=by
 unfold gn at h;split at h
 ·rename_i m x;split at h
  ·rename_i hx;cases h;have hf:iT [x]=some (.bl (whole x)):=if_pos hx;erw[lY,h1];refine cg hf ?_;cases x <;> first | (simp[nr]at hx;done) | (erw[whole,isPlace];first | (simp;done) |skip)
   rename_i i;cases hi:decide (0<=i) with
   |true=>simp
   |false=>simp
  ·cases h
 ·cases h
theorem ab7{m i:Nat}{G:DH}{k:D->DH->Prop}{E:EK}(h:i < m)(hk:k (.bl true) G):(aM gn).t [.int m,.int i] G k E:=
 cg (by unfold gn;simp only[nr,if_true,isPlace];rw[bo (by omega),bo (by omega)];rfl) hk
def dR:List D->Option D
 |[.str name,.int many,.tup (.str s::r)]=>some (.bl ((((r.length+1:Nat):Int)==many+1)&&(s==name)))
 |_=>none
theorem ab8(Z:aj)(ds:List D)(G:DH)(d:D)(h:dR ds=some d):au Z lX noE (env0 ds 0) G (ends λd' G'=>G'=G/\d'=d):=by
 unfold dR at h;split at h
 ·rename_i name many s r;cases h;erw[lX];cases he:(((r.length+1:Nat):Int)==many+1) with
  |false=>erw[ej]
  |true=>erw[fx]
 ·cases h
theorem ab9{name s:List Nat}{m:Int}{r:List D}{G:DH}{k:D->DH->Prop}{E:EK}(h:s≠name)(hk:k (.bl false) G):(aM dR).t [.str name,.int m,.tup (.str s::r)] G k E:=
 cg (by unfold dR;dsimp only;rw[b9.mpr h,fo]) hk
theorem Hz{name:List Nat}{m:Int}{r:List D}{G:DH}{k:D->DH->Prop}{E:EK}(h:(r.length:Int)=m)(hk:k (.bl true) G):(aM dR).t [.str name,.int m,.tup (.str name::r)] G k E:=
 cg (by unfold dR;dsimp only;rw[BEq.rfl,Bool.and_true,aT.mpr (by omega)]) hk
theorem aca{f:List Nat}{i c:Nat}(h:f[i]?=some c):stc (f.take (i+1))=stc (f.take i)+(if (c==42)=true then 1 else 0):=by unfold stc;rw[cw,h,e9];cases hc:(c==42) <;> simp[hc]
def m5:List D->Option D
 |[.str f]=>some (.int ((2 ^ stc f:Nat):Int))
 |_=>none
theorem acb(Z:aj)(ds:List D)(G:DH)(d:D)(h:m5 ds=some d):au Z lE noE (env0 ds 2) G (ends λd' G'=>G'=G/\d'=d):=by
 unfold m5 at h;split at h
 ·rename_i f;cases h;simp_all_arith[lE];nofun;erw[ends];symm;simp_arith![ends];refine ForG.inv (P:=λi Y G'=>(∃o2,Y=[some (.str f),some (.int ((2 ^ stc (f.take i):Nat):Int)),o2])/\G'=G) ⟨⟨_,rfl⟩,rfl⟩ (λ_ _ _ _=>trivial) ?_ ?_
  ·rintro i d Y G' hd ⟨⟨o2,rfl⟩,rfl⟩ kk hk;rw[aw]at hd;obtain ⟨c,hc,rfl⟩:=ar.mp hd;have ht:=aca hc;simp_arith![ends];refine last ?_;erw[gf];cases h42:(c==42) with
   |true=>
    rw[h42,if_pos rfl]at ht;erw[ends];refine ⟨gb (by decide),hk _ _ ⟨⟨some (.str [c]),?_⟩,rfl⟩⟩;rw[ht,Nat.pow_succ,Int.natCast_mul];rfl
   |false=>
    rw[h42,if_neg bd]at ht;erw[ends];refine hk _ _ ⟨⟨some (.str [c]),?_⟩,rfl⟩;rw[ht];rfl
  ·rintro Y G' ⟨⟨o2,rfl⟩,rfl⟩;rw[af,da];refine hM _ _ ?_;erw[ends]
 ·cases h
def oI:Option Int->D
 |some i=>.int i
 |none=>.non
inductive T where
 |lf (r:List (Option Int))
 |sp (i:Int) (z o:T)
def T.d(name:List Nat):T->D
 |.lf r=>.tup (.str name::r.map oI)
 |.sp i z o=>.tup [.str eQ,.int i,z.d name,o.d name]
def T.dep:T->Nat
 |.lf _=>0
 |.sp _ z o=>max z.dep o.dep+1
def iV(b:List Nat)(i:Int):Bool:=decide (0<=i)&&b[i.toNat]?==some 42
def T.lvs:T->List Nat->Option (List (List Nat×List (Option Int)))
 |.lf r,b=>some [(b,r)]
 |.sp i z o,b=>match iV b i with
  |true=>(match z.lvs (b.set i.toNat 48),o.lvs (b.set i.toNat 49) with |some l,some m=>some (l++m) |_,_=>none)
  |false=>none
def jQ(name:List Nat)(x:List Nat×List (Option Int)):D:=.tup [.str x.1,.tup (.str name::x.2.map oI)]
def dz(name:List Nat):Option (List (List Nat×List (Option Int)))->D
 |none=>.non
 |some l=>.lst (l.map (jQ name))
theorem T.lvs_len:∀(t:T){b:List Nat}{l:List (List Nat×List (Option Int))},t.lvs b=some l->l.length<=2 ^ t.dep
 |.lf r,b,l,h=>by cases h;exact Nat.one_le_two_pow
 |.sp i z o,b,l,h=>by
  rw[T.lvs]at h;split at h
  ·split at h
   ·rename_i l1 l2 h1 h2;cases h;have e1:=z.lvs_len h1;have e2:=o.lvs_len h2;have e3:=dk (show 0 < 2 by decide) (Nat.le_max_left z.dep o.dep);have e4:=dk (show 0 < 2 by decide) (Nat.le_max_right z.dep o.dep);rw[al,T.dep,Nat.pow_succ];omega
   ·cases h
  ·cases h
theorem T.lvs_len'{n:Nat}{t:T}{b:List Nat}{l:List (List Nat×List (Option Int))}(h:t.lvs b=some l)(hn:t.dep < n)(hn':n<=12):l.length<=4096:=by
 have h1:=t.lvs_len h;have h3:=dk (show 0 < 2 by decide) (show t.dep<=12 by omega);have h4:2 ^ 12=4096:=by decide
 omega
structure TA where
 name:List Nat
 b:List Nat
 t:T
def HB(n:Nat)(a:TA):Prop:=a.name≠eQ/\a.b.length<=12/\a.t.dep < n/\n<=12
def dB(n:Nat):RF.Spec:=cH (λa:TA=>[.str a.b,a.t.d a.name]) (HB n) (λa=>dz a.name (a.t.lvs a.b))
theorem tV{n:Nat}{name b:List Nat}{t:T}{G:DH}{k:D->DH->Prop}{E:EK}(h1:name≠eQ)(h2:b.length<=12)(h3:t.dep < n)(h4:n<=12)(hk:k (dz name (t.lvs b)) G):(dB n).t [.str b,t.d name] G k E:=cV ⟨name,b,t⟩ rfl ⟨h1,h2,h3,h4⟩ hk
theorem acd(ds:List D)(G:DH)(a:(dB 0).A):¬(dB 0).pre ds G a:=λ⟨_,_,_,_,h,_⟩=>by omega
theorem ace{b:List Nat}{i:Int}(h:iV b i=true):0<=i/\∃n:Nat,i=n/\n < b.length/\b[n]?=some 42:=by
 unfold iV at h;rw[ae]at h;have h1:=ci h.1;have h2:b[i.toNat]?=some 42:=by simpa using h.2
 exact ⟨h1,i.toNat,by omega,(ag.mp h2).1,h2⟩
theorem acf (Z:aj) (n:Nat) (h0:Z "leaves"=dB n) (h1:Z "is_named"=aM dR) (h2:Z "is_place"=aM gn) (h3:Z "with_sign"=aM gY) (a:TA) (G:DH) (h:HB (n+1) a):au Z iR noE (env0 [.str a.b,a.t.d a.name] 3) G (ends λd G'=>G'=G/\d=dz a.name (a.t.lvs a.b)):=by
 obtain ⟨name,b,t⟩:=a;obtain ⟨hne,hbl,hd,hn⟩:=h;dsimp only at hne hbl hd ⊢;cases t with
 |lf r=>
  simp_all_arith[iR];nofun;erw[h1,T.d];refine ab9 hne ?_;erw[T.lvs,dz,jQ];exact ⟨by decide,by decide⟩
 |sp i z o=>
  rw[T.dep]at hd;simp_all_arith[iR];nofun;erw[h1,T.d];refine Hz rfl ?_;erw[ends];symm;erw[ends];symm;erw[h2];refine cg (d:=.bl (isPlace b.length (.int i))) rfl ?_;cases hst:iV b i with
  |false=>
   rw[T.lvs,hst];cases hp:isPlace b.length (.int i) with
   |false=>erw[dz]
   |true=>
    unfold isPlace at hp;rw[ae]at hp;have p1:=ci hp.1;have p2:=ci hp.2;obtain ⟨m,rfl⟩:∃m:Nat,i=m:=⟨i.toNat,by omega⟩;have hm:m < b.length:=by omega
    have hc:b[m]?=some b[m]:=ai hm;have hne42:((b[m]==42):Bool)=false:=by unfold iV at hst;rw[bo (by omega),fx,br,hc]at hst;simpa using hst
    erw[ends];refine bz (a:=b[m]) (bf hc) ?_;erw[gf,hne42,dz]
  |true=>
   obtain ⟨_,m,rfl,hm,hc⟩:=ace hst;have hp:isPlace b.length (.int (m:Int))=true:=by show (decide (0<=(m:Int))&&decide ((m:Int) < b.length))=true;rw[bo (by omega),bo (by omega)];rfl
   have hl:(T.sp (m:Int) z o).lvs b=match z.lvs (b.set m 48),o.lvs (b.set m 49) with |some l,some m=>some (l++m) |_,_=>none:=by rw[T.lvs,hst,br]
   rw[hp];erw[ends];refine bz (a:=42) (bf hc) ?_;erw[BEq.rfl];symm;erw[h0,h3];refine tU hm (by omega) (tV hne (by rw[cm];exact hbl) (by omega) (by omega) (hM _ _ (seq λM hM=>?_)));erw[h0,h3];refine tU hm (by omega) (tV hne (by rw[cm];exact hbl) (by omega) (by omega) (hM _ _ (seq λM hM=>?_)));cases e1:z.lvs (b.set m 48) with
   |none=>
    rw[e1]at hl;erw[hl,dz]
   |some l1=>
    cases e2:o.lvs (b.set m 49) with
    |none=>
     rw[e1,e2]at hl;erw[hl,dz]
    |some l2=>
     rw[e1,e2]at hl;have q1:=T.lvs_len' e1 (n:=n) (by omega) (by omega);have q2:=T.lvs_len' e2 (n:=n) (by omega) (by omega);erw[dz];ac_nf0;erw[af,b4,hl,dz];bv_omega
theorem acg(o:Option Nat):aN o=oI (o.map λn=>(n:Int)):=by cases o <;> rfl
def iW(rss:List (List Row))(c:List Nat):List (Option Int):=rss.map λrs=>(aF rs c).map λn=>(n:Int)
theorem HF{rss:List (List Row)}{c:List Nat}:(iW rss c).map oI=rss.map λrs=>aN (aF rs c):=by unfold iW;rw[df];exact List.map_congr_left λrs _=>(acg _).symm
theorem Lv.tree{name:List Nat}{rss:List (List Row)}{b:List Nat}{d:D}{bs:List (List Nat)}(h:Lv name rss b d bs):∃t:T,d=t.d name/\t.dep<=stc b/\t.lvs b=some (bs.map λc=>(c,iW rss c)):=by
 induction h with
 |leaf b h=>exact ⟨.lf (iW rss b),by rw[T.d,HF];rfl,eS _,rfl⟩
 |node b n z o l m h _ _ hz ho=>
  obtain ⟨tz,rfl,d1,e1⟩:=hz;obtain ⟨tO,rfl,d2,e2⟩:=ho;have s1:=gZ h (show 48≠42 by decide);have s2:=gZ h (show 49≠42 by decide);refine ⟨.sp n tz tO,rfl,?_,?_⟩
  ·rw[T.dep];have:=Nat.max_le.mpr ⟨show tz.dep<=stc (b.set n 48) from d1,show tO.dep<=stc (b.set n 48) by omega⟩;omega
  ·have hs:iV b (n:Int)=true:=by unfold iV;rw[bo (by omega),br,h];rfl
   rw[T.lvs,hs,br,e1,e2];simp
theorem ach{name:List Nat}{rss:List (List Row)}{c:List Nat}:jQ name (c,iW rss c)=gm name rss c:=by unfold jQ gm iU;rw[HF]
theorem HH{n:Nat}{name:List Nat}{rss:List (List Row)}{b:List Nat}{d:D}{bs:List (List Nat)}{G:DH}{k:D->DH->Prop}{E:EK}(h:Lv name rss b d bs)(h1:name≠eQ)(h2:b.length<=12)(h3:stc b < n)(hk:k (.lst (bs.map (gm name rss))) G)(h4:n<=12:=by decide):(dB n).t [.str b,d] G k E:=by
 obtain ⟨t,rfl,e1,e2⟩:=h.tree;refine tV h1 h2 (by omega) h4 ?_;rw[e2,dz,df];have:(jQ name∘λc=>(c,iW rss c))=gm name rss:=by funext c;exact ach
 rw[this];exact hk
theorem HJ{c s:Nat}:dN c s=true↔c=42\/c=s:=by unfold dN;simp
theorem aci{a b c:Nat}(h1:dN b a=true)(h2:dN c b=true):dN c a=true:=by
 rw[HJ]at h1 h2 ⊢;rcases h2 with h |h
 ·exact .inl h
 ·rcases h1 with h' |h'
  ·exact .inl (h.trans h')
  ·exact .inr (h.trans h')
theorem HN:∀{f g h:List Nat},f.length=g.length->g.length=h.length->bG g f=true->bG h g=true->bG h f=true
 |[],g,h,_,_,_,_=>by cases h <;> rfl
 |a::f,[],h,e,_,_,_=>by simp at e
 |a::f,b::g,[],_,e,_,_=>by simp at e
 |a::f,b::g,c::h,e1,e2,h1,h2=>by
  rw[bG,ae]at h1 h2 ⊢;exact ⟨aci h1.1 h2.1,HN (by simpa using e1) (by simpa using e2) h1.2 h2.2⟩
theorem acj{f g h:List Nat}(h1:aB g f=true)(h2:aB h g=true):aB h f=true:=by unfold aB at h1 h2 ⊢;rw[ae,cb]at h1 h2 ⊢;exact ⟨h2.1.trans h1.1,HN h1.1.symm h2.1.symm h1.2 h2.2⟩
theorem ack{f g:List Nat}(h:aB f g=true):bG f g=true:=by unfold aB at h;rw[ae]at h;exact h.2
theorem acl{f g:List Nat}(hl:f.length=g.length)(h:bG f g=true):aB f g=true:=by rw[ab3 hl];exact h
def jR:List D->Option D
 |[.str f,.str g]=>if decide (g.length<=100000) then some (.bl (aB g f)) else none
 |_=>none
theorem acn (Z:aj) (h1:Z "fits"=aM jM) (ds:List D) (G:DH) (d:D) (h:jR ds=some d):au Z mC noE (env0 ds 0) G (ends λd' G'=>G'=G/\d'=d):=by
 unfold jR at h;split at h
 ·rename_i f g;split at h
  ·rename_i hl;cases h;erw[mC,h1];exact cg (d:=.bl (aB g f)) (if_pos hl) ⟨rfl,rfl⟩
  ·cases h
 ·cases h
theorem aco{f g:List Nat}{G:DH}{k:D->DH->Prop}{E:EK}(h:g.length<=1000)(hk:k (.bl (aB g f)) G):(aM jR).t [.str f,.str g] G k E:=cg (if_pos (bo (by omega))) hk
def cA:List Nat->List (List Nat)
 |[]=>[[]]
 |c::f=>(alt c).flatMap λs=>(cA f).map (s::·)
theorem HQ:∀(f:List Nat)(acc:List (List Nat)),f.foldl step1 acc=acc.flatMap λt=>(cA f).map (t ++ ·)
 |[],acc=>by simp[cA]
 |c::f,acc=>by
  rw[List.foldl_cons,HQ f,step1,List.flatMap_assoc];congr 1;funext t;rw[cA,List.flatMap_map,List.map_flatMap];congr 1;funext s;rw[df];congr 1;funext x;simp
theorem g8(f:List Nat):aP f=cA f:=by unfold aP;rw[HQ];simp
theorem m6:∀(b:List Nat),(cA b).length=2 ^ stc b
 |[]=>rfl
 |c::b=>by
  have ih:=m6 b;rw[cA];unfold alt stc;unfold stc at ih;split
  ·rename_i h;subst h;simp[ih,Nat.pow_succ];omega
  ·rename_i h;simp[ih,h]
theorem HR:∀(b:List Nat)(n:Nat)(p:List Nat->Bool),b[n]?=some 42->(cA b).countP p=(cA (b.set n 48)).countP p+(cA (b.set n 49)).countP p
 |[],n,p,h=>by simp at h
 |c::b,0,p,h=>by
  have:c=42:=by simpa using h
  subst this;simp[cA,alt,e9]
 |c::b,n+1,p,h=>by
  have h':b[n]?=some 42:=by simpa using h
  have ih:=λq=>HR b n q h';rw[List.set_cons_succ,List.set_cons_succ,cA,cA,cA];unfold alt;split
  ·simp only[eM,List.flatMap_nil,eI,e9,List.countP_map,ih];omega
  ·simp only[eM,List.flatMap_nil,eI,List.countP_map,ih]
def atN(rs:List Row):Option Nat->Nat
 |some n=>n
 |none=>rs.length
def cI(rs:List Row)(bs:List (List Nat))(k:Nat):Nat:=(bs.map λb=>if atN rs (aF rs b)=k then 2 ^ stc b else 0).sum
theorem HS{w:Nat}{name:List Nat}{rs:List Row}{b:List Nat}{d:D}{bs:List (List Nat)}{k:Nat}(h:Lv name [rs] b d bs):okF w b->(∀r∈rs,r.1.length=w)->cI rs bs k=(aP b).countP λl=>atN rs (aJ rs l)==k:=by
 induction h with
 |leaf b h=>
  intro hb hf;have hm:∀l∈aP b,aJ rs l=aF rs b:=λl hl=>yP (λr hr=>by rw[hf r hr,hb.1]) (h rs (by simp)) (mZ hb (cz.mp hl)) (cz.mp hl);have e:(aP b).countP (λl=>atN rs (aJ rs l)==k)=(aP b).countP (λ_=>atN rs (aF rs b)==k):=fk λl hl=>by rw[hm l hl]
  rw[e];unfold cI;rw[bi,fi,List.sum_cons,List.sum_nil,Nat.add_zero];by_cases hk:atN rs (aF rs b)=k
  ·rw[if_pos hk,aT.mpr hk,List.countP_true,g8,m6]
  ·rw[if_neg hk,b9.mpr hk];simp
 |node b n z o l m h _ _ hz ho=>
  intro hb hf;have e1:=hz (jP hb tM) hf;have e2:=ho (jP hb tQ) hf;have e3:cI rs (l++m) k=cI rs l k+cI rs m k:=by unfold cI;rw[b4,List.sum_append]
  rw[e3,e1,e2,g8,g8,g8];exact (HR b n _ h).symm
def tell(n:Nat)(f:Nat->Nat):List D:=(List.range n).map λk=>D.int (f k:Int)
theorem iY{n:Nat}{f:Nat->Nat}:(tell n f).length=n:=by simp[tell]
theorem HW{α:Type}(l:List α):l.map (λ_=>D.int 0)++[D.int 0]=tell (l.length+1) λ_=>0:=by unfold tell;rw[List.range_succ,b4];congr 1;rw[List.eq_replicate_of_mem (a:=D.int 0) (l:=l.map λ_=>D.int 0) (λx hx=>by obtain ⟨_,_,rfl⟩:=bg.mp hx;rfl)];rw[af];exact (List.eq_replicate_iff.mpr ⟨by simp,λx hx=>by obtain ⟨_,_,rfl⟩:=bg.mp hx;rfl⟩).symm
theorem gr{n a:Nat}{f:Nat->Nat}(h:a < n):(tell n f)[a]?=some (.int (f a:Int)):=by unfold tell;rw[aw,List.getElem?_range h];rfl
theorem HX{n a v:Nat}{f g:Nat->Nat}(h:a < n)(hg:∀k,g k=f k+if a=k then v else 0):(tell n f).set a (.int ((f a:Int)+(v:Int)))=tell n g:=by
 apply List.ext_getElem?;intro j;rw[List.getElem?_set,iY];by_cases hj:a=j
 ·subst hj;rw[if_pos rfl,if_pos h,gr h,hg,if_pos rfl];simp
 ·rw[if_neg hj];by_cases hjn:j < n
  ·rw[gr hjn,gr hjn,hg,if_neg hj];simp
  ·rw[List.getElem?_eq_none (by rw[iY];omega),List.getElem?_eq_none (by rw[iY];omega)]
theorem HY{rs:List Row}{o:Option Nat}(h:∀n,o=some n->n < rs.length):atN rs o < rs.length+1:=by
 cases o with
 |none=>exact Nat.lt_succ_self _
 |some n=>have:=h n rfl;show n < _;omega
theorem H9{rs:List Row}{bs:List (List Nat)}{b:List Nat}{k:Nat}:cI rs (bs++[b]) k=cI rs bs k+if atN rs (aF rs b)=k then 2 ^ stc b else 0:=by unfold cI;rw[b4,List.sum_append];simp
def cN(w:Nat)(rs:List Row):List D:=tell (rs.length+1) λk=>(aP (List.replicate w 42)).countP λl=>atN rs (aJ rs l)==k
def iZ:RF.Spec:=ghS (A:=Nat×List Row) (λa ds _=>ds=[aA a.1 a.2]/\okB a.1 a.2) (λa G d G'=>∃q,d=.ref q/\G q=none/\G' q=some (.lst (cN a.1 a.2))/\Sa G G')
theorem yR{w:Nat}{rs:List Row}{G:DH}{k:D->DH->Prop}{E:EK}(h:okB w rs)(hk:∀q G',G q=none->G' q=some (.lst (cN w rs))->Sa G G'->k (.ref q) G'):iZ.t [aA w rs] G k E:=
 gU (w,rs) ⟨rfl,h⟩ λd G' ⟨q,e1,e2,e3,e4⟩=>by subst e1;exact hk q G' e2 e3 e4
theorem acp (Z:aj) (h1:Z "laid"=mY) (h2:Z "leaves"=dB 9) (h3:Z "stars"=aM eO) (h4:Z "how_many"=aM m5) (a:Nat×List Row) (ds:List D) (G:DH) (h:ds=[aA a.1 a.2]/\okB a.1 a.2):
  au Z lZ noE (env0 ds 7) G (ends λd G'=>∃q,d=.ref q/\G q=none/\G' q=some (.lst (cN a.1 a.2))/\Sa G G'):=by
 obtain ⟨w,rs⟩:=a;obtain ⟨rfl,hb⟩:=h;dsimp only at hb ⊢;have hw6:=hb.w6;have hlen:=hb.len;have hst:=yN w;simp_all_arith[lZ];nofun;erw[h1];refine Hx hb λt ht=>hM _ _ (seq λM hM=>?_);obtain ⟨bs,hL⟩:=ht.lv;erw[aA];symm;erw[ends];refine CompG.map (f:=λ_=>.int 0) (I:=λY=>∃o,Y=[o]) ⟨_,rfl⟩ trivial (by simp;bv_omega) ?_ ?_
 ·rintro d Y hd ⟨o,rfl⟩ kk hk;erw[ends];exact hk _ ⟨_,rfl⟩
 rw[df];erw[Function.comp_def,af];refine ⟨by bv_omega,by bv_omega,?_⟩;intro q hq;rw[HW];symm;simp_arith![h2,h3];refine cg (d:=.str (List.replicate w 42)) (by unfold eO;dsimp only;rw[if_pos (by simp only[ae,cb];omega),br]) ?_;refine HH hL (by decide) (by rw[b6];omega) (by omega) ?_;simp_arith![ends];refine ForG.inv (P:=λi Y G'=>(∃o5 o6 o7,Y=[some (.tup [.int w,.tup (rs.map aq)]),some t,some (.int w),some (.tup (rs.map aq)),some (.ref q),o5,o6,o7])/\G' q=some (.lst (tell (rs.length+1) (cI rs (bs.take i))))/\Sa G G') ⟨⟨_,_,_,rfl⟩,bF,Sa.new hq⟩ (λ_ _ _ _=>trivial) ?_ ?_
 ·rintro i d Y G' hd ⟨⟨o5,o6,o7,rfl⟩,g1,sa⟩ kk hk;rw[aw]at hd;obtain ⟨b,hbb,rfl⟩:=ar.mp hd;have hat:atN rs (aF rs b) < rs.length+1:=HY λn hn=>mX hn;have htk:bs.take (i+1)=bs.take i++[b]:=by rw[cw,hbb];rfl
  simp_arith![gm,iU];nofun;have step:∀(R:D->DH->Prop) (B C:ak->DH->Prop) o6,au Z (.cons (.augs (.var 4) (.var 7) .Add (.call "how_many" (.cons (.var 5) .nil))) .nil) noE [some (.tup [.int w,.tup (rs.map aq)]),some t,some (.int w),some (.tup (rs.map aq)),some (.ref q),some (.str b),o6,some (.int (atN rs (aF rs b):Nat))] G' ⟨kk,R,B,C⟩:=by intro R B C o6;refine last ?_;erw[h4,cU g1];refine bz (a:=.int (cI rs (bs.take i) (atN rs (aF rs b)):Nat)) (bf (gr hat)) ?_;refine cg (d:=.int ((2 ^ stc b:Nat):Int)) rfl ?_;erw[cT g1,iY,xM hat];refine hk _ _ ⟨⟨_,_,_,rfl⟩,?_,sa.then hq Sb.upd⟩;rw[bF,htk,HX hat λk=>H9]
  cases ht:aF rs b with
  |none=>
   rw[ht]at step;erw[aN,af];exact hM _ _ (step _ _ _ _)
  |some n=>
   rw[ht]at step;erw[aN];exact hM _ _ (step _ _ _ _)
 ·rintro Y G' ⟨⟨o5,o6,o7,rfl⟩,g1,sa⟩;rw[af,da]at g1;refine hM _ _ ?_;erw[ends];refine ⟨q,rfl,hq,?_,sa⟩;rw[g1];unfold cN;have:cI rs bs=λk=>(aP (List.replicate w 42)).countP λl=>atN rs (aJ rs l)==k:=by
   funext k;exact HS hL (tu w) λr hr=>(hb.form r hr).1
  rw[this]
def m7(rs:List Row)(i:Int):List Nat:=match rs[i.toNat]? with |some r=>r.1 |none=>[]
def cX(rs:List Row)(b:List Nat):Option Int->Bool
 |none=>(aF rs b).isNone
 |some i=>isPlace rs.length (.int i)&&(aB (m7 rs i) b&&aF rs b==some i.toNat)
def tW:RF.Spec:=cH (λa:List Row×List Nat×Option Int=>[.tup (a.1.map aq),.str a.2.1,oI a.2.2]) (λa=>∀r∈a.1,r.1.length<=1000) (λa=>.bl (cX a.1 a.2.1 a.2.2))
theorem acq{rs:List Row}{b:List Nat}{x:Option Int}{G:DH}{k:D->DH->Prop}{E:EK}(h:∀r∈rs,r.1.length<=1000)(hk:k (.bl (cX rs b x)) G):tW.t [.tup (rs.map aq),.str b,oI x] G k E:=cV (rs,b,x) rfl h hk
theorem acr{rs:List Row}{i:Int}(h:isPlace rs.length (.int i)=true):∃(n:Nat)(hn:n < rs.length),i=n/\rs[n]?=some rs[n]:=by unfold isPlace at h;rw[ae]at h;have p1:=ci h.1;have p2:=ci h.2;exact ⟨i.toNat,by omega,by omega,ai _⟩
theorem acs (Z:aj) (h1:Z "first_touching"=jO) (h2:Z "is_place"=aM gn) (h3:Z "lies_in"=aM jR) (a:List Row×List Nat×Option Int) (G:DH) (h:∀r∈a.1,r.1.length<=1000):
  au Z mD noE (env0 [.tup (a.1.map aq),.str a.2.1,oI a.2.2] 0) G (ends λd G'=>G'=G/\d=.bl (cX a.1 a.2.1 a.2.2)):=by
 obtain ⟨rs,b,x⟩:=a;dsimp only at h ⊢;simp_all_arith[mD];nofun;cases x with
 |none=>
  erw[oI,h1];refine tD h ?_;cases ht:aF rs b with
  |none=>erw[aN,cX,ht,Option.isNone_none,and_self]
  |some n=>erw[aN,cX,ht,Option.isNone_some,and_self]
 |some i=>
  erw[oI];symm;erw[h2,af];refine cg (d:=.bl (isPlace rs.length (.int i))) rfl ?_;cases hp:isPlace rs.length (.int i) with
  |false=>erw[cX,hp,ej,and_self]
  |true=>
   obtain ⟨n,hn,rfl,hc⟩:=acr hp;have hf:m7 rs (n:Int)=rs[n].1:=by unfold m7;rw[br,hc]
   have hat:atI (rs.map aq) (n:Int)=some (aq rs[n]):=bf (by rw[aw,hc];rfl);erw[ends];refine bz hat ?_;erw[aq,h3];refine aco (h _ (ce _)) ?_;cases hfb:aB rs[n].1 b with
   |false=>erw[cX,hf,hfb,hp,ej,fo,and_self]
   |true=>
    erw[ends];refine hM _ _ ?_;erw[h1];refine tD h ?_;cases ht:aF rs b with
    |none=>erw[aN,cX,hf,hfb,hp,ht,fx];rfl
    |some m=>
     have e:(((m:Int)==(n:Int)):Bool)=(some m==some (n:Int).toNat):=by rw[br,e8];simp;omega
     erw[aN,cX,hf,hfb,hp,ht,fx,e,and_self]
def m8(f:Option Int->Bool):List (Option Int)->Bool
 |[y]=>f y
 |_=>false
def jb(rs:List Row)(o:Option (List (List Nat×List (Option Int)))):Bool:=match o with
 |none=>false
 |some l=>l.all λx=>m8 (cX rs x.1) x.2
def tX:RF.Spec:=cH (λa:Nat×List Row×T=>[aA a.1 a.2.1,a.2.2.d dh]) (λa=>okB a.1 a.2.1/\a.2.2.dep < 9) (λa=>.bl (jb a.2.1 (a.2.2.lvs (List.replicate a.1 42))))
theorem acu{w:Nat}{rs:List Row}{t:T}{G:DH}{k:D->DH->Prop}{E:EK}(h1:okB w rs)(h2:t.dep < 9)(hk:k (.bl (jb rs (t.lvs (List.replicate w 42)))) G):tX.t [aA w rs,t.d dh] G k E:=cV (w,rs,t) rfl ⟨h1,h2⟩ hk
theorem acv{w:Nat}{G:DH}{k:D->DH->Prop}{E:EK}(h:w<=1000)(hk:k (.str (List.replicate w 42)) G):(aM eO).t [.int w] G k E:=
 cg (d:=.str (List.replicate w 42)) (by unfold eO;dsimp only;rw[if_pos (by simp only[ae,cb];omega),br]) hk
theorem acw{α:Type}(f:α->Bool)(l:List α):(l.map f).all id=l.all f:=by induction l with |nil=>rfl |cons a l ih=>simp[ih]
theorem acx (Z:aj) (h1:Z "need_book"=gW) (h2:Z "leaves"=dB 9) (h3:Z "stars"=aM eO) (h4:Z "is_named"=aM dR) (h5:Z "is_met"=tW) (a:Nat×List Row×T) (G:DH) (h:okB a.1 a.2.1/\a.2.2.dep < 9):
  au Z mF noE (env0 [aA a.1 a.2.1,a.2.2.d dh] 3) G (ends λd G'=>G'=G/\d=.bl (jb a.2.1 (a.2.2.lvs (List.replicate a.1 42)))):=by
 obtain ⟨w,rs,t⟩:=a;obtain ⟨hb,hd⟩:=h;dsimp only at hb hd ⊢;have hw6:=hb.w6;have hrl:∀r∈rs,r.1.length<=1000:=λr hr=>by rw[(hb.form r hr).1];omega
 simp_all_arith[mF];nofun;erw[h1];refine mQ hb (hM _ _ (seq λM hM=>?_));erw[aA];symm;erw[h2,h3];refine acv (by omega) (tV (by decide) (by rw[b6];omega) hd (by decide) (hM _ _ (seq λM hM=>?_)));cases hl:t.lvs (List.replicate w 42) with
 |none=>erw[dz,jb,and_self]
 |some l=>
  have hlen:=T.lvs_len' hl hd (by decide);erw[dz];ac_nf0;erw[ends];refine CompG.inv (P:=λi acc Y G'=>(∃o1 o2,Y=[o1,o2,some (.tup (rs.map aq))])/\G'=G/\acc=(l.take i).map λx=>D.bl (m8 (cX rs x.1) x.2)) ⟨⟨_,_,rfl⟩,rfl,rfl⟩ (λ_ _ _ _ _=>trivial) (by rw[af];bv_omega) ?_ ?_
  ·rintro i d acc Y G' hd' ⟨⟨o1,o2,rfl⟩,rfl,rfl⟩ kk hk;rw[aw]at hd';obtain ⟨⟨c,r⟩,hx,rfl⟩:=ar.mp hd';have htk:l.take (i+1)=l.take i++[(c,r)]:=by rw[cw,hx];rfl
   erw[jQ,h4];cases r with
   |nil=>
    refine cg (d:=.bl false) (by unfold dR;rfl) ?_;erw[ends];exact hk _ _ _ ⟨⟨_,_,rfl⟩,rfl,by rw[htk];simp[m8]⟩
   |cons y r=>
    cases r with
    |nil=>
     refine Hz rfl ?_;erw[h5];refine acq hrl ?_;exact hk _ _ _ ⟨⟨_,_,rfl⟩,rfl,by rw[htk];simp[m8]⟩
    |cons z r=>
     refine cg (d:=.bl false) (by
      unfold dR;have:(((((List.map oI (y::z::r)).length+1:Nat):Int)==1+1):Bool)=false:=by rw[b9];simp;omega
      dsimp only;rw[this,ej]) ?_
     erw[ends];exact hk _ _ _ ⟨⟨_,_,rfl⟩,rfl,by rw[htk];simp[m8]⟩
  ·rintro acc Y G' ⟨_,rfl,rfl⟩;rw[af,da];erw[rW,jb,acw,hl,and_self]
theorem Ia:∀{f b:List Nat},f.length=b.length->(bw f b).isSome=true->bU f b=none->bG f b=true
 |[],b,_,_,_=>rfl
 |a::f,[],h,_,_=>by simp at h
 |a::f,c::b,hl,hb,hs=>by
  unfold bU at hs;rw[List.zip_cons_cons,en]at hs;split at hs
  ·cases hs
  ·rename_i hne;have hs':bU f b=none:=by unfold bU;simpa using hs
   unfold bw at hb;cases h1:bT a c with
   |none=>rw[h1]at hb;cases hb
   |some x=>
    rw[h1]at hb;have hb':(bw f b).isSome=true:=by simpa using hb
    rw[bG,ae];refine ⟨?_,Ia (by simpa using hl) hb' hs'⟩;unfold dN;by_cases ha:a=42
    ·simp[ha]
    ·have hc:c≠42:=by
      rintro rfl;exact hne (by simp[ha])
     unfold bT at h1;rw[if_neg ha]at h1;split at h1
     ·rename_i h2;rcases h2 with h2 |h2
      ·exact absurd h2 hc
      ·simp[h2]
     ·cases h1
theorem acy{f b:List Nat}(h:f.length=b.length)(h1:(bw f b).isSome=true)(h2:bU f b=none):aB f b=true:=by unfold aB;rw[bo h,Ia h h1 h2];rfl
theorem acz{w:Nat}{rs:List Row}{b:List Nat}{d:D}{bs:List (List Nat)}(hb:okB w rs)(h:Lv dh [rs] b d bs)(hbl:b.length=w):jb rs (some (bs.map λc=>(c,iW [rs] c)))=true:=by
 unfold jb;dsimp only;rw[bX];intro x hx;obtain ⟨c,hc,rfl⟩:=bg.mp hx;obtain ⟨hcl,hsp⟩:=h.box c hc;have hsp:=hsp rs (by simp);show cX rs c ((aF rs c).map λn=>(n:Int))=true;cases ht:aF rs c with
 |none=>simp[cX,ht]
 |some n=>
  have hn:=mX ht;have hc2:rs[n]?=some rs[n]:=ai hn;have hf:m7 rs (n:Int)=rs[n].1:=by unfold m7;rw[br,hc2]
  have hsf:bU rs[n].1 c=none:=by unfold cW at hsp;rw[ht]at hsp;simpa [hc2] using hsp
  have ht':=dP.mp ht;obtain ⟨_,t1,_⟩:=ht';have hlen:rs[n].1.length=c.length:=by rw[(hb.form _ (ce hn)).1,hcl,hbl]
  show cX rs c (some (n:Int))=true;unfold cX;dsimp only;have hp:isPlace rs.length (.int (n:Int))=true:=by show (decide (0<=(n:Int))&&decide ((n:Int) < rs.length))=true;rw[bo (by omega),bo (by omega)];rfl
  rw[hp,hf,ht,br,acy hlen t1 hsf];simp
def cJ(l:List Nat):List Nat:=l.map λa=>if a=42 then 48 else a
def jT:List D->Option D
 |[.str l]=>if decide (l.length<=1000) then some (.str (cJ l)) else none
 |_=>none
theorem acA{l:List Nat}{G:DH}{k:D->DH->Prop}{E:EK}(h:l.length<=1000)(hk:k (.str (cJ l)) G):(aM jT).t [.str l] G k E:=cg (if_pos (bo h)) hk
theorem Ib{b l:List Nat}{n:Nat}(h:Fits b l)(hn:b[n]?=some 42):Fits (b.set n 48) l\/Fits (b.set n 49) l:=by
 obtain ⟨hl,he⟩:=ag.mp hn;have hnl:n < l.length:=by rw[<-h.1];exact hl
 have hs:=h.2 n 42 l[n] hn (ai hnl);have put:∀c,l[n]=c->c≠42->Fits (b.set n c) l:=by
  intro c hc hc42;refine ⟨by rw[cm];exact h.1,λi x y hx hy=>?_⟩;rw[List.getElem?_set]at hx;by_cases hi:n=i
  ·subst hi;rw[if_pos rfl,if_pos hl]at hx;rw[ai hnl]at hy;cases hx;cases hy;unfold alt;rw[if_neg hc42,hc];simp
  ·rw[if_neg hi]at hx;exact h.2 i x y hx hy
 unfold alt at hs;rw[if_pos rfl]at hs;have:l[n]=48\/l[n]=49:=by simpa using hs
 rcases this with e |e
 ·exact .inl (put 48 e (by decide))
 ·exact .inr (put 49 e (by decide))
theorem yS{b l:List Nat}{n c:Nat}(h:Fits (b.set n c) l)(hn:b[n]?=some 42)(hc:c=48\/c=49):Fits b l:=by
 have hl:=(ag.mp hn).1;refine ⟨by have:=h.1;rwa [cm]at this,λi x y hx hy=>?_⟩;by_cases hi:n=i
 ·subst hi;rw[hn]at hx;cases hx;have:=h.2 n c y (by rw[List.getElem?_set,if_pos rfl,if_pos hl]) hy;unfold alt at this ⊢;rw[if_neg (by omega)]at this;rw[if_pos rfl];have e:y=c:=by simpa using this
  rw[e];simpa using hc
 ·exact h.2 i x y (by rw[List.getElem?_set,if_neg hi];exact hx) hy
theorem Lv.cover{name:List Nat}{rss:List (List Row)}{b:List Nat}{d:D}{bs:List (List Nat)}(h:Lv name rss b d bs):∀l,Fits b l->∃c∈bs,Fits c l:=by
 induction h with
 |leaf b h=>exact λl hl=>⟨b,by simp,hl⟩
 |node b n z o l m h _ _ hz ho=>
  intro w hw;rcases Ib hw h with e |e
  ·obtain ⟨c,hc,hf⟩:=hz w e;exact ⟨c,a8.mpr (.inl hc),hf⟩
  ·obtain ⟨c,hc,hf⟩:=ho w e;exact ⟨c,a8.mpr (.inr hc),hf⟩
theorem Lv.within{name:List Nat}{rss:List (List Row)}{b:List Nat}{d:D}{bs:List (List Nat)}(h:Lv name rss b d bs):∀c∈bs,∀l,Fits c l->Fits b l:=by
 induction h with
 |leaf b h=>intro c hc l hl;rw[aI.mp hc]at hl;exact hl
 |node b n z o l m h _ _ hz ho=>
  intro c hc w hw;rcases a8.mp hc with hc |hc
  ·exact yS (hz c hc w hw) h (.inl rfl)
  ·exact yS (ho c hc w hw) h (.inr rfl)
theorem acB{a s:Nat}{f l:List Nat}(h:Fits (a::f) (s::l)):s∈alt a/\Fits f l:=
 ⟨h.2 0 a s rfl rfl,by have:=h.1;simpa using this,λi c t h1 h2=>h.2 (i+1) c t (by simpa using h1) (by simpa using h2)⟩
theorem acC{a s:Nat}{f l:List Nat}(h1:s∈alt a)(h2:Fits f l):Fits (a::f) (s::l):=⟨by simp[h2.1],λi c t hc ht=>by
 cases i with
 |zero=>simp at hc ht;rw[<-hc,<-ht];exact h1
 |succ i=>exact h2.2 i c t (by simpa using hc) (by simpa using ht)⟩
theorem yU:∀c:List Nat,Fits c (cJ c)
 |[]=>⟨rfl,λi c s h=>by simp at h⟩
 |a::c=>by
  show Fits (a::c) ((if a=42 then 48 else a)::cJ c);refine acC ?_ (yU c);unfold alt;split <;> simp
theorem Ie:∀{c l:List Nat},Fits c l->¬l < cJ c
 |[],l,h=>by
  have:l=[]:=db.mp h.1.symm;subst this;exact List.lt_irrefl _
 |a::c,[],h=>by have:=h.1;simp at this
 |a::c,s::l,h=>by
  obtain ⟨h1,h2⟩:=acB h;show ¬(s::l) < ((if a=42 then 48 else a)::cJ c);rw[fv];have ih:=Ie h2;unfold alt at h1;split at h1
  ·rename_i e;rw[if_pos e];have:s=48\/s=49:=by simpa using h1
   rintro (q |q)
   ·omega
   ·exact ih q.2
  ·rename_i e;rw[if_neg e];have:s=a:=by simpa using h1
   rintro (q |q)
   ·omega
   ·exact ih q.2
theorem Ig:∀{x m a:List Nat},x < m->¬a < m->x < a
 |x,[],a,h,_=>absurd h (by simp)
 |x,b::m,[],_,h=>absurd (by simp) h
 |[],b::m,y::a,_,_=>by simp
 |c::x,b::m,y::a,h,g=>by
  rw[fv]at h g ⊢;have g1:¬y < b:=λe=>g (.inl e);rcases h with h |⟨h1,h2⟩
  ·exact .inl (by omega)
  ·by_cases e:y=b
   ·exact .inr ⟨by omega,Ig h2 λz=>g (.inr ⟨e,z⟩)⟩
   ·exact .inl (by omega)
theorem Ih:∀f:List Nat,(cA f).Pairwise (· < ·)
 |[]=>by simp[cA]
 |c::f=>by
  have ih:=Ih f;have one:∀s:Nat,((cA f).map (s::·)).Pairwise (· < ·):=λs=>List.pairwise_map.mpr (ih.imp λh=>fv.mpr (.inr ⟨rfl,h⟩));rw[cA];unfold alt;split
  ·rw[eM,eM,List.flatMap_nil,eI,List.pairwise_append];refine ⟨one 48,one 49,λa ha b hb=>?_⟩;obtain ⟨x,_,rfl⟩:=bg.mp ha;obtain ⟨y,_,rfl⟩:=bg.mp hb;exact fv.mpr (.inl (by decide))
  ·rw[eM,List.flatMap_nil,eI];exact one c
theorem acD{u:List (List Nat)}{m:List Nat}(h:u.Pairwise (· < ·))(hm:m∈u)(hl:∀x∈u,¬x < m):u.head?=some m:=by
 cases u with
 |nil=>cases hm
 |cons a u=>
  rcases bP.mp hm with e |hm
  ·rw[e];rfl
  ·exact absurd ((List.pairwise_cons.mp h).1 m hm) (hl a bq)
theorem acE{ds:List D}{ls:List (List Nat)}{k:D->Prop}(h0:cC ds=none)(h:bh ds=some ls)(hk:∀m,m∈ls->(∀a,a∈ls->¬a < m)->k (.str m)):opB .min [.lst ds] k:=by show j7 [.lst ds] k;unfold j7;dsimp only;rw[h0,h];exact hk
def Ii:List Nat:=[117,110,100,101,114]
def Ij:List Nat:=[119,111,114,100]
def dC:List Nat:=[104,105,100,100,101,110]
def cj(rs:List Row)(n:Nat)(f:List Nat):List (List Nat):=(aP f).filter λl=>(aJ (rs.take n) l).isNone
def tY:RF.Spec:=cH (λa:Nat×List Row×Nat=>[aA a.1 a.2.1,.int a.2.2]) (λa=>okB a.1 a.2.1/\a.2.2 < a.2.1.length) (λ_=>.non)
theorem acF{w n:Nat}{rs:List Row}{G:DH}{k:D->DH->Prop}{E:EK}(h:okB w rs)(hn:n < rs.length)(hk:k .non G):tY.t [aA w rs,.int n] G k E:=cV (w,rs,n) rfl ⟨h,hn⟩ hk
theorem acG (Z:aj) (h1:Z "need_book"=gW) (h2:Z "is_place"=aM gn) (a:Nat×List Row×Nat) (G:DH) (h:okB a.1 a.2.1/\a.2.2 < a.2.1.length):au Z mj noE (env0 [aA a.1 a.2.1,.int a.2.2] 0) G (ends λd G'=>G'=G/\d=.non):=by obtain ⟨w,rs,n⟩:=a;obtain ⟨hb,hn⟩:=h;dsimp only at hb hn ⊢;simp_all_arith[mj];nofun;erw[h1];refine mQ hb (hM _ _ (last ?_));erw[aA,h2,af];refine ab7 hn ?_;erw[and_self]
def yV(rs:List Row)(n:Nat)(f:List Nat)(d:D):Prop:=
 (∃m,(cj rs n f).head?=some m/\d=.tup [.str Ij,.str m])\/(cj rs n f=[]/\∃t bs,d=.tup [.str dC,t]/\Lv Ii [rs.take n] f t bs/\∀c∈bs,(aF (rs.take n) c).isSome=true)
def tZ:RF.Spec:=ghS (A:=Nat×List Row×Nat) (λa ds _=>ds=[aA a.1 a.2.1,.int a.2.2]/\okB a.1 a.2.1/\a.2.2 < a.2.1.length) (λa G d G'=>G'=G/\∃r,a.2.1[a.2.2]?=some r/\yV a.2.1 a.2.2 r.1 d)
theorem acH{w n:Nat}{rs:List Row}{r:Row}{G:DH}{k:D->DH->Prop}{E:EK}(h:okB w rs)(hn:rs[n]?=some r)(hk:∀d,yV rs n r.1 d->k d G):tZ.t [aA w rs,.int n] G k E:=
 gU (w,rs,n) ⟨rfl,h,(ag.mp hn).1⟩ λd G' hx=>by
  obtain ⟨e,r',er,q⟩:=hx;subst e;have er:rs[n]?=some r':=er;rw[hn]at er;cases er;exact hk d q
theorem acI{l:List D}{n:Nat}:cut l none (some (n:Int))=l.take n:=iM l n
theorem acJ (Z:aj) (h1:Z "need_row"=tY) (h2:Z "grown"=eU 9) (h3:Z "leaves"=dB 9) (h4:Z "least"=aM jT) (a:Nat×List Row×Nat) (ds:List D) (G:DH) (h:ds=[aA a.1 a.2.1,.int a.2.2]/\okB a.1 a.2.1/\a.2.2 < a.2.1.length):
  au Z mq noE (env0 ds 4) G (ends λd G'=>G'=G/\∃r,a.2.1[a.2.2]?=some r/\yV a.2.1 a.2.2 r.1 d):=by
 obtain ⟨w,rs,n⟩:=a;obtain ⟨rfl,hb,hn⟩:=h;dsimp only at hb hn ⊢;have hw6:=hb.w6;have hc:rs[n]?=some rs[n]:=ai hn;have hf:=hb.form rs[n] (ce hn);have hfl:=hf.1;have hrt:∀r∈rs.take n,okF w r.1:=λr hr=>hb.form r (List.mem_of_mem_take hr);simp_all_arith[mq];nofun;erw[h1];refine acF hb hn (hM _ _ (seq λM hM=>?_));erw[aA];symm;erw[ends];refine bz (a:=aq rs[n]) (bf (by rw[aw,hc];rfl)) ?_;erw[aq];symm;erw[h2,acI];have er:[D.tup (List.take n (rs.map aq))]=dO [rs.take n]:=by rw[<-List.map_take];rfl
 have hst:stc rs[n].1<=6:=bv ft (by omega);rw[er];refine ⟨by decide,tR (name:=Ii) ⟨by simp,by decide,λrs' hrs' r hr=>by rw[aI.mp hrs']at hr;exact (hrt r hr).1,by omega⟩ hfl (by omega) λt ht=>hM _ _ (seq λM hM=>?_)⟩;obtain ⟨bs,hL⟩:=ht.lv;have hlen:=hL.len' (by omega);erw[h3];refine HH hL (by decide) (by omega) (by omega) ?_;erw[ends];refine CompG.inv (P:=λi acc Y G'=>(∃o1 o2,Y=[o1,o2])/\G'=G/\acc=((bs.take i).filter λc=>(aF (rs.take n) c).isNone).map λc=>D.str (cJ c)) ⟨⟨_,_,rfl⟩,rfl,rfl⟩ (λ_ _ _ _ _=>trivial) (by rw[af];bv_omega) ?_ ?_
 ·rintro i d acc Y G' hd ⟨⟨o1,o2,rfl⟩,rfl,rfl⟩ kk hk;rw[aw]at hd;obtain ⟨c,hcb,rfl⟩:=ar.mp hd;have hcl:=(hL.box c (ba hcb)).1;have htk:bs.take (i+1)=bs.take i++[c]:=by rw[cw,hcb];rfl
  erw[gm,iU];cases htc:aF (rs.take n) c with
  |some j=>
   erw[aN];exact hk _ _ _ ⟨⟨_,_,rfl⟩,rfl,by rw[htk,ez];simp[htc]⟩
  |none=>
   erw[aN,h4];refine acA (by omega) (hk _ _ _ ⟨⟨_,_,rfl⟩,rfl,by rw[htk,ez];simp[htc]⟩)
 ·rintro acc Y G' ⟨_,rfl,rfl⟩;rw[af,da];symm;have meet:∀c∈bs,∀l,Fits c l->aJ (rs.take n) l=aF (rs.take n) c:=by
   intro c hc l hl;obtain ⟨e1,e2⟩:=hL.box c hc;have okc:=hL.okf hf c hc;exact yP (λr hr=>by rw[(hrt r hr).1,e1,hfl]) (e2 _ (by simp)) (mZ okc hl) hl
  cases hfr:bs.filter λc=>(aF (rs.take n) c).isNone with
  |nil=>
   have hall:∀c∈bs,(aF (rs.take n) c).isSome=true:=by
    intro c hc;have:=List.filter_eq_nil_iff.mp hfr c hc;cases h:aF (rs.take n) c with
    |none=>rw[h]at this;exact absurd rfl this
    |some _=>rfl
   erw[ends];ac_nf0;erw[ends];refine ⟨by decide,rs[n],hc,.inr ⟨?_,t,bs,rfl,hL,hall⟩⟩;unfold cj;rw[List.filter_eq_nil_iff];intro l hl;obtain ⟨c,hc',hfc⟩:=hL.cover l (cz.mp hl);rw[meet c hc' l hfc];have:=hall c hc';cases h:aF (rs.take n) c with
   |none=>rw[h]at this;cases this
   |some _=>simp
  |cons c0 cs=>
   have hne:(!(List.isEmpty (D.str (cJ c0)::cs.map λc=>D.str (cJ c))))=true:=rfl;erw[hne];rw[<-bi (f:=λc=>D.str (cJ c)),<-hfr];have es:bh ((bs.filter λc=>(aF (rs.take n) c).isNone).map λc=>D.str (cJ c))=some ((bs.filter λc=>(aF (rs.take n) c).isNone).map cJ):=strs_map _ _;have ei:cC ((bs.filter λc=>(aF (rs.take n) c).isNone).map λc=>D.str (cJ c))=none:=by rw[hfr];rfl
   refine acE ei es λm hm hlow=>?_;obtain ⟨c,hcm,rfl⟩:=bg.mp hm;obtain ⟨hcb,hcn⟩:=dS.mp hcm;have htn:aF (rs.take n) c=none:=by simpa using hcn
   refine ⟨by decide,rs[n],hc,.inl ⟨cJ c,?_,rfl⟩⟩;refine acD ?_ ?_ ?_
   ·unfold cj;rw[g8];exact (Ih _).filter _
   ·unfold cj;rw[dS];refine ⟨cz.mpr (hL.within c hcb _ (yU c)),?_⟩;rw[meet c hcb _ (yU c),htn];rfl
   ·intro x hx hlt;unfold cj at hx;obtain ⟨hx1,hx2⟩:=dS.mp hx;obtain ⟨c',hc',hfc⟩:=hL.cover x (cz.mp hx1);rw[meet c' hc' x hfc]at hx2;have hlow':=hlow (cJ c') (bg.mpr ⟨c',dS.mpr ⟨hc',hx2⟩,rfl⟩);exact Ie hfc (Ig hlt hlow')
theorem acK(rs:List Row):nrs (rs.map aq)=true:=by
 induction rs with
 |nil=>rfl
 |cons r rs ih=>rw[bi,nrs,ih];rfl
def okRs(w:Nat)(rs:List Row):Prop:=∀r∈rs,okF w r.1/\okD r.2
theorem okRs.ins{w n:Nat}{rs:List Row}{r:Row}(h:okRs w rs)(h1:okF w r.1)(h2:okD r.2):okRs w (rs.take n++r::rs.drop n):=by
 intro x hx;rcases a8.mp hx with hx |hx
 ·exact h x (List.mem_of_mem_take hx)
 ·rcases bP.mp hx with e |hx
  ·rw[e];exact ⟨h1,h2⟩
  ·exact h x (List.mem_of_mem_drop hx)
theorem Ik{rs:List Row}{n:Nat}{r:Row}:(rs.take n++r::rs.drop n).length=rs.length+1:=by rw[al,cS,bb,bS];omega
def nI(n:Nat):D:=.int (n:Int)
def jc(rs:List Row):List Nat:=(List.range rs.length).filter λn=>match rs[n]? with |some r=>(cj rs n r.1).isEmpty |none=>false
theorem acL{rs:List Row}{i:Nat}{r:Row}(h:rs[i]?=some r):((List.range (i+1)).filter λn=>match rs[n]? with |some r=>(cj rs n r.1).isEmpty |none=>false)=((List.range i).filter λn=>match rs[n]? with |some r=>(cj rs n r.1).isEmpty |none=>false)++(if (cj rs i r.1).isEmpty then [i] else []):=by rw[List.range_succ,ez];congr 1;rw[List.filter_cons,h];cases hf:(cj rs i r.1).isEmpty <;> simp only[hf] <;> rfl
def t6:RF.Spec:=ghS (A:=Nat×List Row) (λa ds _=>ds=[aA a.1 a.2]/\okB a.1 a.2) (λa G d G'=>∃q,d=.ref q/\G q=none/\G' q=some (.lst ((jc a.2).map nI))/\Sa G G')
theorem acM{w:Nat}{rs:List Row}{G:DH}{k:D->DH->Prop}{E:EK}(h:okB w rs)(hk:∀q G',G q=none->G' q=some (.lst ((jc rs).map nI))->Sa G G'->k (.ref q) G'):t6.t [aA w rs] G k E:=
 gU (w,rs) ⟨rfl,h⟩ λd G' ⟨q,e1,e2,e3,e4⟩=>by subst e1;exact hk q G' e2 e3 e4
theorem acN (Z:aj) (h1:Z "need_book"=gW) (h2:Z "reach"=tZ) (a:Nat×List Row) (ds:List D) (G:DH) (h:ds=[aA a.1 a.2]/\okB a.1 a.2):
  au Z my noE (env0 ds 0) G (ends λd G'=>∃q,d=.ref q/\G q=none/\G' q=some (.lst ((jc a.2).map nI))/\Sa G G'):=by
 obtain ⟨w,rs⟩:=a;obtain ⟨rfl,hb⟩:=h;dsimp only at hb ⊢;have hlen:=hb.len;simp_all_arith[my];nofun;erw[h1];refine mQ hb (hM _ _ (last ?_));have e0:aA w rs=.tup [.int w,.tup (rs.map aq)]:=rfl;erw[e0,af];refine ⟨by omega,CompG.inv (P:=λi acc Y G'=>(∃o,Y=[o,some (.tup [.int w,.tup (rs.map aq)])])/\G'=G/\acc=((List.range i).filter λn=>match rs[n]? with |some r=>(cj rs n r.1).isEmpty |none=>false).map nI) ⟨⟨_,rfl⟩,rfl,rfl⟩ (λ_ _ _ _ _=>trivial) (by simp[aZ];bv_omega) ?_ ?_⟩
 ·rintro i d acc Y G' hd ⟨⟨o,rfl⟩,rfl,rfl⟩ kk hk;have hi:i < rs.length:=by
   have:=(ag.mp hd).1;simpa [aZ] using this
  have hdi:d=.int (i:Int):=by unfold aZ at hd;rw[aw,List.getElem?_range (by simpa using hi)]at hd;simpa using hd.symm
  subst hdi;have hc:rs[i]?=some rs[i]:=ai hi;have ht:=acL hc;erw[h2];rw[<-e0];refine acH hb hc λd' hq=>?_;rcases hq with ⟨m,hm,rfl⟩ |⟨hn,t,bs,rfl,hL,hall⟩
  ·have hne:(cj rs i rs[i].1).isEmpty=false:=by
    cases h:cj rs i rs[i].1 with
    |nil=>rw[h]at hm;cases hm
    |cons _ _=>rfl
   have eb:(([119,111,114,100]==[104,105,100,100,101,110]):Bool)=false:=by decide
   erw[Ij,eb];exact hk _ _ _ ⟨⟨_,rfl⟩,rfl,by rw[ht,hne];simp[nI]⟩
  ·have hne:(cj rs i rs[i].1).isEmpty=true:=by rw[hn];rfl
   erw[dC,BEq.rfl];exact hk _ _ _ ⟨⟨_,rfl⟩,rfl,by rw[ht,hne];simp[nI]⟩
 ·rintro acc Y G' ⟨_,rfl,rfl⟩;intro q hq;exact ⟨q,rfl,hq,by rw[bF];simp[aZ,jc],Sa.new hq⟩
theorem yW(l:List Nat):nrs (l.map nI)=true:=jE λd hd=>by obtain ⟨_,_,rfl⟩:=bg.mp hd;rfl
theorem acO(l:List Nat):aV (l.map nI)=0:=Nat.le_zero.mp (sr λd hd=>by obtain ⟨_,_,rfl⟩:=bg.mp hd;exact ax _)
def uc(rs:List Row)(o:Option Nat):Option (List Nat):=o.bind λn=>rs[n]?.map (·.2)
theorem yX{rs:List Row}{o:Option Nat}:eN rs o=gk (uc rs o):=by
 cases o with
 |none=>rfl
 |some n=>
  unfold eN uc;dsimp only[Option.bind];cases rs[n]? <;> rfl
theorem acP{rs:List Row}{n:Nat}{r:Row}(h:rs[n]?=some r)(l:List Nat):aJ rs l=match aJ (rs.take n) l with |some m=>some m |none=>if aB r.1 l then some n else (aJ (rs.drop (n+1)) l).map (n+1 + ·):=by
 have hn:=(ag.mp h).1;have e:=abI (rs.take n) (rs.drop n) l;rw[dE,yL h,bb,Nat.min_eq_left (by omega)]at e;rw[e];cases aJ (rs.take n) l with
 |some m=>rfl
 |none=>
  dsimp only;split
  ·simp
  ·rw[ff];congr 1;funext x;simp;omega
theorem Il{rs:List Row}{n:Nat}{r:Row}(h:rs[n]?=some r){l:List Nat}:aJ rs l=some n↔aJ (rs.take n) l=none/\aB r.1 l=true:=by
 have hn:=(ag.mp h).1;have e:=acP h l;cases ht:aJ (rs.take n) l with
 |some m=>
  rw[ht]at e;have:=jN ht;rw[bb]at this;constructor
  ·intro h';rw[e]at h';have:m=n:=by simpa using h'
   omega
  ·rintro ⟨h',_⟩;cases h'
 |none=>
  rw[ht]at e;dsimp only at e;cases hf:aB r.1 l with
  |true=>rw[hf,if_pos rfl]at e;simp[e]
  |false=>
   rw[hf,if_neg bd]at e;constructor
   ·intro h';rw[e]at h';obtain ⟨x,_,hx⟩:=ar.mp h';omega
   ·rintro ⟨_,h'⟩;cases h'
theorem acQ{w n:Nat}{rs:List Row}{r:Row}(hb:okB w rs)(h:rs[n]?=some r):cj rs n r.1=[]↔∀l,okW w l->aJ rs l≠some n:=by
 have hf:=hb.form r (ba h);unfold cj;rw[List.filter_eq_nil_iff];constructor
 ·intro q l hl e;obtain ⟨e1,e2⟩:=(Il h).mp e;exact q l (cz.mpr ((gh hl.2).mp e2)) (by rw[e1];rfl)
 ·intro q l hl e;have hfit:=cz.mp hl;have hw:okW w l:=⟨by rw[<-hfit.1,hf.1],mZ hf hfit⟩;exact q l hw ((Il h).mpr ⟨by simpa using e,(gh hw.2).mpr hfit⟩)
theorem Im{rs:List Row}{n:Nat}(hn:n < rs.length){o:Option Nat}:(atN rs o==n)=true↔o=some n:=by
 cases o with
 |none=>simp[atN];omega
 |some m=>simp[atN]
def bx(w:Nat)(rs:List Row)(k:Nat):Nat:=(aP (List.replicate w 42)).countP λl=>atN rs (aJ rs l)==k
theorem acR{w n:Nat}{rs:List Row}{r:Row}(hb:okB w rs)(h:rs[n]?=some r):bx w rs n=0↔cj rs n r.1=[]:=by
 have hn:=(ag.mp h).1;unfold bx;rw[acQ hb h,List.countP_eq_zero];constructor
 ·intro q l hl e;exact q l (cz.mpr (mV.mpr hl)) ((Im hn).mpr e)
 ·intro q l hl e;exact q l (mV.mp (cz.mp hl)) ((Im hn).mp e)
def ddF(rs:List Row)(l:List Nat):Option (List Nat):=(rs.find? λr=>aB r.1 l).map (·.2)
theorem eV(r:Row)(rs:List Row)(l:List Nat):ddF (r::rs) l=if aB r.1 l then some r.2 else ddF rs l:=by unfold ddF;rw[d5];cases aB r.1 l <;> rfl
theorem ie(as bs:List Row)(l:List Nat):ddF (as++bs) l=(ddF as l).or (ddF bs l):=by unfold ddF;rw[List.find?_append];cases as.find? λr=>aB r.1 l <;> rfl
theorem ud(l:List Nat):∀rs:List Row,uc rs (aJ rs l)=ddF rs l
 |[]=>rfl
 |r::rs=>by
  have ih:=ud l rs;have e:=yL (rs:=r::rs) (i:=0) (l:=l) (r:=r) rfl;rw[List.drop_zero,Nat.zero_add,List.drop_succ_cons,List.drop_zero]at e;rw[e,eV,<-ih];cases aB r.1 l with
  |true=>rfl
  |false=>cases aJ rs l <;> rfl
theorem Io:∀{l m:List Nat},l.length=m.length->Wi l m->bG l m=true
 |[],[],_,_=>rfl
 |[],_::_,h,_=>by simp at h
 |_::_,[],h,_=>by simp at h
 |c::l,s::m,h,hw=>by
  rw[bG,Io (by simpa using h) λi a b h1 h2=>hw (i+1) a b (by simpa using h1) (by simpa using h2),Bool.and_true,HJ];exact hw 0 c s rfl rfl
theorem Ip{f m l:List Nat}(hl:f.length=m.length)(h:Wi f m)(hm:aB m l=true):aB f l=true:=acj hm (acl hl (Io hl h))
def Dd(w:Nat)(rs ss:List Row):Prop:=∀l,okW w l->ddF rs l=ddF ss l
theorem acS{rs:List Row}{r:Row}{l:List Nat}(h:r∈rs)(hf:aB r.1 l=true):∃d,ddF rs l=some d:=by
 unfold ddF;have:(rs.find? λr=>aB r.1 l).isSome=true:=by rw[List.find?_isSome];exact ⟨r,h,hf⟩
 obtain ⟨x,hx⟩:=bB.mp this;rw[hx];exact ⟨_,rfl⟩
theorem acT{w n:Nat}{rs:List Row}{r:Row}{m:List Nat}(h:rs[n]?=some r)(hf:∀l,aB m l=true->aB r.1 l=true):Dd w rs (rs.take n++(m,r.2)::rs.drop n):=by
 intro l _;obtain ⟨hn,e⟩:=ag.mp h;have ed:rs.drop n=r::rs.drop (n+1):=by rw[a9 hn,e]
 have e1:ddF rs l=(ddF (rs.take n) l).or (ddF (rs.drop n) l):=by rw[<-ie,dE]
 rw[e1,ie,eV];cases hm:aB m l with
 |false=>rfl
 |true=>rw[ed,eV,hf l hm];rfl
theorem acU{w k n:Nat}{rs:List Row}{r:Row}{m dd:List Nat}(h:rs[k]?=some r)(hk:k < n)(hf:∀l,aB m l=true->aB r.1 l=true):Dd w rs (rs.take n++(m,dd)::rs.drop n):=by
 intro l _;have e1:ddF rs l=(ddF (rs.take n) l).or (ddF (rs.drop n) l):=by rw[<-ie,dE]
 rw[e1,ie,eV];cases hm:aB m l with
 |false=>rfl
 |true=>
  obtain ⟨d,hd⟩:=acS (rs:=rs.take n) (r:=r) (ba (by rw[List.getElem?_take_of_lt hk];exact h)) (hf l hm);rw[hd];rfl
theorem acV{w n:Nat}{rs:List Row}{r r2:Row}(h:rs[n]?=some r)(h2:rs[n+1]?=some r2)(hs:r2.2=r.2\/∀l,okW w l->aB r.1 l=true->aB r2.1 l=true->False):Dd w rs (rs.take n++[r2,r]++rs.drop (n+2)):=by
 intro l hl;obtain ⟨hn,e⟩:=ag.mp h;obtain ⟨hn2,e2⟩:=ag.mp h2;have ed:rs.drop n=r::r2::rs.drop (n+2):=by rw[a9 hn,e,a9 hn2,e2]
 have e1:ddF rs l=(ddF (rs.take n) l).or (ddF (rs.drop n) l):=by rw[<-ie,dE]
 rw[e1,List.append_assoc,ie,ed,List.cons_append,List.cons_append,List.nil_append,eV,eV,eV,eV];congr 1;cases h1:aB r.1 l with
 |false=>cases h2':aB r2.1 l <;> rfl
 |true=>
  cases h2':aB r2.1 l with
  |false=>rfl
  |true=>
   rcases hs with hs |hs
   ·rw[hs]
   ·exact (hs l hl h1 h2').elim
theorem acW{w n pl c1 c2:Nat}{rs:List Row}{r:Row}(h:rs[n]?=some r)(hp:r.1[pl]?=some 42)(hc:c1=48/\c2=49\/c1=49/\c2=48):Dd w rs (rs.take n++[(r.1.set pl c1,r.2),(r.1.set pl c2,r.2)]++rs.drop (n+1)):=by
 intro l hl;obtain ⟨hn,e⟩:=ag.mp h;have ed:rs.drop n=r::rs.drop (n+1):=by rw[a9 hn,e]
 have e1:ddF rs l=(ddF (rs.take n) l).or (ddF (rs.drop n) l):=by rw[<-ie,dE]
 rw[e1,List.append_assoc,ie,ed,List.cons_append,List.cons_append,List.nil_append,eV,eV,eV];congr 1;have back:∀c,c=48\/c=49->aB (r.1.set pl c) l=true->aB r.1 l=true:=λc hc hf=>(gh hl.2).mpr (yS ((gh hl.2).mp hf) hp hc);cases hf:aB r.1 l with
 |false=>
  have n1:aB (r.1.set pl c1) l=false:=by
   cases hx:aB (r.1.set pl c1) l with
   |false=>rfl
   |true=>rw[back c1 (by omega) hx]at hf;cases hf
  have n2:aB (r.1.set pl c2) l=false:=by
   cases hx:aB (r.1.set pl c2) l with
   |false=>rfl
   |true=>rw[back c2 (by omega) hx]at hf;cases hf
  rw[n1,n2];rfl
 |true=>
  have hor:aB (r.1.set pl c1) l=true\/aB (r.1.set pl c2) l=true:=by
   rcases Ib ((gh hl.2).mp hf) hp with hx |hx
   ·have:=(gh hl.2).mpr hx;rcases hc with ⟨rfl,rfl⟩ |⟨rfl,rfl⟩
    ·exact .inl this
    ·exact .inr this
   ·have:=(gh hl.2).mpr hx;rcases hc with ⟨rfl,rfl⟩ |⟨rfl,rfl⟩
    ·exact .inr this
    ·exact .inl this
  cases hx:aB (r.1.set pl c1) l with
  |true=>rfl
  |false=>
   rcases hor with h1 |h1
   ·rw[hx]at h1;cases h1
   ·rw[h1];rfl
def okP(a:List Nat×List Nat):Prop:=a.1.length=a.2.length/\a.1.length<=1000/\(∀x∈a.1,isF x)/\∀x∈a.2,isF x
def ue:RF.Spec:=cH (λa:List Nat×List Nat=>[.str a.1,.str a.2]) okP (λa=>.bl (bw a.1 a.2).isSome)
def clash:D->Option D
 |.tup [.str [a],.str [b]]=>if (bT a b).isSome then none else some (.int 1)
 |_=>none
theorem Ir:∀(f g:List Nat),(((f.zip g).map λp=>D.tup [.str [p.1],.str [p.2]]).filterMap clash).isEmpty=(bw f g).isSome
 |[],g=>by cases g <;> rfl
 |a::f,[]=>rfl
 |a::f,b::g=>by
  have ih:=Ir f g;rw[List.zip_cons_cons,bi,bw];cases h:bT a b with
  |none=>
   have:clash (D.tup [.str [a],.str [b]])=some (.int 1):=by show (if (bT a b).isSome=true then none else some (D.int 1))=_;rw[h];rfl
   rw[List.filterMap_cons,this];rfl
  |some c=>
   have:clash (D.tup [.str [a],.str [b]])=none:=by show (if (bT a b).isSome=true then none else some (D.int 1))=_;rw[h];rfl
   rw[List.filterMap_cons,this];show (List.filterMap clash _).isEmpty=_;rw[ih];cases bw f g <;> rfl
theorem acX(Z:aj)(a:List Nat×List Nat)(G:DH)(h:okP a):au Z yh noE (env0 [.str a.1,.str a.2] 0) G (ends λd G'=>G'=G/\d=.bl (bw a.1 a.2).isSome):=by
 obtain ⟨f,g⟩:=a;obtain ⟨hl,hz,hf,hg⟩:=h;dsimp only at hl hz hf hg ⊢;erw[yh,sV];refine CompG.pure (f:=clash) (I:=λY=>∃o1 o2,Y=[o1,o2]) ⟨_,_,rfl⟩ trivial (by rw[af,List.length_zip];bv_omega) ?_ ?_
 ·rintro d Y hd ⟨o1,o2,rfl⟩ kk hk;obtain ⟨⟨x,y⟩,hxy,rfl⟩:=bg.mp hd;have hx:=hf x (List.of_mem_zip hxy).1;have hy:=hg y (List.of_mem_zip hxy).2;have hin:isIn (.str [x,y]) [.str [48,49],.str [49,48]]=!(bT x y).isSome:=by
   rcases hx with rfl |rfl |rfl <;> rcases hy with rfl |rfl |rfl <;> simp[isIn,GQ,bT]
  have go:=λρ' hr=>hk ρ' hr;have ec:clash (D.tup [.str [x],.str [y]])=if (bT x y).isSome then none else some (.int 1):=rfl
  erw[hin];refine ⟨by decide,by decide,⟨by decide,by decide⟩,?_⟩;cases hb:(bT x y).isSome with
  |true=>erw[ends];have:=hk [some (.str [x]),some (.str [y])] ⟨_,_,rfl⟩;rw[ec,hb]at this;exact this
  |false=>erw[ends];have:=hk [some (.str [x]),some (.str [y])] ⟨_,_,rfl⟩;rw[ec,hb]at this;exact this
 ·erw[GK,Ir];refine ⟨jE λd hd=>?_,bv (Nat.min_le_right _ _) (by decide)⟩;obtain ⟨e,_,he⟩:=List.mem_filterMap.mp hd;unfold clash at he;split at he
  ·split at he
   ·cases he
   ·cases he;rfl
  ·cases he
theorem acY{f g:List Nat}{G:DH}{k:D->DH->Prop}{E:EK}(h:okP (f,g))(hk:k (.bl (bw f g).isSome) G):ue.t [.str f,.str g] G k E:=cV (f,g) rfl h hk
def Iu(a:Addr×Nat×List Row)(ds:List D)(G:DH):Prop:=ds=[.ref a.1,.lst (a.2.2.map aq)]/\Pen G a.1/\a.2.1<=6/\okRs a.2.1 a.2.2/\0 < a.2.2.length/\a.2.2.length<=12
def yZ(a:Addr×Nat×List Row)(G:DH)(d:D)(G':DH):Prop:=∃rs':List Row,d=.lst (rs'.map aq)/\okRs a.2.1 rs'/\a.2.2.length<=rs'.length/\rs'.length<=a.2.2.length+1/\Dd a.2.1 a.2.2 rs'/\Pen G' a.1/\Sb a.1 G G'
def uf:RF.Spec:=ghS Iu yZ
theorem acZ{p:Addr}{w:Nat}{rs:List Row}{G:DH}{k:D->DH->Prop}{E:EK}(hp:Pen G p)(hw:w<=6)(h1:okRs w rs)(h2:0 < rs.length)(h3:rs.length<=12)(hk:∀(rs':List Row)(G':DH),okRs w rs'->rs.length<=rs'.length->rs'.length<=rs.length+1->Dd w rs rs'->Pen G' p->Sb p G G'->k (.lst (rs'.map aq)) G'):uf.t [.ref p,.lst (rs.map aq)] G k E:=
 gU (p,w,rs) ⟨rfl,hp,hw,h1,h2,h3⟩ λd G' ⟨rs',e,h1,h2,h3,h4,h5,h6⟩=>by subst e;exact hk rs' G' h1 h2 h3 h4 h5 h6
def fG(b:List Nat):List Nat:=(List.range b.length).filter λn=>b[n]?==some 42
def iN'(n:Nat):D:=.int (n:Int)
theorem Iv{α:Type}(l:List α)(n:Nat):cut l (some ((n:Int)+1)) none=l.drop (n+1):=rY l (n+1)
theorem ac0{α:Type}(l:List α)(n:Nat):cut l (some ((n:Int)+2)) none=l.drop (n+2):=rY l (n+2)
theorem okRs.cat{w:Nat}{as bs:List Row}(h:okRs w as)(h':okRs w bs):okRs w (as++bs):=λr hr=>by
 rcases a8.mp hr with e |e
 ·exact h r e
 ·exact h' r e
theorem okRs.take{w:Nat}{as:List Row}(n:Nat)(h:okRs w as):okRs w (as.take n):=λr hr=>h r (List.mem_of_mem_take hr)
theorem okRs.drop{w:Nat}{as:List Row}(n:Nat)(h:okRs w as):okRs w (as.drop n):=λr hr=>h r (List.mem_of_mem_drop hr)
theorem Iw{w n:Nat}{rs:List Row}{m dd:List Nat}(hr:okRs w rs)(hm:okF w m)(hd:okD dd)(h:rs.length<=12)(hdd:Dd w rs (rs.take n++(m,dd)::rs.drop n)):(rs.take n).length+(0+1)<=sz/\((rs.take n).map aq++[D.tup [.str m,.str dd]]).length+(rs.drop n).length<=sz/\∃rs':List Row,D.lst ((rs.take n).map aq++[D.tup [.str m,.str dd]]++(rs.drop n).map aq)=.lst (rs'.map aq)/\okRs w rs'/\rs.length<=rs'.length/\rs'.length<=rs.length+1/\Dd w rs rs':=by refine ⟨by rw[bb];bv_omega,by rw[al,af,bb,bS,ek];bv_omega,rs.take n++(m,dd)::rs.drop n,?_,hr.ins hm hd,by rw[Ik];omega,by rw[Ik];omega,hdd⟩;rw[b4,bi,List.append_assoc];rfl
theorem ac1 (Z:aj) (h1:Z "_law_take"=dM) (h2:Z "_law_within"=jL) (h3:Z "_law_meet"=ue) (a:Addr×Nat×List Row) (ds:List D) (G:DH) (h:Iu a ds G):au Z yj noE (env0 ds 7) G (ends (yZ a G)):=by
 obtain ⟨p,w,rs⟩:=a;obtain ⟨rfl,hp,hw,hr,h0,h12⟩:=h;dsimp only at hp hw hr h0 h12 ⊢;simp_all_arith[yj];nofun;erw[h1,af];refine bR hp (by omega) (by omega) λat' G1 hat hp1 sb1=>hM _ _ (seq λM hM=>?_);have hat:at' < rs.length:=by omega
 have hc:rs[at']?=some rs[at']:=ai hat;generalize rs[at']=r at hc;have hok:=hr r (ba hc);have hbl:=hok.1.1;have hatI:atI (rs.map aq) (at':Int)=some (aq r):=bf (by rw[aw,hc];rfl);erw[ends];refine bz hatI ?_;erw[aq];symm;erw[ends];refine ⟨by omega,CompG.inv (P:=λi acc Y G'=>(∃o,Y=[o,some (.str r.1)])/\G'=G1/\acc=((List.range i).filter λn=>r.1[n]?==some 42).map iN') ⟨⟨_,rfl⟩,rfl,rfl⟩ (λ_ _ _ _ _=>trivial) (by simp[aZ];bv_omega) ?_ ?_⟩
 ·rintro i d acc Y G' hd ⟨⟨o,rfl⟩,rfl,rfl⟩ kk hk;have hi:i < r.1.length:=by
   have:=(ag.mp hd).1;simpa [aZ] using this
  have hdi:d=.int (i:Int):=by unfold aZ at hd;rw[aw,List.getElem?_range (by simpa using hi)]at hd;simpa using hd.symm
  subst hdi;have hc:r.1[i]?=some r.1[i]:=ai hi;erw[ends];refine bz (a:=r.1[i]) (bf hc) ?_;erw[gf];cases h42:(r.1[i]==42) with
  |true=>exact hk _ _ _ ⟨⟨_,rfl⟩,rfl,by rw[List.range_succ,ez,List.filter_cons,hc];simp[iN',h42]⟩
  |false=>exact hk _ _ _ ⟨⟨_,rfl⟩,rfl,by rw[List.range_succ,ez,List.filter_cons,hc];simp[iN',h42]⟩
 ·rintro acc Y G2 ⟨_,rfl,rfl⟩;have el:((List.range (aZ 0 (r.1.length:Int).toNat).length).filter λn=>r.1[n]?==some 42).map iN'=(fG r.1).map iN':=by unfold fG;simp[aZ]
  rw[el];have hsl:(fG r.1).length<=r.1.length:=bv (List.length_filter_le _ _) (by simp);symm;erw[h1];refine bR hp1 (by decide) (by decide) λkd G3 hkd hp3 sb3=>hM _ _ (seq λM hM=>?_);have sb30:=sb1.trans sb3;have more:kd≠0\/fG r.1=[]->∀G4,Pen G4 p->Sb p G G4->M [some (.ref p),some (.lst (rs.map aq)),some (.int at'),some (.str r.1),some (.str r.2),some (.lst ((fG r.1).map iN')),some (.int kd),none,none] G4:=by
   intro _ G4 hp4 sb4;symm;cases hk1:((kd:Int)==1) with
   |true=>
    simp_arith![hk1];nofun;erw[h1,af];refine bR hp4 (by omega) (by omega) λq G5 hq hp5 sb5=>?_;have epl:(at':Int)+1+(q:Int)=((at'+1+q:Nat):Int):=by omega
    erw[epl];ac_nf0;erw[h1,h2,sY,Hq,af];refine yr hp5 hok.1.2 (by omega) λm G6 hm hwi hp6 sb6=>?_;have hfit:∀l,aB m l=true->aB r.1 l=true:=λl hl=>Ip hm.1.symm hwi hl;rw[hbl]at hm;refine bR hp6 (by omega) (by omega) λq2 G7 hq2 hp7 sb7=>?_;erw[ends];refine jF (by omega) (by simp;omega) λy hy=>?_;obtain ⟨r2,hr2,rfl⟩:=bg.mp hy;erw[aq];obtain ⟨i1,i2,rs',i3,i4,i5,i6,i7⟩:=Iw (n:=at'+1+q) hr hm (hr r2 hr2).2 h12 (acU hc (by omega) hfit);exact ⟨by decide,by decide,i1,i2,rs',i3,i4,i5,i6,i7,hp7,((sb4.trans sb5).trans sb6).trans sb7⟩
   |false=>
    erw[hk1];symm;cases hk2:((kd:Int)==2) with
    |true=>
     erw[hk2,h2,sY,Hq,af];refine yr hp4 hok.1.2 (by omega) λm G6 hm hwi hp6 sb6=>?_;have hfit:∀l,aB m l=true->aB r.1 l=true:=λl hl=>Ip hm.1.symm hwi hl;rw[hbl]at hm;obtain ⟨i1,i2,rs',i3,i4,i5,i6,i7⟩:=Iw (n:=at') hr hm hok.2 h12 (acT hc hfit);exact ⟨by decide,by decide,i1,i2,rs',i3,i4,i5,i6,i7,hp6,sb4.trans sb6⟩
    |false=>
     erw[hk2];symm;have stay:∀G5,Pen G5 p->Sb p G G5->M [some (.ref p),some (.lst (rs.map aq)),some (.int at'),some (.str r.1),some (.str r.2),some (.lst ((fG r.1).map iN')),some (.int kd),none,none] G5:=by intro G5 hp5 sb5;ac_nf0;erw[ends];exact ⟨rs,rfl,hr,ax _,dn _,λ_ _=>rfl,hp5,sb5⟩
     by_cases hlt:at'+1 < rs.length
     ·have hl1:decide ((at':Int)+1 < (rs.length:Int))=true:=bo (by omega);have hc2:rs[at'+1]?=some rs[at'+1]:=ai hlt;generalize rs[at'+1]=r2 at hc2;have hok2:=hr r2 (ba hc2);have hatJ:atI (rs.map aq) ((at':Int)+1)=some (aq r2):=bf (j:=at'+1) (by rw[aw,hc2];rfl);erw[af,hl1];refine bz hatJ ?_;have swap:(r2.2=r.2\/∀l,okW w l->aB r.1 l=true->aB r2.1 l=true->False)->∀G5,Pen G5 p->Sb p G G5->bu (atI (rs.map aq) ((at':Int)+1)) λd=>bu (atI (rs.map aq) (at':Int)) λd1=>0+1+1<=sz/\(cut (rs.map aq) none (some (at':Int))).length+(0+1+1)<=sz/\(cut (rs.map aq) none (some (at':Int))++[d,d1]).length+(cut (rs.map aq) (some ((at':Int)+2)) none).length<=sz/\yZ (p,w,rs) G (D.lst (cut (rs.map aq) none (some (at':Int))++[d,d1]++cut (rs.map aq) (some ((at':Int)+2)) none)) G5:=by
       intro hsw G5 hp5 sb5;refine bz hatJ (bz hatI ?_);rw[sY,ac0,<-List.map_drop];refine ⟨by decide,by rw[af,bb];bv_omega,by rw[al,af,af,bb,bS];simp only[cS,fb];bv_omega,rs.take at'++[r2,r]++rs.drop (at'+2),?_,?_,?_,?_,acV hc hc2 hsw,hp5,sb5⟩
       ·rw[b4,b4];rfl
       ·refine ((hr.take at').cat ?_).cat (hr.drop _);intro x hx;simp only[bP,List.not_mem_nil,or_false]at hx;rcases hx with e |e <;> subst e
        ·exact hok2
        ·exact hok
       ·rw[al,al,bb,bS];simp only[cS,fb];omega
       ·rw[al,al,bb,bS];simp only[cS,fb];omega
      erw[aq];cases hdd:(r2.2==r.2) with
      |true=>exact swap (.inl (by simpa using hdd)) G4 hp4 sb4
      |false=>
       erw[h3];refine bz hatJ ?_;erw[aq];refine acY ⟨by rw[hbl,hok2.1.1],show r.1.length<=1000 by omega,hok.1.2,hok2.1.2⟩ ?_;cases hbo:(bw r.1 r2.1).isSome with
       |true=>
        erw[ends];exact stay _ hp4 sb4
       |false=>
        erw[ends];exact swap (.inr λl hl f1 f2=>yO (f:=r.1) (b:=r2.1) (by simpa using hbo) hl.2 ((gh hl.2).mp f2) (ack f1)) G4 hp4 sb4
     ·have hl1:decide ((at':Int)+1 < (rs.length:Int))=false:=bn (by omega);erw[af,hl1];exact stay _ hp4 sb4
  cases hk0:((kd:Int)==0) with
  |false=>
   erw[hk0];exact more (.inl (by have:=b9.mp hk0;omega)) _ hp3 sb30
  |true=>
   cases hst:fG r.1 with
   |nil=>
    rw[hst]at more;erw[hk0];exact ⟨by decide,more (.inr rfl) _ hp3 sb30⟩
   |cons y ys=>
    have hne:fG r.1≠[]:=by rw[hst];simp
    have hpos:0 < (fG r.1).length:=eW.mpr hne;have hnr:nrs ((y::ys).map iN')=true:=jE λd hd=>by obtain ⟨_,_,rfl⟩:=bg.mp hd;rfl
    rw[bi]at hnr;simp_arith![hk0];refine ⟨⟨by simpa [nrs] using hnr,bv (Nat.min_le_right _ _) (by decide)⟩,?_⟩;rw[<-bi (f:=iN'),<-hst];nofun;erw[h1,af];refine bR hp3 (by omega) (by omega) λq G4 hq hp4 sb4=>?_;erw[ends];refine jF (by omega) (by simp;omega) λy hy=>?_;obtain ⟨pl,hpl,rfl⟩:=bg.mp hy;have hpl42:r.1[pl]?=some 42:=by unfold fG at hpl;simpa using (dS.mp hpl).2
    have hpll:=(ag.mp hpl42).1;symm;erw[h1,iN'];refine ⟨by decide,bR hp4 (by decide) (by decide) λq5 G5 hq5 hp5 sb5=>?_⟩;erw[ends];refine jF (by omega) (by simp;omega) λy hy=>?_;obtain ⟨c1,c2,f1,f2,hcc,rfl⟩:∃c1 c2:Nat,isF c1/\isF c2/\(c1=48/\c2=49\/c1=49/\c2=48)/\y=.str [c1,c2]:=by
     simp only[bP,List.not_mem_nil,or_false]at hy;rcases hy with e |e
     ·exact ⟨48,49,tM,tQ,.inl ⟨rfl,rfl⟩,e⟩
     ·exact ⟨49,48,tQ,tM,.inr ⟨rfl,rfl⟩,e⟩
    erw[ends];refine CompG.inv (P:=λi acc Y G'=>(∃o,Y=[o,some (.str r.2),some (.str r.1),some (.int pl)])/\G'=G5/\acc=(([c1,c2].take i).map λc=>((r.1.set pl c,r.2):Row)).map aq) ⟨⟨_,rfl⟩,rfl,rfl⟩ (λ_ _ _ _ _=>trivial) (show 2<=sz by decide) ?_ ?_
    ·rintro i d acc Y G' hd ⟨⟨o,rfl⟩,rfl,rfl⟩ kk hk;replace hd:([c1,c2].map λc=>D.str [c])[i]?=some d:=hd;rw[aw]at hd;obtain ⟨c,hcc,rfl⟩:=ar.mp hd;have htk:[c1,c2].take (i+1)=[c1,c2].take i++[c]:=by rw[cw,hcc];rfl
     erw[iM,Iv];refine ⟨by rw[bb];bv_omega,by rw[al,bb,bS,ek];bv_omega,by decide,?_⟩;rw[tB hpll];exact hk _ _ _ ⟨⟨_,rfl⟩,rfl,by rw[htk,b4,b4];rfl⟩
    ·rintro acc Y G' ⟨_,rfl,rfl⟩;have e2:((([c1,c2].take [D.str [c1],D.str [c2]].length).map λc=>((r.1.set pl c,r.2):Row)).map aq)=([(r.1.set pl c1,r.2),(r.1.set pl c2,r.2)]:List Row).map aq:=rfl;rw[e2];ac_nf0;simp_arith[sY,Iv,<-List.map_drop,af];refine ⟨by simp only[bb,al,af,bS,cS,fb];bv_omega,by simp only[bb,al,af,bS,cS,fb];bv_omega,rs.take at'++[(r.1.set pl c1,r.2),(r.1.set pl c2,r.2)]++rs.drop (at'+1),?_,?_,?_,?_,acW hc hpl42 hcc,hp5,(sb30.trans sb4).trans sb5⟩
     ·rw[b4,b4];rfl
     ·refine ((hr.take at').cat ?_).cat (hr.drop _);intro x hx;simp only[bP,List.not_mem_nil,or_false]at hx;rcases hx with e |e <;> subst e
      ·exact ⟨jP hok.1 f1,hok.2⟩
      ·exact ⟨jP hok.1 f2,hok.2⟩
     ·rw[al,al,bb,bS];simp only[cS,fb];omega
     ·rw[al,al,bb,bS];simp only[cS,fb];omega
def pTA(a:Addr×Nat×List Row×Nat)(ds:List D)(G:DH):Prop:=ds=[.ref a.1,aA a.2.1 a.2.2.1,.int (a.2.2.2:Nat)]/\Pen G a.1/\okB a.2.1 a.2.2.1/\a.2.2.2<=100
def qTA(a:Addr×Nat×List Row×Nat)(G:DH)(d:D)(G':DH):Prop:=∃rs',d=aA a.2.1 rs'/\okB a.2.1 rs'/\Dd a.2.1 a.2.2.1 rs'/\Pen G' a.1/\Sb a.1 G G'
def sTA:RF.Spec:=ghS pTA qTA
theorem ac2{p:Addr}{w m:Nat}{rs:List Row}{G:DH}{k:D->DH->Prop}{E:EK}(hp:Pen G p)(h1:okB w rs)(h2:m<=100)(hk:∀(rs':List Row)(G':DH),okB w rs'->Dd w rs rs'->Pen G' p->Sb p G G'->k (aA w rs') G'):sTA.t [.ref p,aA w rs,.int (m:Nat)] G k E:=
 gU (p,w,rs,m) ⟨rfl,hp,h1,h2⟩ λd G' hx=>by
  obtain ⟨rs',e,h1,h2,h3,h4⟩:=hx;subst e;exact hk rs' G' h1 h2 h3 h4
theorem ac3 (Z:aj) (h1:Z "_law_one_turning"=uf) (a:Addr×Nat×List Row×Nat) (ds:List D) (G:DH) (h:pTA a ds G):au Z yl noE (env0 ds 2) G (ends (qTA a G)):=by
 obtain ⟨p,w,rs,m⟩:=a;obtain ⟨rfl,hp,hb,hm⟩:=h;dsimp only at hp hb hm ⊢;have hw6:=hb.w6;have hlen:=hb.len;have hr:okRs w rs:=λr hr=>⟨hb.form r hr,hb.deed r hr⟩;simp_all_arith[yl];nofun;erw[aA];symm;have hdq:deq (.lst (rs.map aq)) (.lst [])=rs.isEmpty:=by
  cases rs with
  |nil=>rfl
  |cons r rs=>rfl
 simp_arith![hdq];refine ⟨⟨acK rs,bv (Nat.min_le_right _ _) (by decide)⟩,gb (by split <;> decide),⟨by split <;> omega,by split <;> omega⟩,?_⟩;refine ForG.inv (P:=λi Y G'=>∃(rs':List Row)(o4:Option D),Y=[some (.ref p),some (.tup [.int w,.tup (rs.map aq)]),some (.int (m:Nat)),some (.lst (rs'.map aq)),o4]/\okRs w rs'/\rs.length<=rs'.length/\rs'.length<=12/\Dd w rs rs'/\Pen G' p/\Sb p G G') ⟨rs,none,rfl,hr,ax _,hlen,λ_ _=>rfl,hp,Sb.refl _ _⟩ (λ_ _ _ _=>trivial) ?_ ?_
 ·rintro i d Y G' hd ⟨rs',o4,rfl,ok',hle,h12,hdd,hp',sb'⟩ kk hk;have hne:0 < rs.length:=by
   cases rs with
   |nil=>simp[aZ]at hd
   |cons _ _=>simp
  simp_arith![ends];refine last ?_;by_cases hlt:rs'.length < 12
  ·have hl:decide ((rs'.length:Int) < 12)=true:=bo (by omega);erw[af,hl,h1];refine acZ hp' hw6 ok' (by omega) h12 λrs2 G2 ok2 l1 l2 hd2 hp2 sb2=>hk _ _ ⟨rs2,_,rfl,ok2,by omega,by omega,λl hl=>(hdd l hl).trans (hd2 l hl),hp2,sb'.trans sb2⟩
  ·have hl:decide ((rs'.length:Int) < 12)=false:=bn (by omega);erw[af,hl];exact hk _ _ ⟨rs',_,rfl,ok',hle,h12,hdd,hp',sb'⟩
 ·rintro Y G' ⟨rs',o4,rfl,ok',hle,h12,hdd,hp',sb'⟩;ac_nf0;erw[ends];exact ⟨by decide,rs',rfl,⟨hb.w1,hb.w6,h12,λr hr=>(ok' r hr).1,λr hr=>(ok' r hr).2⟩,hdd,hp',sb'⟩
open PySem.Spec PyProof.Rows
theorem ac4:bootBuiltins "sorted"=some (.builtin "sorted"):=by ac_rfl
section
variable {X:Cx}
def ac5(ta:L2.TA):TI:=λY H Rr=>ta Y H λvs H1=>∃a xs,vs=[.ref a]/\H1 a=some (.tup xs)/\Rr (Je (.tup a)) H1
theorem ac6 {elts:List Expr} {x1:Nat} {tp:Pos} {a:Expr} {ta:L2.TA} {p pos:Pos} (hg:Gl X "enumerate") (hm:X.mg "enumerate"=none) (ha:L2.PA X [a] ta) (hs:starEach [a] X.env=[(false,eval a X.env)]:=by rfl):
  PI X (.Tuple elts x1 tp) (.Call (.Name "enumerate" p) [a] [] pos) (ac5 ta):=by
 intro pins s Y H Rr I h;refine Call_ (ir I hg hm (u:=.type "enumerate") boot_enumerate (dr (thn (ha pos pins s Y H _ I h) λus s1 ⟨vs,H1,I1,r1,q1⟩=>?_) hs rfl));obtain ⟨l,xs,e,hq,q⟩:=q1;subst e;obtain ⟨u,rfl,ru⟩:=vals1 r1;cases ru;obtain ⟨its,on⟩:=lw I1 (kk:=.tup l) hq;refine DX (k:=.tup l) on λh' hen hit hsz hk=>?_;refine wpAny_pyIter_enum hen ?_;have n1:H1 s1.heap.objs.size=none:=I1.hok.fresh (ax _);have n2:H1 (s1.heap.objs.size+1)=none:=I1.hok.fresh (dn _);refine ⟨s1.heap.objs.size+1,[s1.heap.objs.size+1,s1.heap.objs.size],_,_,H1,rfl,I1.kept (t':=s1.toks) hk,DW (.tup l) _ _ (Nat.succ_ne_self _),⟨⟨_,hen⟩,hit⟩,λb hb=>?_,q⟩;have hb':b=s1.heap.objs.size+1\/b=s1.heap.objs.size:=by simpa using hb
 rcases hb' with rfl |rfl
 ·exact I1.fpOk (dn _) n2
 ·exact I1.fpOk (ax _) n1
end
def x1B:Sx:=.asg (.nm 1) (.call "counts" (.cons (.var 0) .nil))
theorem ac7 (Z:aj) (h:Z "counts"=iZ) {w:Nat} {rs:List Row} {G:DH} {D':En} (hb:okB w rs) (hk:∀q G',G q=none->G' q=some (.lst (cN w rs))->Sa G G'->D'.nx [some (aA w rs),some (.ref q),none,none,none] G'):wpS Z x1B noE (env0 [aA w rs] 4) G D':=by simp_all_arith[x1B];erw[h];exact yR hb λq G' a b c=>hk q G' a b c
def eX(kv:List (List Nat×Int))(d:List Nat):Int:=((kv.find? λp=>decide (p.1=d)).map (·.2)).getD 0
def dU(kv:List (List Nat×Int))(d:List Nat)(x:Int):List (List Nat×Int):=if (kv.any λp=>decide (p.1=d))=true then kv.map (λp=>if p.1=d then (p.1,x) else p) else kv++[(d,x)]
def bK(p:List Nat×Int):Key×V:=(Sum.inr (tx p.1),V.int p.2)
theorem za(d:List Nat):∀kv:List (List Nat×Int),bI (kv.map bK) (Sum.inr (tx d))=(kv.find? λp=>decide (p.1=d)).map λp=>V.int p.2
 |[]=>rfl
 |p::kv=>by
  rw[bi];by_cases h:p.1=d
  ·rw[dF (show (bK p).1=Sum.inr (tx d) by unfold bK;rw[h]),d5,bo h];rfl
  ·rw[dG (show ¬(bK p).1=Sum.inr (tx d) from λe=>h (iw (Sum.inr.inj e))),d5,bn h];exact za d kv
theorem zb(kv:List (List Nat×Int))(d:List Nat):(bI (kv.map bK) (Sum.inr (tx d))).getD (.int 0)=.int (eX kv d):=by rw[za];unfold eX;cases kv.find? λp=>decide (p.1=d) <;> rfl
theorem zc(kv:List (List Nat×Int))(d:List Nat)(x:Int):putD (kv.map bK) (Sum.inr (tx d)) (.int x)=(dU kv d x).map bK:=by
 have ha:((kv.map bK).any λp=>decide (p.1=Sum.inr (tx d)))=kv.any λp=>decide (p.1=d):=by
  rw[List.any_map];congr 1;funext p;show decide (Sum.inr (tx p.1)=(Sum.inr (tx d):Key))=decide (p.1=d);by_cases h:p.1=d
  ·rw[h];simp
  ·rw[bn h,bn λe=>h (iw (Sum.inr.inj e))]
 unfold putD dU;rw[ha];split
 ·rw[df,df];refine List.map_congr_left λp _=>?_;show (if Sum.inr (tx p.1)=(Sum.inr (tx d):Key) then _ else _)=bK (if p.1=d then (p.1,x) else p);by_cases h:p.1=d
  ·rw[if_pos (by rw[h]),if_pos h];rfl
  ·rw[if_neg λe=>h (iw (Sum.inr.inj e)),if_neg h]
 ·rw[b4];rfl
theorem Iz(kv:List (List Nat×Int))(d:List Nat)(x:Int):(dU kv d x).length<=kv.length+1:=by unfold dU;split <;> simp
theorem IK(kv:List (List Nat×Int))(d:List Nat)(x:Int)(h:(kv.map (·.1)).Nodup):((dU kv d x).map (·.1)).Nodup:=by
 unfold dU;split
 ·rw[df];have:kv.map ((·.1)∘λp=>if p.1=d then (p.1,x) else p)=kv.map (·.1):=List.map_congr_left λp _=>by show (if p.1=d then (p.1,x) else p).1=p.1;split <;> rfl
  rw[this];exact h
 ·rename_i hn;rw[b4];refine List.nodup_append.mpr ⟨h,by simp,λa ha b hb=>?_⟩;have:b=d:=by simpa using hb
  subst this;rintro rfl;obtain ⟨p,hp,e⟩:=bg.mp ha;exact hn (List.any_eq_true.mpr ⟨p,hp,bo e⟩)
theorem IV(kv:List (List Nat×Int))(d e:List Nat)(x:Int):eX (dU kv d x) e=if e=d then x else eX kv e:=by
 have h:=Sw (kv.map bK) (Sum.inr (tx d)) (Sum.inr (tx e)) (.int x);rw[zc]at h;have h':=eg (λo=>o.getD (V.int 0)) h;rw[zb]at h';by_cases hd:e=d
 ·rw[if_pos hd];rw[if_pos (by rw[hd])]at h';exact V.int.inj h'
 ·rw[if_neg hd];rw[if_neg λz=>hd (iw (Sum.inr.inj z)),zb]at h';exact V.int.inj h'
def byU(rs:List Row)(m:Nat->Int):Nat->List (List Nat×Int)
 |0=>[]
 |i+1=>match rs[i]? with
  |some r=>dU (byU rs m i) r.2 (eX (byU rs m i) r.2+m i)
  |none=>byU rs m i
theorem IW{rs:List Row}{m:Nat->Int}{i:Nat}{r:Row}(h:rs[i]?=some r):byU rs m (i+1)=dU (byU rs m i) r.2 (eX (byU rs m i) r.2+m i):=by rw[byU,h]
theorem ug(rs:List Row)(m:Nat->Int):∀i,(byU rs m i).length<=i
 |0=>ax _
 |i+1=>by
  have ih:=ug rs m i;unfold byU;split
  ·exact bv (Iz _ _ _) (by omega)
  ·omega
theorem zf(rs:List Row)(m:Nat->Int):∀i,((byU rs m i).map (·.1)).Nodup
 |0=>List.nodup_nil
 |i+1=>by
  unfold byU;split
  ·exact IK _ _ _ (zf rs m i)
  ·exact zf rs m i
def byF(w:Nat)(rs:List Row):List (List Nat×Int):=dU (byU rs (λk=>(bx w rs k:Int)) rs.length) [45] (bx w rs rs.length)
def byP(w:Nat)(rs:List Row):List (List Nat×Int):=(byF w rs).filter λp=>decide (0 < p.2)
def jU(L:List (List Nat×Int)):Prop:=L.Pairwise λa b=>a.1 < b.1
def byD(L:List (List Nat×Int)):D:=.lst (L.map λp=>.tup [.str p.1,.int p.2])
def m9:RF.Spec:=ghS (A:=Nat×List Row) (λa ds _=>ds=[aA a.1 a.2]/\okB a.1 a.2) (λa G d G'=>Sa G G'/\∃L,d=byD L/\L.Perm (byP a.1 a.2)/\jU L)
theorem Ja{kv:List (List Nat×Int)}{d:List Nat}{x:Int}{p:List Nat×Int}(h:p∈dU kv d x):p.1=d\/∃q∈kv,q.1=p.1:=by
 unfold dU at h;split at h
 ·obtain ⟨q,hq,rfl⟩:=bg.mp h;split
  ·rename_i e;exact .inl e
  ·exact .inr ⟨q,hq,rfl⟩
 ·rcases a8.mp h with h |h
  ·exact .inr ⟨p,h,rfl⟩
  ·rw[aI.mp h];exact .inl rfl
theorem zg{rs:List Row}{m:Nat->Int}:∀{i:Nat}{p:List Nat×Int},p∈byU rs m i->∃r∈rs,p.1=r.2
 |0,_,h=>nomatch h
 |i+1,p,h=>by
  unfold byU at h;split at h
  ·rename_i r hr;rcases Ja h with e |⟨q,hq,e⟩
   ·exact ⟨r,ba hr,e⟩
   ·obtain ⟨r',hr',e'⟩:=zg hq;exact ⟨r',hr',e ▸ e'⟩
  ·exact zg h
theorem ac8{w:Nat}{rs:List Row}{p:List Nat×Int}(h:p∈byF w rs):p.1=[45]\/∃r∈rs,p.1=r.2:=by
 rcases Ja h with e |⟨q,hq,e⟩
 ·exact .inl e
 ·obtain ⟨r,hr,e'⟩:=zg hq;exact .inr ⟨r,hr,e ▸ e'⟩
theorem uh(w:Nat)(rs:List Row):((byF w rs).map (·.1)).Nodup:=IK _ _ _ (zf _ _ _)
theorem ac9(w:Nat)(rs:List Row):(byF w rs).length<=rs.length+1:=bv (Iz _ _ _) (Nat.add_le_add_right (ug _ _ _) 1)
structure Co(K:PF)(H1 Hc:Hp)(F:FZ)(G:DH)(p:Addr):Prop where
 r:R K Hc F G
 x:Ext H1 F Hc F
 n:Hc p=none
theorem Co.new{K:PF}{H1 Hc:Hp}{F:FZ}{G:DH}{p T:Addr}{o:HO}(c:Co K H1 Hc F G p)(h:Hc T=none)(hT:T≠p):Co K H1 (upd Hc T o) F G p:=⟨c.r.new h,c.x.trans (dm c.r h),by rw[aH (Ne.symm hT)];exact c.n⟩
theorem Jb{H:Hp}{p T:Addr}{o u:HO}(h:T≠p):upd (upd H p o) T u=upd (upd H T u) p o:=by
 funext b;unfold upd;by_cases h1:b=T
 ·subst h1;rw[if_pos rfl,if_neg h,if_pos rfl]
 ·rw[if_neg h1];by_cases h2:b=p
  ·rw[if_pos h2,if_pos h2]
  ·rw[if_neg h2,if_neg h2,if_neg h1]
theorem Jc{α:Type}{xs:List α}{v:α}{n:Nat}(hl:xs.length=n+1)(h:xs[n]?=some v):atI xs (-1)=some v:=by
 unfold atI;have:ixN xs.length (-1)=some n:=by rw[hl];unfold ixN;simp;omega
 rw[this];exact h
def TB(Hc:Hp)(bs:List Addr)(ks:List (List Nat×Int)):Prop:=bs.length=ks.length/\∀(j:Nat)(b:Addr)(k:List Nat×Int),bs[j]?=some b->ks[j]?=some k->Hc b=some (.tup [.str (tx k.1),.int k.2])
theorem TB.new{Hc:Hp}{bs:List Addr}{ks:List (List Nat×Int)}{T:Addr}{k:List Nat×Int}(t:TB Hc bs ks)(h:Hc T=none):TB (upd Hc T (.tup [.str (tx k.1),.int k.2])) (bs++[T]) (ks++[k]):=by
 refine ⟨by simp[t.1],λj b k' hb hk=>?_⟩;by_cases hj:j < bs.length
 ·rw[cq hj]at hb;rw[cq (by rw[<-t.1];exact hj)]at hk;have:=t.2 j b k' hb hk;rw[aH (aU this h)];exact this
 ·rw[eT (by omega)]at hb;rw[eT (by rw[<-t.1];omega)]at hk;have hj':=(ag.mp hb).1;have:j - bs.length=0:=by simp at hj';omega
  rw[this]at hb;rw[<-t.1,this]at hk;cases hb;cases hk;exact bD
theorem TB.reps{K:PF}{H:Hp}{F:FZ}{bs:List Addr}{ks:List (List Nat×Int)}(t:TB H bs ks)(hz:∀k∈ks,k.1.length<=sz):∀ps:List Nat,(∀i∈ps,i < ks.length)->Reps K H F ((ps.map λi=>ks.getD i ([],0)).map λp=>.tup [.str p.1,.int p.2]) (ps.map λi=>V.ref (bs.getD i 0))
 |[],_=>rfl
 |i::ps,h=>by
  have hi:=h i bq;have hi':i < bs.length:=by rw[t.1];exact hi
  refine Reps.cons ?_ (TB.reps t hz ps λj hj=>h j (bm _ hj));have e1:bs.getD i 0=bs[i]:=by simp[hi']
  have e2:ks.getD i ([],0)=ks[i]:=by simp[hi]
  show Rep K H F (.tup [.str (ks.getD i ([],0)).1,.int (ks.getD i ([],0)).2]) (.ref (bs.getD i 0));rw[e1,e2];exact ⟨_,_,rfl,⟨t.2 i _ _ (ai hi') (ai hi)⟩,Reps.cons ⟨rfl,hz _ (ce _)⟩ (Reps.cons rfl rfl)⟩
theorem find_key{kv:List (List Nat×Int)}(hn:(kv.map (·.1)).Nodup):∀{i:Nat}{pr:List Nat×Int},kv[i]?=some pr->kv.find? (λp=>decide (p.1=pr.1))=some pr:=by
 induction kv with
 |nil=>intro i pr h;simp at h
 |cons a kv ih=>
  intro i pr h;rw[bi,e7]at hn;rw[d5];cases i with
  |zero=>cases h;simp
  |succ i=>
   have h':kv[i]?=some pr:=by simpa using h
   have hne:¬a.1=pr.1:=λe=>hn.1 (e ▸ List.mem_map_of_mem (ba h'));rw[bn hne];exact ih hn.2 h'
theorem ada{w:Nat}{rs:List Row}{i:Nat}{pr:List Nat×Int}(h:(byF w rs)[i]?=some pr):bI ((byF w rs).map bK) (Sum.inr (tx pr.1))=some (.int pr.2):=by rw[za,find_key (uh w rs) h];rfl
theorem adb(l:List Nat):(tx l).cps.toList=l:=by simp
theorem adc{α:Type}(ks:List α)(x:α):(List.range ks.length).map (λi=>ks.getD i x)=ks:=List.ext_getElem (by simp) λi h1 h2=>by simp[h2]
theorem ade{ks:List (List Nat×Int)}{ps:List Nat}(hp:ps.Perm (List.range ks.length))(h:ps.Pairwise λi j=>PyProof.Rows.kLt (ks.map λp=>(tx p.1,p.2)) i j=true):jU (ps.map λi=>ks.getD i ([],0)):=by
 unfold jU;rw[List.pairwise_map];refine h.imp_of_mem λ{i j} hi hj hk=>?_;have hi':i < ks.length:=by have:=hp.mem_iff.mp hi;simpa using this
 have hj':j < ks.length:=by have:=hp.mem_iff.mp hj;simpa using this
 rw[PyProof.Rows.kLt_at (by simpa using hi') (by simpa using hj')]at hk;have:=ci hk;simp only[List.getElem_map,adb]at this;simpa [hi',hj'] using this
theorem adf{w:Nat}{rs:List Row}(hb:okB w rs):(List.range rs.length).filter (λk=>((bx w rs k:Int)==0))=jc rs:=by
 unfold jc;refine List.filter_congr λn hn=>?_;have hn':n < rs.length:=by simpa using hn
 rw[ai hn'];have e:=acR hb (ai hn');dsimp only;cases h:cj rs n rs[n].1 with
 |nil=>rw[e.mpr h];rfl
 |cons a l=>
  have:bx w rs n≠0:=λz=>by have:=e.mp z;rw[h]at this;cases this
  show (((bx w rs n:Int)==0):Bool)=false;rw[b9];omega
theorem adg{w:Nat}{b l:List Nat}(hb:okF w b)(h:l∈aP b):okW w l:=⟨by rw[<-hb.1];exact (cz.mp h).1.symm,mZ hb (cz.mp h)⟩
theorem Jd(b:List Nat):stc b<=b.length:=ft
def ul:RF.Spec:=ghS (A:=Nat×List Row) (λa ds _=>ds=[aA a.1 a.2]/\okB a.1 a.2) (λ_ G d G'=>d=.bl true/\Sa G G')
theorem Jf{w:Nat}{rs:List Row}{G:DH}{k:D->DH->Prop}{E:EK}(h:okB w rs)(hk:∀G',Sa G G'->k (.bl true) G'):ul.t [aA w rs] G k E:=
 gU (w,rs) ⟨rfl,h⟩ λd G' ⟨e1,e2⟩=>by subst e1;exact hk G' e2
theorem adh (Z:aj) (h1:Z "laid"=mY) (h2:Z "is_laid"=tX) (h3:Z "_law_boxes"=fB 9) (h4:Z "_law_words"=mO) (h5:Z "met"=mR) (h6:Z "counts"=iZ) (h7:Z "hidden"=t6) (a:Nat×List Row) (ds:List D) (G:DH) (h:ds=[aA a.1 a.2]/\okB a.1 a.2):
  au Z yg noE (env0 ds 5) G (ends λd G'=>d=.bl true/\Sa G G'):=by
 obtain ⟨w,rs⟩:=a;obtain ⟨rfl,hb⟩:=h;dsimp only at hb ⊢;have hw6:=hb.w6;have hw1:=hb.w1;have hlen:=hb.len;have hst:=yN w;have hrl:∀r∈rs,r.1.length=w:=λr hr=>(hb.form r hr).1;simp_all_arith[yg];nofun;erw[h1];refine Hx hb λt ht=>hM _ _ (seq λM hM=>?_);obtain ⟨bs,hL⟩:=ht.lv;obtain ⟨tt,et,hdep,elv⟩:=hL.tree;erw[h2,et];refine acu hb (by omega) ?_;rw[elv,acz hb hL b6,<-et];erw[ends];symm;erw[aA];refine CompG.map (f:=λ_=>.int 0) (I:=λY=>∃o,Y=[o]) ⟨_,rfl⟩ trivial (by simp;bv_omega) ?_ ?_
 ·rintro d Y hd ⟨o,rfl⟩ kk hk;erw[ends];exact hk _ ⟨_,rfl⟩
 rw[df];erw[Function.comp_def,af];refine ⟨by bv_omega,by bv_omega,?_⟩;intro q hq;rw[HW];symm;simp_arith![h3,br,sZ];refine ⟨by omega,by omega,by bv_omega,yQ hL (by decide) (by rw[b6];omega) (by omega) ?_⟩;simp_arith![ends];refine ForG.inv (P:=λi Y G'=>(∃o3 o4 o5,Y=[some (.tup [.int w,.tup (rs.map aq)]),some t,some (.ref q),o3,o4,o5])/\G' q=some (.lst (tell (rs.length+1) (cI rs (bs.take i))))/\Sa G G') ⟨⟨_,_,_,rfl⟩,bF,Sa.new hq⟩ (λ_ _ _ _=>trivial) ?_ ?_
 ·rintro i d Y G' hd ⟨⟨o3,o4,o5,rfl⟩,g1,sa⟩ kk hk;rw[aw]at hd;obtain ⟨b,hbb,rfl⟩:=ar.mp hd;have hbm:b∈bs:=ba hbb;have hbf:okF w b:=hL.okf (tu w) b hbm;have hmet:∀l∈aP b,aJ rs l=aF rs b:=λl hl=>yP (λr hr=>by rw[hrl r hr,hbf.1]) ((hL.box b hbm).2 rs (by simp)) (mZ hbf (cz.mp hl)) (cz.mp hl);have hat:atN rs (aF rs b) < rs.length+1:=HY λn hn=>mX hn;have htk:bs.take (i+1)=bs.take i++[b]:=by rw[cw,hbb];rfl
  have hwl:(aP b).length=2 ^ stc b:=by rw[g8,m6]
  have hs6:2 ^ stc b<=2 ^ 6:=dk (by decide) (bv (Jd b) (by rw[hbf.1];exact hw6));have h64:2 ^ 6=64:=by decide
  simp_arith![gm,iU];nofun;have step:∀(N:ak->DH->Prop)(R:D->DH->Prop)(B C:ak->DH->Prop),(∀G2,G2 q=some (.lst (tell (rs.length+1) (cI rs (bs.take (i+1)))))->Sa G G2->N [some (.tup [.int w,.tup (rs.map aq)]),some t,some (.ref q),some (.str b),some (.tup [.str dh,aN (aF rs b)]),some (.int (atN rs (aF rs b):Nat))] G2)->
    wpS Z (.set (.var 2) (.var 5) (.bin .Add true (.idx (.var 2) (.var 5)) (.bcl .len (.cons (.call "_law_words" (.cons (.var 3) .nil)) .nil)))) noE [some (.tup [.int w,.tup (rs.map aq)]),some t,some (.ref q),some (.str b),some (.tup [.str dh,aN (aF rs b)]),some (.int (atN rs (aF rs b):Nat))] G' ⟨N,R,B,C⟩:=by
   intro N R B C hN;erw[h4,cU g1];refine bz (a:=.int (cI rs (bs.take i) (atN rs (aF rs b)):Nat)) (bf (gr hat)) ?_;refine yz (by rw[hbf.1];omega) λG2 sa2=>?_;have g2:=sa2 _ _ g1;erw[af,hwl,cT g2,iY,xM hat];refine hN _ ?_ ((sa.trans sa2).then hq Sb.upd);rw[bF,htk,HX hat λk=>H9]
  have chk:∀(N:ak->DH->Prop)(R:D->DH->Prop)(B C:ak->DH->Prop)(G2:DH),(∀G3,Sa G2 G3->N [some (.tup [.int w,.tup (rs.map aq)]),some t,some (.ref q),some (.str b),some (.tup [.str dh,aN (aF rs b)]),some (.int (atN rs (aF rs b):Nat))] G3)->
    wpS Z (.ite (.val (.cmp .NotEq (.comp true (.var 0) (.nm 0) (.seq (.call "_law_words" (.cons (.var 3) .nil))) (.val (.cmp .NotEq (.call "met" (.cons (.var 1) (.cons (.var 0) .nil))) (.idx (.var 2) (.cst (.int 1))))) ["word","book","leaf"] [none,some 0,some 4]) (.lst true .nil))) (.cons (.ret (.cst (.bl false))) .nil) .nil) noE [some (.tup [.int w,.tup (rs.map aq)]),some t,some (.ref q),some (.str b),some (.tup [.str dh,aN (aF rs b)]),some (.int (atN rs (aF rs b):Nat))] G2 ⟨N,R,B,C⟩:=by
   intro N R B C G2 hN;erw[h4];refine yz (by rw[hbf.1];omega) λG3 sa3=>?_;erw[ends];refine CompG.inv (P:=λi acc Y G'=>(∃o,Y=[o,some (.tup [.int w,.tup (rs.map aq)]),some (.tup [.str dh,aN (aF rs b)])])/\Sa G2 G'/\acc=[]) ⟨⟨_,rfl⟩,sa3,rfl⟩ (λ_ _ _ _ _=>trivial) (by rw[af,hwl];bv_omega) ?_ ?_
   ·rintro j d acc Y G4 hd ⟨⟨o,rfl⟩,sa4,rfl⟩ kk' hk';rw[aw]at hd;obtain ⟨l,hl,rfl⟩:=ar.mp hd;have hlm:l∈aP b:=ba hl;have e0:D.tup [.int w,.tup (rs.map aq)]=aA w rs:=rfl;erw[h5];rw[e0];refine Hn hb (adg hbf hlm) ?_;rw[hmet l hlm];cases htb:aF rs b with
    |none=>
     erw[aN];exact hk' _ _ _ ⟨⟨_,by rw[htb];rfl⟩,sa4,rfl⟩
    |some n=>
     erw[aN,BEq.rfl];exact hk' _ _ _ ⟨⟨_,by rw[htb];rfl⟩,sa4,rfl⟩
   ·rintro acc Y G4 ⟨_,sa4,rfl⟩;erw[ends];exact ⟨by decide,hN _ sa4⟩
  have fin:∀(R:D->DH->Prop) (B C:ak->DH->Prop),au Z (.cons (.set (.var 2) (.var 5) (.bin .Add true (.idx (.var 2) (.var 5)) (.bcl .len (.cons (.call "_law_words" (.cons (.var 3) .nil)) .nil)))) (.cons (.ite (.val (.cmp .NotEq (.comp true (.var 0) (.nm 0) (.seq (.call "_law_words" (.cons (.var 3) .nil))) (.val (.cmp .NotEq (.call "met" (.cons (.var 1) (.cons (.var 0) .nil))) (.idx (.var 2) (.cst (.int 1))))) ["word","book","leaf"] [none,some 0,some 4]) (.lst true .nil))) (.cons (.ret (.cst (.bl false))) .nil) .nil) .nil)) noE [some (.tup [.int w,.tup (rs.map aq)]),some t,some (.ref q),some (.str b),some (.tup [.str dh,aN (aF rs b)]),some (.int (atN rs (aF rs b):Nat))] G' ⟨kk,R,B,C⟩:=by intro R B C;refine seq λM hM=>step _ _ _ _ λG2 g2 sa2=>hM _ _ (last (chk _ _ _ _ _ λG3 sa3=>hk _ _ ⟨⟨_,_,_,rfl⟩,sa3 _ _ g2,sa2.trans sa3⟩))
  cases ht:aF rs b with
  |none=>
   rw[ht]at fin;erw[aN,af];exact hM _ _ (fin _ _ _)
  |some n=>
   rw[ht]at fin;erw[aN];exact hM _ _ (fin _ _ _)
 ·rintro Y G' ⟨⟨o3,o4,o5,rfl⟩,g1,sa⟩;rw[af,da]at g1;have ec:tell (rs.length+1) (cI rs bs)=cN w rs:=by
   unfold cN;have:cI rs bs=λk=>(aP (List.replicate w 42)).countP λl=>atN rs (aJ rs l)==k:=by funext k;exact HS hL (tu w) λr hr=>(hb.form r hr).1
   rw[this]
  rw[ec]at g1;symm;erw[h6];rw[show D.tup [.int w,.tup (rs.map aq)]=aA w rs from rfl];refine yR hb λq2 G2 hq2 gq2 sa2=>?_;have g2:=sa2 _ _ g1;erw[cU g2,cU gq2];have hnr:nrs (cN w rs)=true:=jE λd hd=>by obtain ⟨_,_,rfl⟩:=bg.mp hd;rfl
  have hdp:aV (cN w rs)=0:=Nat.le_zero.mp (sr λd hd=>by obtain ⟨_,_,rfl⟩:=bg.mp hd;exact ax _);refine ⟨⟨hnr,hnr,by rw[hdp];decide⟩,?_⟩;rw[ju hnr];ac_nf0;erw[aA,af];refine ⟨by omega,CompG.inv (P:=λi acc Y G'=>(∃o,Y=[o,some (.ref q)])/\G'=G2/\acc=((List.range i).filter λk=>((bx w rs k:Int)==0)).map nI) ⟨⟨_,rfl⟩,rfl,rfl⟩ (λ_ _ _ _ _=>trivial) (by simp[aZ];bv_omega) ?_ ?_⟩
  ·rintro i d acc Y G' hd ⟨⟨o,rfl⟩,rfl,rfl⟩ kk' hk';have hi:i < rs.length:=by
    have:=(ag.mp hd).1;simpa [aZ] using this
   have hdi:d=.int (i:Int):=by unfold aZ at hd;rw[aw,List.getElem?_range (by simpa using hi)]at hd;simpa using hd.symm
   subst hdi;erw[cU g2];refine bz (a:=.int (bx w rs i:Int)) (bf (by unfold cN;rw[gr (by omega)];rfl)) ?_;have e1:(List.range (i+1)).filter (λk=>((bx w rs k:Int)==0))=(List.range i).filter (λk=>((bx w rs k:Int)==0))++[i].filter (λk=>((bx w rs k:Int)==0)):=by rw[List.range_succ,ez]
   cases hz:((bx w rs i:Int)==0:Bool) with
   |true=>
    erw[hz];exact hk' _ _ _ ⟨⟨_,rfl⟩,rfl,by rw[e1];simp[hz,nI]⟩
   |false=>
    erw[hz];exact hk' _ _ _ ⟨⟨_,rfl⟩,rfl,by rw[e1];simp[hz]⟩
  ·rintro acc Y G' ⟨_,rfl,rfl⟩;have el:(List.range (aZ 0 (rs.length:Int).toNat).length).filter (λk=>((bx w rs k:Int)==0))=jc rs:=by rw[<-adf hb];simp[aZ]
   rw[el];erw[h7];rw[show D.tup [.int w,.tup (rs.map aq)]=aA w rs from rfl];refine acM hb λq3 G3 hq3 gq3 sa3=>?_;erw[cU gq3];refine ⟨⟨yW _,yW _,by rw[acO];decide⟩,by rw[ju (yW _)],(sa.trans sa2).trans sa3⟩
theorem Jg{α:Type}(p q r:α->Bool):∀l:List α,(∀x∈l,r x=(p x||q x)/\(p x&&q x)=false)->l.countP r=l.countP p+l.countP q
 |[],_=>rfl
 |x::l,h=>by
  have ih:=Jg p q r l λy hy=>h y (bm _ hy);obtain ⟨h1,h2⟩:=h x bq;rw[List.countP_cons,List.countP_cons,List.countP_cons,ih,h1];cases hp:p x <;> cases hq:q x <;> simp[hp,hq]at h2 ⊢ <;> omega
def upTo(rs:List Row)(d:List Nat)(i:Nat)(l:List Nat):Bool:=match aJ rs l with
 |some k=>decide (k < i)&&decide ((rs[k]?.map (·.2))=some d)
 |none=>false
theorem Jh{w:Nat}{rs:List Row}(d:List Nat):∀i,i<=rs.length->eX (byU rs (λk=>(bx w rs k:Int)) i) d=(((aP (List.replicate w 42)).countP (upTo rs d i):Nat):Int)
 |0,_=>by
  have:(aP (List.replicate w 42)).countP (upTo rs d 0)=0:=List.countP_eq_zero.mpr λl _=>by unfold upTo;cases aJ rs l <;> simp
  rw[this];rfl
 |i+1,hi=>by
  have hr:rs[i]?=some rs[i]:=ai hi;rw[IW hr,IV];have ih:=Jh (w:=w) (rs:=rs) d i (by omega);have at_i:∀l,(atN rs (aJ rs l)==i)=decide (aJ rs l=some i):=λl=>by
   cases hm:aJ rs l with
   |none=>show ((rs.length==i):Bool)=_;rw[b9.mpr (by omega)];simp
   |some k=>show ((k==i):Bool)=_;by_cases hk:k=i <;> simp[hk]
  by_cases hd:d=rs[i].2
  ·rw[if_pos hd,<-hd,ih];have:=Jg (upTo rs d i) (λl=>atN rs (aJ rs l)==i) (upTo rs d (i+1)) (aP (List.replicate w 42)) λl _=>by
    rw[at_i];unfold upTo;cases hm:aJ rs l with
    |none=>simp
    |some k=>
     dsimp only;by_cases hk:k=i
     ·subst hk;rw[hr];simp[hd]
     ·have:decide (k < i+1)=decide (k < i):=by simp;omega
      rw[this];simp[hk]
   rw[this];unfold bx;omega
  ·rw[if_neg hd,ih];congr 1;refine fk λl _=>?_;unfold upTo;cases hm:aJ rs l with
   |none=>rfl
   |some k=>
    dsimp only;by_cases hk:k=i
    ·subst hk;rw[hr];simp[Ne.symm hd]
    ·have:decide (k < i+1)=decide (k < i):=by simp;omega
     rw[this]
def jV(rs:List Row)(l:List Nat):List Nat:=(ddF rs l).getD [45]
theorem Ji{w:Nat}{rs:List Row}(hb:okB w rs)(d:List Nat):eX (byF w rs) d=(((aP (List.replicate w 42)).countP λl=>decide (jV rs l=d):Nat):Int):=by
 have key:∀l,jV rs l=match aJ rs l with |some k=>((rs[k]?.map (·.2)).getD [45]) |none=>[45]:=λl=>by
  unfold jV;rw[<-ud];cases hm:aJ rs l with
  |none=>rfl
  |some k=>
   have hk:k < rs.length:=jN hm;show ((rs[k]?.map (·.2))).getD [45]=_;rfl
 have ne45:∀k (h:k < rs.length),rs[k].2≠[45]:=λk h e=>by
  have:=(hb.deed rs[k] (ce h)).2.2 45 (by rw[e];simp);omega
 unfold byF;rw[IV];by_cases hd:d=[45]
 ·rw[if_pos hd];unfold bx;congr 1;refine fk λl _=>?_;rw[key,hd];cases hm:aJ rs l with
  |none=>simp[atN]
  |some k=>
   have hk:k < rs.length:=jN hm;have h1:(atN rs (some k)==rs.length)=false:=b9.mpr (b5 hk);rw[h1];simp[ai hk,ne45 k hk]
 ·rw[if_neg hd,Jh d rs.length (ax _)];congr 1;refine fk λl _=>?_;rw[key];unfold upTo;cases hm:aJ rs l with
  |none=>simp[Ne.symm hd]
  |some k=>
   have hk:k < rs.length:=jN hm;simp[ai hk,hk]
theorem Jj{w:Nat}{rs:List Row}{p:List Nat×Int}:p∈byP w rs↔0 < p.2/\eX (byF w rs) p.1=p.2:=by
 unfold byP;rw[dS];constructor
 ·rintro ⟨h1,h2⟩;obtain ⟨i,hi⟩:=List.getElem?_of_mem h1;refine ⟨by simpa using h2,?_⟩;unfold eX;rw[find_key (uh w rs) hi];rfl
 ·rintro ⟨h1,h2⟩;refine ⟨?_,by simpa using h1⟩;unfold eX at h2;cases hf:(byF w rs).find? λq=>decide (q.1=p.1) with
  |none=>rw[hf]at h2;simp at h2;omega
  |some q=>
   rw[hf]at h2;have h3:q.2=p.2:=h2;have h4:q.1=p.1:=by simpa using List.find?_some hf
   have:q=p:=Prod.ext h4 h3;rw[<-this];exact List.mem_of_find?_eq_some hf
theorem Jl(w:Nat)(rs:List Row):(byP w rs).Nodup:=by have h:((byP w rs).map (·.1)).Nodup:=(uh w rs).sublist (List.Sublist.map _ List.filter_sublist);exact List.Pairwise.of_map (S:=(·≠·)) (·.1) (λa b h e=>h (by rw[e])) h
theorem adi{w:Nat}{rs ss:List Row}(hb:okB w rs)(hs:okB w ss)(h:Dd w rs ss):(byP w rs).Perm (byP w ss):=by
 rw[List.perm_ext_iff_of_nodup (Jl _ _) (Jl _ _)];intro p;rw[Jj,Jj,Ji hb,Ji hs];have:((aP (List.replicate w 42)).countP λl=>decide (jV rs l=p.1))=(aP (List.replicate w 42)).countP λl=>decide (jV ss l=p.1):=fk λl hl=>by
  unfold jV;rw[h l (mV.mp (cz.mp hl))]
 rw[this]
theorem adk{w:Nat}{rs ss:List Row}{L M:List (List Nat×Int)}(hb:okB w rs)(hs:okB w ss)(h:Dd w rs ss)(h1:L.Perm (byP w rs))(h2:jU L)(h3:M.Perm (byP w ss))(h4:jU M):L=M:=
 List.Perm.eq_of_pairwise (le:=λa b:List Nat×Int=>a.1 < b.1) (λa b _ _ x y=>absurd y (List.lt_asymm x)) h2 h4 (h1.trans ((adi hb hs h).trans h3.symm))
theorem adl{w:Nat}{rs:List Row}:bx w (rs++[(List.replicate w 42,[97])]) (rs.length+1)=0:=by
 refine List.countP_eq_zero.mpr λl hl=>?_;have hf:aB (List.replicate w 42) l=true:=(gh (mV.mp (cz.mp hl)).2).mpr (cz.mp hl);have:∃k,aJ (rs++[(List.replicate w 42,[97])]) l=some k:=by unfold aJ;have:=List.findIdx?_isSome (xs:=rs++[(List.replicate w 42,[97])]) (p:=λr=>aB r.1 l);rw[<-bB,this];simp[hf]
 obtain ⟨k,hk⟩:=this;rw[hk];have:=jN hk;simp only[al,ek]at this;simp[atN];omega
theorem Jm{w:Nat}{rs:List Row}{G:DH}{k:D->DH->Prop}{E:EK}(h:okB w rs)(hk:∀L G',L.Perm (byP w rs)->jU L->Sa G G'->k (byD L) G'):m9.t [aA w rs] G k E:=
 gU (w,rs) ⟨rfl,h⟩ λd G' ⟨sa,L,e,h1,h2⟩=>by subst e;exact hk L G' h1 h2 sa
theorem zj(L:List (List Nat×Int)):nrs (L.map λp=>D.tup [.str p.1,.int p.2])=true:=jE λd hd=>by obtain ⟨_,_,rfl⟩:=bg.mp hd;rfl
theorem adm(L:List (List Nat×Int)):aV (L.map λp=>D.tup [.str p.1,.int p.2])<=3:=sr λd hd=>by obtain ⟨_,_,rfl⟩:=bg.mp hd;exact Nat.le_of_ble_eq_true rfl
structure F19(Z:aj):Prop where
 opn:Z "_law_open"=yq
 anew:Z "_law_anew"=sE
 take:Z "_law_take"=dM
 book:Z "_law_book"=sO
 turned:Z "_law_turned_alike"=sTA
 right:Z "_law_told_right"=ul
 counts:Z "counts"=iZ
 by_:Z "_law_by_deeds"=m9
 words:Z "_law_words"=mO
 deed:Z "deed"=sX
theorem adn(Z:aj)(F:F19 Z)(ds:List D)(G:DH)(h:∃ns:List Int,ds=[.scr ns]/\ns.length<=63):au Z ym noE (env0 ds 7) G (ends λd _=>d=.bl true):=by
 obtain ⟨ns,rfl,hl⟩:=h;simp_all_arith[ym];nofun;erw[F.opn];refine bM ⟨ns,rfl,hl⟩ λd' G1 hx=>?_;obtain ⟨p,e1,_,hp,_⟩:=hx;subst e1;symm;simp_arith![ends];refine ⟨by decide,ForG.inv (P:=λi Y G'=>(∃o2 o3 o4 o5 o6 o7,Y=[some (.scr ns),some (.ref p),o2,o3,o4,o5,o6,o7])/\Pen G' p) ⟨⟨_,_,_,_,_,_,rfl⟩,hp⟩ (λ_ _ _ _=>trivial) ?_ ?_⟩
 ·rintro i d Y G2 hd ⟨⟨o2,o3,o4,o5,o6,o7,rfl⟩,hp2⟩ kk hk;unfold aZ at hd;rw[aw]at hd;obtain ⟨j,hj,rfl⟩:=ar.mp hd;have hj3:j < 3:=by
   have:=ba hj;simpa using this
  have ix:∀a b c:Nat,∃n:Nat,(n=a\/n=b\/n=c)/\atI [D.int a,D.int b,D.int c] (0+(j:Int))=some (.int (n:Int)):=by
   intro a b c;have:j=0\/j=1\/j=2:=by omega
   rcases this with e |e |e
   ·exact ⟨a,.inl rfl,by rw[e];rfl⟩
   ·exact ⟨b,.inr (.inl rfl),by rw[e];rfl⟩
   ·exact ⟨c,.inr (.inr rfl),by rw[e];rfl⟩
  obtain ⟨w0,hw0,ew⟩:=ix 5 6 4;obtain ⟨m0,hm0,em⟩:=ix 9 11 8;simp_arith![ends];nofun;erw[F.anew,F.book];refine abJ hp2 λG3 hp3 _=>?_;refine ⟨by decide,bz ew ⟨by decide,bz em ?_⟩⟩;refine abh hp3 (by omega) (by omega) (by omega) λw rs G4 hb hw hrs hp4 _=>hM _ _ (seq λM hM=>?_);have hw1:=hb.w1;have hw6:=hb.w6;erw[F.turned];refine ac2 (m:=3) hp4 hb (by omega) λss G6 hb2 hdd hp6 _=>hM _ _ (seq λM hM=>?_);erw[aA,br,sZ];refine ⟨by omega,by omega,by bv_omega,by decide,by decide,by simp;bv_omega,by decide,hM _ _ (seq λM hM=>?_)⟩;have hb3:okB w (rs++[(List.replicate w 42,[97])]):=⟨hw1,hw6,by simp;omega,λr hr=>by
   rcases a8.mp hr with h |h
   ·exact hb.form r h
   ·rw[aI.mp h];exact tu w,λr hr=>by
   rcases a8.mp hr with h |h
   ·exact hb.deed r h
   ·rw[aI.mp h];exact (show okD [97] from ⟨by decide,by decide,by decide⟩)⟩
  have eB:∀xs:List Row,D.tup [.int w,.tup (xs.map aq)]=aA w xs:=λ_=>rfl;have eL:D.tup [.int w,.tup (rs.map aq++[D.tup [.str (List.replicate w 42),.str [97]]])]=aA w (rs++[(List.replicate w 42,[97])]):=by unfold aA;rw[b4];rfl
  simp only[eB,eL];erw[F.right];refine Jf hb λG7 sa7=>?_;erw[F.right];refine Jf hb2 λG8 sa8=>?_;erw[ends];symm;erw[F.counts];refine yR hb3 λq G9 hq gq sa9=>?_;have hat:atI (cN w (rs++[(List.replicate w 42,[97])])) (-1)=some (.int 0):=Jc (n:=rs.length+1) (by unfold cN;rw[iY];simp) (by
   unfold cN;rw[gr (by simp)];have:=adl (w:=w) (rs:=rs);unfold bx at this;rw[this];rfl)
  erw[cU gq];refine bz hat ?_;erw[F.by_];refine Jm hb λL G10 l1 l2 sa10=>Jm hb2 λL2 G11 l3 l4 sa11=>?_;have el:=adk hb hb2 hdd l1 l2 l3 l4;subst el;erw[byD];refine ⟨⟨zj _,zj _,bv (Nat.add_le_add_right (adm _) 1) (by decide)⟩,?_⟩;rw[ju (zj _)];have hp11:Pen G11 p:=((((hp6.sa sa7).sa sa8).sa sa9).sa sa10).sa sa11;symm;erw[F.words,aA,br,sZ];refine ⟨by omega,by omega,by bv_omega,yz (by rw[b6];omega) λG12 sa12=>hM _ _ (seq λM hM=>?_)⟩;have hwl:(aP (List.replicate w 42)).length<=2 ^ 6:=by rw[g8,m6];exact dk (by decide) (bv (Jd _) (by rw[b6];exact hw6))
  have h64:2 ^ 6=64:=by decide
  have hwp:0 < (aP (List.replicate w 42)).length:=by rw[g8,m6];exact Nat.pow_pos (by decide)
  erw[F.take,af];refine bR (hp11.sa sa12) (by omega) (by omega) λn G13 hn hp13 _=>?_;erw[ends];refine jF (by omega) (by simpa using hn) λx hx=>?_;obtain ⟨l,hl',rfl⟩:=bg.mp hx;have hlw:okW w l:=mV.mp (cz.mp hl');ac_nf0;erw[F.deed];rw[eB,eB];refine Ho hb hlw (Ho hb2 hlw ?_);have ed:eN rs (aJ rs l)=eN ss (aJ ss l):=by rw[yX,yX,ud,ud,hdd l hlw]
  rw[ed];have fin:∀x y z u v,kk [some (.scr ns),some (.ref p),x,y,z,u,v,some (.str l)] G13:=λx y z u v=>hk _ _ ⟨⟨_,_,_,_,_,_,rfl⟩,hp13⟩;rw[yX];cases uc ss (aJ ss l) with
  |none=>
   erw[gk];exact fin _ _ _ _ _
  |some d=>
   erw[gk,BEq.rfl];exact fin _ _ _ _ _
 ·rintro Y G2 ⟨_,hp2⟩;refine hM _ _ ?_;erw[ends]
end RF
namespace HD
open PySem PySem.W
def sv(x:Str)(t:Nat):Value:=.str x t
def ri(n:Nat):Value:=.int n 0
def ig (l:List Value):Obj:=⟨.type "tuple",none,.seq ⟨l⟩ 0,⟨[]⟩⟩
def fH(c:Value)(l:List Value):Obj:=⟨c,none,.fields ⟨l⟩,⟨[]⟩⟩
def ni:Str:="/claim/cut.py"
def zm(n q:Str)(ln ac fl a b:Nat)(isf:Bool)(l1 l2 tm:Value)(t t2:Nat):Obj:=
 fH (.type "code") [sv n t,sv q (t+1),sv ni (t+2),ri ln,ri ac,ri 0,ri 0,ri fl,.ref a,.bool isf,ri 181,.ref b,.none,l1,l2,tm,ri t2,ri ln,sv ni (t2+1)]
def toks(t:Nat):List Str->List Value
 |[]=>[]
 |x::r=>sv x t::toks (t+1) r
def fdO(n q:Str)(p:Arguments)(b:List Stmt)(sc:Scope)(g:Nat)(md cd:Value):Data:=
 .func { name:=n,qualname:=q,params:=p,body:=.stmts b,scope:=sc,globals:=g,closure:=[],defaults:=.none,kwdefaults:=.none,pyModule:=md,code:=cd }
def enO(P:Params)(k:Str)(t:Nat)(v:Value):DictEntry:={ hash:=PyData.keyHash P k,key:=sv k t,val:=v }
def nq (l:List DictEntry) (e:Nat):Obj:=⟨.type "dict",none,.dict ⟨l⟩ e,⟨[]⟩⟩
def frO (c l:Nat) (md:Value):Obj:=⟨.type "frame",none,.plain,⟨[some (.ref c),some (.ref 3),some (.ref l),none,some md,none,some (.ref 0)]⟩⟩
def bfO (s:String) (v:Value):Obj:=fH (.type "builtin_function_or_method") [.builtin s,v]
def veM:List Value:=[.type "ValueError",.type "Exception",.type "BaseException",.type "object"]
def um (b:Expr):Bool:=match b with |.Name n _=>n==("ValueError":Str) |_=>false
def fnO(q:Str)(a t:Nat)(md:Value)(n:Str)(p:Arguments)(b:List Stmt)(sc:Scope)(ln:Nat):List Obj:=match localNames p sc (.stmts b) with
 |some l=>[ig [],fH .none [],ig (toks (t+3) l.1),ig [],⟨.none,none,fdO n q p b sc 0 .none .none,⟨[]⟩⟩,
   zm n q ln p.args.length 3 a (a+1) true (.ref (a+2)) (.ref (a+3)) (.ref (a+4)) t (t+3+l.1.length),⟨.type "function",none,fdO n q p b sc 3 md (.ref (a+5)),⟨[]⟩⟩]
 |none=>[ig [],fH .none [],⟨.none,none,fdO n q p b sc 0 .none .none,⟨[]⟩⟩,
   zm n q ln p.args.length 3 a (a+1) true .none .none (.ref (a+2)) t (t+3),⟨.type "function",none,fdO n q p b sc 3 md (.ref (a+3)),⟨[]⟩⟩]
def fnA(p:Arguments)(b:List Stmt)(sc:Scope):Nat:=match localNames p sc (.stmts b) with |some _=>7 |none=>5
def fnT(p:Arguments)(b:List Stmt)(sc:Scope):Nat:=match localNames p sc (.stmts b) with |some l=>l.1.length+5 |none=>5
def dot:Str:="."
structure MO where
 os:List Obj
 es:List DictEntry
 cs:List Value
 a:Nat
 t:Nat
def uo(P:Params)(c:Str)(md:Value):List Stmt->Nat->Nat->MO
 |.FunctionDef n p b _ _ _ sc _ _ pos::r,a,t=>
  let m:=uo P c md r (a+fnA p b sc) (t+fnT p b sc+1)
  ⟨fnO (c++dot++n) a t md n p b sc pos.line++m.os,enO P n (t+fnT p b sc) (.ref (a+fnA p b sc - 1))::m.es,ri pos.line::ri pos.col::.ref (a+fnA p b sc - 2)::m.cs,m.a,m.t⟩
 |_::r,a,t=>uo P c md r a t
 |[],a,t=>⟨[],[],[],a,t⟩
def clA(P:Params)(a:Nat)(b:List Stmt):Nat:=(uo P dot .none b (a+7) 0).a+2
def stO(P:Params)(r:Nat)(sub:List Value)(a t:Nat)(md:Value)(s:Stmt):List Obj:=match s with
 |.FunctionDef n p b _ _ _ sc _ _ pos=>fnO n a t md n p b sc pos.line
 |.ClassDef n bs _ body _ _ _ _ _ st pos=>
  let m:=uo P n md body (a+7) (t+12)
  let c:=m.a+2
  let u:=m.t+st.length
  let d1:=[enO P "__module__" (t+7) md]
  let d2:=enO P "__firstlineno__" (t+11) (.int pos.line (t+10))::m.es++[enO P "__static_attributes__" u (.ref m.a)]
  let b:List Value:=match bs with |b::_=>(match um b with |true=>[.type "ValueError"] |false=>[.ref r]) |[]=>[]
  let own:Bool:=match bs with |[]=>true |_=>false
  let ve:Bool:=match bs with |b::_=>um b |[]=>false
  let wr (v:Nat):Obj:=fH (.type "getset_descriptor") [sv "__weakref__" v,.ref c,.builtin "ExceptionGroup.__weakref__",.none]
  let typ (mro:List Value) (sub:List Value) (nw:String):Obj:=
   ⟨.type "type",none,.cls { name:=n,bases:=(match own with |true=>[.type "object"] |false=>b),mro:=.ref c::mro,ns:=m.a+1,qualname:=n,subclasses:=sub },
    ⟨[(match own with |true=>none |false=>some (.ref a)),none,some (sv n t),some (sv n (t+8)),some (.builtin nw),some (.bool true)]⟩⟩
  [ig b,bfO "type.__prepare__" (.type "type"),nq (d1++enO P "__qualname__" (t+9) (sv n (t+8))::d2) (4+m.es.length),ig [],fH .none m.cs,
   zm n n pos.line 0 0 (a+3) (a+4) false .none .none .none (t+2) (t+5),frO (a+5) (a+2) md]++m.os++[ig (toks m.t st)] ++
  (match own with
  |true=>[nq (d1++d2++[enO P "__dict__" (u+2) (.ref (c+1)),enO P "__weakref__" (u+4) (.ref (c+2)),enO P "__doc__" (u+5) .none]) 4,typ [.type "object"] [] "object.__new__",
    fH (.type "getset_descriptor") [sv "__dict__" (u+1),.ref c,.builtin "function.__dict__",.builtin "function.__dict__#set"],wr (u+3)]
  |false=>(match ve with
   |true=>[nq (d1++d2++[enO P "__weakref__" (u+2) (.ref (c+1)),enO P "__doc__" (u+3) .none]) 3,typ veM sub "ValueError.__new__",wr (u+1)]
   |false=>[nq (d1++d2++[enO P "__doc__" (u+1) .none]) 2,typ (.ref r::veM) [] "ValueError.__new__"])) ++
  [fH (.type "super") [.ref c,.ref c,.ref c],bfO "object.__init_subclass__" (.ref c)]
 |_=>[]
def mdO(t:Nat)(md:Value)(s:Stmt):Value:=match s with
 |.Assign [.Name n _] (.Constant (.str x) _ _) _=>(match n==("__name__":Str) with |true=>sv x t |false=>md)
 |_=>md
def enS(P:Params)(lk:Str->Value)(t u a a':Nat)(s:Stmt):List DictEntry:=match s with
 |.Assign [.Name n _] (.Name y _) _=>[enO P n t (lk y)]
 |.FunctionDef n _ _ _ _ _ _ _ _ _=>[enO P n (u-1) (.ref (a'-1))]
 |.ClassDef n _ _ b _ _ _ _ _ _ _=>[enO P n (u-1) (.ref (clA P a b))]
 |.Assign [.Name n _] (.Constant c _ _) _=>(match n==("__name__":Str) with
  |true=>[]
  |false=>[enO P n (t+1) (match c with |.int i=>.int i t |.str x=>sv x t |_=>.none)])
 |_=>[]
def fnS(a':Nat)(s:Stmt):List (Str×Value):=match s with
 |.FunctionDef n _ _ _ _ _ _ _ _ _=>[(n,.ref (a'-1))]
 |_=>[]
def cdS(a a':Nat)(s:Stmt):List Value:=match s with
 |.FunctionDef _ _ _ _ _ _ _ _ _ pos=>[ri pos.line,ri pos.col,.ref (a'-2)]
 |.ClassDef _ _ _ _ _ _ _ _ _ _ pos=>[ri pos.line,ri pos.col,.ref (a+5)]
 |_=>[]
def sbS(P:Params)(a:Nat)(s:Stmt):List Value:=match s with
 |.ClassDef _ bs _ b0 _ _ _ _ _ _ _=>(match bs with |b::_=>(match um b with |true=>[] |false=>[.ref (clA P a b0)]) |[]=>[])
 |_=>[]
def ado(P:Params)(a:Nat)(s:Stmt):List Nat:=match s with
 |.ClassDef _ bs _ b0 _ _ _ _ _ _ _=>(match bs with |b::_=>(match um b with |true=>[clA P a b0] |false=>[]) |[]=>[])
 |_=>[]
def fold{α:Type}(f:Nat->Nat->Nat->Nat->Value->Stmt->List α):List (Nat×Nat)->Value->List Stmt->List α
 | (a,t)::(a',u)::r,md,s::ss=>f a a' t u md s++fold f ((a',u)::r) (mdO t md s) ss
 |_,_,_=>[]
def Jo:List (Nat×Nat)->Value->List Stmt->Value
 | (_,t)::r,md,s::ss=>Jo r (mdO t md s) ss
 |_,md,_=>md
def ik:Value:=sv "__main__" 164
def adp(P:Params)(v:Value):List DictEntry:=
 [enO P "__name__" 165 v,enO P "__doc__" 166 .none,enO P "__package__" 167 .none,enO P "__loader__" 168 (.builtin "__main__.__loader__#opaque"),enO P "__spec__" 169 .none,
  enO P "__annotations__" 170 (.ref 6),enO P "__builtins__" 171 (.ref 4),enO P "__file__" 173 (sv ni 172),enO P "__cached__" 174 .none]
def ents(N:List (Nat×Nat))(b:List Stmt)(P:Params):List DictEntry:=adp P (Jo N ik b)++fold (λa a' t u _ s=>enS P (λy=>((fold (λ_ a' _ _ _ s=>fnS a' s) N ik b).lookup y).getD .none) t u a a' s) N ik b
def put{α:Type}:Nat->α->List α->List α
 |_,_,[]=>[]
 |0,x,_::r=>x::r
 |n+1,x,y::r=>y::put n x r
def Jp(cs:List Value):List Obj:=[ig [],fH .none cs,
 fH (.type "code") [sv "<module>" 182,sv "<module>" 183,sv ni 184,ri 1,ri 0,ri 0,ri 0,ri 0,.ref 11,.bool false,ri 181,.ref 12,.none,.none,.none,.none,ri 185,ri 1,sv ni 186],frO 13 3 ik]
def adq(B:List Obj):List Obj:=B++Jp []
def objs(B:List Obj)(N:List (Nat×Nat))(b:List Stmt)(P:Params):List Obj:=
 let es:=ents N b P
 put 3 (nq es es.length) (B++Jp (fold (λa a' _ _ _ s=>cdS a a' s) N ik b) ++
  fold (λa _ t _ md s=>stO P ((fold (λa _ _ _ _ s=>ado P a s) N ik b).headD 0) (fold (λa _ _ _ _ s=>sbS P a s) N ik b) a t md s) N ik b)
def evs{α:Type}:List α->List α
 |[]=>[]
 |[x]=>[x]
 |x::_::r=>x::evs r
def bt:Nat->List Obj->BT
 |0,_=>.nil
 |_,[]=>.nil
 |n+1,x::r=>.node x (bt n (evs r)) (bt n (evs r.tail))
def nameless(s:Stmt):Bool:=match s with
 |.Assign [.Name n _] _ _=>!(n==("__name__":Str))
 |_=>true
def pick:Nat->List Nat->List Obj->Frag
 |i,a::r,o::os=>(match Nat.beq a i with |true=>(a,o)::pick (i+1) r os |false=>pick (i+1) (a::r) os)
 |_,_,_=>[]
end HD
def PySem.W.Fast.tw8830844307314136993:PySem.Program:=PySem.Challenge.pw_starsieve_k19_whole_trees_and_words
theorem PySem.W.Fast.te8830844307314136993:PySem.Challenge.pw_starsieve_k19_whole_trees_and_words=PySem.W.Fast.tw8830844307314136993:=rfl
namespace HK
open PySem PySem.W PySem.W.Fast
def pw:Program:=PySem.Challenge.pw_starsieve_k19_whole_trees_and_words
def rl:OpenLaw:=PySem.Challenge.rw_starsieve_k19_whole_trees_and_words
def NN:List (Nat×Nat):=[(15,187),(15,189),(28,207),(40,223),(52,239),(64,255),(64,257),(64,259),(71,266),(78,273),(85,281),(90,287),(97,295),(104,303),(109,309),(116,317),(123,326),(130,337),(137,346),(144,353),(144,355),(144,357),(144,359),(144,361),(149,367),(156,375),(161,381),(168,388),(175,396),(182,408),(189,416),(196,424),(196,426),(203,433),(210,442),(217,453),(224,463),(231,474),(236,480),(243,489),(250,498),(255,504),(260,510),(260,512),(265,518),(270,524),(270,526),(277,537),(284,547),(291,554),(298,565),(303,571),(310,579),(317,589),(324,599),(331,611),(336,617),(343,631),(348,637),(353,643),(358,649),(365,660),(372,670),(377,676),(382,682),(389,696)]
def L1(P:Params):List Obj:=HD.objs (boot_heap P).objs.toList NN pw.main.body P
def H1(P:Params):Heap:=⟨⟨L1 P⟩,{}⟩
def T1(P:Params):BT:=HD.bt 12 (L1 P)
def LA(P:Params):List Obj:=HD.adq (boot_heap P).objs.toList
def HA(P:Params):Heap:=⟨⟨LA P⟩,{}⟩
def T0(P:Params):BT:=HD.bt 5 (LA P)
def env:Env:={ scope:=pw.main.scope,locals:=mainNs,globals:=mainNs,cells:=[],code:=.ref 13,frame:=some 14 }
def bE:List Stmt:=behindTheImports pw
def cE:Code:=.body bE env
def p0:Pos:=⟨0,0,0,0⟩
def B:List Frame:=[topFrame p0]
def ann:Option Value:=some (.ref 6)
def qv:Program:={ pw with main:={ pw.main with body:=pw.main.body.filter HD.nameless } }
def as:List Nat:=[3,23,24,36,37,48,49,60,61,69,70,76,77,83,84,88,89,95,96,102,103,107,108,114,115,121,122,128,129,135,136,142,143,147,148,154,155,159,160,166,167,173,174,180,181,187,188,194,195,201,202,208,209,215,216,222,223,229,230,234,235,241,242,248,249,253,254,258,259,263,264,268,269,275,276,282,283,289,290,296,297,301,302,308,309,315,316,322,323,329,330,334,335,341,342,346,347,351,352,356,357,363,364,370,371,375,376,380,381,387,388]
def K(P:Params):Frag:=HD.pick 0 as (L1 P)
def Xt(s:Shared):Bool:=xlAt qv [] s&&recOk (RowW.records rl.row.toRowW) s
def see{α:Type}(_:α):Bool:=true
theorem primed:(see T1&&see T0&&see H1&&see HA&&see cE&&see B&&see env&&see bE&&see qv&&see K&&see Xt)=true:=by k_qdec
theorem pre(w:World)(os:OsState):topGo treeTable pw w 11 ann 12 ⟨boot_heap w.params,⟨[]⟩,boot_drawn,boot_toks,os⟩ (topStub pw)=some (⟨HA w.params,⟨[]⟩,{},187,os⟩,⟨denote treeTable cE,cE,p0,B⟩):=by have _:=primed;rw[PySem.W.Fast.te15667345088766844465,PySem.W.Fast.te14364793385576792824,PySem.W.Fast.te1032975242618825031,PySem.W.Fast.te8093259214132618727,PySem.W.Fast.te1718297227530528222,PySem.W.Fast.te11892475500146522536];rfl'
theorem block(w:World)(os:OsState):segRun treeTable pw w 11 ann 1 2 ⟨HA w.params,⟨[]⟩,{},187,os⟩ (blockOf bE env cE p0 B)=some (.next,SharedT.abs ⟨T0 w.params,15,{},⟨[]⟩,{},187,os⟩,cE,p0):=by rw[PySem.W.Fast.te14374325043358763698,PySem.W.Fast.te14364793385576792824,PySem.W.Fast.te1032975242618825031,PySem.W.Fast.te8093259214132618727,PySem.W.Fast.te1718297227530528222,PySem.W.Fast.te14938417808399470215,PySem.W.Fast.te16330338443398637341,PySem.W.Fast.te10239294469119128424];rfl'
theorem piece(w:World)(os:OsState):segRunT treeTable pw w 11 ann 1 9000 ⟨T0 w.params,15,{},⟨[]⟩,{},187,os⟩ (piecesOf bE env cE p0 B)=some (.next,⟨T1 w.params,389,{},⟨[]⟩,{},696,os⟩,cE,⟨306,0,320,15⟩):=by rw[PySem.W.Fast.te10110043849684766642,PySem.W.Fast.te14364793385576792824,PySem.W.Fast.te1032975242618825031,PySem.W.Fast.te13069687644243786066,PySem.W.Fast.te14938417808399470215,PySem.W.Fast.te1718297227530528222,PySem.W.Fast.te16330338443398637341,PySem.W.Fast.te10239294469119128424];rfl'
theorem fin(w:World)(os:OsState):topRun treeTable pw w 11 ann 3 (SharedT.abs ⟨T1 w.params,389,{},⟨[]⟩,{},696,os⟩) ⟨doneF .next,cE,⟨306,0,320,15⟩,B⟩=some ⟨H1 w.params,⟨[]⟩,{},696,os⟩:=by rw[PySem.W.Fast.te14082659384304107361,PySem.W.Fast.te14364793385576792824,PySem.W.Fast.te1032975242618825031,PySem.W.Fast.te13069687644243786066,PySem.W.Fast.te1718297227530528222,PySem.W.Fast.te14158929756966004236];rfl'
theorem run(w:World)(os:OsState):topRun treeTable pw w 11 ann (12+(2+(9000+3))) ⟨boot_heap w.params,⟨[]⟩,boot_drawn,boot_toks,os⟩ (topStub pw)=some ⟨H1 w.params,⟨[]⟩,{},696,os⟩:=by refine go_top (pre w os) (piece_block (block w os) ?_);have h:=piece_app (rest:=[]) (segRun_of (piece w os)) (piece_nil (fin w os));rw[List.append_nil]at h;exact h
theorem size (w:World):((boot_heap w.params).isNs mainGlobals&&(Array.mk []:Array GenState).size==0,(boot_heap w.params).objs.size,(boot_heap w.params).nsMap mainGlobals "__annotations__")=(true,11,ann):=by rfl'
theorem adt(w:World)(os:OsState):(staticsOk (importedModules pw.main.body) (boot_heap w.params) (H1 w.params)&&namesBound pw (H1 w.params)&&gensDone ⟨H1 w.params,⟨[]⟩,{},696,os⟩&&laidKept (boot_heap w.params) (H1 w.params))=true:=by rw[PySem.W.Fast.te1032975242618825031,PySem.W.Fast.te14158929756966004236,PySem.W.Fast.te5923862056798008813];rfl'
theorem adu(w:World)(os:OsState):openSeen qv [] (importedModules pw.main.body) Xt true ⟨H1 w.params,⟨[]⟩,{},696,os⟩=openGood qv []:=by rw[PySem.W.Fast.te1032975242618825031,PySem.W.Fast.te14158929756966004236,PySem.W.Fast.te5923862056798008813,PySem.W.Fast.te3994408356199485718,PySem.W.Fast.te3154452736318265832,PySem.W.Fast.te4187177175401517315];rfl'
theorem adv(w:World):as.map (H1 w.params).get?=(K w.params).map (λp=>some p.2):=by rw[PySem.W.Fast.te14158929756966004236,PySem.W.Fast.te538113369711794958];rfl'
theorem eAs(P:Params):as=(K P).map (·.1):=by rw[PySem.W.Fast.te538113369711794958];rfl'
def hook:Hook:=kHook K as eAs
theorem left:LeftO pw qv [] Xt hook.obs hook.val 12000:=by refine LeftO.of_pieces (boot_open (by rfl') (by decide) (λs=>by rfl')) size run (by decide) λw=>funext λos=>?_;exact Prod.ext (adt w os) (Prod.ext (adu w os) (adv w))
end HK
namespace Lk19
open PySem PySem.Spec PyProof.Rows L2 RF
open PySem.W (mg_of mg_none_of)
def Z:aj:=λf=>if f="_law_anew" then sE else if f="_law_spread" then sy else if f="_law_take" then dM else if f="_law_signs" then mK else if f="_law_deeds_of" then sJ else if f="_law_form" then yp else if f="_law_wider" then sH else if f="_law_within" then jL else if f="_law_form_like" then sI else if f="_law_book" then sO else if f="how_many" then aM m5 else if f="both" then aM mW else if f="first_touching" then jO else if f="splitting_place" then tH else if f="with_sign" then aM gY else if f="grown" then eU 9 else if f="is_deed" then yF else if f="is_text_of" then sS else if f="is_form" then yE else if f="is_row" then yG else if f="is_whole" then aM iT else if f="is_width" then yH else if f="is_book" then yI else if f="need_book" then gW else if f="stars" then aM eO else if f="laid" then mY else if f="is_named" then aM dR else if f="is_place" then aM gn else if f="leaves" then dB 9 else if f="counts" then iZ else if f="_law_by_deeds" then m9 else if f="_law_open" then yq else if f="_law_boxes" then fB 9 else if f="_law_words" then mO else if f="least" then aM jT else if f="need_row" then tY else if f="reach" then tZ else if f="hidden" then t6 else if f="fits" then aM jM else if f="lies_in" then aM jR else if f="is_met" then tW else if f="is_laid" then tX else if f="is_word" then sU else if f="met" then mR else if f="_law_told_right" then ul else if f="_law_meet" then ue else if f="_law_one_turning" then uf else if f="_law_turned_alike" then sTA else if f="deed_of" then sW else if f="deed" then sX else if f="law" then mL else bj (λ_ _=>False) (λ_ _ _ _=>False)
def Jq:Z "_law_anew"=sE:=by rfl'
def Jr:Z "_law_spread"=sy:=by rfl'
def fJ:Z "_law_take"=dM:=by rfl'
def zp:Z "_law_signs"=mK:=by rfl'
def Js:Z "_law_deeds_of"=sJ:=by rfl'
def Jt:Z "_law_form"=yp:=by rfl'
def Ju:Z "_law_wider"=sH:=by rfl'
def zq:Z "_law_within"=jL:=by rfl'
def Jv:Z "_law_form_like"=sI:=by rfl'
def Jw:Z "_law_book"=sO:=by rfl'
def Jx:Z "how_many"=aM m5:=by rfl'
def Jy:Z "both"=aM mW:=by rfl'
def uq:Z "first_touching"=jO:=by rfl'
def JB:Z "splitting_place"=tH:=by rfl'
def zr:Z "with_sign"=aM gY:=by rfl'
def zu:Z "grown"=eU 9:=by rfl'
def JC:Z "is_deed"=yF:=by rfl'
def zx:Z "is_text_of"=sS:=by rfl'
def JD:Z "is_form"=yE:=by rfl'
def JF:Z "is_row"=yG:=by rfl'
def zy:Z "is_whole"=aM iT:=by rfl'
def JG:Z "is_width"=yH:=by rfl'
def JH:Z "is_book"=yI:=by rfl'
def jW:Z "need_book"=gW:=by rfl'
def ur:Z "stars"=aM eO:=by rfl'
def zz:Z "laid"=mY:=by rfl'
def zA:Z "is_named"=aM dR:=by rfl'
def ut:Z "is_place"=aM gn:=by rfl'
def uv:Z "leaves"=dB 9:=by rfl'
def uw:Z "counts"=iZ:=by rfl'
def JK:Z "_law_by_deeds"=m9:=by rfl'
def JL:Z "_law_open"=yq:=by rfl'
def JM:Z "_law_boxes"=fB 9:=by rfl'
def zB:Z "_law_words"=mO:=by rfl'
def JN:Z "least"=aM jT:=by rfl'
def JP:Z "need_row"=tY:=by rfl'
def JQ:Z "reach"=tZ:=by rfl'
def JR:Z "hidden"=t6:=by rfl'
def zE:Z "fits"=aM jM:=by rfl'
def JS:Z "lies_in"=aM jR:=by rfl'
def JT:Z "is_met"=tW:=by rfl'
def JV:Z "is_laid"=tX:=by rfl'
def JW:Z "is_word"=sU:=by rfl'
def zF:Z "met"=mR:=by rfl'
def JX:Z "_law_told_right"=ul:=by rfl'
def JZ:Z "_law_meet"=ue:=by rfl'
def J0:Z "_law_one_turning"=uf:=by rfl'
def J1:Z "_law_turned_alike"=sTA:=by rfl'
def J2:Z "deed_of"=sW:=by rfl'
def J3:Z "deed"=sX:=by rfl'
def bt:List String:=["all","bool","enumerate","int","isinstance","len","list","min","range","sorted","str","tuple","zip"]
def cn:List (String×D):=[("LETTERS",(.str [97,98,99,100,101,102,103,104,105,106,107,108,109,110,111,112,113,114,115,116,117,118,119,120,121,122])),("LONGEST_DEED",(.int 8)),("MOST_ROWS",(.int 12)),("WIDEST",(.int 6))]
def xs:List (String×Bool):=[("NoBook",true),("NoWord",true),("NoRow",true)]
abbrev CK:=λN s f o b=>aC (aK N (ao s) f bt cn xs o) b (aG s)=true
abbrev BB:=λ(l:PySem.W.OpenLaw) (w:World) (mg:Str->Option Value) (base:Heap) k f o=>Bse Z l.prog w (HK.K w.params) mg base (CX1 l.prog w) k f bt cn xs o
abbrev NQ:=λP (s:Str) (n:Nat)=>PySem.W.nsIn (HK.K P) mainGlobals s=some (some (.ref n))
abbrev BQ:=λP fd ps=>Binds (HK.K P) fd ps []
abbrev LN:Str:="law_starsieve_k19_whole_trees_and_words"
def f0:List (String×Nat):=[]
def f1:=("_law_anew",1)::f0
def f2:=("_law_spread",2)::f1
def f3:=("_law_take",2)::f2
def f4:=("_law_signs",3)::f3
def f5:=("_law_deeds_of",2)::f4
def f6:=("_law_form",2)::f5
def f7:=("_law_wider",2)::f6
def f8:=("_law_within",2)::f7
def f9:=("_law_form_like",3)::f8
def f10:=("_law_book",3)::f9
def f11:=("how_many",1)::f10
def f12:=("both",2)::f11
def f13:=("first_touching",2)::f12
def f14:=("splitting_place",2)::f13
def f15:=("with_sign",3)::f14
def f16:=("grown",3)::f15
def f17:=("is_deed",1)::f16
def f18:=("is_text_of",3)::f17
def f19:=("is_form",2)::f18
def f20:=("is_row",2)::f19
def f21:=("is_whole",1)::f20
def f22:=("is_width",1)::f21
def f23:=("is_book",1)::f22
def f24:=("need_book",1)::f23
def f25:=("stars",1)::f24
def f26:=("laid",1)::f25
def f27:=("is_named",3)::f26
def f28:=("is_place",2)::f27
def f29:=("leaves",2)::f28
def f30:=("counts",1)::f29
def f31:=("_law_by_deeds",1)::f30
def f32:=("_law_open",1)::f31
def f33:=("_law_boxes",2)::f32
def f34:=("_law_words",1)::f33
def f35:=("least",1)::f34
def f36:=("need_row",2)::f35
def f37:=("reach",2)::f36
def f38:=("hidden",1)::f37
def f39:=("fits",2)::f38
def f40:=("lies_in",2)::f39
def f41:=("is_met",3)::f40
def f42:=("is_laid",2)::f41
def f43:=("is_word",2)::f42
def f44:=("met",2)::f43
def f45:=("_law_told_right",1)::f44
def f46:=("_law_meet",2)::f45
def f47:=("_law_one_turning",2)::f46
def f48:=("_law_turned_alike",3)::f47
def f49:=("deed_of",2)::f48
def f50:=("deed",2)::f49
def S(i:Nat):Stmt:=HK.pw.main.body.getD i (.Pass ⟨0,0,0,0⟩)
def nu:Stmt:=S 48
theorem adw:fnB ["pen"] ["pen"] (ao nu)=true:=by ac_rfl
theorem adx:CK ["pen"] nu f0 {} xR:=by ac_rfl
def nA:Stmt:=S 46
theorem ady:fnB ["cell","at","one","two","three"] ["cell","at"] (ao nA)=true:=by ac_rfl
theorem adz:CK ["cell","at","one","two","three"] nA f1 {} xT:=by ac_rfl
def nF:Stmt:=S 49
theorem adA:fnB ["pen","many","at","cell","found"] ["pen","many"] (ao nF)=true:=by ac_rfl
theorem adB:CK ["pen","many","at","cell","found"] nF f2 {} xU:=by ac_rfl
def nG:Stmt:=S 50
theorem adC:fnB ["pen","width","signs"] ["pen","width","signs"] (ao nG)=true:=by ac_rfl
theorem adD:CK ["pen","width","signs"] nG f3 {} xV:=by ac_rfl
def nH:Stmt:=S 55
theorem adE:fnB ["pen","most","some","turn","found","letters"] ["pen","most"] (ao nH)=true:=by ac_rfl
theorem adF:CK ["pen","most","some","turn","found","letters"] nH f4 {} xW:=by ac_rfl
def nJ:Stmt:=S 51
theorem adG:fnB ["pen","width"] ["pen","width"] (ao nJ)=true:=by ac_rfl
theorem adH:CK ["pen","width"] nJ f5 {} xX:=by ac_rfl
def nM:Stmt:=S 53
theorem adI:fnB ["pen","form","found","sign"] ["pen","form"] (ao nM)=true:=by ac_rfl
theorem adJ:CK ["pen","form","found","sign"] nM f6 {} xY:=by ac_rfl
def nO:Stmt:=S 52
theorem adK:fnB ["pen","form","found","sign"] ["pen","form"] (ao nO)=true:=by ac_rfl
theorem adL:CK ["pen","form","found","sign"] nO f7 {} xZ:=by ac_rfl
def nP:Stmt:=S 54
theorem adM:fnB ["pen","width","forms","kind","form","at"] ["pen","width","forms"] (ao nP)=true:=by ac_rfl
theorem adN:CK ["pen","width","forms","kind","form","at"] nP f8 {} yc:=by ac_rfl
def nQ:Stmt:=S 56
theorem adO:fnB ["pen","widest","most","width","deeds","forms","rows","k"] ["pen","widest","most"] (ao nQ)=true:=by ac_rfl
theorem adP:CK ["pen","widest","most","width","deeds","forms","rows","k"] nQ f9 {} yd:=by ac_rfl
def nR:Stmt:=S 17
theorem adQ:fnB ["form","many","sign"] ["form"] (ao nR)=true:=by ac_rfl
theorem adR:CK ["form","many","sign"] nR f10 {} lE:=by ac_rfl
def nT:Stmt:=S 16
theorem adS:fnB ["form","other","shared","one","two"] ["form","other"] (ao nT)=true:=by ac_rfl
theorem adT:CK ["form","other","shared","one","two"] nT f11 {} lF:=by ac_rfl
def nU:Stmt:=S 35
theorem adU:fnB ["rows","box","number","row"] ["rows","box"] (ao nU)=true:=by ac_rfl
theorem adV:CK ["rows","box","number","row"] nU f12 {} lG:=by ac_rfl
def nW:Stmt:=S 36
theorem adW:fnB ["rows","box","number","at","sign"] ["rows","box"] (ao nW)=true:=by ac_rfl
theorem adX:CK ["rows","box","number","at","sign"] nW f13 {} lH:=by ac_rfl
def nY:Stmt:=S 15
theorem adY:fnB ["form","at","sign"] ["form","at","sign"] (ao nY)=true:=by ac_rfl
theorem adZ:CK ["form","at","sign"] nY f14 {} lJ:=by ac_rfl
def nZ:Stmt:=S 37
theorem ad0:fnB ["name","many_rows","box","rows","at","zero","one"] ["name","many_rows","box"] (ao nZ)=true:=by ac_rfl
theorem ad1:CK ["name","many_rows","box","rows","at","zero","one"] nZ f16 {} jJ:=by ac_rfl
def n6:Stmt:=S 23
theorem ad2:fnB ["thing"] ["thing"] (ao n6)=true:=by ac_rfl
theorem ad3:CK ["thing"] n6 f16 {} lK:=by ac_rfl
def oh:Stmt:=S 10
theorem ad4:fnB ["signs","width","thing"] ["signs","width","thing"] (ao oh)=true:=by ac_rfl
theorem ad5:CK ["signs","width","thing"] oh f17 {} lL:=by ac_rfl
def ou:Stmt:=S 12
theorem ad6:fnB ["width","thing"] ["width","thing"] (ao ou)=true:=by ac_rfl
theorem ad7:CK ["width","thing"] ou f18 {} lM:=by ac_rfl
def oA:Stmt:=S 24
theorem ad8:fnB ["width","thing"] ["width","thing"] (ao oA)=true:=by ac_rfl
theorem ad9:CK ["width","thing"] oA f19 {} lN:=by ac_rfl
def oE:Stmt:=S 7
theorem aea:fnB ["thing"] ["thing"] (ao oE)=true:=by ac_rfl
theorem aeb:CK ["thing"] oE f20 {} lO:=by ac_rfl
def oF:Stmt:=S 8
theorem aec:fnB ["thing"] ["thing"] (ao oF)=true:=by ac_rfl
theorem aed:CK ["thing"] oF f21 {} lQ:=by ac_rfl
def oG:Stmt:=S 25
theorem aee:fnB ["thing","width","rows"] ["thing"] (ao oG)=true:=by ac_rfl
theorem aef:CK ["thing","width","rows"] oG f22 {} lR:=by ac_rfl
def oH:Stmt:=S 26
theorem aeg:fnB ["book"] ["book"] (ao oH)=true:=by ac_rfl
theorem aeh:CK ["book"] oH f23 {} lU:=by ac_rfl
def oJ:Stmt:=S 32
theorem aei:fnB ["width"] ["width"] (ao oJ)=true:=by ac_rfl
theorem aej:CK ["width"] oJ f24 {} lV:=by ac_rfl
def oK:Stmt:=S 39
theorem aek:fnB ["book","width","rows"] ["book"] (ao oK)=true:=by ac_rfl
theorem ael:CK ["book","width","rows"] oK f25 {} lW:=by ac_rfl
def oM:Stmt:=S 33
theorem aem:fnB ["name","many","thing"] ["name","many","thing"] (ao oM)=true:=by ac_rfl
theorem aen:CK ["name","many","thing"] oM f26 {} lX:=by ac_rfl
def oN:Stmt:=S 9
theorem aeo:fnB ["many","thing"] ["many","thing"] (ao oN)=true:=by ac_rfl
theorem aep:CK ["many","thing"] oN f27 {} lY:=by ac_rfl
def oO:Stmt:=S 34
theorem aeq:fnB ["box","tree","at","zero","one"] ["box","tree"] (ao oO)=true:=by ac_rfl
theorem aer:CK ["box","tree","at","zero","one"] oO f29 {} iR:=by ac_rfl
def oR:Stmt:=S 41
theorem aes:fnB ["book","tree","width","rows","many","box","leaf","at"] ["book"] (ao oR)=true:=by ac_rfl
theorem aet:CK ["book","tree","width","rows","many","box","leaf","at"] oR f29 {} lZ:=by ac_rfl
def dW:Stmt:=S 63
def oU:Stmt:=S 47
theorem aeu:fnB ["script","cells","k","cell"] ["script"] (ao oU)=true:=by ac_rfl
theorem aev:CK ["script","cells","k","cell"] oU f31 {} ye:=by ac_rfl
def oV:Stmt:=S 61
theorem aew:fnB ["box","tree","at","zero"] ["box","tree"] (ao oV)=true:=by ac_rfl
theorem aex:CK ["box","tree","at","zero"] oV f33 {} su:=by ac_rfl
def oW:Stmt:=S 57
theorem aey:fnB ["form","found","sign","longer","text"] ["form"] (ao oW)=true:=by ac_rfl
theorem aez:CK ["form","found","sign","longer","text"] oW f33 {} yf:=by ac_rfl
def oX:Stmt:=S 18
def oY:Stmt:=S 27
theorem aeA:fnB ["book","number"] ["book","number"] (ao oY)=true:=by ac_rfl
theorem aeB:CK ["book","number"] oY f35 {} mj:=by ac_rfl
def oZ:Stmt:=S 43
theorem aeC:fnB ["book","number","rows","form","tree","free"] ["book","number"] (ao oZ)=true:=by ac_rfl
theorem aeD:CK ["book","number","rows","form","tree","free"] oZ f36 {} mq:=by ac_rfl
def o8:Stmt:=S 44
theorem aeE:fnB ["book"] ["book"] (ao o8)=true:=by ac_rfl
theorem aeF:CK ["book"] o8 f37 {} my:=by ac_rfl
def o9:Stmt:=S 13
theorem aeG:fnB ["form","word"] ["form","word"] (ao o9)=true:=by ac_rfl
theorem aeH:CK ["form","word"] o9 f38 {} mz:=by ac_rfl
def ph:Stmt:=S 14
theorem aeI:fnB ["form","other"] ["form","other"] (ao ph)=true:=by ac_rfl
theorem aeJ:CK ["form","other"] ph f39 {} mC:=by ac_rfl
def pq:Stmt:=S 38
theorem aeK:fnB ["rows","box","number"] ["rows","box","number"] (ao pq)=true:=by ac_rfl
theorem aeL:CK ["rows","box","number"] pq f40 {} mD:=by ac_rfl
def pA:Stmt:=S 40
theorem aeM:fnB ["book","tree","width","rows","found"] ["book","tree"] (ao pA)=true:=by ac_rfl
theorem aeN:CK ["book","tree","width","rows","found"] pA f41 {} mF:=by ac_rfl
def pB:Stmt:=S 11
theorem aeO:fnB ["width","thing"] ["width","thing"] (ao pB)=true:=by ac_rfl
theorem aeP:CK ["width","thing"] pB f42 {} mG:=by ac_rfl
def pC:Stmt:=S 28
theorem aeQ:fnB ["book","word","width","rows","number","row"] ["book","word"] (ao pC)=true:=by ac_rfl
theorem aeR:CK ["book","word","width","rows","number","row"] pC f43 {} mH:=by ac_rfl
def pF:Stmt:=S 62
theorem aeS:fnB ["book","tree","many","box","leaf","at"] ["book"] (ao pF)=true:=by ac_rfl
theorem aeT:CK ["book","tree","many","box","leaf","at"] pF f44 {} yg:=by ac_rfl
def pG:Stmt:=S 58
theorem aeU:fnB ["form","other"] ["form","other"] (ao pG)=true:=by ac_rfl
theorem aeV:CK ["form","other"] pG f45 {} yh:=by ac_rfl
def pH:Stmt:=S 59
theorem aeW:fnB ["pen","rows","at","form","one","stars_v","kind","place","two"] ["pen","rows"] (ao pH)=true:=by ac_rfl
theorem aeX:CK ["pen","rows","at","form","one","stars_v","kind","place","two"] pH f46 {} yj:=by ac_rfl
def pI:Stmt:=S 60
theorem aeY:fnB ["pen","book","times","rows","turn"] ["pen","book","times"] (ao pI)=true:=by ac_rfl
theorem aeZ:CK ["pen","book","times","rows","turn"] pI f47 {} yl:=by ac_rfl
def pJ:Stmt:=S 29
theorem ae0:fnB ["book","number"] ["book","number"] (ao pJ)=true:=by ac_rfl
theorem ae1:CK ["book","number"] pJ f48 {} jK:=by ac_rfl
def pK:Stmt:=S 30
theorem ae2:fnB ["book","word"] ["book","word"] (ao pK)=true:=by ac_rfl
theorem ae3:CK ["book","word"] pK f49 {} mJ:=by ac_rfl
def pL:Stmt:=S 64
theorem ae4:fnB ["script","pen","turn","book","other","last","words","word"] ["script"] (ao pL)=true:=by ac_rfl
theorem ae5:CK ["script","pen","turn","book","other","last","words","word"] pL f50 {} ym:=by ac_rfl
def NB:List Str:=["book","many","found","k","row"]
theorem nB:fnB NB ["book"] (ao dW)=true:=by ac_rfl
theorem gE:(ao dW).names.lookup (Str.ofString "enumerate")=some .globalImplicit:=by ac_rfl
theorem gS:(ao dW).names.lookup (Str.ofString "sorted")=some .globalImplicit:=by ac_rfl
section
variable {Z:aj} {P:Program} {w:World} {K:PF} {mg:Str->Option Value} {base:Heap} {k:Nat} {fs:List (String×Nat)} {bt:List String} {cn:List (String×D)} {xs:List (String×Bool)} {ot:OT}
theorem ae6 {f:Addr} {fd:FuncData} (Fu:Fun K "_law_by_deeds" "_law_by_deeds" dW f fd) (T:Bse Z P w K mg base (CX1 P w) k fs bt cn xs ot)
  (ec:Z "counts"=iZ) (b1:"enumerate"∈bt) (b2:"sorted"∈bt) (hc:bA (aK NB (ao dW) fs bt cn xs ot) x1B ((aG dW).headD (.Pass ⟨0,0,0,0⟩))=true):FnOk P w K mg base (CX1 P w) (k+1) f fd ["book"] (lift K 1 m9):=by
 refine Fu.okX (xK nB) (λvs H Q E h=>h.1) λcdv A outer s H vs Q EX hr hsp=>?_;obtain ⟨hl,F,G,ds,r,rs',a,h1,h2,h3⟩:=hsp;have St:Stat Z (CX1 P w) k (aK NB (ao dW) fs bt cn xs ot) noE ⟨H,F⟩ (di (CX1 P w) P w K mg base NB "_law_by_deeds" (ao dW) f cdv A outer s H EX).nox:=Gz T nB hr;have hu:=Rk St.room;have nd:=St.nd;refine ⟨_,PSs.nox (jX (Gy St x1B hc) (jX (uD (i:=2) nd rfl (Or.inr rfl) S9) (jX
  (Ac St.own rfl (ac6 (St.glo _ gE) (St.blt _ b1) (eY (jg pX (pv 0) il (λ_ _=>rfl)) iu)) (z6 rfl (uC (pO (i:=3) nd rfl (Or.inl rfl)) (uC (pO (i:=4) nd rfl (Or.inl rfl)) zZ)))
   (zW (Ck hu (pv 2) (jg pX (pv 4) il (λ_ _=>rfl)) (Ad Af (pY PySem.F.plainAttrs_dict PySem.F.slot_dict_get PySem.F.type_dict_get Tu (pv 2) (eY (jg pX (pv 4) il (λ_ _=>rfl)) (eY il iu))) (jg uG (pv 1) (pv 3) (λ_ _=>rfl))) rfl))) (jX
  (Ck hu (pv 2) zT (jg uG (pv 1) (Ae Ag il) (λ_ _=>rfl)) rfl) (zW
  (zY (j5 TQ (St.glo _ gS) (St.blt _ b2) ac4 (eY (RZ ["one","found"] [none,some 2] rfl (TJ (pv 2)) ⟨⟨rfl,rfl⟩,trivial⟩ rfl rfl rfl rfl (λ_=>rfl)) iu)))))))),?_⟩
 obtain ⟨⟨w',rs⟩,G0⟩:=a;obtain ⟨e1,hds,hb⟩:=h1;dsimp only at e1 hds hb;subst e1 hds;have hlen:=hb.len;refine ⟨env0 [aA w' rs] 4,F,_,Ext.refl _ _,by unfold L2.start;rw[show NB.length - vs.length=4 by rw[hl];rfl];exact EnvR.start 4 rs',r,ac7 Z ec hb λq G1 g1 g2 sa H1 F1 σ1 x1 he1 r1=>?_⟩;obtain ⟨u0,τ,rfl,hu0,u1,τ,rfl,hu1,u2,τ,rfl,-,u3,τ,rfl,-,u4,τ,rfl,-,he⟩:=he1;cases he;obtain ⟨v0,rfl,rv0⟩:=hu0 _ rfl;obtain ⟨v1,rfl,rv1⟩:=hu1 _ rfl;cases rv1;obtain ⟨b0,vs0,rfl,⟨ht0⟩,vw,t0,rfl,rvw,vr,t1,rfl,rvr,hnil⟩:=rv0;cases hnil;obtain ⟨b1',vs1,rfl,⟨ht1⟩,rrs⟩:=rvr;intro p hp;have c0:Co K H1 H1 F1 G1 p:=⟨r1,Ext.refl _ _,hp⟩;have tup:∀{Hc:Hp}{o:HO}{b:Addr}{ys:List V},Hc p=none->Hc b=some (.tup ys)->upd Hc p o b=some (.tup ys):=λhn h=>by rw[aH (aU h hn)];exact h
 have lst:∀{Hc:Hp}{o:HO}{b:Addr}{ys:List V},Hc p=none->Hc b=some (.lst ys)->upd Hc p o b=some (.lst ys):=λhn h=>by rw[aH (aU h hn)];exact h
 have rl:(rs.map aq).length=vs1.length:=rrs.length;rw[List.length_map]at rl;refine ⟨_,rfl,b0,_,1,_,rfl,rfl,SqT.of (tup hp ht0),bf (j:=1) rfl,b1',vs1,rfl,tup hp ht1,?_⟩;refine Ro (n:=rs.length) (λi Y H=>∃u3 u4 Hc,Y=[some (.ref b0),some (.ref q),some (.ref p),u3,u4]/\H=upd Hc p (.dK ((byU rs (λk=>(bx w' rs k:Int)) i).map bK))/\Co K H1 Hc F1 G1 p) ⟨_,_,H1,rfl,rfl,c0⟩ ?_ ?_ ?_ ?_
 ·rintro i Y H hi ⟨u3,u4,Hc,rfl,rfl,c⟩;exact ⟨vs1,tup c.n (c.x.tups _ _ ht1),by omega⟩
 ·rintro Y H ⟨u3,u4,Hc,rfl,rfl,c⟩;exact ⟨vs1,tup c.n (c.x.tups _ _ ht1),by omega⟩
 ·rintro i Y H x H' hi ⟨u3,u4,Hc,rfl,rfl,c⟩ ⟨T',y,hT,rfl,rfl,hy⟩;have hTp:T'≠p:=by
   rintro rfl;rw[bD]at hT;cases hT
  have hTc:Hc T'=none:=by rw[aH hTp]at hT;exact hT
  obtain ⟨row,hrow⟩:∃row,rs[i]?=some row:=⟨rs[i],List.getElem?_eq_getElem hi⟩;obtain ⟨y',hy1,ry⟩:=rrs.get (i:=i) (d:=aq row) (by rw[List.getElem?_map,hrow];rfl);have ey:=hy vs1 (tup c.n (c.x.tups _ _ ht1));rw[hy1]at ey;cases ey;obtain ⟨b2,vs2,rfl,⟨ht2⟩,z1,t1,rfl,rz1,z2,t2,rfl,rz2,hn2⟩:=ry;cases hn2;obtain ⟨rfl,_⟩:=rz1;obtain ⟨rfl,_⟩:=rz2;rw[Jb hTp];have c':Co K H1 (upd Hc T' (.tup [.int i,.ref b2])) F1 G1 p:=c.new hTc hTp;have h2':=c'.x.tups _ _ ht2;obtain ⟨ms,hm,rm⟩:=c'.r.lst g2;obtain ⟨z,hz1,hz2⟩:=rm.get (i:=i) (d:=.int (bx w' rs i:Int)) (by unfold cN;rw[gr (by omega)];rfl);cases hz2;refine ⟨T',_,rfl,SqT.of (tup c'.n bD),rfl,_,_,rfl,_,_,rfl,rfl,?_⟩;refine ⟨_,rfl,.inr (.inr (.inl ⟨rfl,.inl ⟨_,bD⟩⟩)),_,rfl,b2,_,1,_,rfl,rfl,SqT.of (tup c'.n h2'),bf (j:=1) rfl,p,_,Sum.inr (tx row.2),.int 0,rfl,rfl,bD,?_⟩;refine ⟨_,rfl,_,rfl,q,ms,i,_,rfl,rfl,SqL.of (lst c'.n hm),bf hz1,_,_,zb _ _,rfl,?_⟩;refine ⟨_,rfl,_,rfl,b2,_,1,_,rfl,rfl,SqT.of (tup c'.n h2'),bf (j:=1) rfl,p,_,rfl,DPut.k (k:=Sum.inr (tx row.2)) bD (by rw[List.length_map];have:=ug rs (λk=>(bx w' rs k:Int)) i;rw[sizeLine_eq];omega),?_⟩;rw[uA,zc];refine ⟨_,_,_,rfl,?_,c'⟩;rw[IW hrow]
 ·rintro Y H ⟨u3,u4,Hc,rfl,rfl,c⟩;obtain ⟨ms,hm,rm⟩:=c.r.lst g2;have hml:ms.length=rs.length+1:=by rw[<-rm.length];unfold cN;rw[iY]
  obtain ⟨z,hz1,hz2⟩:=rm.get (i:=rs.length) (d:=.int (bx w' rs rs.length:Int)) (by unfold cN;rw[gr (by omega)];rfl);cases hz2;have ed:(Str.ofString "-":Str)=tx [45]:=by ac_rfl
  have dp:DPut (upd Hc p (.dK ((byU rs (λk=>(bx w' rs k:Int)) rs.length).map bK))) p (.str (Str.ofString "-")) (.int (bx w' rs rs.length:Int)) (upd Hc p (.dK ((byF w' rs).map bK))):=by have:=DPut.k (H:=upd Hc p (.dK ((byU rs (λk=>(bx w' rs k:Int)) rs.length).map bK))) (a:=p) (k:=Sum.inr (tx [45])) (v:=.int (bx w' rs rs.length:Int)) bD (by rw[List.length_map];have:=ug rs (λk=>(bx w' rs k:Int)) rs.length;rw[sizeLine_eq];omega);rw[uA,zc]at this;rw[ed];exact this
  refine ⟨_,rfl,1,rfl,q,ms,-1,_,rfl,rfl,SqL.of (lst c.n hm),Jc hml hz1,?_⟩;refine ⟨_,rfl,p,_,rfl,dp,?_⟩;refine ⟨_,rfl,p,_,rfl,bD,λo=>?_⟩;rw[uA];have hfl:=ac9 w' rs;refine ⟨λi m ys σ' H'=>m=(byF w' rs).length - i/\i<=(byF w' rs).length/\∃u bs Hc,σ'=[u,some (.ref p)]/\H'=upd Hc p (.frz o (.dK ((byF w' rs).map bK)))/\Co K H1 Hc F1 G1 p/\ys=bs.map V.ref/\TB Hc bs (((byF w' rs).take i).filter λp=>decide (0 < p.2)),⟨_,rfl,Nat.zero_le _,_,[],Hc,rfl,rfl,c,rfl,⟨rfl,λ_ _ _ h=>by simp at h⟩⟩,?_⟩;rintro i m ys σ' H' ⟨rfl,hi,u,bs,Hc',rfl,rfl,c',rfl,tb⟩;have hbl:bs.length<=rs.length+1:=by rw[tb.1];exact Nat.le_trans (List.length_filter_le _ _) (by rw[List.length_take];omega)
  by_cases hlt:i < (byF w' rs).length
  ·refine .inr ⟨⟨bD,by rw[List.length_map];exact hlt⟩,by rw[List.length_map,sizeLine_eq];omega,λcl C s₁ H₁ fp pn=>⟨jZ 0,_,_,pO (i:=0) (show ((["one","found"]:List Str)).Nodup by ac_rfl) rfl (Or.inl rfl),Br (Aj P0 (Cj hu (pv 1) (pv 0) (λ_ _=>rfl)) il (Qd _)),An (eY (pv 0) (eY (Cj hu (pv 1) (pv 0) (λ_ _=>rfl)) iu)),?_⟩⟩;rintro x H2 ⟨rfl,kv,hkv,rfl⟩;rw[List.getElem?_map]at hkv;obtain ⟨pr,hpr,rfl⟩:=Option.map_eq_some_iff.mp hkv;have dg:qg (upd Hc' p (.frz o (.dK ((byF w' rs).map bK)))) p (kV (bK pr).1) (some (.int pr.2)):=.inl ⟨_,_,.inr ⟨o,bD⟩,rfl,(ada hpr).symm⟩;have htk:(byF w' rs).take (i+1)=(byF w' rs).take i++[pr]:=by rw[List.take_add_one,hpr];rfl
   refine ⟨_,rfl,_,rfl,p,_,rfl,dg,_,_,rfl,rfl,_,rfl,?_⟩;by_cases hpos:0 < pr.2
   ·rw[decide_eq_true hpos];refine Rn ⟨_,rfl,_,rfl,_,rfl,p,_,rfl,dg,by show 2<=sizeLine;decide,λT' hT=>⟨_,?_,rfl,hlt,?_⟩⟩
    ·omega
    ·have hTp:T'≠p:=by
      rintro rfl;rw[bD]at hT;cases hT
     have hTc:Hc' T'=none:=by rw[aH hTp]at hT;exact hT
     refine ⟨_,bs++[T'],_,rfl,Jb hTp,c'.new hTc hTp,by rw[List.map_append];rfl,?_⟩;rw[htk,List.filter_append,List.filter_cons_of_pos (by simpa using hpos),List.filter_nil];exact tb.new hTc
   ·rw[decide_eq_false hpos];refine Rm ⟨_,?_,rfl,hlt,_,bs,Hc',rfl,rfl,c',rfl,?_⟩
    ·omega
    ·rw[htk,List.filter_append,List.filter_cons_of_neg (by simpa using hpos),List.filter_nil,List.append_nil];exact tb
  ·have ei:i=(byF w' rs).length:=by omega
   refine .inl ⟨⟨bD,by rw[List.length_map];exact ei⟩,by rw[List.length_map,sizeLine_eq];omega,λD hD=>?_⟩;rw[ei,List.take_length]at tb;have tb:TB Hc' bs (byP w' rs):=tb;have hDp:D≠p:=by rintro rfl;rw[bD]at hD;cases hD
   have hDc:Hc' D=none:=by rw[aH hDp]at hD;exact hD
   have r2:R K (upd Hc' p (.frz o (.dK ((byF w' rs).map bK)))) F1 G1:=c'.r.new c'.n;have x2:Ext H1 F1 (upd Hc' p (.frz o (.dK ((byF w' rs).map bK)))) F1:=c'.x.trans (dm c'.r c'.n);have r3:=r2.new (o:=.lst (bs.map V.ref)) hD;have x3:=x2.trans (dm (o:=.lst (bs.map V.ref)) r2 hD);have hpl:(byP w' rs).length<=13:=Nat.le_trans (List.length_filter_le _ _) (by omega);have tb3:TB (upd (upd Hc' p (.frz o (.dK ((byF w' rs).map bK)))) D (.lst (bs.map V.ref))) bs (byP w' rs):=⟨tb.1,λj b k hb hk=>by
    have h:=tb.2 j b k hb hk;rw[aH (aU h hDc)];exact tup c'.n h⟩
   refine ⟨D,bs,(byP w' rs).map λp=>(tx p.1,p.2),rfl,SqL.of bD,by rw[List.length_map];exact tb.1,λj b k hb hk=>?_,?_,by rw[List.length_map];omega,λps hps hpw l hl'=>?_⟩
   ·rw[List.getElem?_map]at hk;obtain ⟨k',hk',rfl⟩:=Option.map_eq_some_iff.mp hk;exact tb3.2 j b k' hb hk'
   ·rw[List.map_map];have:((byP w' rs).map (·.1)).Nodup:=(uh w' rs).sublist (List.Sublist.map _ List.filter_sublist);have e:(byP w' rs).map ((·.1)∘λp:List Nat×Int=>(tx p.1,p.2))=((byP w' rs).map (·.1)).map tx:=by rw[List.map_map];rfl
    rw[e];exact List.Pairwise.map _ (λa b hab z=>hab (iw z)) this
   ·rw[List.length_map]at hps;have tb4:TB (upd (upd (upd Hc' p (.frz o (.dK ((byF w' rs).map bK)))) D (.lst (bs.map V.ref))) l (.lst (ps.map λi=>V.ref (bs.getD i 0)))) bs (byP w' rs):=⟨tb3.1,λj b k hb hk=>by
     have h:=tb3.2 j b k hb hk;rw[aH (aU h hl')];exact h⟩
    refine h2 (byD (ps.map λi=>(byP w' rs).getD i ([],0))) G1 ⟨sa,_,rfl,?_,ade hps hpw⟩ _ _ _ (x1.trans (x3.trans (qj r3 hl'))) (r3.newF hl') ?_
    ·have:=hps.map λi=>(byP w' rs).getD i ([],0);rw[adc]at this;exact this
    ·refine ⟨l,_,rfl,⟨.inr rfl,bD⟩,tb4.reps (λk hk=>?_) ps λi hi=>by have:=hps.mem_iff.mp hi;simpa using this⟩;rcases ac8 (List.mem_filter.mp hk).1 with e |⟨r,hr,e⟩
     ·rw[e];decide
     ·rw[e];exact Nat.le_trans (hb.deed r hr).2.1 (by decide)
end
theorem ae7:bA (aK NB (ao dW) f30 bt cn xs {}) x1B ((aG dW).headD (.Pass ⟨0,0,0,0⟩))=true:=by ac_rfl
theorem J4:(Str.ofString "0":Str)=tx [48]:=by ac_rfl
theorem ae8:(Str.ofString "*":Str)=tx [42]:=by ac_rfl
theorem ae9:FnScope ["form"] ["form"] (ao oX):=⟨rfl,rfl,rfl,by ac_rfl,rfl,by ac_rfl,by ac_rfl⟩
def afa:Sp:=λvs H Q _=>∃l:List Nat,vs=[.str (tx l)]/\l.length<=1000/\Q (.str (tx (cJ l))) H
theorem afb {P:Program} {w:World} {K:PF} {mg:Str->Option Value} {base:Heap} {f:Addr} {fd:FuncData} (F:Fun K "least" "least" oX f fd):FnOk P w K mg base CX0 1 f fd ["form"] afa:=by
 refine F.ok1 ae9 rfl (by ac_rfl) (λ_=>rfl) (λvs H Q E h=>?_) (λcdv A outer s H vs Q E hr h=>?_)
 ·obtain ⟨l,rfl,_⟩:=h;rfl
 ·obtain ⟨l,rfl,hl,q⟩:=h;refine ⟨_,RD (RJ (pv 0) (by ac_rfl)),?_⟩;refine ⟨_,rfl,_,rfl,?_,?_⟩
  ·rw[J4,bW,bW];simp;omega
  ·rw[ae8,J4,RG];exact q
theorem afc {P:Program} {w:World} {K:PF} {mg:Str->Option Value} {base:Heap} {f:Addr} {fd:FuncData} (F:Fun K "least" "least" oX f fd):FnOk P w K mg base CX0 1 f fd ["form"] (lift K 1 (aM jT)):=by
 refine (afb F).imp λvs H Q E h=>?_;obtain ⟨e0,Fz,G,ds,r,t,⟨ds',G'⟩,⟨e1,e2⟩,e3,e4⟩:=h;cases e1;obtain ⟨d,hd⟩:=Option.isSome_iff_exists.mp e2;have hd2:=hd;unfold jT at hd;split at hd
 ·rename_i l;split at hd
  ·rename_i hl;cases hd;obtain ⟨v,rfl,rv⟩:=bY t;obtain ⟨rfl,_⟩:=rv;have hl':l.length<=1000:=of_decide_eq_true hl;exact ⟨l,rfl,hl',(e3 _ _ ⟨rfl,hd2⟩).now r ⟨rfl,by unfold cJ;rw[List.length_map];exact Nat.le_trans hl' (by decide)⟩⟩
  ·cases hd
 ·cases hd
def fdM(n:Str)(st:Stmt)(m:Str)(t c:Nat):FuncData:=PySem.W.fnOf n n (j6 st) (aG st) (ao st) .none .none .none (.str m t) none (.ref c) .none
theorem mkF {K:PF} {n m:Str} {st:Stmt} {a t c:Nat}(l:K.lookup a=some ⟨.type "function",none,.func (fdM n st m t c),⟨[]⟩⟩:=by rfl')(h1:PySem.W.codeIn K (.ref c) n=true:=by eq_refl)(h2:PySem.W.keepIn K (.ref a)=true:=by eq_refl):Fun K n n st a (fdM n st m t c):=Rj l h1 h2
theorem tK:type_of% @PySem.W.Fast.te538113369711794958:=PySem.W.Fast.te538113369711794958
local macro_rules|`(tactic|ac_nf)=>`(tactic|(intro _ _ _ _ _ _ us hl;first|(obtain ⟨_,h⟩:=cG hl;subst h;rfl)|(obtain ⟨_,_,h⟩:=bC hl;subst h;rfl)|(obtain ⟨_,_,_,h⟩:=fZ hl;subst h;rfl)))
local macro_rules|`(tactic|eq_refl)=>`(tactic|(first|rw[tK]|(unfold NQ;rw[tK]));rfl')
section
variable {P:Params}
def J5:FuncData:=fdM "_law_anew" nu LN 524 289
theorem J6:Fun (HK.K P) "_law_anew" "_law_anew" nu 290 J5:=mkF
theorem afd:NQ P "_law_anew" 290:=by eq_refl
theorem afe:BQ P J5 ["pen"]:=J6.binds (by ac_nf)
def J7:FuncData:=fdM "_law_spread" nA LN 524 275
theorem J8:Fun (HK.K P) "_law_spread" "_law_spread" nA 276 J7:=mkF
theorem afg:NQ P "_law_spread" 276:=by eq_refl
theorem afh:BQ P J7 ["cell","at"]:=J8.binds (by ac_nf)
def J9:FuncData:=fdM "_law_take" nF LN 524 296
theorem Ka:Fun (HK.K P) "_law_take" "_law_take" nF 297 J9:=mkF
theorem afi:NQ P "_law_take" 297:=by eq_refl
theorem afj:BQ P J9 ["pen","many"]:=Ka.binds (by ac_nf)
def Kc:FuncData:=fdM "_law_signs" nG LN 524 301
theorem Kd:Fun (HK.K P) "_law_signs" "_law_signs" nG 302 Kc:=mkF
theorem afk:NQ P "_law_signs" 302:=by eq_refl
theorem afl:BQ P Kc ["pen","width","signs"]:=Kd.binds (by ac_nf)
def Ke:FuncData:=fdM "_law_deeds_of" nH LN 524 334
theorem Kf:Fun (HK.K P) "_law_deeds_of" "_law_deeds_of" nH 335 Ke:=mkF
theorem afm:NQ P "_law_deeds_of" 335:=by eq_refl
theorem afn:BQ P Ke ["pen","most"]:=Kf.binds (by ac_nf)
def Kg:FuncData:=fdM "_law_form" nJ LN 524 308
theorem Kh:Fun (HK.K P) "_law_form" "_law_form" nJ 309 Kg:=mkF
theorem afo:NQ P "_law_form" 309:=by eq_refl
theorem afp:BQ P Kg ["pen","width"]:=Kh.binds (by ac_nf)
def Kl:FuncData:=fdM "_law_wider" nM LN 524 322
theorem Km:Fun (HK.K P) "_law_wider" "_law_wider" nM 323 Kl:=mkF
theorem afq:NQ P "_law_wider" 323:=by eq_refl
theorem afr:BQ P Kl ["pen","form"]:=Km.binds (by ac_nf)
def Ko:FuncData:=fdM "_law_within" nO LN 524 315
theorem Kp:Fun (HK.K P) "_law_within" "_law_within" nO 316 Ko:=mkF
theorem afs:NQ P "_law_within" 316:=by eq_refl
theorem aft:BQ P Ko ["pen","form"]:=Kp.binds (by ac_nf)
def Kq:FuncData:=fdM "_law_form_like" nP LN 524 329
theorem Kr:Fun (HK.K P) "_law_form_like" "_law_form_like" nP 330 Kq:=mkF
theorem afu:NQ P "_law_form_like" 330:=by eq_refl
theorem afv:BQ P Kq ["pen","width","forms"]:=Kr.binds (by ac_nf)
def Ks:FuncData:=fdM "_law_book" nQ LN 524 341
theorem Ku:Fun (HK.K P) "_law_book" "_law_book" nQ 342 Ks:=mkF
theorem afw:NQ P "_law_book" 342:=by eq_refl
theorem afx:BQ P Ks ["pen","widest","most"]:=Ku.binds (by ac_nf)
def Kv:FuncData:=fdM "how_many" nR "starsieve.forms" 255 135
theorem Kw:Fun (HK.K P) "how_many" "how_many" nR 136 Kv:=mkF
theorem afy:NQ P "how_many" 136:=by eq_refl
theorem lE:BQ P Kv ["form"]:=Kw.binds (by ac_nf)
def Ky:FuncData:=fdM "both" nT "starsieve.forms" 255 128
theorem Kz:Fun (HK.K P) "both" "both" nT 129 Ky:=mkF
theorem afz:NQ P "both" 129:=by eq_refl
theorem lF:BQ P Ky ["form","other"]:=Kz.binds (by ac_nf)
def KC:FuncData:=fdM "first_touching" nU "starsieve.laid" 424 222
theorem KD:Fun (HK.K P) "first_touching" "first_touching" nU 223 KC:=mkF
theorem afA:NQ P "first_touching" 223:=by eq_refl
theorem lG:BQ P KC ["rows","box"]:=KD.binds (by ac_nf)
def KH:FuncData:=fdM "splitting_place" nW "starsieve.laid" 424 229
theorem KJ:Fun (HK.K P) "splitting_place" "splitting_place" nW 230 KH:=mkF
theorem afB:NQ P "splitting_place" 230:=by eq_refl
theorem lH:BQ P KH ["rows","box"]:=KJ.binds (by ac_nf)
def KN:FuncData:=fdM "with_sign" nY "starsieve.forms" 255 121
theorem KQ:Fun (HK.K P) "with_sign" "with_sign" nY 122 KN:=mkF
theorem afC:NQ P "with_sign" 122:=by eq_refl
theorem lJ:BQ P KN ["form","at","sign"]:=KQ.binds (by ac_nf)
def zG:FuncData:=fdM "grown" nZ "starsieve.laid" 424 234
theorem ux:Fun (HK.K P) "grown" "grown" nZ 235 zG:=mkF
theorem KR:NQ P "grown" 235:=by eq_refl
theorem jJ:BQ P zG ["name","many_rows","box"]:=ux.binds (by ac_nf)
def KY:FuncData:=fdM "is_deed" n6 "starsieve.books" 353 147
theorem KZ:Fun (HK.K P) "is_deed" "is_deed" n6 148 KY:=mkF
theorem afD:NQ P "is_deed" 148:=by eq_refl
theorem lK:BQ P KY ["thing"]:=KZ.binds (by ac_nf)
def K1:FuncData:=fdM "is_text_of" oh "starsieve.forms" 255 88
theorem K3:Fun (HK.K P) "is_text_of" "is_text_of" oh 89 K1:=mkF
theorem afE:NQ P "is_text_of" 89:=by eq_refl
theorem lL:BQ P K1 ["signs","width","thing"]:=K3.binds (by ac_nf)
def K4:FuncData:=fdM "is_form" ou "starsieve.forms" 255 102
theorem K5:Fun (HK.K P) "is_form" "is_form" ou 103 K4:=mkF
theorem afF:NQ P "is_form" 103:=by eq_refl
theorem lM:BQ P K4 ["width","thing"]:=K5.binds (by ac_nf)
def K6:FuncData:=fdM "is_row" oA "starsieve.books" 353 154
theorem K7:Fun (HK.K P) "is_row" "is_row" oA 155 K6:=mkF
theorem afG:NQ P "is_row" 155:=by eq_refl
theorem lN:BQ P K6 ["width","thing"]:=K7.binds (by ac_nf)
def K8:FuncData:=fdM "is_whole" oE "starsieve.forms" 255 69
theorem K9:Fun (HK.K P) "is_whole" "is_whole" oE 70 K8:=mkF
theorem afH:NQ P "is_whole" 70:=by eq_refl
theorem lO:BQ P K8 ["thing"]:=K9.binds (by ac_nf)
def La:FuncData:=fdM "is_width" oF "starsieve.forms" 255 76
theorem Lb:Fun (HK.K P) "is_width" "is_width" oF 77 La:=mkF
theorem afI:NQ P "is_width" 77:=by eq_refl
theorem lQ:BQ P La ["thing"]:=Lb.binds (by ac_nf)
def Ld:FuncData:=fdM "is_book" oG "starsieve.books" 353 159
theorem Lg:Fun (HK.K P) "is_book" "is_book" oG 160 Ld:=mkF
theorem afJ:NQ P "is_book" 160:=by eq_refl
theorem lR:BQ P Ld ["thing"]:=Lg.binds (by ac_nf)
def Lh:FuncData:=fdM "need_book" oH "starsieve.books" 353 166
theorem Li:Fun (HK.K P) "need_book" "need_book" oH 167 Lh:=mkF
theorem afK:NQ P "need_book" 167:=by eq_refl
theorem lU:BQ P Lh ["book"]:=Li.binds (by ac_nf)
def Lj:FuncData:=fdM "stars" oJ "starsieve.laid" 424 201
theorem Lk:Fun (HK.K P) "stars" "stars" oJ 202 Lj:=mkF
theorem afL:NQ P "stars" 202:=by eq_refl
theorem lV:BQ P Lj ["width"]:=Lk.binds (by ac_nf)
def Ln:FuncData:=fdM "laid" oK "starsieve.laid" 424 248
theorem Lp:Fun (HK.K P) "laid" "laid" oK 249 Ln:=mkF
theorem afM:NQ P "laid" 249:=by eq_refl
theorem lW:BQ P Ln ["book"]:=Lp.binds (by ac_nf)
def Lq:FuncData:=fdM "is_named" oM "starsieve.laid" 424 208
theorem Lr:Fun (HK.K P) "is_named" "is_named" oM 209 Lq:=mkF
theorem afN:NQ P "is_named" 209:=by eq_refl
theorem lX:BQ P Lq ["name","many","thing"]:=Lr.binds (by ac_nf)
def Ls:FuncData:=fdM "is_place" oN "starsieve.forms" 255 83
theorem Lw:Fun (HK.K P) "is_place" "is_place" oN 84 Ls:=mkF
theorem afO:NQ P "is_place" 84:=by eq_refl
theorem lY:BQ P Ls ["many","thing"]:=Lw.binds (by ac_nf)
def zH:FuncData:=fdM "leaves" oO "starsieve.laid" 424 215
theorem uy:Fun (HK.K P) "leaves" "leaves" oO 216 zH:=mkF
theorem Lx:NQ P "leaves" 216:=by eq_refl
theorem iR:BQ P zH ["box","tree"]:=uy.binds (by ac_nf)
def Ly:FuncData:=fdM "counts" oR "starsieve.laid" 424 258
theorem Lz:Fun (HK.K P) "counts" "counts" oR 259 Ly:=mkF
theorem afP:NQ P "counts" 259:=by eq_refl
theorem lZ:BQ P Ly ["book"]:=Lz.binds (by ac_nf)
def LC:FuncData:=fdM "_law_by_deeds" dW LN 524 380
theorem zJ:Fun (HK.K P) "_law_by_deeds" "_law_by_deeds" dW 381 LC:=mkF
theorem afQ:NQ P "_law_by_deeds" 381:=by eq_refl
theorem afR:BQ P LC ["book"]:=zJ.binds (by ac_nf)
def LK:FuncData:=fdM "_law_open" oU LN 524 282
theorem LQ:Fun (HK.K P) "_law_open" "_law_open" oU 283 LK:=mkF
theorem afS:NQ P "_law_open" 283:=by eq_refl
theorem afT:BQ P LK ["script"]:=LQ.binds (by ac_nf)
def zK:FuncData:=fdM "_law_boxes" oV LN 524 370
theorem uz:Fun (HK.K P) "_law_boxes" "_law_boxes" oV 371 zK:=mkF
theorem LR:NQ P "_law_boxes" 371:=by eq_refl
theorem Ma:BQ P zK ["box","tree"]:=uz.binds (by ac_nf)
def Mg:FuncData:=fdM "_law_words" oW LN 524 346
theorem Mh:Fun (HK.K P) "_law_words" "_law_words" oW 347 Mg:=mkF
theorem afU:NQ P "_law_words" 347:=by eq_refl
theorem afV:BQ P Mg ["form"]:=Mh.binds (by ac_nf)
def Mi:FuncData:=fdM "least" oX "starsieve.forms" 255 142
theorem zL:Fun (HK.K P) "least" "least" oX 143 Mi:=mkF
theorem afW:NQ P "least" 143:=by eq_refl
theorem afX:BQ P Mi ["form"]:=zL.binds (by ac_nf)
def Mj:FuncData:=fdM "need_row" oY "starsieve.books" 353 173
theorem Ml:Fun (HK.K P) "need_row" "need_row" oY 174 Mj:=mkF
theorem afY:NQ P "need_row" 174:=by eq_refl
theorem mj:BQ P Mj ["book","number"]:=Ml.binds (by ac_nf)
def Mm:FuncData:=fdM "reach" oZ "starsieve.reached" 510 263
theorem Mp:Fun (HK.K P) "reach" "reach" oZ 264 Mm:=mkF
theorem afZ:NQ P "reach" 264:=by eq_refl
theorem mq:BQ P Mm ["book","number"]:=Mp.binds (by ac_nf)
def Mq:FuncData:=fdM "hidden" o8 "starsieve.reached" 510 268
theorem Mr:Fun (HK.K P) "hidden" "hidden" o8 269 Mq:=mkF
theorem af0:NQ P "hidden" 269:=by eq_refl
theorem my:BQ P Mq ["book"]:=Mr.binds (by ac_nf)
def Ms:FuncData:=fdM "fits" o9 "starsieve.forms" 255 107
theorem Mt:Fun (HK.K P) "fits" "fits" o9 108 Ms:=mkF
theorem af1:NQ P "fits" 108:=by eq_refl
theorem mz:BQ P Ms ["form","word"]:=Mt.binds (by ac_nf)
def Mu:FuncData:=fdM "lies_in" ph "starsieve.forms" 255 114
theorem Mv:Fun (HK.K P) "lies_in" "lies_in" ph 115 Mu:=mkF
theorem af2:NQ P "lies_in" 115:=by eq_refl
theorem mC:BQ P Mu ["form","other"]:=Mv.binds (by ac_nf)
def Mw:FuncData:=fdM "is_met" pq "starsieve.laid" 424 241
theorem Mx:Fun (HK.K P) "is_met" "is_met" pq 242 Mw:=mkF
theorem af3:NQ P "is_met" 242:=by eq_refl
theorem mD:BQ P Mw ["rows","box","number"]:=Mx.binds (by ac_nf)
def My:FuncData:=fdM "is_laid" pA "starsieve.laid" 424 253
theorem Mz:Fun (HK.K P) "is_laid" "is_laid" pA 254 My:=mkF
theorem af4:NQ P "is_laid" 254:=by eq_refl
theorem mF:BQ P My ["book","tree"]:=Mz.binds (by ac_nf)
def MF:FuncData:=fdM "is_word" pB "starsieve.forms" 255 95
theorem MJ:Fun (HK.K P) "is_word" "is_word" pB 96 MF:=mkF
theorem af5:NQ P "is_word" 96:=by eq_refl
theorem mG:BQ P MF ["width","thing"]:=MJ.binds (by ac_nf)
def MK:FuncData:=fdM "met" pC "starsieve.books" 353 180
theorem MN:Fun (HK.K P) "met" "met" pC 181 MK:=mkF
theorem af6:NQ P "met" 181:=by eq_refl
theorem mH:BQ P MK ["book","word"]:=MN.binds (by ac_nf)
def MP:FuncData:=fdM "_law_told_right" pF LN 524 375
theorem MT:Fun (HK.K P) "_law_told_right" "_law_told_right" pF 376 MP:=mkF
theorem af7:NQ P "_law_told_right" 376:=by eq_refl
theorem af8:BQ P MP ["book"]:=MT.binds (by ac_nf)
def M3:FuncData:=fdM "_law_meet" pG LN 524 351
theorem M4:Fun (HK.K P) "_law_meet" "_law_meet" pG 352 M3:=mkF
theorem af9:NQ P "_law_meet" 352:=by eq_refl
theorem aga:BQ P M3 ["form","other"]:=M4.binds (by ac_nf)
def M5:FuncData:=fdM "_law_one_turning" pH LN 524 356
theorem M6:Fun (HK.K P) "_law_one_turning" "_law_one_turning" pH 357 M5:=mkF
theorem agb:NQ P "_law_one_turning" 357:=by eq_refl
theorem agc:BQ P M5 ["pen","rows"]:=M6.binds (by ac_nf)
def M7:FuncData:=fdM "_law_turned_alike" pI LN 524 363
theorem M8:Fun (HK.K P) "_law_turned_alike" "_law_turned_alike" pI 364 M7:=mkF
theorem agd:NQ P "_law_turned_alike" 364:=by eq_refl
theorem age:BQ P M7 ["pen","book","times"]:=M8.binds (by ac_nf)
def M9:FuncData:=fdM "deed_of" pJ "starsieve.books" 353 187
theorem Nb:Fun (HK.K P) "deed_of" "deed_of" pJ 188 M9:=mkF
theorem agf:NQ P "deed_of" 188:=by eq_refl
theorem jK:BQ P M9 ["book","number"]:=Nb.binds (by ac_nf)
def Nf:FuncData:=fdM "deed" pK "starsieve.books" 353 194
theorem Ng:Fun (HK.K P) "deed" "deed" pK 195 Nf:=mkF
theorem agg:NQ P "deed" 195:=by eq_refl
theorem mJ:BQ P Nf ["book","word"]:=Ng.binds (by ac_nf)
def zM:FuncData:=fdM "law" pL LN 524 387
theorem agh:Fun (HK.K P) "law" "law" pL 388 zM:=mkF
theorem agi:NQ P "law" 388:=by eq_refl
theorem agj:PySem.W.nsIn (HK.K P) mainGlobals "all"=some none:=by eq_refl
theorem agk:PySem.W.nsIn (HK.K P) mainGlobals "bool"=some none:=by eq_refl
theorem agl:PySem.W.nsIn (HK.K P) mainGlobals "enumerate"=some none:=by eq_refl
theorem agm:PySem.W.nsIn (HK.K P) mainGlobals "int"=some none:=by eq_refl
theorem agn:PySem.W.nsIn (HK.K P) mainGlobals "isinstance"=some none:=by eq_refl
theorem ago:PySem.W.nsIn (HK.K P) mainGlobals "len"=some none:=by eq_refl
theorem agp:PySem.W.nsIn (HK.K P) mainGlobals "list"=some none:=by eq_refl
theorem agq:PySem.W.nsIn (HK.K P) mainGlobals "min"=some none:=by eq_refl
theorem agr:PySem.W.nsIn (HK.K P) mainGlobals "range"=some none:=by eq_refl
theorem ags:PySem.W.nsIn (HK.K P) mainGlobals "sorted"=some none:=by eq_refl
theorem agt:PySem.W.nsIn (HK.K P) mainGlobals "str"=some none:=by eq_refl
theorem agu:PySem.W.nsIn (HK.K P) mainGlobals "tuple"=some none:=by eq_refl
theorem agv:PySem.W.nsIn (HK.K P) mainGlobals "zip"=some none:=by eq_refl
theorem agw:PySem.W.nsIn (HK.K P) mainGlobals "LETTERS"=some (some (.str "abcdefghijklmnopqrstuvwxyz" 359)):=by eq_refl
theorem agx:PySem.W.nsIn (HK.K P) mainGlobals "LONGEST_DEED"=some (some (.int 8 357)):=by eq_refl
theorem agy:PySem.W.nsIn (HK.K P) mainGlobals "MOST_ROWS"=some (some (.int 12 355)):=by eq_refl
theorem agz:PySem.W.nsIn (HK.K P) mainGlobals "WIDEST"=some (some (.int 6 257)):=by eq_refl
theorem x_s:xsB (HK.K P) xs=true:=by eq_refl
end
section
variable {l:PySem.W.OpenLaw} {w:World} {h:Heap} {mg:Str->Option Value} {base:Heap} (X:(HK.K w.params).In h) (G:h.Ns mainGlobals mg)
include X G
theorem B0:BB l w mg base 0 f0 {}:=bse trivial ⟨mg_none_of X G agj,mg_none_of X G agk,mg_none_of X G agl,mg_none_of X G agm,mg_none_of X G agn,mg_none_of X G ago,mg_none_of X G agp,mg_none_of X G agq,mg_none_of X G agr,mg_none_of X G ags,mg_none_of X G agt,mg_none_of X G agu,mg_none_of X G agv,trivial⟩ ⟨aaQ (mg_of X G agw) (by ac_rfl) (by decide),xP (mg_of X G agx),xP (mg_of X G agy),xP (mg_of X G agz),trivial⟩ X G x_s
theorem B1:BB l w mg base 1 f1 {}:=(B0 X G).step J6 afe (mg_of X G afd) Jq 0 adw adx rfl rfl (bQ (λds G h=>aaU Z  ds G h))
theorem B2:BB l w mg base 2 f2 {}:=(B1 X G).step J8 afh (mg_of X G afg) Jr 3 ady adz rfl rfl (bQ (λds G h=>aaT Z  ds G h))
theorem B3:BB l w mg base 3 f3 {}:=(B2 X G).step Ka afj (mg_of X G afi) fJ 3 adA adB rfl rfl (bQ (λds G h=>aaV Z Jr ds G h))
theorem B4:BB l w mg base 4 f4 {}:=(B3 X G).step Kd afl (mg_of X G afk) zp 0 adC adD rfl rfl (bQ (λds G h=>aaY Z fJ ds G h))
theorem B5:BB l w mg base 5 f5 {}:=(B4 X G).step Kf afn (mg_of X G afm) Js 4 adE adF rfl rfl (bQ (λds G h=>abg Z fJ zp ds G h))
theorem B6:BB l w mg base 6 f6 {}:=(B5 X G).step Kh afp (mg_of X G afo) Jt 0 adG adH rfl rfl (bQ (λds G h=>aaZ Z fJ zp ds G h))
theorem B7:BB l w mg base 7 f7 {}:=(B6 X G).step Km afr (mg_of X G afq) Ju 2 adI adJ rfl rfl (bQ (λds G h=>aa7 Z fJ ds G h))
theorem B8:BB l w mg base 8 f8 {}:=(B7 X G).step Kp aft (mg_of X G afs) zq 2 adK adL rfl rfl (bQ (λds G h=>aa6 Z fJ ds G h))
theorem B9:BB l w mg base 9 f9 {}:=(B8 X G).step Kr afv (mg_of X G afu) Jv 3 adM adN rfl rfl (bQ (λds G h=>abd Z fJ Jt zq Ju ds G h))
theorem B10:BB l w mg base 10 f10 {}:=(B9 X G).step Ku afx (mg_of X G afw) Jw 5 adO adP rfl rfl (bQ (λds G h=>abj Z fJ Js Jv ds G h))
theorem B11:BB l w mg base 11 f11 {}:=(B10 X G).step Kw lE (mg_of X G afy) Jx 2 adQ adR rfl rfl (fY (λds G d h=>acb Z  ds G d h))
theorem B12:BB l w mg base 12 f12 {}:=(B11 X G).step Kz lF (mg_of X G afz) Jy 3 adS adT rfl rfl (fY (λds G d h=>abM Z  ds G d h))
theorem B13:BB l w mg base 13 f13 {}:=(B12 X G).step KD lG (mg_of X G afA) uq 2 adU adV rfl rfl (bQ (λds G h=>abS Z Jy ds G h))
theorem B14:BB l w mg base 14 f14 {}:=(B13 X G).step KJ lH (mg_of X G afB) JB 3 adW adX rfl rfl (bQ (λds G h=>abV Z uq ds G h))
theorem B15:BB l w mg base 15 f15 {}:=(B14 X G).step KQ lJ (mg_of X G afC) zr 0 adY adZ rfl rfl (fY (λds G d h=>abN Z  ds G d h))
theorem Nh:∀n:Nat,FnOk l.prog w (HK.K w.params) mg base (CX1 l.prog w) (15+n) 235 zG ["name","many_rows","box"] (lift (HK.K w.params) 3 (eU n))
 |0=>xQ ab0
 |n+1=>lC (fs:=f16) ux ((B15 X G).self (by ac_rfl) (Nh n) ux.kp jJ (mg_of X G KR)) (eU (n+1)) 3 4 ad0 ad1 rfl rfl (bQ (λds G h=>abZ (gR Z "grown" (eU n)) n (if_pos rfl) (jH uq rfl) (jH JB rfl) (jH zr rfl) ds G h))
theorem B16:BB l w mg base 24 f16 {}:=(B15 X G).add (j:=9) zu (Nh X G 9) ux.kp jJ (mg_of X G KR)
theorem B17:BB l w mg base 25 f17 {}:=(B16 X G).step KZ lK (mg_of X G afD) JC 0 ad2 ad3 rfl rfl (c7 (λa G h=>abw Z  a G h))
theorem B18:BB l w mg base 26 f18 {}:=(B17 X G).step K3 lL (mg_of X G afE) zx 0 ad4 ad5 rfl rfl (c7 (λa G h=>abr Z  a G h))
theorem B19:BB l w mg base 27 f19 {}:=(B18 X G).step K5 lM (mg_of X G afF) JD 0 ad6 ad7 rfl rfl (c7 (λa G h=>abv Z zx a G h))
theorem B20:BB l w mg base 28 f20 {}:=(B19 X G).step K7 lN (mg_of X G afG) JF 0 ad8 ad9 rfl rfl (c7 (λa G h=>abx Z JD JC a G h))
theorem B21:BB l w mg base 29 f21 {}:=(B20 X G).step K9 lO (mg_of X G afH) zy 0 aea aeb rfl rfl (fY (λds G d h=>aa1 Z  ds G d h))
theorem B22:BB l w mg base 30 f22 {}:=(B21 X G).step Lb lQ (mg_of X G afI) JG 0 aec aed rfl rfl (c7 (λa G h=>aby Z zy a G h))
theorem B23:BB l w mg base 31 f23 {}:=(B22 X G).step Lg lR (mg_of X G afJ) JH 2 aee aef rfl rfl (c7 (λa G h=>abz Z JG JF a G h))
theorem B24:BB l w mg base 32 f24 {}:=(B23 X G).step Li lU (mg_of X G afK) jW 0 aeg aeh rfl rfl (c7 (λa G h=>abA Z JH a G h))
theorem B25:BB l w mg base 33 f25 {}:=(B24 X G).step Lk lV (mg_of X G afL) ur 0 aei aej rfl rfl (fY (λds G d h=>abO Z  ds G d h))
theorem B26:BB l w mg base 34 f26 {}:=(B25 X G).step Lp lW (mg_of X G afM) zz 2 aek ael rfl rfl (bQ (λds G h=>ab2 Z jW zu ur ds G h))
theorem B27:BB l w mg base 35 f27 {}:=(B26 X G).step Lr lX (mg_of X G afN) zA 0 aem aen rfl rfl (fY (λds G d h=>ab8 Z  ds G d h))
theorem B28:BB l w mg base 36 f28 {}:=(B27 X G).step Lw lY (mg_of X G afO) ut 0 aeo aep rfl rfl (fY (λds G d h=>ab6 Z zy ds G d h))
theorem Ni:∀n:Nat,FnOk l.prog w (HK.K w.params) mg base (CX1 l.prog w) (36+n) 216 zH ["box","tree"] (lift (HK.K w.params) 2 (dB n))
 |0=>xQ acd
 |n+1=>lC (fs:=f29) uy ((B28 X G).self (by ac_rfl) (Ni n) uy.kp iR (mg_of X G Lx)) (dB (n+1)) 2 3 aeq aer rfl rfl (c7 (λa G h=>acf (gR Z "leaves" (dB n)) n (if_pos rfl) (jH zA rfl) (jH ut rfl) (jH zr rfl) a G h))
theorem B29:BB l w mg base 45 f29 {}:=(B28 X G).add (j:=9) uv (Ni X G 9) uy.kp iR (mg_of X G Lx)
theorem B30:BB l w mg base 46 f30 {}:=(B29 X G).step Lz lZ (mg_of X G afP) uw 7 aes aet rfl rfl (iQ (λa ds G h=>acp Z zz uv ur Jx a ds G h))
theorem B31:BB l w mg base 47 f31 {}:=(B30 X G).add (j:=1) JK (ae6 zJ (B30 X G) uw (by decide) (by decide) ae7) zJ.kp afR (mg_of X G afQ)
theorem B32:BB l w mg base 48 f32 {}:=(B31 X G).step LQ afT (mg_of X G afS) JL 3 aeu aev rfl rfl (bQ (λds G h=>aa0 Z  ds G h))
theorem Nj:∀n:Nat,FnOk l.prog w (HK.K w.params) mg base (CX1 l.prog w) (48+n) 371 zK ["box","tree"] (lift (HK.K w.params) 2 (fB n))
 |0=>xQ ab5
 |n+1=>lC (fs:=f33) uz ((B32 X G).self (by ac_rfl) (Nj n) uz.kp Ma (mg_of X G LR)) (fB (n+1)) 2 2 aew aex rfl rfl (c7 (λa G h=>ab4 (gR Z "_law_boxes" (fB n)) n (if_pos rfl)  a G h))
theorem B33:BB l w mg base 57 f33 {}:=(B32 X G).add (j:=9) JM (Nj X G 9) uz.kp Ma (mg_of X G LR)
theorem B34:BB l w mg base 58 f34 {}:=(B33 X G).step Mh afV (mg_of X G afU) zB 4 aey aez rfl rfl (bQ (λds G h=>abo Z  ds G h))
theorem B35:BB l w mg base 59 f35 {}:=(B34 X G).add (j:=1) JN ((afc zL).cx.mono (by decide)) zL.kp afX (mg_of X G afW)
theorem B36:BB l w mg base 60 f36 {}:=(B35 X G).step Ml mj (mg_of X G afY) JP 0 aeA aeB rfl rfl (c7 (λa G h=>acG Z jW ut a G h))
theorem B37:BB l w mg base 61 f37 {}:=(B36 X G).step Mp mq (mg_of X G afZ) JQ 4 aeC aeD rfl rfl (iQ (λa ds G h=>acJ Z JP zu uv JN a ds G h))
theorem B38:BB l w mg base 62 f38 {}:=(B37 X G).step Mr my (mg_of X G af0) JR 0 aeE aeF rfl rfl (iQ (λa ds G h=>acN Z jW JQ a ds G h))
theorem B39:BB l w mg base 63 f39 {}:=(B38 X G).step Mt mz (mg_of X G af1) zE 0 aeG aeH rfl rfl (fY (λds G d h=>abC Z  ds G d h))
theorem B40:BB l w mg base 64 f40 {}:=(B39 X G).step Mv mC (mg_of X G af2) JS 0 aeI aeJ rfl rfl (fY (λds G d h=>acn Z zE ds G d h))
theorem B41:BB l w mg base 65 f41 {}:=(B40 X G).step Mx mD (mg_of X G af3) JT 0 aeK aeL rfl rfl (c7 (λa G h=>acs Z uq ut JS a G h))
theorem B42:BB l w mg base 66 f42 {}:=(B41 X G).step Mz mF (mg_of X G af4) JV 3 aeM aeN rfl rfl (c7 (λa G h=>acx Z jW uv ur zA JT a G h))
theorem B43:BB l w mg base 67 f43 {}:=(B42 X G).step MJ mG (mg_of X G af5) JW 0 aeO aeP rfl rfl (c7 (λa G h=>abt Z zx a G h))
theorem B44:BB l w mg base 68 f44 {}:=(B43 X G).step MN mH (mg_of X G af6) zF 4 aeQ aeR rfl rfl (bQ (λds G h=>abD Z jW JW zE ds G h))
theorem B45:BB l w mg base 69 f45 {}:=(B44 X G).step MT af8 (mg_of X G af7) JX 5 aeS aeT rfl rfl (iQ (λa ds G h=>adh Z zz JV JM zB zF uw JR a ds G h))
theorem B46:BB l w mg base 70 f46 {}:=(B45 X G).step M4 aga (mg_of X G af9) JZ 0 aeU aeV rfl rfl (c7 (λa G h=>acX Z  a G h))
theorem B47:BB l w mg base 71 f47 {}:=(B46 X G).step M6 agc (mg_of X G agb) J0 7 aeW aeX rfl rfl (iQ (λa ds G h=>ac1 Z fJ zq JZ a ds G h))
theorem B48:BB l w mg base 72 f48 {}:=(B47 X G).step M8 age (mg_of X G agd) J1 2 aeY aeZ rfl rfl (iQ (λa ds G h=>ac3 Z J0 a ds G h))
theorem B49:BB l w mg base 73 f49 {}:=(B48 X G).step Nb jK (mg_of X G agf) J2 0 ae0 ae1 rfl rfl (bQ (λds G h=>abG Z  ds G h))
theorem B50:BB l w mg base 74 f50 {}:=(B49 X G).step Ng mJ (mg_of X G agg) J3 0 ae2 ae3 rfl rfl (bQ (λds G h=>abH Z J2 zF ds G h))
theorem agA:FnOk l.prog w (HK.K w.params) mg base (CX1 l.prog w) 75 388 zM ["script"] (lift (HK.K w.params) 1 (mL)):=lC agh (B50 X G) (mL) 1 7 ae4 ae5 rfl rfl (bQ (λds G h=>adn Z ⟨JL,Jq,fJ,Jw,J1,JX,uw,JK,zB,J3⟩ ds G h))
omit X G in
theorem all (fa:Addr) (X:(HK.K w.params).In h) (G:h.Ns mainGlobals mg) (hfa:mg "law"=some (.ref fa)):∃fd:FuncData,(∀(s:Shared) (v:Value),BindsTo s fd ⟨[v],[]⟩ [("script",v)])/\∀base:Heap,(HK.K w.params).In base->base.Ns mainGlobals mg->FnOk l.prog w (HK.K w.params) mg base (CX1 l.prog w) 75 fa fd ["script"] (lift (HK.K w.params) 1 (mL)):=by have e:=hfa.symm.trans (PySem.W.mg_of X G agi);cases e;exact ⟨zM,λs v=>.of_eq rfl,λbase _ _=>agA X G⟩
end
theorem walk {l:PySem.W.OpenLaw} {q:Program} {loose:List Str} {XP:(Str->Option Value)->Heap->Prop} {d:DefRec} (hn:l.most=some 63) (hdf:d.params.defaults=[]) (hdn:d.name="law"):
  PySem.W.WalkO q loose XP HK.hook.says l.row.toRowW d [] (λf vs=>PySem.call f vs):=
 L2.Ri (n:=63) (k:=75) (x:="script") (K:=HK.K) (CX:=λw=>CX1 l.prog w) (sp:=λw=>lift (HK.K w.params) 1 (mL)) hn (by decide) hdf ⟨rfl,by decide,by decide⟩ (λ_ _ Y=>Y) (λw mg fa h X G hmg=>all fa X G (hdn ▸ hmg)) (λw H a ns hl hO hS=>aaR (aaS λns _ hl=>⟨ns,rfl,hl⟩) (HK.K w.params) H a ns hl hO hS) λ_ _ _ _ _ z=>W8 z
end Lk19
end
open PySem PySem.W PyProof.Rows
set_option maxHeartbeats 0 in
theorem PySem.Challenge.cw_starsieve_k19_whole_trees_and_words_holds : PySem.Challenge.rw_starsieve_k19_whole_trees_and_words.Holds := by
 have said:PySem.Challenge.rw_starsieve_k19_whole_trees_and_words.row.wellSaid=true:=by decide +kernel
 refine ⟨by decide +kernel,?_⟩;refine PySem.W.holds_open (q:=HK.qv) (loose:=[]) (Xt:=HK.Xt) (XP:=XL HK.qv []) (Yf:=HK.hook.obs) (Ya:=HK.hook.val) (YP:=HK.hook.says) (N:=12000) HK.left HK.hook.of HK.hook.keeps
  (λs e=>xl_of s (Bool.and_eq_true_iff.mp e).1) XL.keeps (by rfl) (by rfl) (by rfl) (λs e=>recFacts_of (Bool.and_eq_true_iff.mp e).2) (by rfl) (by assumption) (by decide +kernel) ⟨rfl,rfl,rfl,rfl,rfl,by decide +kernel⟩ ?hw ?hc
 case hw=>exact ⟨[.list []],by decide +kernel,by decide +kernel⟩
 exact Lk19.walk rfl rfl rfl
