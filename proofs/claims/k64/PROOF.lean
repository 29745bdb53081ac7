import PyProof.Rows.All
import Wide.All
import OpenK.AllK
import Wide.FinOn
import Lean
import PyProof.EqAt
import PyProof.EqKinds
import PyProof.TupleCall
import PyProof.NeKinds
import PyProof.FactsAll.range_2
import PyProof.FactsAll.tuple_2
import PyProof.FactsAll.tuple
import PyProof.ListRange
import PySem.Challenge.RW_starsieve_k64_whole_gone_back
set_option Elab.async false
set_option maxRecDepth 100000
noncomputable section
local macro_rules|`(tactic|rfl')=>`(tactic|kernel_rfl)
local macro_rules|`(tactic|ac_rfl)=>`(tactic|decide +kernel)
abbrev PF:=PySem.W.Frag
set_option Elab.async false
set_option linter.all false
set_option maxRecDepth 100000
namespace L2
open PySem PySem.Spec PyProof.Rows
def ae:=@Bool.and_eq_true
def af:=@And.intro
def ag:=@List.length_map
def ah:=@PySem.wpAny_bind
def al:=@PySem.Heap.get?_push_of_some
def am:=@List.size_toArray
def ar:=@List.getElem?_eq_some_iff
def av:=@List.length_append
def aw:=@beq_iff_eq
def ax:=@Nat.le_refl
def ay:=@List.mem_singleton
def aE:=@PySem.Heap.lt_size
def aI:=@Option.some.injEq
def aS:=@Option.map_eq_some_iff
def aT:=@List.contains_iff_mem
def a7:=@List.mem_append
def a8:=@List.mem_append_right
def a9:=@List.mem_cons
def ba:=@List.mem_map
def bb:=@PySem.Heap.get?_push_size
def bg:=@List.getElem?_eq_getElem
def bi:=@List.mem_cons_of_mem
def bn:=@PySem.wpAny_pure
def bo:=@Bool.false_ne_true
def bp:=@List.getElem?_map
def bq:=@List.map_cons
def br:=@Nat.le_trans
def bv:=@decide_eq_true_iff
def bP:=@Nat.lt_of_lt_of_le
def bS:=@List.mem_cons_self
def bX:=@List.length_take
theorem b6:type_of% @List.length_singleton:=@List.length_singleton
def b9:=@decide_eq_true
def ca:=@List.drop_eq_getElem_cons
theorem cb:type_of% @List.replicate_succ:=@List.replicate_succ
def ce:=@List.mem_of_getElem?
def cf:=@List.length_drop
def ci:=@List.all_eq_true
theorem ck:type_of% @List.length_cons:=@List.length_cons
def cm:=@List.map_append
def cp:=@Nat.le_add_right
def cq:=@decide_eq_false
def cr:=@Nat.ne_of_lt
def cw:=@List.length_replicate
def cy:=@beq_eq_false_iff_ne
def cK:=@List.mem_append_left
def cS:=@Option.isSome_iff_exists
def c5:=@PySem.wpAny_mono
def c6:=@Int.eq_ofNat_of_zero_le
def c8:=@of_decide_eq_true
def c9:=@List.cons.injEq
def dc:=@Bool.or_eq_true
theorem de:type_of% @Int.toNat_natCast:=@Int.toNat_natCast
def df:=@List.length_eq_zero_iff
def dk:=@Option.some.inj
def dn:=@List.getElem_mem
def dr:=@PySem.W.kia_one
def dv:=@List.mem_filter
def dy:=@List.append_nil
def dA:=@PySem.wpAny_field
def dE:=@PySem.F.plainAttrs_list
def dL:=@PySem.Heap.size_push
theorem dP:type_of% @Array.length_toList:=@Array.length_toList
def dQ:=@List.map_nil
def dS:=@Bool.not_eq_true'
def d3:=@PySem.mem_of_lookup
def d4:=@List.length_set
def d5:=@Nat.min_le_right
def d6:=@Nat.lt_irrefl
def eg:=@Nat.zero_le
def eh:=@List.dropLast_concat_getLast
def ej:=@List.take_of_length_le
def et:=@PySem.wpAny_truthy_bool
def ez:=@List.isEmpty_iff
def eA:=@List.getD_eq_getElem?_getD
def eD:=@Option.isNone_iff_eq_none
def eI:=@List.getElem?_append_left
def eJ:=@PySem.wpAny_setField_rec
def eK:=@PySem.wpAny_seqItems
def eL:=@List.map_map
theorem eM:type_of% @List.flatten_cons:=@List.flatten_cons
def eP:=@PyProof.Rows.slot_tuple_getitem
def eS:=@List.drop_length
def eT:=@PySem.wpAny_holding
def eW:=@List.findIdx?_cons
def e6:=@List.filter_eq_nil_iff
def e7:=@List.filter_append
def e8:=@Int.emod_lt_of_pos
def e9:=@PySem.wpAny_callSpecial?_slot
def fb:=@congrArg
def fe:=@List.nodup_cons
def ff:=@Int.emod_nonneg
def fg:=@Bool.eq_iff_iff
def fh:=@Bool.and_true
def fi:=@Array.getElem?_toList
def fk:=@PyProof.Rows.callWith_type1
def fm:=@List.take_add_one
def fo:=@PySem.call_meets
def fq:=@PySem.wpAny_passesOwn
def ft:=@PySem.wpAny_execs_nil
def fv:=@and_true
def fw:=@List.getElem?_append_right
def fy:=@List.dropLast_concat
def fA:=@Array.getElem?_eq_some_iff
theorem fE:type_of% @List.filterMap_cons:=@List.filterMap_cons
def fF:=@List.length_pos_iff
def fI:=@PySem.F.slot_tuple_iterator_next
def fN:=@Nat.le_succ
def fR:=@List.findIdx?_eq_some_iff_getElem
def fS:=@bne_self_eq_false
def fT:=@Nat.ne_of_gt
def gg:=@PySem.sizeLine_eq
def gi:=@PySem.W.methodCall_KW
def gl:=@List.cons_lt_cons_iff
def gp:=@Nat.lt_succ_self
def gs:=@List.take_length
def gt:=@PySem.wpAny_execs_cons
def gu:=@PySem.wpAny_call_entry
abbrev Key:=Sum Int Str
def Bx:Key->Value->Bool
 |.inl k,v=>Value.isInt k v
 |.inr x,v=>Value.isStrOf x v
def Vn(w:World):Key->Int
 |.inl k=>hashInt k
 |.inr x=>hashStr w x
theorem fV:∀{k:Key}{v:Value},Bx k v=true->(∃i t,k=Sum.inl i/\v=Value.int i t)\/(∃x t,k=Sum.inr x/\v=Value.str x t)
 |.inl i,v,h=>by
  obtain ⟨t,e⟩:=Value.isInt_shape (k:=i) (v:=v) h;exact .inl ⟨i,t,rfl,e⟩
 |.inr x,v,h=>by
  obtain ⟨t,e⟩:=Value.isStrOf_shape (x:=x) (v:=v) h;exact .inr ⟨x,t,rfl,e⟩
theorem Vo(a b:Int):decide ((Sum.inl a:Key)=Sum.inl b)=(a==b):=by
 by_cases e:a=b
 ·subst e;simp
 ·have h:¬(Sum.inl a:Key)=Sum.inl b:=λq=>e (Sum.inl.inj q);rw[cq h];exact (cy.mpr e).symm
theorem Vp(a b:Str):decide ((Sum.inr a:Key)=Sum.inr b)=decide (a=b):=by
 by_cases e:a=b
 ·subst e;simp
 ·have h:¬(Sum.inr a:Key)=Sum.inr b:=λq=>e (Sum.inr.inj q);rw[cq h,cq e]
theorem Vq(a:Int)(b:Str):decide ((Sum.inl a:Key)=Sum.inr b)=false:=cq (λq=>nomatch q)
theorem Vr(a:Str)(b:Int):decide ((Sum.inr a:Key)=Sum.inl b)=false:=cq (λq=>nomatch q)
def v6(prog:Program)(w:World):PySem.KeyKind prog w Key where
 is:=Bx
 hash:=Vn w
 inj:=λv a b ha hb=>by
  rcases fV ha with ⟨i,t,rfl,rfl⟩ |⟨x,t,rfl,rfl⟩
  ·rcases fV hb with ⟨j,u,rfl,e⟩ |⟨y,u,rfl,e⟩
   ·injection e with e1 _;rw[e1]
   ·exact nomatch e
  ·rcases fV hb with ⟨j,u,rfl,e⟩ |⟨y,u,rfl,e⟩
   ·exact nomatch e
   ·injection e with e1 _;rw[e1]
 byValue:=λk v h=>by
  rcases fV h with ⟨i,t,rfl,rfl⟩ |⟨x,t,rfl,rfl⟩ <;> rfl
 pyHash:=λhv h=>by
  rcases fV hv with ⟨i,t,rfl,rfl⟩ |⟨x,t,rfl,rfl⟩
  ·exact wpAny_pyHash_int h
  ·exact wpAny_pyHash_str h
 eqBool:=λhu hv h=>by
  rcases fV hu with ⟨i,t,rfl,rfl⟩ |⟨x,t,rfl,rfl⟩
  ·rcases fV hv with ⟨j,u,rfl,rfl⟩ |⟨y,u,rfl,rfl⟩
   ·rw[Vo]at h;exact wpAny_eqBool_int h
   ·rw[Vq]at h;exact SeqAt.EqAt.int_str i t y u _ _ _ _ h
  ·rcases fV hv with ⟨j,u,rfl,rfl⟩ |⟨y,u,rfl,rfl⟩
   ·rw[Vr]at h;exact SeqAt.EqAt.str_int x t j u _ _ _ _ h
   ·rw[Vp]at h;exact wpAny_eqBool_str h
 «strs»:=λk x t v h=>by
  rcases fV h with ⟨i,u,rfl,e⟩ |⟨y,u,rfl,e⟩
  ·exact nomatch e
  ·injection e with e1 _;subst e1;cases v <;> rfl
inductive V where
 |non |bl (b:Bool) |int (i:Int) |str (x:Str) |byt (b:Array UInt8) |flt (b:UInt64) |ref (a:Addr) |ty (n:String)
 deriving DecidableEq
def RelV:V->Value->Prop
 |.non,u=>u=Value.none
 |.bl b,u=>u=Value.bool b
 |.int i,u=>∃t,u=Value.int i t
 |.str x,u=>∃t,u=Value.str x t
 |.byt b,u=>∃t,u=Value.bytes b t
 |.flt b,u=>∃t,u=Value.float b t
 |.ref a,u=>u=Value.ref a
 |.ty n,u=>u=Value.type n
abbrev Vals:List V->List Value->Prop:=Paired RelV
theorem Vals.length{xs:List V}{us:List Value}(r:Vals xs us):xs.length=us.length:=Paired.length r
theorem Vals.get:∀{xs:List V}{us:List Value}{i:Nat}{x:V},Vals xs us->xs[i]?=some x->∃u,us[i]?=some u/\RelV x u
 |_,_,_,_,.nil,e=>by simp at e
 |_,_,0,_,.cons r _,e=>by simp at e;subst e;exact ⟨_,rfl,r⟩
 |_,_,i+1,x,.cons _ t,e=>by
  obtain ⟨u,h1,h2⟩:=Vals.get (i:=i) (x:=x) t (by simpa using e);exact ⟨u,by simpa using h1,h2⟩
theorem Vals.set{x:V}{u:Value}(r:RelV x u):∀{xs:List V}{us:List Value}(i:Nat),Vals xs us->Vals (xs.set i x) (us.set i u)
 |_,_,_,.nil=>.nil
 |_,_,0,.cons _ t=>.cons r t
 |_,_,i+1,.cons q t=>.cons q (Vals.set r i t)
theorem Vals.append:∀{xs ys:List V}{us ws:List Value},Vals xs us->Vals ys ws->Vals (xs++ys) (us++ws)
 |_,_,_,_,.nil,s=>s
 |_,_,_,_,.cons r t,s=>.cons r (Vals.append t s)
theorem Vals.take:∀{xs:List V}{us:List Value}(n:Nat),Vals xs us->Vals (xs.take n) (us.take n)
 |_,_,0,_=>.nil
 |_,_,_+1,.nil=>.nil
 |_,_,n+1,.cons r t=>.cons r (Vals.take n t)
theorem Vals.drop:∀{xs:List V}{us:List Value}(n:Nat),Vals xs us->Vals (xs.drop n) (us.drop n)
 |_,_,0,r=>r
 |_,_,_+1,.nil=>.nil
 |_,_,n+1,.cons _ t=>Vals.drop n t
def RelO:Option V->Option Value->Prop
 |some v,some u=>RelV v u
 |none,none=>True
 |_,_=>False
def KV{κ:Type}:List (κ×V)->List (κ×Value)->Prop:=Paired λ(p:κ×V) (q:κ×Value)=>p.1=q.1/\RelV p.2 q.2
def kV:Key->V
 |.inl i=>.int i
 |.inr x=>.str x
inductive HO where
 |lst (xs:List V)
 |tup (xs:List V)
 |dK (kvs:List (Key×V)) |dT (kvs:List (List Key×V))
 |set (S:Int->Bool) (n:Nat)
 |ins (C dx:Addr) (fs:List (Str×V))
 |own (x:Addr)
 |xd (fs:List (Str×V))
 |met (f x:Addr)
 |rng (lo hi:Int)
 |frz (o:Obj) (u:HO)
 |tbl (ps:Array Value)
 |ext (φ:Heap->Prop)
abbrev Hp:=Addr->Option HO
def upd(H:Hp)(a:Addr)(o:HO):Hp:=λb=>if b=a then some o else H b
theorem cP{H:Hp}{a:Addr}{o:HO}:upd H a o a=some o:=by unfold upd;rw[if_pos rfl]
theorem aK{H:Hp}{a b:Addr}{o:HO}(h:b≠a):upd H a o b=H b:=by unfold upd;rw[if_neg h]
theorem By{H:Hp}{a b:Addr}{o u:HO}(h:H a=some o)(h':H b=some u)(d:o≠u):a≠b:=by intro e;subst e;rw[h]at h';exact d (dk h')
theorem bu{H:Hp}{a b:Addr}{o:HO}(h:H a=some o)(h':H b=none):a≠b:=by intro e;subst e;rw[h]at h';cases h'
section
variable (P:Program) (w:World)
def ObjOk(H:Hp)(h:Heap)(a:Addr):HO->Prop
 |.lst xs=>xs.length<=sizeLine/\∃(its:List Value) (n:Nat),Vals xs its/\h.get? a=some { cls:=.type "list",data:=.seq its.toArray n }
 |.tup xs=>xs.length<=sizeLine/\∃its:List Value,Vals xs its/\IsTup h a its.toArray
 |.dK kvs=>kvs.length<=sizeLine/\(a==sysModules)=false/\∃vs,KV kvs vs/\h.DictOf (v6 P w) a vs
 |.dT kvs=>kvs.length<=sizeLine/\(a==sysModules)=false/\∃xs:List (List Key×Addr×Value),
   Paired (λ(p:List Key×V) (q:List Key×Addr×Value)=>p.1=q.1/\H q.2.1=some (.tup (p.1.map kV))/\RelV p.2 q.2.2) kvs xs/\
   ∃o es ep,h.get? a=some o/\o.ExactDict/\o.data=.dict es ep/\es.toList=xs.map (entryOfKey (tupleKind (v6 P w)))/\(xs.map (·.1)).Nodup
 |.set S n=>h.SetOf (intKind P w) a S n
 |.ins C dx fs=>H dx=some (.own a)/\fs.length<=1000/\dx≠a/\h.get? a=some (PySem.W.instObj C dx)/\
   ∃mA,h.Ns1 dx mA/\(∀f,RelO (fs.lookup f) (mA f))/\PySem.Within mA (fs.map (·.1))
 |.own _=>∃o,h.get? a=some o
 |.xd fs=>∃mA,h.Ns1 a mA/\∀f,RelO (fs.lookup f) (mA f)
 |.rng lo hi=>∃t u v,h.get? a=some { cls:=.type "range",data:=.fields #[.int lo t,.int hi u,.int 1 v] }
 |.frz o u=>h.get? a=some o/\ObjOk H h a u
 |.tbl ps=>h.get? a=some { cls:=.none,data:=.fields ps }
 |.met f x=>h.get? a=some (PySem.W.methodObj (.ref f) (.ref x))
 |.ext φ=>φ h/\(∃o,h.get? a=some o)/\∀h1 h2:Heap,φ h1->(∀o,h1.get? a=some o->h2.get? a=some o)->φ h2
def HOk(H:Hp)(h:Heap):Prop:=∀a o,H a=some o->ObjOk P w H h a o
end
section
variable {P:Program} {w:World} {H H':Hp} {h h':Heap} {a:Addr} {o:HO}
theorem ObjOk.lt(x:ObjOk P w H h a o):a < h.objs.size:=by
 cases o with
 |lst xs=>obtain ⟨_,_,_,_,e⟩:=x;exact aE e
 |tup xs=>obtain ⟨_,_,_,p⟩:=x;exact p.lt
 |dK kvs=>obtain ⟨_,_,_,_,o,_,_,e,_⟩:=x;exact aE e
 |dT kvs=>obtain ⟨_,_,_,_,o,_,_,e,_⟩:=x;exact aE e
 |set S n=>obtain ⟨o,_,_,_,e,_⟩:=x;exact aE e
 |ins C dx fs=>obtain ⟨_,_,_,e,_⟩:=x;exact aE e
 |own y=>obtain ⟨_,e⟩:=x;exact aE e
 |xd fs=>obtain ⟨_,⟨_,_,_,e,_⟩,_⟩:=x;exact aE e
 |rng lo hi=>obtain ⟨_,_,_,e⟩:=x;exact aE e
 |frz ob u=>obtain ⟨e,_⟩:=x;exact aE e
 |tbl ps=>exact aE (show h.get? a=some _ from x)
 |met f y=>exact aE (show h.get? a=some _ from x)
 |ext φ=>obtain ⟨_,⟨_,e⟩,_⟩:=x;exact aE e
theorem Paired.mapP{α β:Type}{F G:α->β->Prop}:∀{l₁:List α}{l₂:List β},Paired F l₁ l₂->(∀a b,F a b->G a b)->Paired G l₁ l₂
 |_,_,.nil,_=>.nil
 |_,_,.cons r t,f=>.cons (f _ _ r) (Paired.mapP t f)
theorem ObjOk.stay(x:ObjOk P w H h a o)(k:∀b u,(b=a\/H b=some (.own a))->h.get? b=some u->h'.get? b=some u)
  (ho:∀b,H b=some (.own a)->H' b=some (.own a)) (ht:∀b xs,H b=some (.tup xs)->H' b=some (.tup xs)):ObjOk P w H' h' a o:=by
 induction o with
 |lst xs=>obtain ⟨z,its,n,r,e⟩:=x;exact ⟨z,its,n,r,k _ _ (.inl rfl) e⟩
 |tup xs=>obtain ⟨z,its,r,ob,e,c⟩:=x;exact ⟨z,its,r,ob,k _ _ (.inl rfl) e,c⟩
 |dK kvs=>obtain ⟨z,y,vs,r,ob,es,ep,e,c⟩:=x;exact ⟨z,y,vs,r,ob,es,ep,k _ _ (.inl rfl) e,c⟩
 |dT kvs=>
  obtain ⟨z,y,xs,r,ob,es,ep,e,c⟩:=x;exact ⟨z,y,xs,Paired.mapP r λp q z=>⟨z.1,ht _ _ z.2.1,z.2.2⟩,ob,es,ep,k _ _ (.inl rfl) e,c⟩
 |set S n=>obtain ⟨ob,es,ep,t,e,c⟩:=x;exact ⟨ob,es,ep,t,k _ _ (.inl rfl) e,c⟩
 |ins C dx fs=>
  obtain ⟨d,z,ne,e,mA,⟨od,es,ep,e2,c⟩,r⟩:=x;exact ⟨ho _ d,z,ne,k _ _ (.inl rfl) e,mA,⟨od,es,ep,k _ _ (.inr d) e2,c⟩,r⟩
 |own y=>obtain ⟨ob,e⟩:=x;exact ⟨ob,k _ _ (.inl rfl) e⟩
 |xd fs=>obtain ⟨mA,⟨od,es,ep,e,c⟩,r⟩:=x;exact ⟨mA,⟨od,es,ep,k _ _ (.inl rfl) e,c⟩,r⟩
 |rng lo hi=>obtain ⟨t,u,v,e⟩:=x;exact ⟨t,u,v,k _ _ (.inl rfl) e⟩
 |frz ob u ih=>obtain ⟨e,q⟩:=x;exact ⟨k _ _ (.inl rfl) e,ih q⟩
 |tbl ps=>
  have e:h.get? a=some { cls:=.none,data:=.fields ps }:=x;show h'.get? a=some { cls:=.none,data:=.fields ps };exact k a _ (.inl rfl) e
 |met f y=>
  have e:h.get? a=some (PySem.W.methodObj (.ref f) (.ref y)):=x;show h'.get? a=some (PySem.W.methodObj (.ref f) (.ref y));exact k a _ (.inl rfl) e
 |ext φ=>obtain ⟨p,⟨o,e⟩,st⟩:=x;exact ⟨st _ _ p λo q=>k _ _ (.inl rfl) q,⟨o,k _ _ (.inl rfl) e⟩,st⟩
theorem HOk.lt(x:HOk P w H h)(e:H a=some o):a < h.objs.size:=(x a o e).lt
theorem HOk.fresh(x:HOk P w H h)(e:h.objs.size<=a):H a=none:=by
 cases q:H a with
 |none=>rfl
 |some u=>exact absurd (bP (x.lt q) e) (d6 _)
theorem HOk.kept(x:HOk P w H h)(k:∀b u,h.get? b=some u->h'.get? b=some u):HOk P w H h':=λa o e=>
 (x a o e).stay (λb u _ q=>k b u q) (λ_ q=>q) λ_ _ q=>q
theorem HOk.laid(x:HOk P w H h)(k:∀b u,h.get? b=some u->h'.get? b=some u)(hp:h.objs.size<=a)(new:ObjOk P w (upd H a o) h' a o):HOk P w (upd H a o) h':=λb u e=>by
 have hn:=x.fresh hp;by_cases hb:b=a
 ·subst hb;rw[cP]at e;cases e;exact new
 ·rw[aK hb]at e;exact (x b u e).stay (λc v _ q=>k c v q) (λc q=>by rw[aK (bu q hn)];exact q) λc xs q=>by rw[aK (bu q hn)];exact q
end
def Rd(H:Hp)(a:Addr)(u:HO):Prop:=H a=some u\/∃o,H a=some (.frz o u)
theorem Rd.ok{P:Program}{w:World}{H:Hp}{h:Heap}{a:Addr}{u:HO}(r:Rd H a u)(x:HOk P w H h):ObjOk P w H h a u:=by
 rcases r with r |⟨o,r⟩
 ·exact x a u r
 ·obtain ⟨_,q⟩:=x a _ r;exact q
noncomputable def Mut:Option HO->Prop
 |some (.lst _)=>True
 |some (.dK _)=>True
 |some (.dT _)=>True
 |some (.set _ _)=>True
 |some (.ins _ _ _)=>True
 |some (.ext _)=>True
 |_=>False
section
variable {P:Program} {w:World} {H:Hp} {h h':Heap} {x e:Addr} {o':HO}
theorem HOk.write(ok:HOk P w H h)(mu:Mut (H x))(he:e=x\/H e=some (.own x))(k:∀b u,b≠e->h.get? b=some u->h'.get? b=some u)(heo:∃u,h'.get? e=some u)
  (new:ObjOk P w (upd H x o') h' x o'):HOk P w (upd H x o') h':=λb u q=>by
 have nown:∀c y,H c=some (.own y)->c≠x:=λc y r z=>by subst z;rw[r]at mu;exact mu
 have ntup:∀c xs,H c=some (.tup xs)->c≠x:=λc xs r z=>by subst z;rw[r]at mu;exact mu
 by_cases hb:b=x
 ·subst hb;rw[cP]at q;cases q;exact new
 ·rw[aK hb]at q;by_cases hbe:b=e
  ·have q':H b=some (.own x):=by
    rcases he with z |z
    ·exact absurd (hbe.trans z) hb
    ·rw[hbe];exact z
   rw[q]at q';cases q';obtain ⟨v,hv⟩:=heo;exact ⟨v,by rw[hbe];exact hv⟩
  ·refine (ok b u q).stay (λc v hc r=>k c v ?_ r) (λc r=>by rw[aK (nown c b r)];exact r) λc xs r=>by rw[aK (ntup c xs r)];exact r
   rcases hc with rfl |hc
   ·exact hbe
   ·rintro rfl;rcases he with z |z
    ·exact nown c b hc z
    ·rw[hc]at z;cases z;exact hb rfl
end
structure Un(fs ex:List Addr)(H H':Hp)(h h':Heap):Prop where
 keep:∀b o,h.get? b=some o->H b=none->b∉fs->b∉ex->h'.get? b=some o
 slot:∀b o,h.get? b=some o->H b=none->b∈fs->b∉ex->∃sl,h'.get? b=some { o with slots:=sl }
 free:∀b o,h.get? b=some o->H b=none->b∉ex->H' b=none
 there:∀b o,h.get? b=some o->b∉ex->∃o',h'.get? b=some o'
 tups:∀b xs,H b=some (.tup xs)->H' b=some (.tup xs)
 frzs:∀b o u,H b=some (.frz o u)->H' b=some (.frz o u)
 tbls:∀b ps,H b=some (.tbl ps)->∃more,H' b=some (.tbl (ps++more))
section
variable {fs fs' ex ex':List Addr} {H H1 H2:Hp} {h h1 h2 h':Heap} {a x e:Addr} {o:HO}
theorem Un.any(u:Un fs ex H H1 h h1){b:Addr}{ob:Obj}(q:h.get? b=some ob)(n:H b=none)(hx:b∉ex):∃sl,h1.get? b=some { ob with slots:=sl }:=by
 by_cases hb:b∈fs
 ·exact u.slot b ob q n hb hx
 ·exact ⟨ob.slots,u.keep b ob q n hb hx⟩
theorem Un.kept(k:∀b u,h.get? b=some u->h'.get? b=some u):Un fs ex H H h h':=
 ⟨λb ob q _ _ _=>k b ob q,λb ob q _ _ _=>⟨ob.slots,k b ob q⟩,λ_ _ _ n _=>n,λb ob q _=>⟨ob,k b ob q⟩,λ_ _ q=>q,λ_ _ _ q=>q,λ_ ps q=>⟨#[],by rw[q];simp⟩⟩
theorem Un.refl:Un fs ex H H h h:=Un.kept λ_ _ q=>q
theorem Un.laid(k:∀b u,h.get? b=some u->h'.get? b=some u)(hp:h.objs.size<=a)(hn:H a=none):Un fs ex H (upd H a o) h h' where
 keep:=λb u q _ _ _=>k b u q
 slot:=λb u q _ _ _=>⟨u.slots,k b u q⟩
 free:=λb u q n _=>by rw[aK (cr (bP (aE q) hp))];exact n
 there:=λb u q _=>⟨u,k b u q⟩
 tups:=λb xs q=>by rw[aK (bu q hn)];exact q
 frzs:=λb u xs q=>by rw[aK (bu q hn)];exact q
 tbls:=λb ps q=>⟨#[],by rw[aK (bu q hn),q];simp⟩
theorem Un.write(mu:Mut (H x))(he:e=x\/H e=some (.own x))(k:∀b u,b≠e->h.get? b=some u->h'.get? b=some u)(heo:∃u,h'.get? e=some u):Un fs ex H (upd H x o) h h':=by
 have hx:∀b,H b=none->b≠x:=λb n z=>by subst z;rw[n]at mu;exact mu
 have hb:∀b,H b=none->b≠e:=λb n z=>by
  subst z;rcases he with r |r
  ·exact hx b n r
  ·rw[n]at r;cases r
 have hm:∀b u,H b=some u->¬Mut (some u)->b≠x:=λb u q nm z=>by subst z;rw[q]at mu;exact nm mu
 refine ⟨λb u q n _ _=>k b u (hb b n) q,λb u q n _ _=>⟨u.slots,k b u (hb b n) q⟩,λb u q n _=>by rw[aK (hx b n)];exact n,λb u q _=>?_,
  λb xs q=>by rw[aK (hm b _ q λz=>z)];exact q,λb u xs q=>by rw[aK (hm b _ q λz=>z)];exact q,λb ps q=>⟨#[],by rw[aK (hm b _ q λz=>z),q];simp⟩⟩
 by_cases hbe:b=e
 ·subst hbe;exact heo
 ·exact ⟨u,k b u hbe q⟩
end
def trk(h:Heap)(H:Hp):List Addr:=(List.range h.objs.size).filter λa=>(H a).isSome
def dF(h:Heap)(H:Hp):Heap:=PySem.W.hideAll h (trk h H)
theorem Vs(h:Heap)(H:Hp):(dF h H).objs.size=h.objs.size:=PySem.W.hideAll_size _ _
theorem Vt{h:Heap}{H:Hp}{b:Addr}{o:Obj}(e:h.get? b=some o)(n:H b=none):(dF h H).get? b=some o:=
 PySem.W.hideAll_get _ e λhm=>by
  have q:(H b).isSome=true:=(dv.mp hm).2;rw[n]at q;simp at q
theorem Vu{h:Heap}{H:Hp}{b:Addr}{o:Obj}(e:(dF h H).get? b=some o):h.get? b=some o/\H b=none:=by
 have e':h.get? b=some o:=PySem.W.of_hideAll (trk h H) e;refine ⟨e',?_⟩;cases q:H b with
 |none=>rfl
 |some x=>
  have hm:b∈trk h H:=dv.mpr ⟨List.mem_range.mpr (aE e'),by simp[q]⟩;have z:(dF h H).get? b=none:=PySem.W.hideAll_none (trk h H) hm;rw[z]at e;cases e
noncomputable def Vv(g h:Heap)(L:Addr):List (Addr×Obj):=(List.range h.objs.size).filterMap λa=>if a=L\/(g.get? a).isSome=true then none else (h.get? a).map λo=>(a,o)
def rest(g h:Heap)(L d:Addr):List (Addr×Obj):=(Vv g h L).filter λp=>decide (p.1≠d)
structure Mod(K:PF)(mg:Str->Option Value)(base:Heap):Prop where
 kin:K.In base
 glob:base.Ns mainGlobals mg
 blt:∃mb,base.Ns builtinsNs mb/\∀x:Str,x≠"__name__"->mb x=bootBuiltins x
 nolimit:base.NoLimit
structure Cx where
 prog:Program
 w:World
 K:PF
 mg:Str->Option Value
 base:Heap
 A:Around
 N:List Str
 s₀:Shared
 H₀:Hp
 env:Env
 outer:List Env
 stack:List Env
 ex:List Addr
 fn:Str->Bool
 calm:Bool
 pn:List (Addr×Obj)
 xe:Value->Shared->Prop
def frs(l:List Env):List Addr:=l.filterMap (·.frame)
abbrev Cx.fs(X:Cx):List Addr:=frs X.outer
def Vis(sc:Scope)(x:Str):Prop:=sc.names.lookup x=some .local\/sc.names.lookup x=some .cell\/sc.names.lookup x=some .free
def Loc(sc:Scope)(x:Str):Prop:=sc.names.lookup x=some .local\/sc.names.lookup x=some .cell
def Look(env:Env)(h:Heap)(m:Str->Option Value)(x:Str)(u:Value):Prop:=
 (env.kindOf x=some .local/\m x=some u)\/((env.kindOf x=some .cell\/env.kindOf x=some .free)/\∃c,env.cells.lookup x=some c/\h.IsCell c (some u))
structure Cx.Ok(X:Cx):Prop where
 mod:Mod X.K X.mg X.base
 kind:X.env.scope.kind=.function
 glob:X.env.globals=mainGlobals
 blt:X.env.builtins=builtinsNs
 above:X.s₀.heap.objs.size<=X.env.locals
 inj:∀x y c,X.env.cells.lookup x=some c->X.env.cells.lookup y=some c->x=y
 has:∀x,(X.env.kindOf x=some .cell\/X.env.kindOf x=some .free)->∃c,X.env.cells.lookup x=some c
 cab:∀x c,X.fn x=true->X.env.cells.lookup x=some c->X.s₀.heap.objs.size<=c
 hd:X.calm=true->X.A.handled=none
 frames:X.A.frames=some X.stack
 stk:X.stack=X.outer\/(X.stack=X.env::X.outer/\X.env.frame=some X.env.locals)
 exf:∀b∈X.ex,b≠X.env.locals/\∀x c,X.env.cells.lookup x=some c->c≠b
 bs:∀b o,X.base.get? b=some o->X.s₀.heap.get? b=some o/\X.H₀ b=none
 bsz:X.base.objs.size<=X.s₀.heap.objs.size
 noex:∀b o,X.base.get? b=some o->b∉X.ex
 exfs:∀b∈X.ex,b∉X.fs
 funs:X.s₀.heap.FunFrames X.base X.outer
 frf:∀b∈X.fs,X.H₀ b=none
structure Inv(X:Cx)(pins:List (Addr×Obj))(σ:List (Option V))(H:Hp)(s:Shared):Prop where
 ok:X.Ok
 os:s.os=X.s₀.os
 bare:AllBare s.gens
 base:Un X.fs X.ex X.H₀ H X.s₀.heap s.heap
 loc:∃m,s.heap.Ns X.env.locals m/\∀(i:Nat)(x:Str)(v:V),X.N[i]?=some x->σ[i]?=some (some v)->Vis X.env.scope x->∃u,RelV v u/\Look X.env s.heap m x u
 cell:∀x c,X.env.cells.lookup x=some c->∃v,s.heap.IsCell c v
 free:H X.env.locals=none
 freeC:∀x c,X.env.cells.lookup x=some c->H c=none
 pin:∀p∈X.pn++pins,s.heap.get? p.1=some p.2/\H p.1=none/\p.1≠X.env.locals/\p.1∉X.fs/\∀v,p.2.data≠.cell v
 hok:HOk X.prog X.w H s.heap
 len:σ.length=X.N.length
section
variable {X:Cx} {pins:List (Addr×Obj)} {σ:List (Option V)} {H H':Hp} {s:Shared} {h':Heap}
theorem Cx.Ok.nofr(ok:X.Ok){b:Addr}{o:Obj}(e:X.base.get? b=some o):b∉X.fs:=λhb=>by
 have:=(ok.funs.mem hb).1;rw[e]at this;cases this
theorem Inv.bs(I:Inv X pins σ H s):∀b o,X.base.get? b=some o->s.heap.get? b=some o/\H b=none:=λb o e=>
 ⟨I.base.keep b o (I.ok.bs b o e).1 (I.ok.bs b o e).2 (I.ok.nofr e) (I.ok.noex b o e),I.base.free b o (I.ok.bs b o e).1 (I.ok.bs b o e).2 (I.ok.noex b o e)⟩
theorem Inv.bk(I:Inv X pins σ H s):∀b o,X.base.get? b=some o->s.heap.get? b=some o:=λb o e=>(I.bs b o e).1
theorem Inv.mod(I:Inv X pins σ H s):Mod X.K X.mg X.base:=I.ok.mod
theorem Inv.kIn(I:Inv X pins σ H s):X.K.In s.heap:=I.ok.mod.kin.keeps I.bk
theorem Inv.lt(I:Inv X pins σ H s):X.env.locals < s.heap.objs.size:=let ⟨_,hn,_⟩:=I.loc;hn.lt
theorem Inv.sz(I:Inv X pins σ H s):X.s₀.heap.objs.size<=s.heap.objs.size:=br I.ok.above (Nat.le_of_lt I.lt)
theorem Inv.nofs(I:Inv X pins σ H s){a:Addr}(h:s.heap.objs.size<=a):a∉X.fs:=λhb=>by
 obtain ⟨_,o,ho,_⟩:=I.ok.funs.mem hb;exact absurd (bP (aE ho) (br I.sz h)) (d6 _)
theorem Inv.cne(I:Inv X pins σ H s):∀x c,X.env.cells.lookup x=some c->c≠X.env.locals:=λx c e z=>by
 obtain ⟨v,o,ho,hd⟩:=I.cell x c e;obtain ⟨m,⟨o',es,ep,ho',hd',_⟩,_⟩:=I.loc;rw[z,ho']at ho;cases ho;rw[hd']at hd;cases hd
theorem Inv.funs(I:Inv X pins σ H s):s.heap.FunFrames X.base X.outer:=by
 have all:∀(l:List Env),(∀b∈frs l,b∈X.fs)->X.s₀.heap.FunFrames X.base l->s.heap.FunFrames X.base l:=by
  intro l;induction l with
  |nil=>intro _ _;trivial
  |cons env r ih=>
   intro hs hl;obtain ⟨hk,⟨L,o,hf,hn,ho,hd⟩,hr⟩:=hl;have hL:L∈X.fs:=hs L (by unfold frs;rw[fE,hf];exact bS);obtain ⟨sl,e⟩:=I.base.slot L o ho (I.ok.frf L hL) hL λz=>I.ok.exfs L z hL;exact ⟨hk,⟨L,_,hf,hn,e,hd⟩,ih (λb hb=>hs b (by unfold frs;rw[fE,hf];exact bi _ hb)) hr⟩
 exact all X.outer (λ_ hb=>hb) I.ok.funs
theorem Inv.stack(I:Inv X pins σ H s):s.heap.FunFrames X.base X.stack:=by
 rcases I.ok.stk with e |⟨e,hf⟩
 ·rw[e];exact I.funs
 ·rw[e];obtain ⟨m,hn,_⟩:=I.loc;refine .cons (by rw[I.ok.kind];decide) hf hn ?_ I.funs;exact Heap.get?_none_of_le (br I.ok.bsz I.ok.above)
theorem Inv.stkSub(I:Inv X pins σ H s):∀b∈frs X.stack,b∈X.env.locals::X.fs:=λb hb=>by
 rcases I.ok.stk with e |⟨e,hf⟩
 ·rw[e]at hb;exact bi _ hb
 ·rw[e]at hb;unfold frs at hb;rw[fE,hf]at hb;exact hb
theorem Inv.stkFree(I:Inv X pins σ H s):∀b∈frs X.stack,H b=none:=λb hb=>by
 rcases a9.mp (I.stkSub b hb) with e |hb
 ·rw[e];exact I.free
 ·obtain ⟨_,o,ho,_⟩:=I.ok.funs.mem hb;exact I.base.free b o ho (I.ok.frf b hb) λz=>I.ok.exfs b z hb
theorem Inv.step{g':Array GenState}{t':Nat}{d':Drawn}{ch:List Addr}(I:Inv X pins σ H s)
  (hch:∀b∈ch,(b∈X.ex\/X.s₀.heap.objs.size<=b)/\b≠X.env.locals/\(∀x c,X.env.cells.lookup x=some c->c≠b)/\∀p∈X.pn++pins,p.1≠b)
  (keep:∀b o,b≠X.env.locals->b∉X.fs->b∉ch->s.heap.get? b=some o->H b=none->h'.get? b=some o)
  (slot:∀b o,b≠X.env.locals->b∈X.fs->b∉ch->s.heap.get? b=some o->H b=none->∃sl,h'.get? b=some { o with slots:=sl }) (free:∀b o,b∉ch->s.heap.get? b=some o->H b=none->H' b=none)
  (there:∀b o,b∉ch->s.heap.get? b=some o->∃o',h'.get? b=some o')
  (tups:∀b xs,H b=some (.tup xs)->H' b=some (.tup xs)) (frzs:∀b o u,H b=some (.frz o u)->H' b=some (.frz o u)) (tbls:∀b ps,H b=some (.tbl ps)->∃more,H' b=some (.tbl (ps++more)))
  (ns:∀m,s.heap.Ns X.env.locals m->h'.Ns X.env.locals m) (hok:HOk X.prog X.w H' h') (hg:AllBare g'):
  Inv X pins σ H' { s with heap:=h',gens:=g',drawn:=d',toks:=t' }:=by
 have neL:∀b o,X.s₀.heap.get? b=some o->b≠X.env.locals:=λb o e=>cr (bP (aE e) I.ok.above);have neC:∀b o,X.s₀.heap.get? b=some o->b∉X.ex->b∉ch:=λb o e hx hb=>by
  rcases (hch b hb).1 with z |z
  ·exact hx z
  ·exact absurd (bP (aE e) z) (d6 _)
 have cellK:∀x c,X.env.cells.lookup x=some c->∀v,s.heap.IsCell c v->h'.IsCell c v:=λx c e v ⟨o,ho,hd⟩=>by
  have nch:c∉ch:=λz=>(hch c z).2.2.1 x c e rfl;by_cases hc:c∈X.fs
  ·obtain ⟨sl,q⟩:=slot c o (I.cne x c e) hc nch ho (I.freeC x c e);exact ⟨_,q,hd⟩
  ·exact ⟨o,keep c o (I.cne x c e) hc nch ho (I.freeC x c e),hd⟩
 refine ⟨I.ok,I.os,hg,⟨λb o e n hb hx=>?_,λb o e n hb hx=>?_,λb o e n hx=>?_,λb o e hx=>?_,λb xs e=>tups b xs (I.base.tups b xs e),λb o xs e=>frzs b o xs (I.base.frzs b o xs e),λb ps e=>?_⟩,?_,λx c e=>?_,?_,λx c e=>?_,λp hp=>?_,hok,I.len⟩
 ·exact keep b o (neL b o e) hb (neC b o e hx) (I.base.keep b o e n hb hx) (I.base.free b o e n hx)
 ·obtain ⟨sl,e1⟩:=I.base.slot b o e n hb hx;obtain ⟨sl',e2⟩:=slot b _ (neL b o e) hb (neC b o e hx) e1 (I.base.free b o e n hx);exact ⟨sl',e2⟩
 ·obtain ⟨o',e1⟩:=I.base.there b o e hx;exact free b o' (neC b o e hx) e1 (I.base.free b o e n hx)
 ·obtain ⟨o',e1⟩:=I.base.there b o e hx;exact there b o' (neC b o e hx) e1
 ·obtain ⟨m1,e1⟩:=I.base.tbls b ps e;obtain ⟨m2,e2⟩:=tbls b _ e1;exact ⟨m1++m2,by rw[e2,Array.append_assoc]⟩
 ·obtain ⟨m,hn,hl⟩:=I.loc;refine ⟨m,ns m hn,λi x v e1 e2 e3=>?_⟩;obtain ⟨u,r,l⟩:=hl i x v e1 e2 e3;refine ⟨u,r,?_⟩;rcases l with l |⟨k,c,e,z⟩
  ·exact .inl l
  ·exact .inr ⟨k,c,e,cellK x c e _ z⟩
 ·obtain ⟨v,z⟩:=I.cell x c e;exact ⟨v,cellK x c e v z⟩
 ·obtain ⟨m,⟨o,_,_,ho,_⟩,_⟩:=I.loc;exact free _ o (λz=>(hch _ z).2.1 rfl) ho I.free
 ·obtain ⟨v,o,ho,hd⟩:=I.cell x c e;exact free c o (λz=>(hch c z).2.2.1 x c e rfl) ho (I.freeC x c e)
 ·obtain ⟨e,n,ne,nf,d⟩:=I.pin p hp;have nch:p.1∉ch:=λz=>(hch p.1 z).2.2.2 p hp rfl;exact ⟨keep p.1 p.2 ne nf nch e n,free p.1 p.2 nch e n,ne,nf,d⟩
theorem Inv.un{t':Nat}(I:Inv X pins σ H s)(u:Un X.fs [] H H' s.heap h')(hok:HOk X.prog X.w H' h'):Inv X pins σ H' { s with heap:=h',toks:=t' }:=by
 obtain ⟨m,⟨o,es,ep,ho,r⟩,_⟩:=id I.loc;obtain ⟨sl,hL⟩:=u.any ho I.free (by simp);exact I.step (g':=s.gens) (d':=s.drawn) (ch:=[]) (λ_ z=>nomatch z) (λb o _ hb _ e n=>u.keep b o e n hb (by simp)) (λb o _ hb _ e n=>u.slot b o e n hb (by simp)) (λb o _ e n=>u.free b o e n (by simp)) (λb o _ e=>u.there b o e (by simp)) u.tups u.frzs u.tbls (λm' hm=>by
  obtain ⟨o',es',ep',ho',r'⟩:=hm;rw[ho]at ho';cases ho';exact ⟨_,es',ep',hL,r'⟩) hok I.bare
theorem Inv.call{g':Array GenState}{t':Nat}{d':Drawn}{ch:List Addr}(I:Inv X pins σ H s)(u:Un (frs X.stack) ch H H' s.heap h')(hok:HOk X.prog X.w H' h')(hg:AllBare g')
  (hch:∀b∈ch,(b∈X.ex\/X.s₀.heap.objs.size<=b)/\b≠X.env.locals/\(∀x c,X.env.cells.lookup x=some c->c≠b)/\∀p∈X.pn++pins,p.1≠b):
  Inv X pins σ H' { s with heap:=h',gens:=g',drawn:=d',toks:=t' }:=by
 obtain ⟨m,⟨o,es,ep,ho,r⟩,_⟩:=id I.loc;obtain ⟨sl,hL⟩:=u.any ho I.free λz=>(hch _ z).2.1 rfl;exact I.step (ch:=ch) hch (λb o hL hb hc e n=>u.keep b o e n (λz=>(a9.mp (I.stkSub b z)).elim hL hb) hc) (λb o _ _ hc e n=>u.any e n hc) (λb o hc e n=>u.free b o e n hc) (λb o hc e=>u.there b o e hc) u.tups u.frzs u.tbls (λm' hm=>by
  obtain ⟨o',es',ep',ho',r'⟩:=hm;rw[ho]at ho';cases ho';exact ⟨_,es',ep',hL,r'⟩) hok hg
theorem Inv.turned{t':Nat}{it:Addr}(I:Inv X pins σ H s)(k:∀b o,b≠it->s.heap.get? b=some o->h'.get? b=some o)(hn:H it=none)(hL:it≠X.env.locals)
  (h1:it∈X.ex\/X.s₀.heap.objs.size<=it) (h2:∀x c,X.env.cells.lookup x=some c->c≠it) (h3:∀p∈X.pn++pins,p.1≠it):Inv X pins σ H { s with heap:=h',toks:=t' }:=by
 have nit:∀b u,H b=some u->b≠it:=λb u e z=>by rw[z,hn]at e;cases e
 refine I.step (g':=s.gens) (d':=s.drawn) (ch:=[it]) (λb hb=>?_) (λb o _ _ hc e _=>k b o (λz=>hc (by simp[z])) e) (λb o _ _ hc e _=>⟨o.slots,k b o (λz=>hc (by simp[z])) e⟩) (λ_ _ _ _ n=>n)
  (λb o hc e=>⟨o,k b o (λz=>hc (by simp[z])) e⟩) (λ_ _ e=>e) (λ_ _ _ e=>e) (λb ps e=>⟨#[],by rw[e];simp⟩) (λm hm=>?_) (λb u e=>?_) I.bare
 ·have e:b=it:=by simpa using hb
  subst e;exact ⟨h1,hL,h2,h3⟩
 ·obtain ⟨o,es,ep,ho,r⟩:=hm;exact ⟨o,es,ep,k _ o (Ne.symm hL) ho,r⟩
 ·refine (I.hok b u e).stay (λc v hc q=>k c v ?_ q) (λ_ q=>q) λ_ _ q=>q;rcases hc with z |z
  ·rw[z];exact nit b u e
  ·exact nit c _ z
theorem Inv.tok(I:Inv X pins σ H s)(t:Nat):Inv X pins σ H { s with toks:=t }:=I.un (h':=s.heap) (t':=t) Un.refl I.hok
theorem Inv.kept{t':Nat}(I:Inv X pins σ H s)(k:∀b u,s.heap.get? b=some u->h'.get? b=some u):Inv X pins σ H { s with heap:=h',toks:=t' }:=I.un (Un.kept k) (I.hok.kept k)
theorem Inv.laid{a:Addr}{o:HO}{t':Nat}(I:Inv X pins σ H s)(k:∀b u,s.heap.get? b=some u->h'.get? b=some u)(hp:s.heap.objs.size<=a)(new:ObjOk X.prog X.w (upd H a o) h' a o):
  Inv X pins σ (upd H a o) { s with heap:=h',toks:=t' }:=I.un (Un.laid k hp (I.hok.fresh hp)) (I.hok.laid k hp new)
theorem Inv.write{x e:Addr}{o:HO}{t':Nat}(I:Inv X pins σ H s)(mu:Mut (H x))(he:e=x\/H e=some (.own x))(k:∀b u,b≠e->s.heap.get? b=some u->h'.get? b=some u)(heo:∃u,h'.get? e=some u)
  (new:ObjOk X.prog X.w (upd H x o) h' x o):Inv X pins σ (upd H x o) { s with heap:=h',toks:=t' }:=I.un (Un.write mu he k heo) (I.hok.write mu he k heo new)
theorem Inv.pins_of{pins':List (Addr×Obj)}(I:Inv X pins σ H s)(h:∀p∈pins',s.heap.get? p.1=some p.2/\H p.1=none/\p.1≠X.env.locals/\p.1∉X.fs/\∀v,p.2.data≠.cell v):Inv X pins' σ H s:=
 ⟨I.ok,I.os,I.bare,I.base,I.loc,I.cell,I.free,I.freeC,λp hp=>(a7.mp hp).elim (λz=>I.pin p (cK _ z)) (h p),I.hok,I.len⟩
theorem BJ{N:List Str}(hN:N.Nodup){i j:Nat}{x:Str}(a:N[i]?=some x)(b:N[j]?=some x):i=j:=by obtain ⟨h1,e1⟩:=ar.mp a;obtain ⟨h2,e2⟩:=ar.mp b;exact (List.getElem_inj hN).mp (e1.trans e2.symm)
theorem Vw{M:Model}{A:Around}{E:Value->Shared->Prop}{i:Nat}{x:Str}{v:V}{u:Value}{Q:Unit->Shared->Prop}(I:Inv X pins σ H s)(hN:X.N.Nodup)(hi:X.N[i]?=some x)(hx:Loc X.env.scope x)(r:RelV v u)
  (h:∀s',Inv X pins (σ.set i (some v)) H s'->(∃a,Heap.SameBut a s.heap s'.heap/\(a=X.env.locals\/X.env.cells.lookup x=some a))->Q () s') (hf:X.fn x=true\/X.env.scope.names.lookup x=some .local:=by first |exact .inl rfl |exact .inr rfl |assumption):wpAny M A (storeName X.env x u) Q E s:=by
 obtain ⟨m,hn,hl⟩:=id I.loc;have hcls:(X.env.scope.kind==.class||(X.env.scope.kind==.module&&X.env.locals != X.env.globals))=false:=by rw[I.ok.kind];rfl
 have hiσ:i < σ.length:=by rw[I.len];exact (ar.mp hi).1
 have cne:=I.cne;have tracked:∀{a:Addr}{h':Heap},(∃o,s.heap.get? a=some o/\H a=none)->Heap.SameBut a s.heap h'->HOk X.prog X.w H h':=λ{a h'} ha hs b ob e=>by
  obtain ⟨_,_,hfree⟩:=ha;refine (I.hok b ob e).stay (λc w' hc q=>(hs.2 c ?_).trans q) (λ_ q=>q) λ_ _ q=>q;rintro rfl;rcases hc with rfl |hc
  ·rw[hfree]at e;cases e
  ·rw[hfree]at hc;cases hc
 rcases hx with hk |hk
 ·refine wpAny_storeName_local hk hn (λh' hn' hs=>?_) hcls;obtain ⟨oL,_,_,hoL,_⟩:=id hn;refine h _ ⟨I.ok,I.os,I.bare,⟨λb o e n hb hx=>?_,λb o e n hb hx=>?_,I.base.free,λb o e hx=>?_,I.base.tups,I.base.frzs,I.base.tbls⟩,⟨_,hn',λj y v' e1 e2 e3=>?_⟩,λy c e=>?_,I.free,I.freeC,λp hp=>?_,tracked ⟨oL,hoL,I.free⟩ hs,by simpa using I.len⟩ ⟨_,hs,.inl rfl⟩
  ·exact (hs.2 b (cr (bP (aE e) I.ok.above))).trans (I.base.keep b o e n hb hx)
  ·obtain ⟨sl,e1⟩:=I.base.slot b o e n hb hx;exact ⟨sl,(hs.2 b (cr (bP (aE e) I.ok.above))).trans e1⟩
  ·obtain ⟨o',e1⟩:=I.base.there b o e hx;exact ⟨o',(hs.2 b (cr (bP (aE e) I.ok.above))).trans e1⟩
  ·by_cases hj:j=i
   ·subst hj;rw[hi]at e1;cases e1;rw[List.getElem?_set_self hiσ]at e2;cases e2;exact ⟨u,r,.inl ⟨hk,by simp⟩⟩
   ·rw[List.getElem?_set_ne (Ne.symm hj)]at e2;obtain ⟨u',r',q⟩:=hl j y v' e1 e2 e3;refine ⟨u',r',?_⟩;rcases q with ⟨k,e⟩ |⟨k,c,e,z⟩
    ·refine .inl ⟨k,?_⟩;have:y≠x:=λe=>hj (BJ hN e1 (e ▸ hi));simp[this,e]
    ·exact .inr ⟨k,c,e,z.sameBut hs (cne y c e)⟩
  ·obtain ⟨w',z⟩:=I.cell y c e;exact ⟨w',z.sameBut hs (cne y c e)⟩
  ·obtain ⟨e,n,ne,nf,d⟩:=I.pin p hp;exact ⟨(hs.2 p.1 ne).trans e,n,ne,nf,d⟩
 ·have hfn:X.fn x=true:=by
   rcases hf with z |z
   ·exact z
   ·rw[z]at hk;cases hk
  obtain ⟨c,hc⟩:=I.ok.has x (.inl hk);obtain ⟨w',z⟩:=I.cell x c hc;refine wpAny_storeName_cell I.ok.kind hk hc z (λh' hc' hs=>?_);obtain ⟨oc,hoc,hocd⟩:=id z;refine h { s with heap:=h' } ⟨I.ok,I.os,I.bare,⟨λb o e n hb hx=>?_,λb o e n hb hx=>?_,I.base.free,λb o e hx=>?_,I.base.tups,I.base.frzs,I.base.tbls⟩,⟨m,hn.sameBut hs (Ne.symm (cne x c hc)),λj y v' e1 e2 e3=>?_⟩,λy c' e=>?_,I.free,I.freeC,λp hp=>?_,tracked ⟨oc,hoc,I.freeC x c hc⟩ hs,by simpa using I.len⟩ ⟨c,hs,.inr hc⟩
  ·exact (hs.2 b (cr (bP (aE e) (I.ok.cab x c hfn hc)))).trans (I.base.keep b o e n hb hx)
  ·obtain ⟨sl,e1⟩:=I.base.slot b o e n hb hx;exact ⟨sl,(hs.2 b (cr (bP (aE e) (I.ok.cab x c hfn hc)))).trans e1⟩
  ·obtain ⟨o',e1⟩:=I.base.there b o e hx;exact ⟨o',(hs.2 b (cr (bP (aE e) (I.ok.cab x c hfn hc)))).trans e1⟩
  ·by_cases hj:j=i
   ·subst hj;rw[hi]at e1;cases e1;rw[List.getElem?_set_self hiσ]at e2;cases e2;exact ⟨u,r,.inr ⟨.inl hk,c,hc,hc'⟩⟩
   ·rw[List.getElem?_set_ne (Ne.symm hj)]at e2;obtain ⟨u',r',q⟩:=hl j y v' e1 e2 e3;refine ⟨u',r',?_⟩;rcases q with q |⟨k,c',e,z'⟩
    ·exact .inl q
    ·refine .inr ⟨k,c',e,z'.sameBut hs ?_⟩;rintro rfl;exact hj (BJ hN e1 (I.ok.inj _ _ _ e hc ▸ hi))
  ·by_cases hcc:c'=c
   ·subst hcc;exact ⟨_,hc'⟩
   ·obtain ⟨w2,z2⟩:=I.cell y c' e;exact ⟨w2,z2.sameBut hs hcc⟩
  ·obtain ⟨e,n,ne,nf,d⟩:=I.pin p hp;refine ⟨(hs.2 p.1 ?_).trans e,n,ne,nf,d⟩;intro q;rw[q,hoc]at e;have q':oc=p.2:=dk e;exact d w' (by rw[<-q'];exact hocd)
theorem qC{M:Model}{A:Around}{E:Value->Shared->Prop}{i:Nat}{x:Str}{v:V}{u:Value}{Q:Unit->Shared->Prop}(I:Inv X pins σ H s)(hN:X.N.Nodup)(hi:X.N[i]?=some x)(hx:Loc X.env.scope x)(r:RelV v u)
  (h:∀s',Inv X pins (σ.set i (some v)) H s'->Q () s') (hf:X.fn x=true\/X.env.scope.names.lookup x=some .local:=by first |exact .inl rfl |exact .inr rfl |assumption):wpAny M A (storeName X.env x u) Q E s:=
 Vw I hN hi hx r (λs' I' _=>h s' I') hf
theorem Inv.call'{s':Shared}{ch:List Addr}(I:Inv X pins σ H s)(ho:s'.os=s.os)(u:Un (frs X.stack) ch H H' s.heap s'.heap)(hok:HOk X.prog X.w H' s'.heap)(hg:AllBare s'.gens)
  (hch:∀b∈ch,(b∈X.ex\/X.s₀.heap.objs.size<=b)/\b≠X.env.locals/\(∀x c,X.env.cells.lookup x=some c->c≠b)/\∀p∈X.pn++pins,p.1≠b):Inv X pins σ H' s':=by
 obtain ⟨h',g',d',t',o'⟩:=s';have e:o'=s.os:=ho;subst e;exact I.call (g':=g') (t':=t') (d':=d') u hok hg hch
end
abbrev XK:=Value->Option Addr->Hp->Prop
abbrev St:=List (Option V)
abbrev VK:=V->Hp->Prop
abbrev TE:=St->Hp->VK->Prop
abbrev TT:=St->Hp->(Bool->Hp->Prop)->Prop
abbrev TA:=St->Hp->(List V->Hp->Prop)->Prop
structure Ends where
 nx:St->Hp->Prop
 rt:VK
 bk:St->Hp->Prop:=λ_ _=>False
 ct:St->Hp->Prop:=λ_ _=>False
abbrev TS:=Ends->St->Hp->Prop
def EP(X:Cx)(pins:List (Addr×Obj))(σ:St)(Q:VK)(u:Value)(s':Shared):Prop:=∃v H',Inv X pins σ H' s'/\RelV v u/\Q v H'
def TP(X:Cx)(pins:List (Addr×Obj))(σ:St)(Q:Bool->Hp->Prop)(b:Bool)(s':Shared):Prop:=∃H',Inv X pins σ H' s'/\Q b H'
def AP(X:Cx)(pins:List (Addr×Obj))(σ:St)(Q:List V->Hp->Prop)(us:List Value)(s':Shared):Prop:=∃vs H',Inv X pins σ H' s'/\Vals vs us/\Q vs H'
def SP(X:Cx)(pins:List (Addr×Obj))(D:Ends)(f:Flow)(s':Shared):Prop:=
 match f with
 |.next=>∃σ' H',Inv X pins σ' H' s'/\D.nx σ' H'
 |.brk=>∃σ' H',Inv X pins σ' H' s'/\D.bk σ' H'
 |.cont=>∃σ' H',Inv X pins σ' H' s'/\D.ct σ' H'
 |.ret u=>∃v σ' H',Inv X pins σ' H' s'/\RelV v u/\D.rt v H'
def PE(X:Cx)(e:Expr)(t:TE):Prop:=
 ∀(pins:List (Addr×Obj))(s:Shared)(σ:St)(H:Hp)(Q:VK),Inv X pins σ H s->t σ H Q->wpAny (model X.prog X.w) X.A (eval e X.env) (EP X pins σ Q) X.xe s
def PT(X:Cx)(e:Expr)(t:TT):Prop:=
 ∀(pins:List (Addr×Obj))(s:Shared)(σ:St)(H:Hp)(Q:Bool->Hp->Prop),Inv X pins σ H s->t σ H Q->wpAny (model X.prog X.w) X.A (isTrue e X.env (eval e X.env)) (TP X pins σ Q) X.xe s
def PW(X:Cx)(e:Expr)(t:TT):Prop:=
 ∀(whole:Sem Value)(pins:List (Addr×Obj))(s:Shared)(σ:St)(H:Hp)(Q:Bool->Hp->Prop),Inv X pins σ H s->t σ H Q->wpAny (model X.prog X.w) X.A (isTrue e X.env whole) (TP X pins σ Q) X.xe s
theorem PW.pt{X:Cx}{e:Expr}{t:TT}(h:PW X e t):PT X e t:=h _
def PA(X:Cx)(es:List Expr)(t:TA):Prop:=
 ∀(pos:Pos)(pins:List (Addr×Obj))(s:Shared)(σ:St)(H:Hp)(Q:List V->Hp->Prop),Inv X pins σ H s->t σ H Q->wpAny (model X.prog X.w) X.A (spliced (backTo pos (starEach es X.env))) (AP X pins σ Q) X.xe s
def PS(X:Cx)(st:Stmt)(t:TS):Prop:=
 ∀(pins:List (Addr×Obj))(s:Shared)(σ:St)(H:Hp)(D:Ends),Inv X pins σ H s->t D σ H->wpAny (model X.prog X.w) X.A (exec st X.env) (SP X pins D) X.xe s
def PSs(X:Cx)(st:List Stmt)(t:TS):Prop:=
 ∀(pins:List (Addr×Obj))(s:Shared)(σ:St)(H:Hp)(D:Ends),Inv X pins σ H s->t D σ H->wpAny (model X.prog X.w) X.A (execs st X.env) (SP X pins D) X.xe s
theorem thn{α:Type}{t:Sem α}{Q Q':α->Shared->Prop}{M:Model}{A:Around}{E:Value->Shared->Prop}{s:Shared}(h:wpAny M A t Q E s)(hQ:∀a s,Q a s->Q' a s):wpAny M A t Q' E s:=c5 h hQ λ_ _ x=>x
section
variable {X:Cx}
theorem bin{a b:Expr}{ta tb:TE}(ha:PE X a ta)(hb:PE X b tb){pins:List (Addr×Obj)}{s:Shared}{σ:St}{H:Hp}{R:V->V->Hp->Prop}(I:Inv X pins σ H s)(h:ta σ H λx H1=>tb σ H1 λy H2=>R x y H2)
  {α:Type} {Q:α->Shared->Prop} {f:Value->Value->Sem α}
  (hf:∀v u s2 x y H2,Inv X pins σ H2 s2->RelV x v->RelV y u->R x y H2->wpAny (model X.prog X.w) X.A (f v u) Q X.xe s2):
  wpAny (model X.prog X.w) X.A (eval a X.env) (λv s₁=>wpAny (model X.prog X.w) X.A (eval b X.env) (λu s₂=>wpAny (model X.prog X.w) X.A (f v u) Q X.xe s₂) X.xe s₁) X.xe s:=by
 refine thn (ha pins s σ H _ I h) λv s1 ⟨x,H1,I1,r1,q1⟩=>?_;refine thn (hb pins s1 σ H1 _ I1 q1) λu s2 ⟨y,H2,I2,r2,q2⟩=>?_;exact hf v u s2 x y H2 I2 r1 r2 q2
def BK(i:Nat):TE:=λσ H Q=>∃v,σ[i]?=some (some v)/\Q v H
def tC(v:V):TE:=λ_ H Q=>Q v H
theorem BL {i:Nat} {x:Str} {pos:Pos} (hN:X.N[i]?=some x) (hv:Vis X.env.scope x) (hd:(x==("__debug__":Str))=false:=by decide) (hcd:(x==("__classdict__":Str))=false:=by decide):PE X (.Name x pos) (BK i):=by
 intro pins s σ H Q I h;obtain ⟨v,e,h⟩:=h;obtain ⟨m,hn,hl⟩:=I.loc;obtain ⟨u,r,l⟩:=hl i x v hN e hv;have fin:EP X pins σ Q u s:=⟨v,H,I,r,h⟩;rcases l with ⟨hk,hm⟩ |⟨hk,c,hc,hcell⟩
 ·exact wpAny_Name (wpAny_loadName_local I.ok.kind hk hn hm fin) hd
 ·rcases hk with hk |hk
  ·exact wpAny_Name (wpAny_loadName_cell I.ok.kind hk hc hcell fin) hd
  ·exact wpAny_Name (wpAny_loadName_free I.ok.kind hk hc hcell fin hcd) hd
theorem Vx{i j pos}:PE X (.Constant (.int i) j pos) (tC (.int i)):=λ_ _ _ H _ I h=>wpAny_Constant_int ⟨.int i,H,I.tok _,⟨_,rfl⟩,h⟩
theorem BP{b j pos}:PE X (.Constant (.bool b) j pos) (tC (.bl b)):=λ_ _ _ H _ I h=>Constant_bool ⟨.bl b,H,I,rfl,h⟩
theorem Vy{j pos}:PE X (.Constant .none j pos) (tC .non):=λ_ _ _ H _ I h=>Constant_none ⟨.non,H,I,rfl,h⟩
theorem BR{x j pos}:PE X (.Constant (.str x) j pos) (tC (.str x)):=λ_ _ _ H _ I h=>Calls.Constant_str ⟨.str x,H,I.tok _,⟨_,rfl⟩,h⟩
def Gl(X:Cx)(x:Str):Prop:=X.env.kindOf x=some .globalImplicit
theorem kE{E:Value->Shared->Prop}{pins:List (Addr×Obj)}{s:Shared}{σ:St}{H:Hp}{x:Str}{u:Value}{pos:Pos}{Q:Value->Shared->Prop}(I:Inv X pins σ H s)(hg:Gl X x)(hm:X.mg x=some u)(h:Q u s)
  (hd:(x==("__debug__":Str))=false:=by decide):wpAny (model X.prog X.w) X.A (eval (.Name x pos) X.env) Q E s:=
 Calls.Name_function_global I.ok.kind hg (Calls.loadGlobal_global (by rw[I.ok.glob];exact I.mod.glob.keeps I.bk) hm h) hd
theorem jj{E:Value->Shared->Prop}{pins:List (Addr×Obj)}{s:Shared}{σ:St}{H:Hp}{x:Str}{u:Value}{pos:Pos}{Q:Value->Shared->Prop}(I:Inv X pins σ H s)(hg:Gl X x)(hm:X.mg x=none)(hv:bootBuiltins x=some u)(h:Q u s)
  (hn:x≠"__name__":=by decide) (hd:(x==("__debug__":Str))=false:=by decide):wpAny (model X.prog X.w) X.A (eval (.Name x pos) X.env) Q E s:=by
 obtain ⟨mb,h1,h2⟩:=I.mod.blt;exact Calls.Name_function_global I.ok.kind hg (Calls.loadGlobal_builtin (by rw[I.ok.glob];exact I.mod.glob.keeps I.bk) hm (by rw[I.ok.blt];exact h1.keeps I.bk) ((h2 x hn).trans hv) h) hd
theorem Vz {x:Str} {v:V} {u:Value} {pos:Pos} (hg:Gl X x) (hm:X.mg x=some u) (r:RelV v u) (hd:(x==("__debug__":Str))=false:=by decide):PE X (.Name x pos) (tC v):=
 λ_ _ _ H _ I h=>kE I hg hm ⟨v,H,I,r,h⟩ hd
theorem VB {x:Str} {v:V} {u:Value} {pos:Pos} (hg:Gl X x) (hm:X.mg x=none) (hv:bootBuiltins x=some u) (r:RelV v u) (hn:x≠"__name__":=by decide) (hd:(x==("__debug__":Str))=false:=by decide):PE X (.Name x pos) (tC v):=
 λ_ _ _ H _ I h=>jj I hg hm hv ⟨v,H,I,r,h⟩ hn hd
variable {a b:Expr} {ta tb:TE} {pos:Pos}
variable {tA tB':TT} {rest:List Expr}
def VD(t u:TT):TT:=λσ H Q=>t σ H λc H1=>if c=true then u σ H1 Q else Q false H1
def tOr(t u:TT):TT:=λσ H Q=>t σ H λc H1=>if c=true then Q true H1 else u σ H1 Q
def VF(t:TT):TT:=λσ H Q=>t σ H λc H1=>Q (!c) H1
theorem VG(ha:PT X a tA):PW X (.BoolOp .And [a] pos) tA:=by
 intro wh pins s σ H Q I h;refine isTrue_and (thn (ha pins s σ H Q I h) λc s1 e=>?_);cases c with
 |true=>exact isTrue_and_nil e
 |false=>exact e
theorem VH(ha:PT X a tA):PW X (.BoolOp .Or [a] pos) tA:=by
 intro wh pins s σ H Q I h;refine isTrue_or (thn (ha pins s σ H Q I h) λc s1 e=>?_);cases c with
 |false=>exact isTrue_or_nil e
 |true=>exact e
theorem VJ(ha:PT X a tA)(hb:PW X (.BoolOp .And (b::rest) pos) tB'):PW X (.BoolOp .And (a::b::rest) pos) (VD tA tB'):=by
 intro wh pins s σ H Q I h;refine isTrue_and (thn (ha pins s σ H _ I h) λc s1 ⟨H1,I1,q1⟩=>?_);cases c with
 |true=>exact hb wh pins s1 σ H1 Q I1 q1
 |false=>exact ⟨H1,I1,q1⟩
theorem VL(ha:PT X a tA)(hb:PW X (.BoolOp .Or (b::rest) pos) tB'):PW X (.BoolOp .Or (a::b::rest) pos) (tOr tA tB'):=by
 intro wh pins s σ H Q I h;refine isTrue_or (thn (ha pins s σ H _ I h) λc s1 ⟨H1,I1,q1⟩=>?_);cases c with
 |true=>exact ⟨H1,I1,q1⟩
 |false=>exact hb wh pins s1 σ H1 Q I1 q1
theorem VM(ha:PT X a tA):PT X (.UnaryOp .Not a pos) (VF tA):=by intro pins s σ H Q I h;exact isTrue_not (ha pins s σ H (λc H1=>Q (!c) H1) I h)
def VN(ta tb:TE):TE:=λσ H Q=>ta σ H λx H1=>∃c,x=.bl c/\if c=true then tb σ H1 Q else Q (.bl false) H1
def VP(ta tb:TE):TE:=λσ H Q=>ta σ H λx H1=>∃c,x=.bl c/\if c=true then Q (.bl true) H1 else tb σ H1 Q
theorem VR{op}{t:TE}(h:PE X a t):PE X (.BoolOp op [a] pos) t:=λpins s σ H Q I hw=>BoolOp_one (h pins s σ H Q I hw)
theorem VV(ha:PE X a ta)(hb:PE X (.BoolOp .And (b::rest) pos) tb):PE X (.BoolOp .And (a::b::rest) pos) (VN ta tb):=by
 intro pins s σ H Q I h;refine BoolOp_and (thn (ha pins s σ H _ I h) λv s1 ⟨x,H1,I1,r1,q1⟩=>?_);obtain ⟨c,rfl,q1⟩:=q1;cases r1;refine et ?_;cases c with
 |true=>exact hb pins s1 σ H1 Q I1 q1
 |false=>exact ⟨.bl false,H1,I1,rfl,q1⟩
theorem V0(ha:PE X a ta)(hb:PE X (.BoolOp .Or (b::rest) pos) tb):PE X (.BoolOp .Or (a::b::rest) pos) (VP ta tb):=by
 intro pins s σ H Q I h;refine BoolOp_or (thn (ha pins s σ H _ I h) λv s1 ⟨x,H1,I1,r1,q1⟩=>?_);obtain ⟨c,rfl,q1⟩:=q1;cases r1;refine et ?_;cases c with
 |false=>exact hb pins s1 σ H1 Q I1 q1
 |true=>exact ⟨.bl true,H1,I1,rfl,q1⟩
def tIf(t:TT)(ta tb:TE):TE:=λσ H Q=>t σ H λc H1=>if c=true then ta σ H1 Q else tb σ H1 Q
theorem V1{c:Expr}(hc:PT X c tA)(ha:PE X a ta)(hb:PE X b tb):PE X (.IfExp c a b pos) (tIf tA ta tb):=by
 intro pins s σ H Q I h;refine wpAny_IfExp (thn (hc pins s σ H _ I h) λd s1 ⟨H1,I1,q1⟩=>?_);cases d with
 |true=>exact ha pins s1 σ H1 Q I1 q1
 |false=>exact hb pins s1 σ H1 Q I1 q1
end
def SqL(K:PF)(H:Hp)(a:Addr)(xs:List V):Prop:=
 Rd H a (.lst xs)\/
  ∃(o:Obj) (its:Array Value) (n:Nat),K.lookup a=some o/\o.cls=.type "list"/\o.dict=none/\o.data=.seq its n/\its.size<=sizeLine/\Vals xs its.toList
def SqT(K:PF)(H:Hp)(a:Addr)(xs:List V):Prop:=
 Rd H a (.tup xs)\/
  ∃(o:Obj) (its:Array Value) (n:Nat),K.lookup a=some o/\o.cls=.type "tuple"/\o.data=.seq its n/\its.size<=sizeLine/\Vals xs its.toList
noncomputable def V2:Value->Option V
 |.none=>some .non
 |.bool b=>some (.bl b)
 |.int i _=>some (.int i)
 |.str x _=>some (.str x)
 |.bytes b _=>some (.byt b)
 |.float b _=>some (.flt b)
 |.ref a=>some (.ref a)
 |.type n=>some (.ty n)
 |_=>none
theorem RelV.abs{x:V}{u:Value}(r:RelV x u):V2 u=some x:=by
 cases x with
 |non=>cases r;rfl
 |bl _=>cases r;rfl
 |int _=>obtain ⟨t,rfl⟩:=r;rfl
 |str _=>obtain ⟨t,rfl⟩:=r;rfl
 |byt _=>obtain ⟨t,rfl⟩:=r;rfl
 |flt _=>obtain ⟨t,rfl⟩:=r;rfl
 |ref _=>cases r;rfl
 |ty _=>cases r;rfl
theorem RelV.inj{x y:V}{u:Value}(r:RelV x u)(q:RelV y u):x=y:=dk (r.abs.symm.trans q.abs)
theorem Vals.inj:∀{xs ys:List V}{us:List Value},Vals xs us->Vals ys us->xs=ys
 |_,_,_,.nil,.nil=>rfl
 |_,_,_,.cons r t,.cons r' t'=>by rw[r.inj r',Vals.inj t t']
section
variable {X:Cx} {pins:List (Addr×Obj)} {σ:St} {H:Hp} {s:Shared} {a:Addr} {xs ys:List V}
theorem SqL.of{K:PF}(h:H a=some (.lst xs)):SqL K H a xs:=.inl (.inl h)
theorem SqT.of{K:PF}(h:H a=some (.tup xs)):SqT K H a xs:=.inl (.inl h)
theorem Inv.list(I:Inv X pins σ H s)(h:SqL X.K H a xs):∃its:List Value,Vals xs its/\PlainL s.heap a its.toArray/\xs.length<=sizeLine:=by
 rcases h with h |⟨o,its,n,hk,hc,hd,hs,hz,r⟩
 ·obtain ⟨z,its,n,r,e⟩:=h.ok I.hok;exact ⟨its,r,⟨_,n,e,rfl,rfl,rfl⟩,z⟩
 ·refine ⟨its.toList,r,⟨o,n,I.kIn a o hk,hc,hd,by simpa using hs⟩,?_⟩;have e:=r.length;simp only[dP]at e;omega
theorem Inv.tuple(I:Inv X pins σ H s)(h:SqT X.K H a xs):∃its:List Value,Vals xs its/\IsTup s.heap a its.toArray/\xs.length<=sizeLine:=by
 rcases h with h |⟨o,its,n,hk,hc,hs,hz,r⟩
 ·obtain ⟨z,its,r,p⟩:=h.ok I.hok;exact ⟨its,r,p,z⟩
 ·refine ⟨its.toList,r,⟨o,I.kIn a o hk,hc,n,by simpa using hs⟩,?_⟩;have e:=r.length;simp only[dP]at e;omega
theorem Inv.list_inj(I:Inv X pins σ H s)(h:SqL X.K H a xs)(h':SqL X.K H a ys):xs=ys:=by
 obtain ⟨its,r,⟨o,n,e,_,_,d⟩,_⟩:=I.list h;obtain ⟨its',r',⟨o',n',e',_,_,d'⟩,_⟩:=I.list h';rw[e]at e';cases e';rw[d]at d';injection d' with d1 _;have:its=its':=by simpa using fb Array.toList d1
 subst this;exact r.inj r'
theorem Inv.tuple_inj(I:Inv X pins σ H s)(h:SqT X.K H a xs)(h':SqT X.K H a ys):xs=ys:=by
 obtain ⟨its,r,⟨o,e,_,n,d⟩,_⟩:=I.tuple h;obtain ⟨its',r',⟨o',e',_,n',d'⟩,_⟩:=I.tuple h';rw[e]at e';cases e';rw[d]at d';injection d' with d1 _;have:its=its':=by simpa using fb Array.toList d1
 subst this;exact r.inj r'
end
abbrev Cx.wish(X:Cx)(E:Value->Shared->Prop):Cx:={ X with xe:=E }
abbrev Cx.nox(X:Cx):Cx:=X.wish λ_ _=>False
theorem Cx.Ok.wish{X:Cx}(ok:X.Ok)(E:Value->Shared->Prop):(X.wish E).Ok:=
 ⟨ok.mod,ok.kind,ok.glob,ok.blt,ok.above,ok.inj,ok.has,ok.cab,ok.hd,ok.frames,ok.stk,ok.exf,ok.bs,ok.bsz,ok.noex,ok.exfs,ok.funs,ok.frf⟩
theorem Cx.Ok.unwish{X:Cx}{E:Value->Shared->Prop}(ok:(X.wish E).Ok):X.Ok:=
 ⟨ok.mod,ok.kind,ok.glob,ok.blt,ok.above,ok.inj,ok.has,ok.cab,ok.hd,ok.frames,ok.stk,ok.exf,ok.bs,ok.bsz,ok.noex,ok.exfs,ok.funs,ok.frf⟩
section
variable {X:Cx} {pins:List (Addr×Obj)} {σ:St} {H:Hp} {s:Shared} {E:Value->Shared->Prop}
theorem Inv.wish(I:Inv X pins σ H s)(E:Value->Shared->Prop):Inv (X.wish E) pins σ H s:=⟨I.ok.wish E,I.os,I.bare,I.base,I.loc,I.cell,I.free,I.freeC,I.pin,I.hok,I.len⟩
theorem Inv.unwish(I:Inv (X.wish E) pins σ H s):Inv X pins σ H s:=⟨I.ok.unwish,I.os,I.bare,I.base,I.loc,I.cell,I.free,I.freeC,I.pin,I.hok,I.len⟩
theorem SP.unwish{D:Ends}{f:Flow}{s':Shared}(h:SP (X.wish E) pins D f s'):SP X pins D f s':=by
 cases f with
 |next=>obtain ⟨σ',H',I,q⟩:=h;exact ⟨σ',H',I.unwish,q⟩
 |brk=>obtain ⟨σ',H',I,q⟩:=h;exact ⟨σ',H',I.unwish,q⟩
 |cont=>obtain ⟨σ',H',I,q⟩:=h;exact ⟨σ',H',I.unwish,q⟩
 |ret u=>obtain ⟨v,σ',H',I,r,q⟩:=h;exact ⟨v,σ',H',I.unwish,r,q⟩
theorem PSs.nox{st:List Stmt}{t:TS}(h:PSs X.nox st t):PSs X st t:=λpins s σ H D I hw=>
 c5 (h pins s σ H D (I.wish _) hw) (λ_ _ q=>q.unwish) λ_ _ z=>False.elim z
end
section
variable {X:Cx} {st:Stmt} {rest:List Stmt} {t u:TS} {e:Expr} {te:TE} {pos:Pos}
def BV:TS:=λD σ H=>D.nx σ H
def V3(t u:TS):TS:=λD σ H=>t { D with nx:=u D } σ H
theorem V4:PSs X [] BV:=λ_ _ σ H _ I h=>ft ⟨σ,H,I,h⟩
theorem BW(h1:PS X st t)(h2:PSs X rest u):PSs X (st::rest) (V3 t u):=by
 intro pins s σ H D I h;refine gt (thn (h1 pins s σ H { D with nx:=u D } I h) λf s1 q=>?_);cases f with
 |next=>
  obtain ⟨σ',H',I',q⟩:=q;exact h2 pins s1 σ' H' D I' q
 |ret v=>exact q
 |brk=>exact q
 |cont=>exact q
theorem BX(h1:PS X st t):PSs X [st] t:=by
 intro pins s σ H D I h;refine gt (thn (h1 pins s σ H D I h) λf s1 q=>?_);cases f with
 |next=>exact ft q
 |ret v=>exact q
 |brk=>exact q
 |cont=>exact q
def V5:TS:=λD σ H=>D.bk σ H
def V6:TS:=λD σ H=>D.ct σ H
theorem V7:PS X (.Pass pos) BV:=λ_ _ σ H _ I h=>wpAny_Pass ⟨σ,H,I,h⟩
theorem V8:PS X (.Break pos) V5:=λ_ _ σ H _ I h=>wpAny_Break ⟨σ,H,I,h⟩
theorem V9:PS X (.Continue pos) V6:=λ_ _ σ H _ I h=>wpAny_Continue ⟨σ,H,I,h⟩
theorem Inv.quiet{pins:List (Addr×Obj)}{σ:St}{H:Hp}{s:Shared}(I:Inv X pins σ H s):interactive X.env=false:=by simp[interactive,I.ok.kind]
def Wa(te:TE):TS:=λD σ H=>te σ H λ_ H1=>D.nx σ H1
theorem Wb(he:PE X e te)(hs:swapsWith e none pos.line X.env=pure false:=by rfl):PS X (.Expr e pos) (Wa te):=by intro pins s σ H D I h;exact wpAny_Expr_any (thn (he pins s σ H _ I h) λv s1 ⟨x,H1,I1,r1,q1⟩=>⟨σ,H1,I1,q1⟩) I.quiet hs
def BZ(te:TE):TS:=λD σ H=>te σ H D.rt
theorem Wc(he:PE X e te):PS X (.Return (some e) pos) (BZ te):=by intro pins s σ H D I h;exact wpAny_Return_some (thn (he pins s σ H _ I h) λv s1 ⟨x,H1,I1,r1,q1⟩=>⟨x,σ,H1,I1,r1,q1⟩)
def Wd:TS:=λD _ H=>D.rt .non H
theorem We:PS X (.Return none pos) Wd:=λ_ _ σ H _ I h=>wpAny_Return_none ⟨.non,σ,H,I,rfl,h⟩
def Wf(c:TT)(t u:TS):TS:=λD σ H=>c σ H λb H1=>if b=true then t D σ H1 else u D σ H1
theorem Wg{c:Expr}{a b:List Stmt}{tc:TT}(hc:PT X c tc)(ha:PSs X a t)(hb:PSs X b u):PS X (.If c a b pos) (Wf tc t u):=by
 intro pins s σ H D I h;refine wpAny_If (thn (hc pins s σ H _ I h) λd s1 ⟨H1,I1,q1⟩=>?_);cases d with
 |true=>exact ha pins s1 σ H1 D I1 q1
 |false=>exact hb pins s1 σ H1 D I1 q1
def Wh:TS:=λ_ _ _=>False
theorem Wi:PS X st Wh:=λ_ _ _ _ _ _ h=>h.elim
end
abbrev TG:=V->St->Hp->(St->Hp->Prop)->Prop
abbrev TGs:=List V->St->Hp->(St->Hp->Prop)->Prop
def PG(X:Cx)(target:Expr)(t:TG):Prop:=
 ∀(pins:List (Addr×Obj))(s:Shared)(σ:St)(H:Hp)(v:V)(u:Value)(Q:St->Hp->Prop),Inv X pins σ H s->RelV v u->t v σ H Q->
  wpAny (model X.prog X.w) X.A (assign target X.env u) (λ_ s'=>∃σ' H',Inv X pins σ' H' s'/\Q σ' H') X.xe s
def PGs(X:Cx)(ts:List Expr)(t:TGs):Prop:=
 ∀(pins:List (Addr×Obj))(s:Shared)(σ:St)(H:Hp)(vs:List V)(us:List Value)(Q:St->Hp->Prop),Inv X pins σ H s->Vals vs us->t vs σ H Q->
  wpAny (model X.prog X.w) X.A (assignInOrder ((assignEach ts X.env).map (·.2)) us) (λ_ s'=>∃σ' H',Inv X pins σ' H' s'/\Q σ' H') X.xe s
abbrev v7:=V->V->V->Hp->(Hp->Prop)->Prop
def v8(X:Cx)(t:v7):Prop:=
 ∀(pins:List (Addr×Obj))(s:Shared)(σ:St)(H:Hp)(o i v:V)(ov iv u:Value)(Q:Hp->Prop),Inv X pins σ H s->RelV o ov->RelV i iv->RelV v u->t o i v H Q->
  wpAny (model X.prog X.w) X.A (setItem ov iv u) (λ_ s'=>∃H',Inv X pins σ H' s'/\Q H') X.xe s
abbrev TIp:=V->V->Hp->VK->Prop
def PIp(X:Cx)(op:Operator)(t:TIp):Prop:=
 ∀(pins:List (Addr×Obj))(s:Shared)(σ:St)(H:Hp)(x y:V)(v u:Value)(Q:VK),Inv X pins σ H s->RelV x v->RelV y u->t x y H Q->
  wpAny (model X.prog X.w) X.A (inplaceOp op v u) (EP X pins σ Q) X.xe s
section
variable {X:Cx} {pos:Pos}
def qD(i:Nat):TG:=λv σ H Q=>Q (σ.set i (some v)) H
theorem Wj{i:Nat}{x:Str}(hN:X.N.Nodup)(hi:X.N[i]?=some x)(hx:Loc X.env.scope x)(hf:X.fn x=true\/X.env.scope.names.lookup x=some .local:=by first |exact .inl rfl |exact .inr rfl |assumption):PG X (.Name x pos) (qD i):=by intro pins s σ H v u Q I r h;exact wpAny_assign_Name (qC I hN hi hx r (λs' I'=>⟨_,H,I',h⟩) hf)
def Wk:TGs:=λvs σ H Q=>vs=[]/\Q σ H
def Wl(t:TG)(u:TGs):TGs:=λvs σ H Q=>∃v r,vs=v::r/\t v σ H λσ' H'=>u r σ' H' Q
theorem Wm:PGs X [] Wk:=by intro pins s σ H vs us Q I r h;obtain ⟨e,h⟩:=h;subst e;cases r;exact assignInOrder_nil ⟨σ,H,I,h⟩
theorem Wn{e:Expr}{es:List Expr}{t:TG}{u:TGs}(h1:PG X e t)(h2:PGs X es u)
  (hs:(assignEach (e::es) X.env).map (·.2)=assign e X.env::(assignEach es X.env).map (·.2):=by rfl):PGs X (e::es) (Wl t u):=by
 intro pins s σ H vs us Q I r h;obtain ⟨v,vr,e1,h⟩:=h;subst e1;cases r with
 |cons r rr=>
  rw[hs];refine assignInOrder_cons (thn (h1 pins s σ H _ _ _ I r h) λ_ s1 ⟨σ1,H1,I1,q1⟩=>?_);exact h2 pins s1 σ1 H1 _ _ Q I1 rr q1
def Wo(K:PF)(n:Nat)(t:TGs):TG:=λv σ H Q=>∃a xs,v=.ref a/\SqT K H a xs/\xs.length=n/\t xs σ H Q
theorem Wq{es:List Expr}{k:Nat}{t:TGs}{n:Nat}(hc:X.calm=true)(h:PGs X es t)
  (hn:(assignEach es X.env).length=n:=by rfl) (hst:(assignEach es X.env).findIdx? (·.1)=none:=by rfl):PG X (.Tuple es k pos) (Wo X.K n t):=by
 intro pins s σ H v u Q I r hw;obtain ⟨a,xs,e1,hq,hl,hw⟩:=hw;subst e1;cases r;obtain ⟨its,rv,ht,hz⟩:=I.tuple hq;refine assign_Tuple_tuple (I.ok.hd hc) ht (by simp[hn,<-hl,rv.length]) hst λh' hx=>?_;have I1:Inv X pins σ H { s with heap:=h' }:=I.kept (t':=s.toks) λb o e=>hx b o (cr (aE e)) e;exact h pins _ σ H xs _ Q I1 (by simpa using rv) hw
def Wr(to ti:TE)(t:v7):TG:=λv σ H Q=>to σ H λo H1=>ti σ H1 λi H2=>t o i v H2 λH3=>Q σ H3
theorem Ws{o i:Expr}{to ti:TE}{t:v7}(ho:PE X o to)(hi:PE X i ti)(hs:v8 X t)
  (ha:∀v,assign (.Subscript o i pos) X.env v=(do
   let ov <-holding [v] (eval o X.env)
   let iv <-holding [v,ov] (eval i X.env)
   standAt pos
   holding [v,ov,iv] (setItem ov iv v)
   release [v,ov,iv] []):=by intro _;rfl):PG X (.Subscript o i pos) (Wr to ti t):=by
 intro pins s σ H v u Q I r h;rw[ha];refine ah (eT (thn (ho pins s σ H _ I h) λov s1 ⟨x,H1,I1,r1,q1⟩=>?_));refine ah (eT (thn (hi pins s1 σ H1 _ I1 q1) λiv s2 ⟨y,H2,I2,r2,q2⟩=>?_));refine ah (wpAny_standAt (ah (eT (thn (hs pins s2 σ H2 x y v ov iv u _ I2 r1 r2 r q2) λ_ s3 ⟨H3,I3,q3⟩=>?_))));exact wpAny_release ⟨σ,H3,I3,q3⟩
def qF(te:TE)(g:TG):TS:=λD σ H=>te σ H λx H1=>g x σ H1 D.nx
theorem Ca{tg e:Expr}{te:TE}{g:TG}(he:PE X e te)(hg:PG X tg g)(hs:swapsWithSole [tg] e pos.line X.env=pure false:=by rfl)(hw:swappedStores [tg] e X.env=pure none:=by rfl)
  (h1:(assignEach [tg] X.env).map (·.2)=[assign tg X.env]:=by rfl):PS X (.Assign [tg] e pos) (qF te g):=by
 intro pins s σ H D I h;refine wpAny_Assign_stores (thn (he pins s σ H _ I h) λv s1 ⟨x,H1,I1,r1,q1⟩=>?_) hs hw;rw[h1];exact thn (hg pins s1 σ H1 x v _ I1 r1 q1) λ_ s2 q=>q
theorem v9{i:Nat}{x:Str}{e:Expr}{te:TE}{pos':Pos}(hN:X.N.Nodup)(hi:X.N[i]?=some x)(hx:Loc X.env.scope x)(he:PE X e te)(hs:swapsWith e (some (.Name x pos')) pos.line X.env=pure false:=by rfl)(hf:X.fn x=true\/X.env.scope.names.lookup x=some .local:=by first |exact .inl rfl |exact .inr rfl |assumption):
  PS X (.Assign [.Name x pos'] e pos) (qF te (qD i)):=by
 intro pins s σ H D I h;refine wpAny_Assign_Name (thn (he pins s σ H _ I h) λv s1 ⟨y,H1,I1,r1,q1⟩=>?_) hs;exact qC I1 hN hi hx r1 (λs2 I2=>⟨_,H1,I2,q1⟩) hf
def Wt(i:Nat)(te:TE)(ti:TIp):TS:=λD σ H=>∃x,σ[i]?=some (some x)/\te σ H λy H1=>ti x y H1 λz H2=>D.nx (σ.set i (some z)) H2
theorem Wu{i:Nat}{x:Str}{e:Expr}{te:TE}{op:Operator}{ti:TIp}{pos':Pos}(hN:X.N.Nodup)(hi:X.N[i]?=some x)(hx:Loc X.env.scope x)(he:PE X e te)(ho:PIp X op ti)(hf:X.fn x=true\/X.env.scope.names.lookup x=some .local:=by first |exact .inl rfl |exact .inr rfl |assumption):
  PS X (.AugAssign (.Name x pos') op e pos) (Wt i te ti):=by
 intro pins s σ H D I h;obtain ⟨v,e1,h⟩:=h;obtain ⟨m,hn,hl⟩:=I.loc;have vis:Vis X.env.scope x:=by rcases hx with k |k;exact .inl k;exact .inr (.inl k)
 obtain ⟨u,r,l⟩:=hl i x v hi e1 vis;refine wpAny_AugAssign_Name ?_;have go:wpAny (model X.prog X.w) X.A (eval e X.env) (λw s₂=>wpAny (model X.prog X.w) X.A (inplaceOp op u w) (λr s₃=>wpAny (model X.prog X.w) X.A (storeName X.env x r) (λ_=>SP X pins D .next) X.xe s₃) X.xe s₂) X.xe s:=by refine thn (he pins s σ H _ I h) λw s1 ⟨y,H1,I1,r1,q1⟩=>?_;refine thn (ho pins s1 σ H1 v y u w _ I1 r r1 q1) λz s2 ⟨zv,H2,I2,r2,q2⟩=>?_;exact qC I2 hN hi hx r2 (λs3 I3=>⟨_,H2,I3,q2⟩) hf
 rcases l with ⟨hk,hm⟩ |⟨hk,c,hc,hcell⟩
 ·exact wpAny_loadName_local I.ok.kind hk hn hm go
 ·rcases hk with hk |hk
  ·exact wpAny_loadName_cell I.ok.kind hk hc hcell go
  ·rcases hx with k |k
   ·have:X.env.scope.names.lookup x=some .free:=hk;rw[k]at this;cases this
   ·have:X.env.scope.names.lookup x=some .free:=hk;rw[k]at this;cases this
end
section
variable {X:Cx} {pos:Pos}
def Wv(c:TT)(tb:TS):TS:=λD σ H=>∃W:Nat->St->Hp->Prop,(∃m,W m σ H)/\∀m σ H,W m σ H->
 c σ H λb H1=>if b=true then ∃N:St->Hp->Prop,(∀σ' H',N σ' H'->∃m',m' < m/\W m' σ' H')/\tb { D with nx:=N,ct:=N,bk:=D.nx } σ H1 else D.nx σ H1
theorem Ww{c:Expr}{body:List Stmt}{tc:TT}{tb:TS}(hp:PassesOwn (model X.prog X.w) X.A X.env X.xe)(hc:PT X c tc)(hb:PSs X body tb):PS X (.While c body [] pos) (Wv tc tb):=by
 intro pins s σ H D I h;obtain ⟨W,⟨m0,w0⟩,turn⟩:=h;refine wpAny_While (codeAny_whileLoop (λn s'=>∃σ' H',Inv X pins σ' H' s'/\W n σ' H') ?_ m0 ⟨σ,H,I,w0⟩);rintro n s1 ⟨σ1,H1,I1,w1⟩;refine fq hp (thn (hc pins s1 σ1 H1 _ I1 (turn n σ1 H1 w1)) λb s2 ⟨H2,I2,q2⟩=>?_);cases b with
 |true=>
  obtain ⟨N,hN,q2⟩:=q2;rw[if_pos rfl];refine fq hp (thn (hb pins s2 σ1 H2 _ I2 q2) λf s3 q3=>?_);cases f with
  |next=>
   obtain ⟨σ3,H3,I3,n3⟩:=q3;obtain ⟨m',hm,w3⟩:=hN σ3 H3 n3;exact ⟨m',hm,σ3,H3,I3,w3⟩
  |cont=>
   obtain ⟨σ3,H3,I3,n3⟩:=q3;obtain ⟨m',hm,w3⟩:=hN σ3 H3 n3;exact ⟨m',hm,σ3,H3,I3,w3⟩
  |brk=>exact q3
  |ret v=>exact q3
 |false=>
  rw[if_neg bo];exact ft ⟨σ1,H2,I2,q2⟩
end
structure It where
 go:Nat->Hp->Prop
 yld:Nat->Hp->V->Hp->Prop
 stop:Nat->Hp->Prop
def eY(X:Cx)(pins:List (Addr×Obj))(H:Hp)(b:Addr):Prop:=
 H b=none/\b≠X.env.locals/\b∉X.fs/\(b∈X.ex\/X.s₀.heap.objs.size<=b)/\(∀x c,X.env.cells.lookup x=some c->c≠b)/\∀p∈X.pn++pins,p.1≠b
theorem Inv.fpOk{X:Cx}{pins:List (Addr×Obj)}{σ:St}{H H':Hp}{s:Shared}{b:Addr}(I:Inv X pins σ H s)(hb:s.heap.objs.size<=b)(hn:H' b=none):eY X pins H' b:=by
 refine ⟨hn,fT (bP I.lt hb),I.nofs hb,.inr (br I.sz hb),λx c e z=>?_,λp hp z=>?_⟩
 ·obtain ⟨v,q⟩:=I.cell x c e;exact absurd (bP q.lt (by rw[z];exact hb)) (d6 _)
 ·exact absurd (bP (aE (I.pin p hp).1) (by rw[z];exact hb)) (d6 _)
structure Turn(P:Program)(w:World)(K:PF)(tg:Expr)(J:It)(fp:List Addr)(it:Addr)(tn:Nat->Heap->Prop):Prop where
 mem:it∈fp
 obj:∀i h,tn i h->∀b∈fp,∃o,h.get? b=some o/\∀v,o.data≠.cell v
 keep:∀i h h',tn i h->(∀b∈fp,∀o,h.get? b=some o->h'.get? b=some o)->tn i h'
 item:∀(X:Cx),X.prog=P->X.w=w->X.K=K->X.calm=true->∀(i:Nat)(pins:List (Addr×Obj))(s:Shared)(σ:St)(H:Hp)(E:Value->Shared->Prop),Inv X pins σ H s->(∀b∈fp,eY X pins H b)->tn i s.heap->J.go i H->
  wpAny (model P w) X.A (pyNext (.ref it)) (λr s1=>∃u,r=some u/\
   wpAny (model P w) X.A (letOwnedTupleGo tg (.ref it) u) (λ_ s2=>∃x H',Inv X pins σ H' s2/\RelV x u/\J.yld i H x H'/\tn (i+1) s2.heap/\∀b∈fp,H' b=none) E s1) E s
 done:∀(X:Cx),X.prog=P->X.w=w->X.K=K->X.calm=true->∀(i:Nat)(pins:List (Addr×Obj))(s:Shared)(σ:St)(H:Hp)(E:Value->Shared->Prop),Inv X pins σ H s->(∀b∈fp,eY X pins H b)->tn i s.heap->J.stop i H->
  wpAny (model P w) X.A (pyNext (.ref it)) (λr s1=>r=none/\Inv X pins σ H s1) E s
 self:∀(A:Around)(i:Nat)(s:Shared)(Q:Value->Shared->Prop)(E:Value->Shared->Prop),tn i s.heap->Q (.ref it) s->wpAny (model P w) A (pyIter (.ref it)) Q E s
abbrev TI:=St->Hp->(It->Hp->Prop)->Prop
def PIE(X:Cx)(pins:List (Addr×Obj))(σ:St)(tg:Expr)(R:It->Hp->Prop)(itv:Value)(s2:Shared):Prop:=
 ∃(it:Addr)(fp:List Addr)(tn:Nat->Heap->Prop)(J:It)(H':Hp),itv=.ref it/\Inv X pins σ H' s2/\Turn X.prog X.w X.K tg J fp it tn/\tn 0 s2.heap/\(∀b∈fp,eY X pins H' b)/\R J H'
def PI(X:Cx)(tg iter:Expr)(wi:TI):Prop:=
 ∀(pins:List (Addr×Obj))(s:Shared)(σ:St)(H:Hp)(R:It->Hp->Prop),Inv X pins σ H s->wi σ H R->
  wpAny (model X.prog X.w) X.A (eval iter X.env) (λv s1=>wpAny (model X.prog X.w) X.A (pyIter v) (PIE X pins σ tg R) X.xe s1) X.xe s
theorem qG{M:Model}{A:Around}{E:Value->Shared->Prop}{s:Shared}{tg:Expr}{it:Addr}{u:Value}{o:Obj}{n:String}{vs:Array Value}{Q:Unit->Shared->Prop}(ho:s.heap.get? it=some o)(hc:o.cls=.type n)(hd:o.data=.fields vs)
  (hn:["enumerate","zip","dict_itemiterator","dict_reverseitemiterator","odict_iterator","itertools.zip_longest","itertools.pairwise"].contains n=false) (hQ:Q () s):wpAny M A (letOwnedTupleGo tg (.ref it) u) Q E s:=by
 unfold letOwnedTupleGo;cases tg <;> first
  |exact bn hQ
  | (cases u <;> first
    |exact bn hQ
    | (refine ah (wpAny_load ho ?_)
       rw[hc,hd];show wpAny M A (if (["enumerate","zip","dict_itemiterator","dict_reverseitemiterator","odict_iterator","itertools.zip_longest","itertools.pairwise"].contains n&&vs[0]?==some (rawInt _))=true then _ else _) Q E s;rw[if_neg (by intro h;rw[hn,Bool.false_and]at h;cases h)];exact bn hQ))
def Itl(K:PF)(a:Addr):It:=
 ⟨λi H=>∃xs x,SqL K H a xs/\xs[i]?=some x,λi H x H'=>H'=H/\∀xs,SqL K H a xs->xs[i]?=some x,λi H=>∃xs,SqL K H a xs/\xs.length<=i⟩
def Itt(K:PF)(a:Addr):It:=
 ⟨λi H=>∃xs x,SqT K H a xs/\xs[i]?=some x,λi H x H'=>H'=H/\∀xs,SqT K H a xs->xs[i]?=some x,λi H=>∃xs,SqT K H a xs/\xs.length<=i⟩
def Itr(lo:Int)(n:Nat):It:=⟨λi _=>i < n,λi H x H'=>H'=H/\x=.int (lo+i),λi _=>n<=i⟩
theorem Cd{P:Program}{w:World}{K:PF}{tg:Expr}(a it:Addr):Turn P w K tg (Itl K a) [it] it (λi h=>h.IsListIter it a i) where
 mem:=by simp
 obj:=λi h st b hb=>by
  have e:b=it:=by simpa using hb
  subst e;obtain ⟨o,e,c,d⟩:=st;exact ⟨o,e,λv z=>by rw[d]at z;cases z⟩
 keep:=λi h h' st k=>st.at λo e=>k it (by simp) o e
 item:=by intro X hP hw hK hc i pins s σ H E I hf st hg;subst hP hw hK;obtain ⟨xs,x,hq,hx⟩:=hg;obtain ⟨its,rv,p,hz⟩:=I.list hq;obtain ⟨u,hu,ru⟩:=rv.get hx;obtain ⟨f0,f1,f2,f3,f4,f5⟩:=hf it (by simp);refine wpAny_pyNext_list_item st p.isList (x:=u) (by simpa using hu) λh' st' sb=>?_;have I1:Inv X pins σ H { s with heap:=h' }:=I.turned (t':=s.toks) (λb o hb e=>(sb.2 b hb).trans e) f0 f1 f3 f4 f5;obtain ⟨o,e,c,d⟩:=id st';exact ⟨u,rfl,qG (s:={ s with heap:=h' }) e c d (by decide) ⟨x,H,I1,ru,⟨rfl,λys hy=>by rw[I.list_inj hy hq];exact hx⟩,st',λb hb=>(hf b hb).1⟩⟩
 done:=by intro X hP hw hK hc i pins s σ H E I hf st hg;subst hP hw hK;obtain ⟨xs,hq,hx⟩:=hg;obtain ⟨its,rv,p,hz⟩:=I.list hq;obtain ⟨f0,f1,f2,f3,f4,f5⟩:=hf it (by simp);have hl:=rv.length;exact wpAny_pyNext_list_end (I.ok.hd hc) st p.isList (by simp;omega) λh' eb=>⟨rfl,I.turned (t':=s.toks) (λb o hb e=>eb b o hb e) f0 f1 f3 f4 f5⟩
 self:=λ_ _ _ _ _ st h=>wpAny_pyIter_listiter st h
theorem Ce{P:Program}{w:World}{K:PF}{tg:Expr}(a it:Addr):Turn P w K tg (Itt K a) [it] it (λi h=>h.IsTupleIter it a i) where
 mem:=by simp
 obj:=λi h st b hb=>by
  have e:b=it:=by simpa using hb
  subst e;obtain ⟨o,e,c,d⟩:=st;exact ⟨o,e,λv z=>by rw[d]at z;cases z⟩
 keep:=λi h h' st k=>st.at λo e=>k it (by simp) o e
 item:=by intro X hP hw hK hc i pins s σ H E I hf st hg;subst hP hw hK;obtain ⟨xs,x,hq,hx⟩:=hg;obtain ⟨its,rv,p,hz⟩:=I.tuple hq;obtain ⟨u,hu,ru⟩:=rv.get hx;obtain ⟨f0,f1,f2,f3,f4,f5⟩:=hf it (by simp);refine wpAny_pyNext_tuple_item st (show s.heap.IsTuple a its.toArray from p) (x:=u) (by simpa using hu) λh' st' sb=>?_;have I1:Inv X pins σ H { s with heap:=h' }:=I.turned (t':=s.toks) (λb o hb e=>(sb.2 b hb).trans e) f0 f1 f3 f4 f5;obtain ⟨o,e,c,d⟩:=id st';exact ⟨u,rfl,qG (s:={ s with heap:=h' }) e c d (by decide) ⟨x,H,I1,ru,⟨rfl,λys hy=>by rw[I.tuple_inj hy hq];exact hx⟩,st',λb hb=>(hf b hb).1⟩⟩
 done:=by intro X hP hw hK hc i pins s σ H E I hf st hg;subst hP hw hK;obtain ⟨xs,hq,hx⟩:=hg;obtain ⟨its,rv,p,hz⟩:=I.tuple hq;obtain ⟨f0,f1,f2,f3,f4,f5⟩:=hf it (by simp);have hl:=rv.length;exact wpAny_pyNext_tuple_end (I.ok.hd hc) st (show s.heap.IsTuple a its.toArray from p) (by simp;omega) λh' eb=>⟨rfl,I.turned (t':=s.toks) (λb o hb e=>eb b o hb e) f0 f1 f3 f4 f5⟩
 self:=λ_ _ _ _ _ st h=>wpAny_pyIter_tupleiter st h
theorem Wx{P:Program}{w:World}{K:PF}{tg:Expr}(it:Addr)(lo:Int)(n:Nat):Turn P w K tg (Itr lo n) [it] it (λi h=>IsRangeIter h it (lo+(i:Nat) * 1) ((n:Int) - (i:Nat)) 1) where
 mem:=by simp
 obj:=λi h st b hb=>by
  have e:b=it:=by simpa using hb
  subst e;exact ⟨_,st,λv z=>by
   have z':Data.fields _=Data.cell v:=z;cases z'⟩
 keep:=λi h h' st k=>k it (by simp) _ st
 item:=by intro X hP hw hK hc i pins s σ H E I hf st hg;subst hP hw hK;obtain ⟨f0,f1,f2,f3,f4,f5⟩:=hf it (by simp);have W:=Walks.range (prog:=X.prog) (w:=X.w) (I.ok.hd hc) it lo 1 n;refine W.item i s _ _ hg st λv h' tk hv st' kk=>?_;obtain ⟨t,rfl⟩:=hv;have I1:Inv X pins σ H { s with heap:=h',toks:=tk }:=I.turned (λb o hb e=>kk b o (by simpa using hb) e) f0 f1 f3 f4 f5;refine ⟨_,rfl,qG (s:={ s with heap:=h',toks:=tk }) (n:="range_iterator") st' rfl rfl (by decide) ⟨.int (lo+i),H,I1,⟨t,?_⟩,⟨rfl,rfl⟩,st',λb hb=>(hf b hb).1⟩⟩;rw[Int.mul_one]
 done:=by intro X hP hw hK hc i pins s σ H E I hf st hg;subst hP hw hK;obtain ⟨f0,f1,f2,f3,f4,f5⟩:=hf it (by simp);exact wpAny_pyNext_range_end (I.ok.hd hc) st (by have:n<=i:=hg;omega) λh' eb=>⟨rfl,I.turned (t':=s.toks) (λb o hb e=>eb b o hb e) f0 f1 f3 f4 f5⟩
 self:=λ_ _ _ _ _ st h=>wpAny_pyIter_rangeiter st h
section
variable {X:Cx} {tg:Expr}
theorem Wy{pins:List (Addr×Obj)}{σ:St}{H:Hp}{s:Shared}{R:It->Hp->Prop}{E:Value->Shared->Prop}{lo hi:Int}{t u v:Tok}{tk:Nat}(I:Inv X pins σ H s)(h1:-(2 ^ 62)<=lo)(h2:lo < 2 ^ 62)(h3:-(2 ^ 62)<=hi)(h4:hi < 2 ^ 62)
  (q:R (Itr lo (hi - lo).toNat) H):wpAny (model X.prog X.w) X.A (pyIter (.ref s.heap.objs.size)) (PIE X pins σ tg R) E { s with heap:=s.heap.push { cls:=.type "range",data:=.fields #[.int lo t,.int hi u,.int 1 v] },toks:=tk }:=by
 refine wpAny_pyIter_range (IsRange.new ..) (small_one h1 h2 h3 h4) ?_;have I1:Inv X pins σ H { s with heap:=s.heap.push { cls:=.type "range",data:=.fields #[.int lo t,.int hi u,.int 1 v] },toks:=tk }:=I.kept λb o e=>al _ e;refine ⟨(s.heap.push { cls:=.type "range",data:=.fields #[.int lo t,.int hi u,.int 1 v] }).objs.size,[(s.heap.push { cls:=.type "range",data:=.fields #[.int lo t,.int hi u,.int 1 v] }).objs.size],_,_,H,rfl,
  I1.kept (t':=tk) λb o e=>al _ e,Wx _ lo (hi - lo).toNat,?_,λb hb=>?_,q⟩
 ·have e1:lo+((0:Nat):Int) * 1=lo:=by simp
  have e2:(((hi - lo).toNat:Nat):Int) - ((0:Nat):Int)=Builtin.Range.rangeSize lo hi 1:=by rw[rangeSize_one];split <;> omega
  show IsRangeIter _ _ (lo+((0:Nat):Int) * 1) ((((hi - lo).toNat:Nat):Int) - ((0:Nat):Int)) 1;rw[e1,e2];exact bb _ rfl
 ·have e:b=(s.heap.push { cls:=.type "range",data:=.fields #[.int lo t,.int hi u,.int 1 v] }).objs.size:=by simpa using hb
  subst e;exact I1.fpOk (ax _) (I1.hok.fresh (ax _))
def Wz(ta:TA):TI:=λσ H R=>ta σ H λvs H1=>∃j:Int,vs=[.int j]/\-(2 ^ 62)<=j/\j < 2 ^ 62/\R (Itr 0 j.toNat) H1
theorem WD {a:Expr} {ta:TA} {p pos:Pos} (hg:Gl X "range") (hm:X.mg "range"=none) (ha:PA X [a] ta) (hs:starEach [a] X.env=[(false,eval a X.env)]:=by rfl):PI X tg (.Call (.Name "range" p) [a] [] pos) (Wz ta):=by
 intro pins s σ H R I h;refine Call_ (jj I hg hm boot_range (fk (thn (ha pos pins s σ H _ I h) λus s1 ⟨vs,H1,I1,r1,q1⟩=>?_) hs rfl));obtain ⟨j,e,q1,q2,q⟩:=q1;subst e;cases r1 with
 |cons r rr=>
  cases rr;obtain ⟨t,rfl⟩:=r;exact call_range_1 (Wy I1 (by omega) (by omega) q1 q2 (by simpa using q))
def WF(wi:TI)(g:TG)(tb:TS):TS:=λD σ H=>wi σ H λJ H1=>∃W:Nat->Nat->St->Hp->Prop,(∃m,W 0 m σ H1)/\∀i m σ H,W i m σ H->
 (J.stop i H/\D.nx σ H)\/(J.go i H/\∃N:St->Hp->Prop,(∀σ' H',N σ' H'->∃m',m' < m/\W (i+1) m' σ' H')/\∀x H',J.yld i H x H'->g x σ H' λσ2 H2=>tb { D with nx:=N,ct:=N,bk:=D.nx } σ2 H2)
def kI(fp:List Addr)(h:Heap):List (Addr×Obj):=fp.filterMap λb=>(h.get? b).map λo=>(b,o)
theorem qH{fp:List Addr}{h:Heap}{b:Addr}{o:Obj}(hb:b∈fp)(e:h.get? b=some o):(b,o)∈kI fp h:=List.mem_filterMap.mpr ⟨b,hb,by rw[e];rfl⟩
theorem WK{fp:List Addr}{h:Heap}{p:Addr×Obj}(hp:p∈kI fp h):p.1∈fp/\h.get? p.1=some p.2:=by
 obtain ⟨b,hb,e⟩:=List.mem_filterMap.mp hp;cases q:h.get? b with
 |none=>rw[q]at e;cases e
 |some o=>
  rw[q]at e;have e':(b,o)=p:=dk e;subst e';exact ⟨hb,q⟩
theorem Inv.pinned{pins:List (Addr×Obj)}{σ:St}{H:Hp}{s:Shared}{fp:List Addr}(I:Inv X pins σ H s)(hf:∀b∈fp,eY X pins H b)(ho:∀b∈fp,∃o,s.heap.get? b=some o/\∀v,o.data≠.cell v):Inv X (pins++kI fp s.heap) σ H s:=
 I.pins_of λp hp=>(a7.mp hp).elim (λz=>I.pin p (a8 _ z)) λz=>by
  obtain ⟨hb,e⟩:=WK z;obtain ⟨f0,f1,f2,_⟩:=hf p.1 hb;obtain ⟨o,e',d⟩:=ho p.1 hb;rw[e]at e';cases e';exact ⟨e,f0,f1,f2,d⟩
theorem Inv.unpinned{pins pl:List (Addr×Obj)}{σ:St}{H:Hp}{s:Shared}(I:Inv X (pins++pl) σ H s):Inv X pins σ H s:=I.pins_of λp hp=>I.pin p (a8 _ (cK _ hp))
theorem WL{iter:Expr}{body:List Stmt}{wi:TI}{g:TG}{tb:TS}{pos:Pos}(hp:PassesOwn (model X.prog X.w) X.A X.env X.xe)(hc:X.calm=true)(hi:PI X tg iter wi)(hg:PG X tg g)(hb:PSs X body tb)
  (hs:∀x,foldedSetIterable iter X.env x=pure x:=by intro _;rfl):PS X (.For tg iter body [] pos) (WF wi g tb):=by
 intro pins s σ H D I h;refine wpAny_For (thn (hi pins s σ H _ I h) λv s1 h1=>thn h1 λitv s2 h2=>?_) hs;obtain ⟨it,fp,tn,J,H2,e,I2,T,st2,f2,W,⟨m0,w0⟩,turn⟩:=h2;subst e
 -- what stays true of the iterator's objects through the loop
 have stat:∀{H':Hp},(∀b∈fp,H' b=none)->∀b∈fp,eY X pins H' b:=λhn b hb=>⟨hn b hb,(f2 b hb).2⟩;refine codeAny_forLoop_any (λn s'=>∃i σ' H',Inv X pins σ' H' s'/\tn i s'.heap/\(∀b∈fp,H' b=none)/\W i n σ' H') ?_ m0 ⟨0,σ,H2,I2,st2,λb hb=>(f2 b hb).1,w0⟩;rintro n s3 ⟨i,σ3,H3,I3,st3,fr3,w3⟩;rcases turn i n σ3 H3 w3 with ⟨stop,qn⟩ |⟨go,N,hN,step⟩
 ·refine fq hp (thn (T.done X rfl rfl rfl hc i pins s3 σ3 H3 X.xe I3 (stat fr3) st3 stop) λr s4 ⟨hr,I4⟩=>?_);subst hr;exact ft ⟨σ3,H3,I4,qn⟩
 ·refine fq hp (thn (T.item X rfl rfl rfl hc i pins s3 σ3 H3 X.xe I3 (stat fr3) st3 go) λr s4 ⟨u,hr,h4⟩=>?_);subst hr;refine fq hp (thn h4 λ_ s5 ⟨x,H5,I5,r5,y5,st5,fr5⟩=>?_);have I5':=I5.pinned (stat fr5) (T.obj _ _ st5);refine fq hp (thn (hg _ s5 σ3 H5 x u _ I5' r5 (step x H5 y5)) λ_ s6 ⟨σ6,H6,I6,q6⟩=>?_);refine fq hp (thn (hb _ s6 σ6 H6 _ I6 q6) λf s7 q7=>?_);have again:∀{σ7:St}{H7:Hp},Inv X (pins++kI fp s5.heap) σ7 H7 s7->N σ7 H7->∃m,m < n/\∃i σ' H',Inv X pins σ' H' s7/\tn i s7.heap/\(∀b∈fp,H' b=none)/\W i m σ' H':=λ{σ7 H7} I7 n7=>by
   obtain ⟨m',hm,w7⟩:=hN σ7 H7 n7;refine ⟨m',hm,i+1,σ7,H7,I7.unpinned,T.keep _ _ _ st5 λb hb o e=>(I7.pin (b,o) (a8 _ (a8 _ (qH hb e)))).1,λb hb=>?_,w7⟩;obtain ⟨o,e,d⟩:=T.obj _ _ st5 b hb;exact (I7.pin (b,o) (a8 _ (a8 _ (qH hb e)))).2.1
  cases f with
  |next=>obtain ⟨σ7,H7,I7,n7⟩:=q7;exact again I7 n7
  |cont=>obtain ⟨σ7,H7,I7,n7⟩:=q7;exact again I7 n7
  |brk=>obtain ⟨σ7,H7,I7,q7⟩:=q7;exact ⟨σ7,H7,I7.unpinned,q7⟩
  |ret v=>obtain ⟨x7,σ7,H7,I7,r7,q7⟩:=q7;exact ⟨x7,σ7,H7,I7.unpinned,r7,q7⟩
end
abbrev R2:=V->V->Hp->VK->Prop
def OpR(X:Cx)(f:Value->Value->Sem Value)(r:R2):Prop:=
 ∀(pins:List (Addr×Obj))(s:Shared)(σ:St)(H:Hp)(x y:V)(v u:Value)(Q:VK),Inv X pins σ H s->RelV x v->RelV y u->r x y H Q->
  wpAny (model X.prog X.w) X.A (f v u) (EP X pins σ Q) X.xe s
def UnR(X:Cx)(f:Value->Sem Value)(r:V->Hp->VK->Prop):Prop:=
 ∀(pins:List (Addr×Obj))(s:Shared)(σ:St)(H:Hp)(x:V)(v:Value)(Q:VK),Inv X pins σ H s->RelV x v->r x H Q->
  wpAny (model X.prog X.w) X.A (f v) (EP X pins σ Q) X.xe s
def bC(X:Cx)(f:Value)(r:List V->Hp->VK->Prop):Prop:=
 ∀(pins:List (Addr×Obj))(s:Shared)(σ:St)(H:Hp)(xs:List V)(us:List Value)(Q:VK),Inv X pins σ H s->Vals xs us->r xs H Q->
  wpAny (model X.prog X.w) X.A (call f us) (EP X pins σ Q) X.xe s
def WM(X:Cx)(r:V->Hp->(Bool->Hp->Prop)->Prop):Prop:=
 ∀(pins:List (Addr×Obj))(s:Shared)(σ:St)(H:Hp)(x:V)(v:Value)(Q:Bool->Hp->Prop),Inv X pins σ H s->RelV x v->r x H Q->
  wpAny (model X.prog X.w) X.A (truthy v) (TP X pins σ Q) X.xe s
def tOp(r:R2)(ta tb:TE):TE:=λσ H Q=>ta σ H λx H1=>tb σ H1 λy H2=>r x y H2 Q
def tUn(r:V->Hp->VK->Prop)(ta:TE):TE:=λσ H Q=>ta σ H λx H1=>r x H1 Q
def rI(C:Int->Int->Prop)(g:Int->Int->V):R2:=λx y H Q=>∃i j,x=.int i/\y=.int j/\C i j/\Q (g i j) H
def rI0(g:Int->Int->V):R2:=λx y H Q=>∃i j,x=.int i/\y=.int j/\Q (g i j) H
def rU(g:Int->V):V->Hp->VK->Prop:=λx H Q=>∃i,x=.int i/\Q (g i) H
section
variable {X:Cx} {a b c:Expr} {ta tb tc:TE} {pos:Pos}
theorem wg(ha:PE X a ta)(hb:PE X b tb){pins:List (Addr×Obj)}{s:Shared}{σ:St}{H:Hp}{R:V->V->Hp->Prop}(I:Inv X pins σ H s)
  (h:ta σ H λx H1=>tb σ H1 λy H2=>R x y H2) {Q:Value->Shared->Prop} {f:Value->Value->Sem Value}
  (hf:∀v u s2 x y H2,Inv X pins σ H2 s2->RelV x v->RelV y u->R x y H2->wpAny (model X.prog X.w) X.A (f v u) Q X.xe s2):
  wpAny (model X.prog X.w) X.A (eval a X.env) (λv s₁=>wpAny (model X.prog X.w) X.A (eval b X.env) (λu s₂=>wpAny (model X.prog X.w) X.A (f v u) Q X.xe s₂) X.xe s₁) X.xe s:=by
 refine thn (ha pins s σ H _ I h) λv s1 ⟨x,H1,I1,r1,q1⟩=>?_;refine thn (hb pins s1 σ H1 _ I1 q1) λu s2 ⟨y,H2,I2,r2,q2⟩=>?_;exact hf v u s2 x y H2 I2 r1 r2 q2
theorem WN{op:Operator}{r:R2}(ho:OpR X (binaryOp op) r)(ha:PE X a ta)(hb:PE X b tb):PE X (.BinOp a op b pos) (tOp r ta tb):=by intro pins s σ H Q I h;exact wpAny_BinOp (wg ha hb I h λv u s2 x y H2 I2 rx ry q=>ho pins s2 σ H2 x y v u Q I2 rx ry q)
theorem WP{op:UnaryOp}{r:V->Hp->VK->Prop}(ho:UnR X (unaryOp op) r)(ha:PE X a ta):PE X (.UnaryOp op a pos) (tUn r ta):=by intro pins s σ H Q I h;exact UnaryOp_ (thn (ha pins s σ H _ I h) λv s1 ⟨x,H1,I1,r1,q1⟩=>ho pins s1 σ H1 x v Q I1 r1 q1)
theorem opI{f:Value->Value->Sem Value}{C:Int->Int->Prop}{g:Int->Int->Int}
  (rule:∀(i j:Int)(t u:Tok)(s:Shared)(Q:Value->Shared->Prop)(E:Value->Shared->Prop),C i j->Q (.int (g i j) s.toks) { s with toks:=s.toks+1 }->wpAny (model X.prog X.w) X.A (f (.int i t) (.int j u)) Q E s):
  OpR X f (rI C λi j=>.int (g i j)):=by
 intro pins s σ H x y v u Q I rx ry h;obtain ⟨i,j,rfl,rfl,hc,q⟩:=h;obtain ⟨t,rfl⟩:=rx;obtain ⟨t',rfl⟩:=ry;exact rule i j t t' s _ _ hc ⟨.int (g i j),H,I.tok _,⟨_,rfl⟩,q⟩
theorem qI{f:Value->Value->Sem Value}{g:Int->Int->Int}
  (rule:∀(i j:Int)(t u:Tok)(s:Shared)(Q:Value->Shared->Prop)(E:Value->Shared->Prop),Q (.int (g i j) s.toks) { s with toks:=s.toks+1 }->wpAny (model X.prog X.w) X.A (f (.int i t) (.int j u)) Q E s):
  OpR X f (rI0 λi j=>.int (g i j)):=by
 intro pins s σ H x y v u Q I rx ry h;obtain ⟨i,j,rfl,rfl,q⟩:=h;obtain ⟨t,rfl⟩:=rx;obtain ⟨t',rfl⟩:=ry;exact rule i j t t' s _ _ ⟨.int (g i j),H,I.tok _,⟨_,rfl⟩,q⟩
def qJ(i j:Int):Prop:=0<=j/\j<=1000000/\i.natAbs < 2 ^ 64
def CMul(i j:Int):Prop:=(-(2 ^ 64) < i/\i < 2 ^ 64)\/(-(2 ^ 64) < j/\j < 2 ^ 64)
theorem CMul.ok{i j:Int}(h:CMul i j):IntMulOk i j:=by
 rcases h with ⟨h1,h2⟩ |⟨h1,h2⟩
 ·exact .of_left (intBits_le_64 h1 h2)
 ·exact .of_right (intBits_le_64 h1 h2)
theorem WQ:OpR X (binaryOp .Add) (rI0 λi j=>.int (i+j)):=qI λ_ _ _ _ _ _ _ q=>add_int q
theorem WR:OpR X (binaryOp .Sub) (rI0 λi j=>.int (i - j)):=qI λ_ _ _ _ _ _ _ q=>sub_int q
theorem WT:OpR X (binaryOp .Mult) (rI CMul λi j=>.int (i * j)):=opI λ_ _ _ _ _ _ _ hc q=>mul_int q hc.ok
theorem WW:OpR X (binaryOp .Mod) (rI (λ_ j=>0 < j) λi j=>.int (i % j)):=opI λi j _ _ _ _ _ hc q=>by
 have h1:(0:Int) < j:=hc;exact mod_int' (by omega) (by rw[Int.fmod_eq_emod_of_nonneg i (by omega)];exact q)
theorem WX:OpR X (binaryOp .Pow) (rI qJ λi j=>.int (i ^ j.toNat)):=opI λ_ _ _ _ _ _ _ hc q=>pow_int_small hc.1 hc.2.1 hc.2.2 q
theorem WY:OpR X (inplaceOp .Add) (rI0 λi j=>.int (i+j)):=qI λ_ _ _ _ _ _ _ q=>iadd_int q
theorem W0:OpR X (inplaceOp .Sub) (rI0 λi j=>.int (i - j)):=qI λ_ _ _ _ _ _ _ q=>isub_int q
theorem unI{f:Value->Sem Value}{g:Int->Int}
  (rule:∀(i:Int)(t:Tok)(s:Shared)(Q:Value->Shared->Prop)(E:Value->Shared->Prop),Q (.int (g i) s.toks) { s with toks:=s.toks+1 }->wpAny (model X.prog X.w) X.A (f (.int i t)) Q E s):
  UnR X f (rU λi=>.int (g i)):=by
 intro pins s σ H x v Q I rx h;obtain ⟨i,rfl,q⟩:=h;obtain ⟨t,rfl⟩:=rx;exact rule i t s _ _ ⟨.int (g i),H,I.tok _,⟨_,rfl⟩,q⟩
theorem W2:UnR X (unaryOp .USub) (rU λi=>.int (-i)):=unI λ_ _ _ _ _ q=>neg_int q
end
section
variable {X:Cx} {a b c:Expr} {ta tb tc:TE} {pos:Pos}
theorem Cg{pins:List (Addr×Obj)}{σ:St}{H:Hp}{s:Shared}{Q:VK}{k k':Bool}(I:Inv X pins σ H s)(q:Q (.bl k) H)(e:k=k'):EP X pins σ Q (.bool k') s:=by subst e;exact ⟨.bl k,H,I,rfl,q⟩
theorem W3:OpR X (compareOp .Is) (λx y H Q=>y=.non/\Q (.bl (decide (x=.non))) H):=by
 intro pins s σ H x y v u Q I rx ry h;obtain ⟨rfl,q⟩:=h;cases ry;refine is_none_gen (Cg I q ?_);cases x <;> first
  | (cases rx;rfl)
  | (obtain ⟨t,rfl⟩:=rx;rfl)
theorem W4:OpR X (compareOp .IsNot) (λx y H Q=>y=.non/\Q (.bl (!decide (x=.non))) H):=by
 intro pins s σ H x y v u Q I rx ry h;obtain ⟨rfl,q⟩:=h;cases ry;refine isnot_none_gen (Cg I q ?_);cases x <;> first
  | (cases rx;rfl)
  | (obtain ⟨t,rfl⟩:=rx;rfl)
theorem W5{op:CmpOp}{r:R2}(ho:OpR X (compareOp op) r)(ha:PE X a ta)(hb:PE X b tb)(hm:behindInMarks op b=false):PE X (.Compare a [op] [b] pos) (tOp r ta tb):=by intro pins s σ H Q I h;exact wpAny_Compare1 (wg ha hb I h λv u s2 x y H2 I2 rx ry q=>ho pins s2 σ H2 x y v u Q I2 rx ry q) hm
def Ci(t:TE):TT:=λσ H Q=>t σ H λx H'=>∃k,x=.bl k/\Q k H'
theorem W6{op:CmpOp}{r:R2}(ho:OpR X (compareOp op) r)(ha:PE X a ta)(hb:PE X b tb)(hm:behindInMarks op b=false):PT X (.Compare a [op] [b] pos) (Ci (tOp r ta tb)):=by
 intro pins s σ H Q I h;refine wpAny_isTrue_Compare1 (thn (ha pins s σ H _ I h) λv s1 ⟨x,H1,I1,r1,q1⟩=>thn (hb pins s1 σ H1 _ I1 q1) λu s2 ⟨y,H2,I2,r2,q2⟩=>
  thn (ho pins s2 σ H2 x y v u _ I2 r1 r2 q2) λc s3 ⟨z,H3,I3,r3,k,e,q3⟩=>?_) hm
 subst e;cases r3;exact et ⟨H3,I3,q3⟩
def wj(r r':R2)(ta tb tc:TE):TE:=λσ H Q=>ta σ H λx H1=>tb σ H1 λy H2=>r x y H2 λz H3=>∃k,z=.bl k/\
 (if k=true then tc σ H3 λw' H4=>r' y w' H4 Q else Q (.bl false) H3)
theorem W7{op op':CmpOp}{r r':R2}(ho:OpR X (compareOp op) r)(ho':OpR X (compareOp op') r')(ha:PE X a ta)(hb:PE X b tb)(hc:PE X c tc)
  (hm:lastMarks [op,op'] [b,c]=false:=by with_unfolding_all rfl):PE X (.Compare a [op,op'] [b,c] pos) (wj r r' ta tb tc):=by
 intro pins s σ H Q I h;refine Compare_chain (thn (ha pins s σ H _ I h) λv s1 ⟨x,H1,I1,r1,q1⟩=>chain_link (thn (hb pins s1 σ H1 _ I1 q1) λu s2 ⟨y,H2,I2,r2,q2⟩=>
  thn (ho pins s2 σ H2 x y v u _ I2 r1 r2 q2) λd s3 ⟨z,H3,I3,r3,k,e,q3⟩=>?_)) hm
 subst e;cases r3;refine et ?_;cases k with
 |false=>exact ite_ff ⟨.bl false,H3,I3,rfl,q3⟩
 |true=>exact ite_tt (chain_last (thn (hc pins s3 σ H3 _ I3 q3) λw' s4 ⟨z',H4,I4,r4,q4⟩=>ho' pins s4 σ H4 y z' u w' Q I4 r2 r4 q4))
theorem W8{op op':CmpOp}{r r':R2}(ho:OpR X (compareOp op) r)(ho':OpR X (compareOp op') r')(ha:PE X a ta)(hb:PE X b tb)(hc:PE X c tc)
  (hm:lastMarks [op,op'] [b,c]=false:=by with_unfolding_all rfl):PT X (.Compare a [op,op'] [b,c] pos) (Ci (wj r r' ta tb tc)):=by
 intro pins s σ H Q I h;refine isTrue_chain (thn (ha pins s σ H _ I h) λv s1 ⟨x,H1,I1,r1,q1⟩=>test_link (thn (hb pins s1 σ H1 _ I1 q1) λu s2 ⟨y,H2,I2,r2,q2⟩=>
  thn (ho pins s2 σ H2 x y v u _ I2 r1 r2 q2) λd s3 ⟨z,H3,I3,r3,k,e,q3⟩=>?_)) hm
 subst e;cases r3;refine et ?_;cases k with
 |false=>
  obtain ⟨k',e',q'⟩:=q3;cases e';exact ite_ff ⟨H3,I3,q'⟩
 |true=>
  refine ite_tt (test_last (thn (hc pins s3 σ H3 _ I3 q3) λw' s4 ⟨z',H4,I4,r4,q4⟩=>thn (ho' pins s4 σ H4 y z' u w' _ I4 r2 r4 q4) λd' s5 ⟨z2,H5,I5,r5,k2,e2,q5⟩=>?_));subst e2;cases r5;exact et ⟨H5,I5,q5⟩
def qK(K:PF)(x:V)(H:Hp)(k:Bool):Prop:=
 match x with
 |.non=>k=false
 |.bl b=>k=b
 |.int i=>k=(i != 0)
 |.str y=>y.length<=sizeLine/\k=((y.length:Int) != 0)
 |.byt y=>y.size<=sizeLine/\k=((y.size:Int) != 0)
 |.ref p=>(∃xs,SqL K H p xs/\k=!xs.isEmpty)\/(∃xs,SqT K H p xs/\k=!xs.isEmpty)\/∃kvs,H p=some (.dK kvs)/\k=!kvs.isEmpty
 |_=>False
theorem W9{κ:Type}{kvs:List (κ×V)}{vs:List (κ×Value)}(r:KV kvs vs):(!vs.isEmpty)=!kvs.isEmpty:=by cases r <;> rfl
theorem Cj{xs:List V}{its:List Value}(r:Vals xs its):(!its.toArray.isEmpty)=!xs.isEmpty:=by cases r <;> simp
theorem ig:(sizeLine:Nat) < 2 ^ 63:=by rw[gg];decide
theorem Ck:WM X (λx H Q=>∃k,qK X.K x H k/\Q k H):=by
 intro pins s σ H x v Q I rx h;obtain ⟨k,e,q⟩:=h;have hl:=ig;have hs:sizeLine=16777216:=gg;cases x with
 |non=>
  cases rx;have e':k=false:=e;subst e';exact truthy_none ⟨H,I,q⟩
 |bl b=>
  cases rx;have e':k=b:=e;subst e';exact et ⟨H,I,q⟩
 |int i=>
  obtain ⟨t,rfl⟩:=rx;have e':k=(i != 0):=e;subst e';exact PySem.P.truthy_int ⟨H,I,q⟩
 |str y=>
  obtain ⟨t,rfl⟩:=rx;obtain ⟨hy,e'⟩:y.length<=sizeLine/\k=((y.length:Int) != 0):=e;subst e';exact PySem.P.truthy_str (by omega) ⟨H,I.tok _,q⟩
 |byt y=>
  obtain ⟨t,rfl⟩:=rx;obtain ⟨hy,e'⟩:y.size<=sizeLine/\k=((y.size:Int) != 0):=e;subst e';exact PySem.W.truthy_bytes (by omega) ⟨H,I.tok _,q⟩
 |ref p=>
  cases rx;have e':(∃xs,SqL X.K H p xs/\k=!xs.isEmpty)\/(∃xs,SqT X.K H p xs/\k=!xs.isEmpty)\/∃kvs,H p=some (.dK kvs)/\k=!kvs.isEmpty:=e;rcases e' with ⟨xs,hx,e'⟩ |⟨xs,hx,e'⟩ |⟨kvs,hx,e'⟩
  ·subst e';obtain ⟨its,r,pl,hz⟩:=I.list hx;have hlen:=r.length;exact wpAny_truthy_list pl.isList (by simp only[am];omega) ⟨H,I.tok _,by rw[Cj r];exact q⟩
  ·subst e';obtain ⟨its,r,pl,hz⟩:=I.tuple hx;have hlen:=r.length;exact truthy_tuple pl (by simp only[am];omega) ⟨H,I.tok _,by rw[Cj r];exact q⟩
  ·subst e';obtain ⟨hz,hS,vs,r,m⟩:kvs.length<=sizeLine/\(p==sysModules)=false/\∃vs,KV kvs vs/\s.heap.DictOf (v6 X.prog X.w) p vs:=I.hok p _ hx;have hlen:kvs.length=vs.length:=Paired.length r;exact wpAny_truthy_dict hS m (by omega) ⟨H,I.tok _,by rw[W9 r];exact q⟩
 |_=>exact (show False from e).elim
theorem Xa(ha:PE X a ta)(he:∀whole,isTrue a X.env whole=(do let v <-whole;standAt a.pos;holding [v] (truthy v))):
  PT X a (λσ H Q=>ta σ H λx H'=>∃k,qK X.K x H' k/\Q k H'):=by
 intro pins s σ H Q I h;exact isTrue_plain (thn (ha pins s σ H _ I h) λv s1 ⟨x,H1,I1,r1,q1⟩=>Ck pins s1 σ H1 x v Q I1 r1 q1) (he _)
theorem Xb:OpR X (binaryOp .Add) (λx y H Q=>∃i j,x=.str i/\y=.str j/\i.length+j.length<=sizeLine/\Q (.str (i++j)) H):=by intro pins s σ H x y v u Q I rx ry h;obtain ⟨i,j,rfl,rfl,hz,q⟩:=h;obtain ⟨t,rfl⟩:=rx;obtain ⟨t',rfl⟩:=ry;exact add_str (λt' tk=>⟨.str (i++j),H,I.tok _,⟨_,rfl⟩,q⟩) hz
theorem Xc:OpR X (inplaceOp .Add) (λx y H Q=>∃i j,x=.str i/\y=.str j/\i.length+j.length<=sizeLine/\Q (.str (i++j)) H):=by intro pins s σ H x y v u Q I rx ry h;obtain ⟨i,j,rfl,rfl,hz,q⟩:=h;obtain ⟨t,rfl⟩:=rx;obtain ⟨t',rfl⟩:=ry;exact iadd_str (λt' tk=>⟨.str (i++j),H,I.tok _,⟨_,rfl⟩,q⟩) hz
theorem vals1{x:V}{us:List Value}(r:Vals [x] us):∃u,us=[u]/\RelV x u:=by
 cases r with
 |cons r1 r2=>cases r2;exact ⟨_,rfl,r1⟩
theorem vals2{x y:V}{us:List Value}(r:Vals [x,y] us):∃u w',us=[u,w']/\RelV x u/\RelV y w':=by
 cases r with
 |cons r1 r2=>
  cases r2 with
  |cons r3 r4=>cases r4;exact ⟨_,_,rfl,r1,r3⟩
theorem Cm:bC X (.type "int") (λxs H Q=>(∃i,xs=[.int i]/\Q (.int i) H)\/∃k,xs=[.bl k]/\Q (.int (if k then 1 else 0)) H):=by
 intro pins s σ H xs us Q I r h;rcases h with ⟨i,rfl,q⟩ |⟨k,rfl,q⟩
 ·obtain ⟨u,rfl,t,rfl⟩:=vals1 r;exact call_int_int ⟨.int i,H,I,⟨_,rfl⟩,q⟩
 ·obtain ⟨u,rfl,r1⟩:=vals1 r;cases r1;exact call_int_bool ⟨.int (if k then 1 else 0),H,I.tok _,⟨_,rfl⟩,q⟩
end
structure ObjM(h:Heap)(x dx C:Addr)(mA:Str->Option Value):Prop where
 obj:h.get? x=some (PySem.W.instObj C dx)
 ns:h.Ns1 dx mA
 ne:dx≠x
theorem Xd{h:Heap}{dx:Addr}{mA:Str->Option Value}(n:h.Ns1 dx mA):∃od,h.get? dx=some od/\∀name,PySem.W.lookIn name od=some (mA name):=by
 obtain ⟨o,es,ep,ho,hd,hk,_,hm⟩:=n;refine ⟨o,ho,λname=>?_⟩;have e:=hm name;unfold nsFind findBy at e;rw[<-Array.find?_toList]at e;unfold PySem.W.lookIn;rw[hd];dsimp only;split
 ·rename_i y q;rw[q]at e;exact fb some e
 ·rename_i q;rw[q]at e;have a:es.toList.any (·.refKey)=false:=by
   rw[List.any_eq_false];intro y hy;obtain ⟨z,t,hkey⟩:=hk y (Array.mem_toList_iff.mp hy);simp[DictEntry.refKey,hkey]
  have a':¬es.toList.any (·.refKey)=true:=by rw[a];exact bo
  rw[if_neg a'];exact fb some e
theorem ObjM.look{h:Heap}{x dx C:Addr}{mA:Str->Option Value}(I:ObjM h x dx C mA):∃od,PySem.W.InstAt h x (PySem.W.instObj C dx) C (some od)/\∀name,PySem.W.lookIn name od=some (mA name):=
 let ⟨od,ho,hl⟩:=Xd I.ns
 ⟨od,⟨I.obj,rfl,rfl,ho⟩,hl⟩
section
variable {prog:Program} {w:World} {A:Around} {E:Value->Shared->Prop} {s:Shared} {K:PF} {x dx C f:Addr} {mA:Str->Option Value} {name:Str} {v:Value}
theorem Xe{expr:Bool}{Q:Value->Shared->Prop}(X:K.In s.heap)(I:ObjM s.heap x dx C mA)(hg:PySem.W.plainGet K C name=true)(hh:PySem.W.hasDictIn K C=true)
  (ha:PySem.W.findIn K (.ref C) name=some none) (hv:mA name=some v) (hv':PySem.W.handedIn v=true) (h:Q v { s with toks:=s.toks+1 }):
  wpAny (model prog w) A (getAttr (.ref x) name expr) Q E s:=by
 obtain ⟨od,J,hl⟩:=I.look;exact PySem.W.get_value X J (PySem.W.plainGet_of hg).1 (PySem.W.findObj_own hh ha rfl (by rw[hl,hv])) hv' h
theorem Xf{pl:Sem Bool}{Q:Value×List Value->Shared->Prop}(X:K.In s.heap)(I:ObjM s.heap x dx C mA)(hg:PySem.W.plainGet K C name=true)
  (hf:PySem.W.findIn K (.ref C) name=some (some (.ref f))) (ht:PySem.W.isFn K (.ref f)=true) (hv:mA name=none) (h:Q (.ref f,[.ref x]) s):
  wpAny (model prog w) A (getMethod (.ref x) name pl) Q E s:=by
 obtain ⟨od,J,hl⟩:=I.look;exact PySem.W.method_fn X J (PySem.W.plainGet_of hg).1 (PySem.W.plainGet_of hg).2 hf (aw.mp ht) (by show (PySem.W.lookIn name od).map (·.isSome)=some false;rw[hl,hv];rfl) h
theorem Xg{ns:List Str}{Q:Unit->Shared->Prop}(X:K.In s.heap)(I:ObjM s.heap x dx C mA)
  (hs:PySem.W.findIn K (.ref C) "__setattr__"=some (some (.builtin "object.__setattr__"))) (hp:PySem.W.plainOver K C=true) (ht:PySem.W.takerIn K C name=some none) (hh:PySem.W.hasDictIn K C=true)
  (hw:PySem.Within mA ns) (hsz:ns.length<=sizeLine)
  (h:∀h',ObjM h' x dx C (λy=>if y=name then some v else mA y)->Heap.SameBut dx s.heap h'->Q () { s with heap:=h',toks:=s.toks+2 }):
  wpAny (model prog w) A (setAttr (.ref x) name v) Q E s:=by
 obtain ⟨od,J,hl⟩:=I.look;refine PySem.W.set_plain X J hs (PySem.W.osa_open (s:={ s with toks:=s.toks+1 }) (r:=none) X J hp ht λb=>?_);obtain ⟨cd,hc,hd'⟩:=PySem.W.any_some hh;have hx:s.heap.get? x=some ⟨.ref C,some dx,.plain,#[]⟩:=I.obj;refine ah (bn (ah (ah (wpAny_loadPart hx (ah (PySem.W.Looks.here (s:={ s with toks:=s.toks+1 }) (PySem.W.looks_clsIn X hc) ?_))))));rw[hd'];refine bn (a:=some dx) (ah (bn (ah ?_)));refine wpAny_nsSet1 (s:={ s with toks:=s.toks+1 }) I.ns λh' hn2 hs2=>?_;obtain ⟨oD,esD,epD,hoD,hdD,hcD⟩:=hn2.count (PySem.Within.cons name v hw);refine ah (wpAny_lookBehind hoD (by rw[hdD];exact pastItsLine_dict (br hcD (by rw[ck];omega))) ?_);exact bn (h _ ⟨(hs2.2 _ (Ne.symm I.ne)).trans I.obj,hn2,I.ne⟩ hs2)
theorem Xh{R:Result->Shared->Prop}{vs:List Value}{kw:List (Str×Value)}(X:K.In s.heap)(hm:PySem.W.makesIn K C=true)
  (hi:PySem.W.findIn K (.ref C) "__init__"=some (some (.ref f))) (hf:PySem.W.typeIn K (.ref f)=some (.type "function"))
  (h:codeAny (model prog w) (A.under (.builtin "type.__call__" ⟨.ref C::vs,kw⟩)) (.call (.ref f) ⟨.ref (s.heap.objs.size+1)::vs,kw⟩) (PySem.W.InitBack (s.heap.objs.size+1) R)
   { s with heap:=(s.heap.push PySem.W.emptyDict).push (PySem.W.instObj C s.heap.objs.size) }):
  codeAny (model prog w) A (.call (.ref C) ⟨vs,kw⟩) R s:=by
 obtain ⟨hh,g,d,t,os⟩:=s;exact PySem.W.make_core (PySem.W.makes_of X hm) (PySem.W.looks_findIn X hi) (λself=>PySem.W.bind_fn X self hf) (.inl rfl) h
end
noncomputable def cI(f:Str)(v:V):List (Str×V)->List (Str×V)
 |[]=>[(f,v)]
 | (g,x)::r=>if g=f then (g,v)::r else (g,x)::cI f v r
theorem Cp(f g:Str)(v:V):∀fs:List (Str×V),(cI f v fs).lookup g=if g=f then some v else fs.lookup g
 |[]=>by
  show List.lookup g [(f,v)]=_;by_cases h:g=f
  ·have hb:(g==f)=true:=aw.mpr h;simp only[List.lookup,hb,if_pos h]
  ·have hb:(g==f)=false:=cy.mpr h;simp only[List.lookup,hb,if_neg h]
 | (k,x)::r=>by
  have ih:=Cp f g v r;rw[show cI f v ((k,x)::r)=(if k=f then (k,v)::r else (k,x)::cI f v r) from rfl];by_cases hk:k=f
  ·rw[if_pos hk];by_cases h:g=k
   ·have hb:(g==k)=true:=aw.mpr h;simp only[List.lookup,hb,if_pos (h.trans hk)]
   ·have hb:(g==k)=false:=cy.mpr h;simp only[List.lookup,hb,if_neg (λe:g=f=>h (e.trans hk.symm))]
  ·rw[if_neg hk];by_cases h:g=k
   ·have hb:(g==k)=true:=aw.mpr h;simp only[List.lookup,hb,if_neg (λe:g=f=>hk (h.symm.trans e))]
   ·have hb:(g==k)=false:=cy.mpr h;simp only[List.lookup,hb];exact ih
theorem wk(f:Str)(v:V):∀fs:List (Str×V),f∈(cI f v fs).map (·.1)/\∀g,g∈fs.map (·.1)->g∈(cI f v fs).map (·.1)
 |[]=>⟨by simp[cI],λg h=>by simp at h⟩
 | (k,x)::r=>by
  obtain ⟨i1,i2⟩:=wk f v r;rw[show cI f v ((k,x)::r)=(if k=f then (k,v)::r else (k,x)::cI f v r) from rfl];by_cases hk:k=f
  ·rw[if_pos hk];subst hk;exact ⟨by simp,λg h=>by simpa using h⟩
  ·rw[if_neg hk];refine ⟨?_,λg h=>?_⟩
   ·rw[bq];exact bi _ i1
   ·rw[bq]at h ⊢;rcases a9.mp h with e |e
    ·exact a9.mpr (.inl e)
    ·exact bi _ (i2 g e)
theorem Cq(f:Str)(v:V):∀fs:List (Str×V),(cI f v fs).length<=fs.length+1
 |[]=>by simp[cI]
 | (k,x)::r=>by
  have ih:=Cq f v r;rw[show cI f v ((k,x)::r)=(if k=f then (k,v)::r else (k,x)::cI f v r) from rfl];by_cases hk:k=f
  ·rw[if_pos hk,ck,ck];omega
  ·rw[if_neg hk,ck,ck];omega
theorem RelO.some_of{v:V}{o:Option Value}(r:RelO (some v) o):∃u,o=some u/\RelV v u:=by
 cases o with
 |none=>exact (show False from r).elim
 |some u=>exact ⟨u,rfl,r⟩
theorem RelO.none_of{o:Option Value}(r:RelO none o):o=none:=by
 cases o with
 |none=>rfl
 |some u=>exact (show False from r).elim
theorem Xi{v:V}{u:Value}(r:RelV v u):PySem.W.handedIn u=true:=by
 cases v with
 |non=>cases (show u=Value.none from r);rfl
 |bl b=>cases (show u=Value.bool b from r);rfl
 |int i=>obtain ⟨t,e⟩:=(show ∃t,u=Value.int i t from r);cases e;rfl
 |str x=>obtain ⟨t,e⟩:=(show ∃t,u=Value.str x t from r);cases e;rfl
 |byt b=>obtain ⟨t,e⟩:=(show ∃t,u=Value.bytes b t from r);cases e;rfl
 |flt b=>obtain ⟨t,e⟩:=(show ∃t,u=Value.float b t from r);cases e;rfl
 |ref a=>cases (show u=Value.ref a from r);rfl
 |ty n=>cases (show u=Value.type n from r);rfl
section
variable {P:Program} {w:World} {H H':Hp} {h h':Heap} {a C dx:Addr} {fs fs':List (Str×V)}
theorem qL(hok:HOk P w H h)(e:H a=some (.ins C dx fs)):∃mA,ObjM h a dx C mA/\(∀f,RelO (fs.lookup f) (mA f))/\PySem.Within mA (fs.map (·.1))/\fs.length<=1000/\H dx=some (.own a):=by obtain ⟨d,z,ne,ob,mA,n,r,q⟩:=(show ObjOk P w H h a (.ins C dx fs) from hok a _ e);exact ⟨mA,⟨ob,n,ne⟩,r,q,z,d⟩
end
structure Cls(K:PF)(C:Addr):Prop where
 pg:PySem.W.plainGet K C Str.empty=true
 hd:PySem.W.hasDictIn K C=true
 po:PySem.W.plainOver K C=true
 sa:PySem.W.findIn K (.ref C) "__setattr__"=some (some (.builtin "object.__setattr__"))
theorem Cls.get{K:PF}{C:Addr}(c:Cls K C)(f:Str):PySem.W.plainGet K C f=true:=c.pg
def NoAttr(K:PF)(C:Addr)(f:Str):Prop:=PySem.W.findIn K (.ref C) f=some none
theorem NoAttr.taker{K:PF}{C:Addr}{f:Str}(n:NoAttr K C f):PySem.W.takerIn K C f=some none:=by unfold PySem.W.takerIn;rw[show PySem.W.findIn K (.ref C) f=some none from n];rfl
structure Meth(K:PF)(C:Addr)(m:Str)(f:Addr):Prop where
 at_:PySem.W.findIn K (.ref C) m=some (some (.ref f))
 fn:PySem.W.isFn K (.ref f)=true
 kp:PySem.W.keepIn K (.ref f)=true
section
variable {X:Cx} {pins:List (Addr×Obj)} {σ:St} {H:Hp} {s:Shared} {a C dx:Addr} {fs:List (Str×V)} {f:Str} {v:V} {A:Around} {E:Value->Shared->Prop}
theorem Xj{b:Bool}{Q:Value->Shared->Prop}(I:Inv X pins σ H s)(e:H a=some (.ins C dx fs))(c:Cls X.K C)(n:NoAttr X.K C f)(l:fs.lookup f=some v)
  (h:∀u s',Inv X pins σ H s'->RelV v u->Q u s'):wpAny (model X.prog X.w) A (getAttr (.ref a) f b) Q E s:=by
 obtain ⟨mA,O,r,_,_,_⟩:=qL I.hok e;obtain ⟨u,hu,ru⟩:=RelO.some_of (v:=v) (o:=mA f) (by rw[<-l];exact r f);exact Xe I.kIn O (c.get f) c.hd n hu (Xi ru) (h u _ (I.tok _) ru)
theorem qM{m:Str}{g:Addr}{pl:Sem Bool}{Q:Value×List Value->Shared->Prop}(I:Inv X pins σ H s)(e:H a=some (.ins C dx fs))(c:Cls X.K C)(k:Meth X.K C m g)(l:fs.lookup m=none)
  (h:Q (.ref g,[.ref a]) s):wpAny (model X.prog X.w) A (getMethod (.ref a) m pl) Q E s:=by
 obtain ⟨mA,O,r,_,_,_⟩:=qL I.hok e;have hn:mA m=none:=RelO.none_of (by rw[<-l];exact r m);exact Xf I.kIn O (c.get m) k.at_ k.fn hn h
theorem Xk{y:V}{u:Value}{Q:Unit->Shared->Prop}(I:Inv X pins σ H s)(e:H a=some (.ins C dx fs))(c:Cls X.K C)(n:NoAttr X.K C f)(hl:fs.length < 1000)(ry:RelV y u)
  (h:∀s',Inv X pins σ (upd H a (.ins C dx (cI f y fs))) s'->Q () s'):wpAny (model X.prog X.w) A (setAttr (.ref a) f u) Q E s:=by
 obtain ⟨mA,O,r,wi,_,ho⟩:=qL I.hok e;have hz:(fs.map (·.1)).length<=sizeLine:=by rw[ag,gg];omega
 refine Xg I.kIn O c.sa c.po n.taker c.hd wi hz λh' O' sb=>h _ ?_;have hd:∃o,h'.get? dx=some o:=let ⟨o,_,_,e',_⟩:=O'.ns;⟨o,e'⟩;refine I.write (x:=a) (e:=dx) (by rw[e];exact True.intro) (.inr ho) (λb q hb z=>(sb.2 b hb).trans z) hd ?_;refine ⟨by rw[aK O.ne];exact ho,?_,O.ne,O'.obj,_,O'.ns,λg=>?_,λg hg=>?_⟩
 ·have:=Cq f y fs;omega
 ·show RelO ((cI f y fs).lookup g) (if g=f then some u else mA g);rw[Cp];by_cases q:g=f
  ·rw[if_pos q,if_pos q];exact ry
  ·rw[if_neg q,if_neg q];exact r g
 ·by_cases q:g=f
  ·rw[q];exact (wk f y fs).1
  ·refine (wk f y fs).2 g (wi g λz=>hg ?_);show (if g=f then some u else mA g)=none;rw[if_neg q];exact z
theorem Inv.made(I:Inv X pins σ H s):Inv X pins σ (upd (upd H s.heap.objs.size (.own (s.heap.objs.size+1))) (s.heap.objs.size+1) (.ins C s.heap.objs.size []))
  { s with heap:=(s.heap.push PySem.W.emptyDict).push (PySem.W.instObj C s.heap.objs.size) }:=by
 have e1:(s.heap.push PySem.W.emptyDict).get? s.heap.objs.size=some PySem.W.emptyDict:=bb s.heap rfl;have e2:((s.heap.push PySem.W.emptyDict).push (PySem.W.instObj C s.heap.objs.size)).get? (s.heap.objs.size+1)=some (PySem.W.instObj C s.heap.objs.size):=by have:=bb (s.heap.push PySem.W.emptyDict) (o:=PySem.W.instObj C s.heap.objs.size) rfl;rwa [dL]at this
 have e3:(s.heap.push PySem.W.emptyDict).Ns s.heap.objs.size (λ_=>none):=⟨PySem.W.emptyDict,#[],_,e1,rfl,(λe he=>absurd he (by simp)),λ_=>rfl⟩;have I1:=I.laid (a:=s.heap.objs.size) (o:=.own (s.heap.objs.size+1)) (h':=s.heap.push PySem.W.emptyDict) (t':=s.toks) (λb u q=>al _ q) (ax _) ⟨_,e1⟩;refine I1.laid (a:=s.heap.objs.size+1) (o:=.ins C s.heap.objs.size []) (t':=s.toks) (λb u q=>al _ q) (Nat.le_of_eq (dL _ _)) ?_;have ne:s.heap.objs.size≠s.heap.objs.size+1:=cr (gp _);refine ⟨by rw[aK ne,cP],eg _,ne,e2,λ_=>none,(Heap.Ns1.of_empty e3).at λo q=>al _ q,λ_=>True.intro,λy hy=>absurd rfl hy⟩
theorem Xl{prog:Program}{w:World}{env:Env}{e:Expr}{f:Str}{pos:Pos}{s:Shared}{Q:Value->Shared->Prop}(hb:attributeBase e f env (eval e env)=eval e env)
  (h:wpAny (model prog w) A (eval e env) (λo s₁=>wpAny (model prog w) A (getAttr o f true) Q E s₁) E s):wpAny (model prog w) A (eval (.Attribute e f pos) env) Q E s:=
 Attribute_any_ h (by rw[arm_eval_Attribute,hb])
end
def Xm(K:PF)(ta:TE)(f:Str):TE:=λσ H Q=>ta σ H λx H1=>∃a C dx fs v,x=.ref a/\H1 a=some (.ins C dx fs)/\Cls K C/\NoAttr K C f/\fs.lookup f=some v/\Q v H1
def Xo(K:PF)(ta tv:TE)(f:Str):TS:=λD σ H=>tv σ H λy H1=>ta σ H1 λx H2=>∃a C dx fs,x=.ref a/\H2 a=some (.ins C dx fs)/\Cls K C/\NoAttr K C f/\fs.length < 1000/\
 D.nx σ (upd H2 a (.ins C dx (cI f y fs)))
section
variable {X:Cx} {o e value:Expr} {f:Str} {pos pos' tpos:Pos} {ta tv:TE}
theorem Xp(he:PE X e ta)(hb:attributeBase e f X.env (eval e X.env)=eval e X.env):PE X (.Attribute e f pos) (Xm X.K ta f):=by intro pins s σ H Q I h;refine Xl hb (thn (he pins s σ H _ I h) λu s1 ⟨x,H1,I1,rx,a,C,dx,fs,v,ex,ea,c,n,l,q⟩=>?_);subst ex;obtain rfl:u=Value.ref a:=rx;exact Xj I1 ea c n l λu' s2 I2 ru=>⟨v,H1,I2,ru,q⟩
theorem Xq(ha:PE X o ta)(hv:PE X value tv)(hs:swapsWith value (some (.Attribute o f pos')) pos.line X.env=pure false):PS X (.Assign [.Attribute o f pos'] value pos) (Xo X.K ta tv f):=by intro pins s σ H D I h;refine plainObj_wpAny_Assign_Attribute (thn (hv pins s σ H _ I h) λu s1 ⟨y,H1,I1,ry,q⟩=>thn (ha pins s1 σ H1 _ I1 q) λov s2 ⟨x,H2,I2,rx,a,C,dx,fs,ex,ea,c,n,l,q2⟩=>?_) hs;subst ex;obtain rfl:ov=Value.ref a:=rx;exact Xk I2 ea c n l ry λs3 I3=>⟨σ,_,I3,q2⟩
end
section
variable {X:Cx} {pins:List (Addr×Obj)} {σ:St} {H:Hp} {s:Shared} {A:Around} {E:Value->Shared->Prop} {Q:Value->Shared->Prop} {c:Value} {b:Bool}
inductive TyOf (K:PF) (H:Hp):V->Value->Prop where
 |non:TyOf K H .non (.type "NoneType")
 |bl (x:Bool):TyOf K H (.bl x) (.type "bool")
 |int (i:Int):TyOf K H (.int i) (.type "int")
 |str (x:Str):TyOf K H (.str x) (.type "str")
 |flt (x:UInt64):TyOf K H (.flt x) (.type "float")
 |lst {a:Addr} {xs:List V} (e:H a=some (.lst xs)):TyOf K H (.ref a) (.type "list")
 |frz {a:Addr} {o:Obj} {xs:List V} (e:H a=some (.frz o (.lst xs))):TyOf K H (.ref a) (.type "list")
 |tup {a:Addr} {xs:List V} (e:H a=some (.tup xs)):TyOf K H (.ref a) (.type "tuple")
 |dK {a:Addr} {kvs:List (Key×V)} (e:H a=some (.dK kvs)):TyOf K H (.ref a) (.type "dict")
 |dT {a:Addr} {kvs:List (List Key×V)} (e:H a=some (.dT kvs)):TyOf K H (.ref a) (.type "dict")
 |ins {a C dx:Addr} {fs:List (Str×V)} (e:H a=some (.ins C dx fs)) (cl:Cls K C) (ha:PySem.W.findIn K (.ref C) "__class__"=some (some (.builtin "object.__class__")))
   (hn:PySem.W.specialIn K (.builtin "object.__class__") "__get__"=some (some (.builtin "getset_descriptor.__get__"))) (htk:PySem.W.takesIn K (.builtin "object.__class__")=some true)
   (hm:PySem.W.mroIn K C (.type "object")=some true):TyOf K H (.ref a) (.ref C)
theorem Xr{x:V}{u t:Value}(I:Inv X pins σ H s)(rx:RelV x u)(ty:TyOf X.K H x t)(e:PySem.W.kitOne X.K t c=some b)(h:∀tk,Q (.bool b) { s with toks:=tk }):
  wpAny (model X.prog X.w) A (call (.builtin "isinstance") [u,c]) Q E s:=by
 cases ty with
 |non=>cases (show u=Value.none from rx);exact dr PySem.W.kitx_none I.kIn True.intro e (λz=>nomatch z) h
 |bl y=>cases (show u=Value.bool y from rx);exact dr PySem.W.kitx_bool I.kIn True.intro e (λz=>nomatch z) h
 |int i=>obtain ⟨t,q⟩:=(show ∃t,u=Value.int i t from rx);cases q;exact dr PySem.W.kitx_int I.kIn True.intro e (λz=>nomatch z) h
 |str y=>obtain ⟨t,q⟩:=(show ∃t,u=Value.str y t from rx);cases q;exact dr PySem.W.kitx_str I.kIn True.intro e (λz=>nomatch z) h
 |flt y=>obtain ⟨t,q⟩:=(show ∃t,u=Value.float y t from rx);cases q;exact dr PySem.W.kitx_float I.kIn True.intro e (λz=>nomatch z) h
 | @lst a xs ea=>
  cases (show u=Value.ref a from rx);obtain ⟨_,_,n,_,h1⟩:=(show ObjOk X.prog X.w H s.heap a (.lst xs) from I.hok a _ ea);exact dr PySem.W.kitx_list I.kIn ⟨_,h1,rfl⟩ e (λz=>nomatch z) h
 | @frz a ob xs ea=>
  cases (show u=Value.ref a from rx);obtain ⟨_,_,_,n,_,h1⟩:=(show ObjOk X.prog X.w H s.heap a (.frz ob (.lst xs)) from I.hok a _ ea);exact dr PySem.W.kitx_list I.kIn ⟨_,h1,rfl⟩ e (λz=>nomatch z) h
 | @tup a xs ea=>
  cases (show u=Value.ref a from rx);obtain ⟨_,_,_,p⟩:=(show ObjOk X.prog X.w H s.heap a (.tup xs) from I.hok a _ ea);obtain ⟨o,h1,h2,_⟩:=p;exact dr PySem.W.kitx_tuple I.kIn ⟨o,h1,h2⟩ e (λz=>nomatch z) h
 | @dK a kvs ea=>
  cases (show u=Value.ref a from rx);obtain ⟨_,_,vs,_,p⟩:=(show ObjOk X.prog X.w H s.heap a (.dK kvs) from I.hok a _ ea);obtain ⟨o,es,ep,h1,h2,_⟩:=p;exact dr PySem.W.kitx_dict I.kIn ⟨o,h1,h2.1⟩ e (λz=>nomatch z) h
 | @dT a kvs ea=>
  cases (show u=Value.ref a from rx);obtain ⟨_,_,xs,_,o,es,ep,h1,h2,_⟩:=(show ObjOk X.prog X.w H s.heap a (.dT kvs) from I.hok a _ ea);exact dr PySem.W.kitx_dict I.kIn ⟨o,h1,h2.1⟩ e (λz=>nomatch z) h
 | @ins a C dx fs ea cl ha hn htk hm=>
  cases (show u=Value.ref a from rx);obtain ⟨mA,O,_⟩:=qL I.hok ea;obtain ⟨od,J,_⟩:=O.look;exact dr (PySem.W.kitx_own (cl.get _) cl.hd ha hn htk hm) I.kIn J e (λz=>nomatch z) h
end
structure Room(k:Nat)(A:Around):Prop where
 hd:A.handled=none
 dp:A.depth+3 * k+5 < recursionLimit
 un:A.units+16 * k+200 < cLine
theorem Room.mono{j k:Nat}{A:Around}(r:Room k A)(h:j<=k):Room j A:=⟨r.hd,by have:=r.dp;omega,by have:=r.un;omega⟩
theorem Room.deeper{k:Nat}{A:Around}(r:Room (k+1) A)(env:Env):Room k (A.deeper env):=
 ⟨r.hd,by have:=r.dp;show A.depth+1+3 * k+5 < _;omega,by have:=r.un;show A.units+3+16 * k+200 < _;omega⟩
theorem Xu {A:Around} {C:Addr} {us:List Value} {kw:List (Str×Value)}:(A.under (.builtin "type.__call__" ⟨.ref C::us,kw⟩)).depth=A.depth+1:=by first |rfl |simp[Around.under,Code.weight,Code.isCreation,Code.isGuard,Code.isCaller,Code.frames,Code.isFrame,guardIds]
theorem Xv {A:Around} {C:Addr} {us:List Value} {kw:List (Str×Value)}:(A.under (.builtin "type.__call__" ⟨.ref C::us,kw⟩)).units=A.units+1:=by first |rfl |simp[Around.under,Code.cUnits,Code.frames,Code.isFrame]
theorem Room.make {k:Nat} {A:Around} (r:Room (k+1) A) (C:Addr) (us:List Value) (kw:List (Str×Value)):Room k (A.under (.builtin "type.__call__" ⟨.ref C::us,kw⟩)):=
 ⟨r.hd,by have:=r.dp;rw[Xu];omega,by have:=r.un;rw[Xv];omega⟩
theorem Room.depth{k:Nat}{A:Around}(r:Room k A):A.depth < recursionLimit:=by have:=r.dp;omega
def Cr:TA:=λ_ H Q=>Q [] H
def Xw(ta:TE)(tr:TA):TA:=λσ H Q=>ta σ H λx H1=>tr σ H1 λxs H2=>Q (x::xs) H2
section
variable {X:Cx} {e:Expr} {es:List Expr} {te:TE} {t:TA} {pos:Pos}
theorem kJ:PA X [] Cr:=λ_ _ _ _ H Q I h=>Calls.spliced_nil ⟨[],H,I,.nil,h⟩
theorem jk(ha:PE X e te)(hr:PA X es t)(hs:starEach (e::es) X.env=(false,eval e X.env)::starEach es X.env:=by rfl):PA X (e::es) (Xw te t):=by intro pos pins s σ H Q I h;rw[hs];show wpAny _ _ (spliced ((false,eval e X.env)::backTo pos (starEach es X.env))) _ _ s;refine Calls.spliced_cons (thn (ha pins s σ H _ I h) λu s1 ⟨x,H1,I1,r1,q1⟩=>?_);exact thn (hr pos pins s1 σ H1 _ I1 q1) λus s2 ⟨xs,H2,I2,r2,q2⟩=>⟨x::xs,H2,I2,.cons r1 r2,q2⟩
def Xx(t:TA):TE:=λσ H Q=>t σ H λxs H1=>xs.length<=sizeLine/\∀p,H1 p=none->Q (.ref p) (upd H1 p (.tup xs))
def Xy(t:TA):TE:=λσ H Q=>t σ H λxs H1=>xs.length<=sizeLine/\∀p,H1 p=none->Q (.ref p) (upd H1 p (.lst xs))
theorem Xz{x1}(h:PA X es t):PE X (.Tuple es x1 pos) (Xx t):=by intro pins s σ H Q I hq;refine wpAny_Tuple_spliced (thn (h pos pins s σ H _ I hq) λus s1 ⟨xs,H1,I1,r,z,q⟩=>⟨by rw[<-r.length];exact z,?_⟩);have hf:H1 s1.heap.objs.size=none:=I1.hok.fresh (ax _);refine ⟨.ref s1.heap.objs.size,upd H1 s1.heap.objs.size (.tup xs),I1.laid (t':=s1.toks) (λb u e=>al _ e) (ax _) ?_,rfl,q _ hf⟩;exact ⟨z,us,r,⟨_,bb _ rfl,rfl,_,rfl⟩⟩
theorem XC(h:PA X es t):PE X (.List es pos) (Xy t):=by intro pins s σ H Q I hq;refine wpAny_List_spliced (thn (h pos pins s σ H _ I hq) λus s1 ⟨xs,H1,I1,r,z,q⟩=>⟨by rw[<-r.length];exact z,?_⟩);have hf:H1 s1.heap.objs.size=none:=I1.hok.fresh (ax _);refine ⟨.ref s1.heap.objs.size,upd H1 s1.heap.objs.size (.lst xs),I1.laid (t':=s1.toks) (λb u e=>al _ e) (ax _) ?_,rfl,q _ hf⟩;exact ⟨z,us,0,r,bb _ rfl⟩
end
abbrev Sp:=List V->Hp->VK->XK->Prop
abbrev CXT:=List Env->Hp->Shared->XK->Value->Shared->Prop
structure Env0(P:Program)(w:World)(K:PF)(mg:Str->Option Value)(base:Heap)(A:Around)(outer:List Env)(s:Shared)(H:Hp):Prop where
 frames:A.frames=some outer
 mod:Mod K mg base
 bs:∀b o,base.get? b=some o->s.heap.get? b=some o/\H b=none
 bsz:base.objs.size<=s.heap.objs.size
 funs:s.heap.FunFrames base outer
 frf:∀b∈frs outer,H b=none
 hok:HOk P w H s.heap
 bare:AllBare s.gens
def CE(outer:List Env)(P:Program)(w:World)(H:Hp)(s:Shared)(Q:VK)(u:Value)(s':Shared):Prop:=
 ∃v H',s'.os=s.os/\AllBare s'.gens/\Un (frs outer) [] H H' s.heap s'.heap/\HOk P w H' s'.heap/\RelV v u/\Q v H'
def CR(CX:CXT)(outer:List Env)(P:Program)(w:World)(H:Hp)(s:Shared)(Q:VK)(E:XK)(r:Result)(s':Shared):Prop:=
 match r with
 |.ok (.ret u)=>CE outer P w H s Q u s'
 |.ok _=>False
 |.error e=>CX outer H s E e s'
structure FnOk(P:Program)(w:World)(K:PF)(mg:Str->Option Value)(base:Heap)(CX:CXT)(k:Nat)(f:Addr)(fd:FuncData)(ps:List Str)(sp:Sp):Prop where
 len:∀vs H Q E,sp vs H Q E->vs.length=ps.length
 run:∀(A:Around)(outer:List Env)(s:Shared)(H:Hp)(args:Args)(us:List Value)(vs:List V)(Q:VK)(E:XK),Room k A->Env0 P w K mg base A outer s H->BindsTo s fd args (ps.zip us)->Vals vs us->sp vs H Q E->
  codeAny (model P w) A (.call (.ref f) args) (CR CX outer P w H s Q E) s
theorem FnOk.mono{P:Program}{w:World}{K:PF}{mg:Str->Option Value}{base:Heap}{CX:CXT}{j k:Nat}{f:Addr}{fd:FuncData}{ps:List Str}{sp:Sp}(F:FnOk P w K mg base CX j f fd ps sp)(h:j<=k):
  FnOk P w K mg base CX k f fd ps sp:=⟨F.len,λA outer s H args us vs Q E hr=>F.run A outer s H args us vs Q E (hr.mono h)⟩
theorem FnOk.imp{P:Program}{w:World}{K:PF}{mg:Str->Option Value}{base:Heap}{CX:CXT}{k:Nat}{f:Addr}{fd:FuncData}{ps:List Str}{sp sp':Sp}(F:FnOk P w K mg base CX k f fd ps sp)
  (h:∀vs H Q E,sp' vs H Q E->sp vs H Q E):FnOk P w K mg base CX k f fd ps sp':=
 ⟨λvs H Q E q=>F.len vs H Q E (h _ _ _ _ q),λA outer s H args us vs Q E hr he hb hv hs=>F.run A outer s H args us vs Q E hr he hb hv (h _ _ _ _ hs)⟩
theorem Env0.make{P:Program}{w:World}{K:PF}{mg:Str->Option Value}{base:Heap}{A:Around}{outer:List Env}{s:Shared}{H:Hp}(e:Env0 P w K mg base A outer s H)(C:Addr)(us:List Value)(kw:List (Str×Value)):
  Env0 P w K mg base (A.under (.builtin "type.__call__" ⟨.ref C::us,kw⟩)) outer s H:=⟨by first |exact e.frames | (simpa [Around.under,Code.envs,Code.isFrame,pushEnvs] using e.frames),e.mod,e.bs,e.bsz,e.funs,e.frf,e.hok,e.bare⟩
section
variable {X:Cx} {pins:List (Addr×Obj)} {σ:St} {H:Hp} {s s':Shared}
theorem Inv.env0(I:Inv X pins σ H s):Env0 X.prog X.w X.K X.mg X.base X.A X.stack s H:=
 ⟨I.ok.frames,I.ok.mod,I.bs,br I.ok.bsz I.sz,I.stack,I.stkFree,I.hok,I.bare⟩
theorem Inv.after{Q:VK}{u:Value}(I:Inv X pins σ H s)(h:CE X.stack X.prog X.w H s Q u s'):EP X pins σ Q u s':=by obtain ⟨v,H',os,bare,un,hok,r,q⟩:=h;obtain ⟨hh,g,d,t,os'⟩:=s';obtain rfl:os'=s.os:=os;exact ⟨v,H',I.call (h':=hh) (g':=g) (d':=d) (t':=t) (ch:=[]) un hok bare (λb z=>absurd z (by simp)),r,q⟩
end
def XD(sp:Sp)(dvs:List V)(E:XK)(t:TA):TE:=λσ H Q=>t σ H λvs H1=>sp (vs++dvs) H1 Q E
def kO(C:Addr)(m:Str)(sp:Sp)(dvs:List V)(E:XK)(ta:TE)(t:TA):TE:=λσ H Q=>ta σ H λx H1=>∃a dx fs,x=.ref a/\H1 a=some (.ins C dx fs)/\fs.lookup m=none/\
 t σ H1 λvs H2=>sp (x::(vs++dvs)) H2 Q E
def XF(C:Addr)(sp:Sp)(dvs:List V)(E:XK)(t:TA):TE:=λσ H Q=>t σ H λvs H1=>∀x dx,H1 x=none->H1 dx=none->dx≠x->
 sp (.ref x::(vs++dvs)) (upd (upd H1 dx (.own x)) x (.ins C dx [])) (λv H2=>v=.non/\Q (.ref x) H2) E
def Binds(K:PF)(fd:FuncData)(ps:List Str)(ds:List Value):Prop:=
 ∀(s:Shared)(us:List Value),K.In s.heap->(us++ds).length=ps.length->BindsTo s fd ⟨us,[]⟩ (ps.zip (us++ds))
theorem Binds.all{K:PF}{fd:FuncData}{ps:List Str}(h:∀us:List Value,us.length=ps.length->bindArgs fd ⟨us,[]⟩=pure (ps.zip us)):Binds K fd ps []:=λs us _ hl=>by
 rw[dy]at hl ⊢;exact .of_eq (h us hl)
def eZ(CX:CXT)(X:Cx)(E:XK):Prop:=∀(pins:List (Addr×Obj))(σ:St)(H:Hp)(s:Shared)(e:Value)(s':Shared),Inv X pins σ H s->CX X.stack H s E e s'->X.xe e s'
section
variable {X:Cx} {CX:CXT} {k:Nat} {f C:Addr} {fd:FuncData} {ps:List Str} {sp:Sp} {dvs:List V} {ds:List Value} {E:XK} {x m:Str} {p pos apos:Pos} {e o:Expr} {es:List Expr} {ta:TE} {t:TA}
theorem wu{pins:List (Addr×Obj)}{σ:St}{H:Hp}{s:Shared}{Q:VK}{us:List Value}{vs:List V}(F:FnOk X.prog X.w X.K X.mg X.base CX k f fd ps sp)(hr:Room k X.A)(hb:Binds X.K fd ps ds)(hd:Vals dvs ds)(hx:eZ CX X E)
  (I:Inv X pins σ H s) (r:Vals vs us) (h:sp (vs++dvs) H Q E):wpAny (model X.prog X.w) X.A (call (.ref f) us) (EP X pins σ Q) X.xe s:=by
 have r2:Vals (vs++dvs) (us++ds):=r.append hd;have hl:(us++ds).length=ps.length:=by rw[<-r2.length];exact F.len _ _ _ _ h
 refine wpAny_call (codeAny_mono (F.run X.A X.stack s H ⟨us,[]⟩ (us++ds) (vs++dvs) Q E hr I.env0 (hb s us I.kIn hl) r2 h) λr s' hq=>?_);cases r with
 |error e=>exact hx pins σ H s e s' I hq
 |ok fl=>
  cases fl with
  |ret u=>exact I.after hq
  |next=>exact False.elim hq
  |brk=>exact False.elim hq
  |cont=>exact False.elim hq
theorem XH(F:FnOk X.prog X.w X.K X.mg X.base CX k f fd ps sp)(hr:Room k X.A)(hg:Gl X x)(hm:X.mg x=some (.ref f))(hk:PySem.W.keepIn X.K (.ref f)=true)(hb:Binds X.K fd ps ds)(hd:Vals dvs ds)(hx:eZ CX X E)
  (ha:PA X (e::es) t) (hdb:(x==("__debug__":Str))=false:=by decide) (he:starEach (e::es) X.env=(false,eval e X.env)::starEach es X.env:=by rfl) (hpl:(backTo pos (starEach es X.env)).any (·.1)=false:=by rfl):
  PE X (.Call (.Name x p) (e::es) [] pos) (XD sp dvs E t):=by
 intro pins s σ H Q I h;refine wpAny_Call_Name_kw (kE I hg hm ?_ hdb);refine PySem.W.callWith_K (h₀:=X.base) I.ok.mod.kin hk (thn (ha pos pins s σ H _ I h) λus s1 ⟨vs,H1,I1,r,q⟩=>⟨I1.kIn,?_⟩) he hpl;exact wu F hr hb hd hx I1 r q
theorem XJ{pl:Sem Bool}(he:PE X o ta)(c:Cls X.K C)(hm:Meth X.K C m f)(F:FnOk X.prog X.w X.K X.mg X.base CX k f fd ps sp)(hr:Room k X.A)(hb:Binds X.K fd ps ds)(hd:Vals dvs ds)(hx:eZ CX X E)(ha:PA X (e::es) t)
  (hst:starEach (e::es) X.env=(false,eval e X.env)::starEach es X.env:=by rfl) (hpl:(backTo pos (starEach es X.env)).any (·.1)=false:=by rfl)
  (ht:eval (.Call (.Attribute o m apos) (e::es) [] pos) X.env=(do
   let ov <-eval o X.env
   standAt apos.atName
   let (f,first) <-holding [ov] (getMethod ov m pl)
   callWith pos f first (backTo pos (starEach (e::es) X.env)) (backToKw pos (keywordEach [] X.env))):=by rfl):
  PE X (.Call (.Attribute o m apos) (e::es) [] pos) (kO C m sp dvs E ta t):=by
 intro pins s σ H Q I h;refine gi (pl:=pl) (thn (he pins s σ H _ I h) λu s1 ⟨x,H1,I1,rx,a,dx,fs,ex,ea,l,q⟩=>?_) ht;subst ex;obtain rfl:u=Value.ref a:=rx;refine qM I1 ea c hm l ?_;refine PySem.W.callWith_K (first:=[.ref a]) (h₀:=X.base) I.ok.mod.kin hm.kp (thn (ha pos pins s1 σ H1 _ I1 q) λus s2 ⟨vs,H2,I2,r,q2⟩=>⟨I2.kIn,?_⟩) hst hpl;exact wu (us:=.ref a::us) (vs:=.ref a::vs) F hr hb hd hx I2 (.cons rfl r) q2
theorem XM{pl:Sem Bool}(he:PE X o ta)(c:Cls X.K C)(hm:Meth X.K C m f)(F:FnOk X.prog X.w X.K X.mg X.base CX k f fd ps sp)(hr:Room k X.A)(hb:Binds X.K fd ps ds)(hd:Vals dvs ds)(hx:eZ CX X E)
  (ht:eval (.Call (.Attribute o m apos) [] [] pos) X.env=(do
   let ov <-eval o X.env
   standAt apos.atName
   let (f,first) <-holding [ov] (getMethod ov m pl)
   callWith pos f first (backTo pos (starEach [] X.env)) (backToKw pos (keywordEach [] X.env))):=by rfl):
  PE X (.Call (.Attribute o m apos) [] [] pos) (kO C m sp dvs E ta Cr):=by
 intro pins s σ H Q I h;refine gi (pl:=pl) (thn (he pins s σ H _ I h) λu s1 ⟨x,H1,I1,rx,a,dx,fs,ex,ea,l,q⟩=>?_) ht;subst ex;obtain rfl:u=Value.ref a:=rx;refine qM I1 ea c hm l ?_;exact PySem.W.callWith_K0 (first:=[.ref a]) I1.kIn hm.kp (wu (us:=[.ref a]) (vs:=[.ref a]) F hr hb hd hx I1 (.cons rfl .nil) q)
structure Mk(K:PF)(C f:Addr):Prop where
 makes:PySem.W.makesIn K C=true
 init:PySem.W.findIn K (.ref C) "__init__"=some (some (.ref f))
 fn:PySem.W.isFn K (.ref f)=true
 kp:PySem.W.keepIn K (.ref C)=true
theorem XN{pins:List (Addr×Obj)}{σ:St}{H:Hp}{s:Shared}{Q:VK}{us:List Value}{vs:List V}(M:Mk X.K C f)(F:FnOk X.prog X.w X.K X.mg X.base CX k f fd ps sp)(hr:Room (k+1) X.A)(hb:Binds X.K fd ps ds)(hd:Vals dvs ds)
  (hx:eZ CX X E) (I:Inv X pins σ H s) (r:Vals vs us)
  (h:∀x dx,H x=none->H dx=none->dx≠x->sp (.ref x::(vs++dvs)) (upd (upd H dx (.own x)) x (.ins C dx [])) (λv H2=>v=.non/\Q (.ref x) H2) E):
  wpAny (model X.prog X.w) X.A (call (.ref C) us) (EP X pins σ Q) X.xe s:=by
 have hq:=h (s.heap.objs.size+1) s.heap.objs.size (I.hok.fresh (fN _)) (I.hok.fresh (ax _)) (cr (gp _));have I2:=Inv.made (C:=C) I;have r2:Vals (V.ref (s.heap.objs.size+1)::(vs++dvs)) (Value.ref (s.heap.objs.size+1)::(us++ds)):=.cons rfl (r.append hd);have hl:(Value.ref (s.heap.objs.size+1)::us++ds).length=ps.length:=by have e:=r2.length;rw[F.len _ _ _ _ hq]at e;exact e.symm
 refine wpAny_call (Xh (f:=f) I.kIn M.makes M.init (aw.mp M.fn) (codeAny_mono (F.run _ X.stack _ _ ⟨Value.ref (s.heap.objs.size+1)::us,[]⟩ (Value.ref (s.heap.objs.size+1)::(us++ds)) _ _ E (hr.make C us [])
  (I2.env0.make C us []) (hb _ (Value.ref (s.heap.objs.size+1)::us) I2.kIn hl) r2 hq) λr s' hq'=>?_))
 cases r with
 |error e=>exact hx pins σ _ _ e s' I2 hq'
 |ok fl=>
  cases fl with
  |ret u=>
   obtain ⟨v,H',I3,rv,ev,q3⟩:=I2.after hq';subst ev;exact ⟨rv,⟨V.ref (s.heap.objs.size+1),H',I3,rfl,q3⟩⟩
  |next=>exact False.elim hq'
  |brk=>exact False.elim hq'
  |cont=>exact False.elim hq'
theorem XQ(M:Mk X.K C f)(F:FnOk X.prog X.w X.K X.mg X.base CX k f fd ps sp)(hr:Room (k+1) X.A)(hg:Gl X x)(hm:X.mg x=some (.ref C))(hb:Binds X.K fd ps ds)(hd:Vals dvs ds)(hx:eZ CX X E)
  (ha:PA X (e::es) t) (hdb:(x==("__debug__":Str))=false:=by decide) (he:starEach (e::es) X.env=(false,eval e X.env)::starEach es X.env:=by rfl) (hpl:(backTo pos (starEach es X.env)).any (·.1)=false:=by rfl):
  PE X (.Call (.Name x p) (e::es) [] pos) (XF C sp dvs E t):=by
 intro pins s σ H Q I h;refine wpAny_Call_Name_kw (kE I hg hm ?_ hdb);refine PySem.W.callWith_K (h₀:=X.base) I.ok.mod.kin M.kp (thn (ha pos pins s σ H _ I h) λus s1 ⟨vs,H1,I1,r,q⟩=>⟨I1.kIn,?_⟩) he hpl;exact XN M F hr hb hd hx I1 r q
end
structure FnScope(N P:List Str)(sc:Scope):Prop where
 kind:sc.kind=.function
 co:sc.isCoroutine=false
 gen:sc.isGenerator=false
 nd:N.Nodup
 pre:N.take P.length=P
 par:∀x∈P,sc.names.lookup x=some .local\/sc.names.lookup x=some .cell
 nofree:∀y∈sc.names,y.2≠.free
theorem Cu{kindOf:Str->Option NameKind}{x:Str}:∀{binds:List (Str×Value)}{m:Str->Option Value},(∀v,(x,v)∉binds)->bindL kindOf binds m x=m x
 |[],_,_=>rfl
 | (n,v)::r,m,h=>by
  unfold bindL;rw[Cu λw hw=>h w (bi _ hw)];split
  ·have:x≠n:=by rintro rfl;exact h v bS
   simp[this]
  ·rfl
theorem Cv{kindOf:Str->Option NameKind}{x:Str}:∀{binds:List (Str×Value)}{m:Str->Option Value},(∀v,(x,v)∉binds)->bindC kindOf binds m x=m x
 |[],_,_=>rfl
 | (n,v)::r,m,h=>by
  unfold bindC;rw[Cv λw hw=>h w (bi _ hw)];split
  ·rfl
  ·have:x≠n:=by rintro rfl;exact h v bS
   simp[this]
theorem Cw{kindOf:Str->Option NameKind}{x:Str}{v:Value}:∀{P:List Str}{vs:List Value}{i:Nat}{m:Str->Option Value},P.Nodup->P[i]?=some x->vs[i]?=some v->kindOf x=some .local->
  bindL kindOf (P.zip vs) m x=some v
 |[],_,_,_,_,h,_,_=>by simp at h
 |_::_,[],_,_,_,_,h,_=>by simp at h
 |p::P,w::vs,0,m,nd,h1,h2,hk=>by
  simp at h1 h2;subst h1;subst h2;show bindL kindOf ((p,w)::P.zip vs) m p=_;unfold bindL;rw[Cu λv hv=>(fe.mp nd).1 (List.of_mem_zip hv).1,if_pos hk];simp
 |p::P,w::vs,i+1,m,nd,h1,h2,hk=>by
  show bindL kindOf ((p,w)::P.zip vs) m x=_;unfold bindL;exact Cw (i:=i) (fe.mp nd).2 (by simpa using h1) (by simpa using h2) hk
theorem Cy{kindOf:Str->Option NameKind}{x:Str}{v:Value}:∀{P:List Str}{vs:List Value}{i:Nat}{m:Str->Option Value},P.Nodup->P[i]?=some x->vs[i]?=some v->kindOf x≠some .local->
  bindC kindOf (P.zip vs) m x=some v
 |[],_,_,_,_,h,_,_=>by simp at h
 |_::_,[],_,_,_,_,h,_=>by simp at h
 |p::P,w::vs,0,m,nd,h1,h2,hk=>by
  simp at h1 h2;subst h1;subst h2;show bindC kindOf ((p,w)::P.zip vs) m p=_;unfold bindC;rw[Cv λv hv=>(fe.mp nd).1 (List.of_mem_zip hv).1,if_neg hk];simp
 |p::P,w::vs,i+1,m,nd,h1,h2,hk=>by
  show bindC kindOf ((p,w)::P.zip vs) m x=_;unfold bindC;exact Cy (i:=i) (fe.mp nd).2 (by simpa using h1) (by simpa using h2) hk
def start(N:List Str)(vs:List V):St:=vs.map some++List.replicate (N.length - vs.length) none
def cQ(CX:CXT)(P:Program)(w:World)(K:PF)(mg:Str->Option Value)(base:Heap)(N:List Str)(qual:Str)(scope:Scope)(f:Addr)(cd:Value)(A:Around)(outer:List Env)(s:Shared)(H:Hp)(E:XK):Cx where
 prog:=P
 w:=w
 K:=K
 mg:=mg
 base:=base
 A:=A.deeper (envOfC qual scope s.heap.objs.size f cd)
 N:=N
 s₀:=s
 H₀:=H
 env:=envOfC qual scope s.heap.objs.size f cd
 outer:=outer
 stack:=envOfC qual scope s.heap.objs.size f cd::outer
 ex:=[]
 calm:=true
 fn:=λ_=>true
 pn:=[]
 xe:=λe s'=>wpAny (model P w) (A.deeper (envOfC qual scope s.heap.objs.size f cd)) (leaving (envOfC qual scope s.heap.objs.size f cd) e) (λ_ s''=>CX outer H s E e s'') (λe' s''=>CX outer H s E e' s'') s'
theorem Cz{sc:Scope}{n:Nat}{x:Str}(h:sc.names.lookup x=some .cell):∃c,(cellsFrom n sc.names []).lookup x=some c:=by have q:=PySem.W.cellsFrom_some sc.names n [] (.inl h);exact cS.mp q
theorem CG{CX:CXT}{P:Program}{w:World}{K:PF}{mg:Str->Option Value}{base:Heap}{N ps:List Str}{qual:Str}{scope:Scope}{f:Addr}{cd:Value}{A:Around}{outer:List Env}{s s1:Shared}{H:Hp}{E:XK}{us:List Value}{vs:List V}
  (S:FnScope N ps scope) (hd:A.handled=none) (e0:Env0 P w K mg base A outer s H) (hl:vs.length=ps.length) (r:Vals vs us)
  (x:InCallC s s.heap.objs.size (bindL (envOfC qual scope s.heap.objs.size f cd).kindOf (ps.zip us) λ_=>none) (cellsFrom (s.heap.objs.size+1) scope.names []) (bindC (envOfC qual scope s.heap.objs.size f cd).kindOf (ps.zip us) λ_=>none) s1):
  Inv (cQ CX P w K mg base N qual scope f cd A outer s H E) [] (start N vs) H s1:=by
 have hpl:ps.length<=N.length:=by have:=fb List.length S.pre;rw[bX]at this;omega
 obtain ⟨h1,tk,rfl,hk⟩:=x.done;have noA:∀b:Addr,b∉(cQ CX P w K mg base N qual scope f cd A outer s H E).ex:=λb z=>absurd (show b∈([]:List Addr) from z) (by simp);refine ⟨⟨e0.mod,S.kind,rfl,rfl,ax _,λy z c h1 h2=>?_,λy hy=>?_,λy c _ h=>?_,λ_=>hd,Around.frames_deeper e0.frames,.inr ⟨rfl,rfl⟩,λb z=>absurd z (noA b),e0.bs,e0.bsz,λb _ _=>noA b,λb z=>absurd z (noA b),e0.funs,e0.frf⟩,
  rfl,e0.bare,Un.kept hk,⟨_,x.toInCall.ns,λi y v h1 h2 h3=>?_⟩,λy c h=>⟨_,x.cell y c h⟩,e0.hok.fresh (ax _),λy c h=>?_,λp hp=>absurd (show p∈([]:List (Addr×Obj)) from hp) (by simp),e0.hok.kept hk,?_⟩
 ·exact name_of_addr x.apart (d3 h1) (d3 h2)
 ·have hy:scope.names.lookup y=some .cell\/scope.names.lookup y=some .free:=hy;rcases hy with hy |hy
  ·exact Cz hy
  ·exact absurd rfl (S.nofree _ (d3 hy))
 ·exact Nat.le_of_lt (x.above y c (d3 h))
 ·have hi:i < vs.length:=by
   unfold start at h2;by_cases hi:i < vs.length
   ·exact hi
   ·rw[fw (by simpa using hi)]at h2;rw[List.getElem?_replicate]at h2;split at h2 <;> cases h2
  have ha:vs[i]?=some v:=by
   unfold start at h2;rw[eI (by simpa using hi),bp]at h2;cases e:vs[i]? with
   |none=>rw[e]at h2;cases h2
   |some a=>rw[e]at h2;cases h2;rfl
  obtain ⟨u,hu,rv⟩:=r.get ha;have hp:ps[i]?=some y:=by rw[<-S.pre,List.getElem?_take_of_lt (by omega)];exact h1
  have ndP:ps.Nodup:=by rw[<-S.pre];exact S.nd.sublist (List.take_sublist _ _)
  refine ⟨u,rv,?_⟩;rcases S.par y (ce hp) with k |k
  ·exact .inl ⟨k,Cw ndP hp hu k⟩
  ·obtain ⟨c,e⟩:=Cz (n:=s.heap.objs.size+1) k;refine .inr ⟨.inl k,c,e,?_⟩;have q:=x.cell y c e;rw[Cy ndP hp hu (by show scope.names.lookup y≠_;rw[k];decide)]at q;exact q
 ·exact e0.hok.fresh (Nat.le_of_lt (x.above y c (d3 h)))
 ·unfold start;show _=N.length;rw[av,ag,cw];omega
theorem XS{CX:CXT}{P:Program}{w:World}{K:PF}{mg:Str->Option Value}{base:Heap}{k:Nat}{f:Addr}{name qual:Str}{params:Arguments}{body:List Stmt}{scope:Scope}{dV kV doc pm cdv ct oc:Value}{an od:Option Addr}
  {osl:Array (Option Value)} {N ps:List Str} {sp:Sp} (lk:K.lookup f=some ⟨oc,od,.func (PySem.W.fnOf name qual params body scope dV kV doc pm an cdv ct),osl⟩) (hcd:PySem.W.codeIn K cdv qual=true) (S:FnScope N ps scope)
  (len:∀vs H Q E,sp vs H Q E->vs.length=ps.length)
  (hbody:∀(A:Around)(outer:List Env)(s:Shared)(H:Hp)(vs:List V)(Q:VK)(E:XK),Room k (A.deeper (envOfC qual scope s.heap.objs.size f cdv))->sp vs H Q E->
   ∃t,PSs (cQ CX P w K mg base N qual scope f cdv A outer s H E) body t/\t { nx:=λ_ H'=>Q .non H',rt:=Q } (start N vs) H):
  FnOk P w K mg base CX (k+1) f (PySem.W.fnOf name qual params body scope dV kV doc pm an cdv ct) ps sp:=by
 refine ⟨len,λA outer s H args us vs Q E hr e0 hb r hsp=>?_⟩;have hl:=len _ _ _ _ hsp;have KX:K.In s.heap:=e0.mod.kin.keeps λb o e=>(e0.bs b o e).1;have lim:s.heap.NoLimit:=e0.mod.nolimit.keeps λb o e=>(e0.bs b o e).1;have hkind:∀y∈ps.zip us,scope.names.lookup y.1=some .local\/(scope.names.lookup y.1=some .cell/\((cellsFrom (s.heap.objs.size+1) scope.names []).lookup y.1).isSome=true):=λ⟨n,v⟩ hy=>by
  rcases S.par n (List.of_mem_zip hy).1 with q |q
  ·exact .inl q
  ·exact .inr ⟨q,PySem.W.cellsFrom_some _ _ _ (.inl q)⟩
 refine codeAny_call_function hr.depth (KX _ _ lk) rfl S.co S.gen rfl (PySem.W.codeRec_of KX hcd) (hb _ _ _ _ ?_);refine wpAny_newFunctionEnv_cells S.kind hkind λenv he s1 x=>?_;subst he;refine ⟨lim.keeps x.toInCall.keep,codeAny_func ?_⟩;obtain ⟨t,ht,hq⟩:=hbody A outer s H vs Q E (hr.deeper _) hsp;have I:Inv (cQ CX P w K mg base N qual scope f cdv A outer s H E) [] (start N vs) H s1:=CG S hr.hd e0 hl r x;refine c5 (ht [] s1 (start N vs) H _ I hq) (λfl s' hs=>?_) λe s' hs=>hs;have fin:∀{σ':St}{H':Hp}{v:V}{u:Value},Inv (cQ CX P w K mg base N qual scope f cdv A outer s H E) [] σ' H' s'->RelV v u->Q v H'->CE outer P w H s Q u s':=
  λ{σ' H' v u} J rv q=>⟨v,H',J.os,J.bare,J.base,J.hok,rv,q⟩
 cases fl with
 |ret u=>
  obtain ⟨v,σ',H',J,rv,q⟩:=hs;exact fin J rv q
 |next=>
  obtain ⟨σ',H',J,q⟩:=hs;exact fin (v:=V.non) (u:=Value.none) J rfl q
 |brk=>
  obtain ⟨_,_,_,q⟩:=hs;exact False.elim q
 |cont=>
  obtain ⟨_,_,_,q⟩:=hs;exact False.elim q
section
variable {X:Cx} {x:Str} {p pos:Pos} {e:Expr} {es:List Expr} {t:TA} {id T:String} {r:List V->Hp->VK->Prop}
def tCB(r:List V->Hp->VK->Prop)(t:TA):TE:=λσ H Q=>t σ H λvs H1=>r vs H1 Q
theorem qN (hc:bC X (.builtin id) r) (hg:Gl X x) (hm:X.mg x=none) (hv:bootBuiltins x=some (.builtin id)) (ha:PA X (e::es) t) (hn:x≠"__name__":=by decide) (hdb:(x==("__debug__":Str))=false:=by decide)
  (he:starEach (e::es) X.env=(false,eval e X.env)::starEach es X.env:=by rfl) (hpl:(backTo pos (starEach es X.env)).any (·.1)=false:=by rfl):PE X (.Call (.Name x p) (e::es) [] pos) (tCB r t):=by
 intro pins s σ H Q I h;refine wpAny_Call_Name_kw (jj I hg hm hv ?_ hn hdb);exact PyProof.Rows.callWith_builtin1 (thn (ha pos pins s σ H _ I h) λus s1 ⟨vs,H1,I1,r1,q1⟩=>hc pins s1 σ H1 vs us Q I1 r1 q1) he hpl
theorem qO (hc:bC X (.type T) r) (hg:Gl X x) (hm:X.mg x=none) (hv:bootBuiltins x=some (.type T)) (ha:PA X (e::es) t) (hn:x≠"__name__":=by decide) (hdb:(x==("__debug__":Str))=false:=by decide)
  (he:starEach (e::es) X.env=(false,eval e X.env)::starEach es X.env:=by rfl) (hpl:(backTo pos (starEach es X.env)).any (·.1)=false:=by rfl):PE X (.Call (.Name x p) (e::es) [] pos) (tCB r t):=by
 intro pins s σ H Q I h;refine wpAny_Call_Name_kw (jj I hg hm hv ?_ hn hdb);exact fk (thn (ha pos pins s σ H _ I h) λus s1 ⟨vs,H1,I1,r1,q1⟩=>hc pins s1 σ H1 vs us Q I1 r1 q1) he hpl
end
end L2
namespace HT
open PySem PyProof.Rows
section
variable {prog:Program} {w:World} {A:Around} {E:Value->Shared->Prop} {s:Shared}
theorem XX{t b:Addr}{vs ws:List Value}{Q:Value->Shared->Prop}(ht:IsTup s.heap t vs.toArray)(hb:IsTup s.heap b ws.toArray)(hv:vs≠[])
  (h1:ws=[]->Q (.ref t) s) (h2:ws≠[]->Q (.ref s.heap.objs.size) { s with heap:=s.heap.push { cls:=.type "tuple",data:=.seq (vs++ws).toArray } })
  (hsz:vs.length+ws.length<=sizeLine):wpAny (model prog w) A (binaryOp .Add (.ref t) (.ref b)) Q E s:=by
 obtain ⟨⟨cls,dd,data,sl⟩,ho,hc,n,hd⟩:=id ht;obtain ⟨⟨cls2,dd2,data2,sl2⟩,ho2,hc2,n2,hd2⟩:=id hb;simp only at hc hd hc2 hd2;subst hc hd hc2 hd2;have e:vs.toArray++ws.toArray=(vs++ws).toArray:=by simp
 by_cases hw:ws=[]
 ·exact concat_meets ⟨_,ho,rfl⟩ ⟨_,ho2,rfl⟩ noFill_tuple_add seq_tuple_add PySem.F.slot_tuple_add PySem.F.entry_tuple_add (PySem.F.args_tuple_add_2 _ _)
   (tuple_addW1 t b vs.toArray ws.toArray n n2 dd dd2 sl sl2 (by simpa using hv) (by simp[hw])) ⟨ho,ho2,h1 hw⟩
 ·refine concat_meets ⟨_,ho,rfl⟩ ⟨_,ho2,rfl⟩ noFill_tuple_add seq_tuple_add PySem.F.slot_tuple_add PySem.F.entry_tuple_add (PySem.F.args_tuple_add_2 _ _)
   (tuple_addW2 t b vs.toArray ws.toArray n n2 dd dd2 sl sl2 (by simpa using hv) (by simpa using hw) (by rw[List.size_toArray,List.size_toArray];exact hsz)) ⟨ho,ho2,?_⟩
  rw[e];exact h2 hw
noncomputable def sIx(n d:Nat):Option Int->Nat
 |none=>d
 |some v=>if v < 0 then (v+(n:Int)).toNat else min v.toNat n
theorem CJ(n d k:Nat):sIx n d (some (k:Int))=min k n:=by show (if (k:Int) < 0 then ((k:Int)+(n:Int)).toNat else min (k:Int).toNat n)=min k n;rw[if_neg (by omega),Int.toNat_natCast]
theorem CK(n d:Nat)(hd:d<=n)(o:Option Int):sIx n d o<=n:=by
 cases o with
 |none=>exact hd
 |some v=>
  show (if v < 0 then (v+(n:Int)).toNat else min v.toNat n)<=n;by_cases hv:v < 0
  ·rw[if_pos hv];omega
  ·rw[if_neg hv];exact Nat.min_le_right _ _
theorem CN(v:Int)(n d:Nat):(if v < 0 then max (v+(n:Int)) 0 else min v (n:Int))=((sIx n d (some v):Nat):Int):=by
 show (if v < 0 then max (v+(n:Int)) 0 else min v (n:Int))=(((if v < 0 then (v+(n:Int)).toNat else min v.toNat n):Nat):Int);by_cases hv:v < 0
 ·simp only[if_pos hv];omega
 ·simp only[if_neg hv];omega
theorem X3(lo hi:Option Int)(n:Nat):Builtin.Slice.sliceAdjust lo hi 1 (n:Int)=(((sIx n 0 lo:Nat):Int),((sIx n n hi:Nat):Int)):=by
 have h1:¬((1:Int) < 0):=by omega
 unfold Builtin.Slice.sliceAdjust;simp only[h1,if_false];refine Prod.ext ?_ ?_
 ·cases lo with
  |none=>rfl
  |some v=>exact CN v n 0
 ·cases hi with
  |none=>rfl
  |some v=>exact CN v n n
theorem X4(i j:Nat):Builtin.Slice.slicePlaces (i:Int) (j:Int) 1=j - i:=by
 unfold Builtin.Slice.slicePlaces;have h1:(1:Int) > 0:=by omega
 simp only[h1,if_true,Int.ediv_one];split <;> omega
theorem CP{v:Value}{o:Option Int}{Q:Option Int->Shared->Prop}(p:IsPart v o)(h:Q o s):wpAny (model prog w) A (Builtin.Slice.slicePartIndex v) Q E s:=by
 cases p with
 |none=>exact slicePart_none h
 |int i t=>exact slicePart_int h
theorem CQ{sl:Addr}{vl vu:Value}{lo hi:Option Int}{n:Nat}{Q:Int×Int×Nat->Shared->Prop}(hs:s.heap.IsSliceOf sl vl vu .none)(pl:IsPart vl lo)(pu:IsPart vu hi)
  (h:Q (((sIx n 0 lo:Nat):Int),1,sIx n n hi - sIx n 0 lo) s):wpAny (model prog w) A (Builtin.Slice.sliceApplied (.ref sl) (pure (n:Int))) Q E s:=by
 obtain ⟨os,hos,hcs,hds⟩:=id hs;unfold Builtin.Slice.sliceApplied Builtin.Slice.sliceFields;refine wpAny_bind (wpAny_bind (wpAny_field hos hds (x:=vl) rfl (wpAny_bind (wpAny_field hos hds (x:=vu) rfl (wpAny_bind (wpAny_field hos hds (x:=.none) rfl (wpAny_pure ?_)))))));refine wpAny_bind (slicePart_none ?_);show wpAny _ _ (if ((1:Int)==0)=true then _ else _) _ _ s;rw[if_neg (by decide)];refine wpAny_bind (CP pl (wpAny_bind (CP pu (wpAny_bind (wpAny_pure ?_)))));show wpAny _ _ (match Builtin.Slice.sliceAdjust lo hi 1 (n:Int) with | (lo,hi)=>pure (lo,(1:Int),Builtin.Slice.slicePlaces lo hi 1)) _ _ s;rw[X3 lo hi n];show wpAny _ _ (pure (((sIx n 0 lo:Nat):Int),(1:Int),Builtin.Slice.slicePlaces ((sIx n 0 lo:Nat):Int) ((sIx n n hi:Nat):Int) 1)) _ _ s;rw[X4];exact wpAny_pure h
theorem X5(xs:Array Value)(i k:Nat):((List.range k).filterMap λ(m:Nat)=>xs[((i:Int)+(m:Int) * 1).toNat]?).toArray=((xs.toList.drop i).take k).toArray:=by
 have e:(λ(m:Nat)=>xs[((i:Int)+(m:Int) * 1).toNat]?)=λm=>xs[i+m]?:=by
  funext m;have:((i:Int)+(m:Int) * 1).toNat=i+m:=by omega
  rw[this]
 rw[e];have:=pick_run xs i k;rw[List.filterMap_map]at this;have e2:((λx=>xs[x]?)∘λx=>i+x)=λm=>xs[i+m]?:=rfl;rw[e2]at this;rw[this]
theorem X6{t sl:Addr}{items:Array Value}{vl vu:Value}{lo hi:Option Int}{Q:Value->Shared->Prop}(ht:IsTup s.heap t items)(hs:s.heap.IsSliceOf sl vl vu .none)(pl:IsPart vl lo)(pu:IsPart vu hi)
  (hw:¬(sIx items.size 0 lo=0/\sIx items.size items.size hi=items.size))
  (h:Q (.ref s.heap.objs.size) { s with heap:=s.heap.push { cls:=.type "tuple",data:=.seq ((items.toList.drop (sIx items.size 0 lo)).take (sIx items.size items.size hi - sIx items.size 0 lo)).toArray } })
  (hsz:items.size<=sizeLine):wpAny (model prog w) A (getItem (.ref t) (.ref sl)) Q E s:=by
 have htake:sizeOk (.seq ((items.toList.drop (sIx items.size 0 lo)).take (sIx items.size items.size hi - sIx items.size 0 lo)).toArray):=by show ((items.toList.drop (sIx items.size 0 lo)).take (sIx items.size items.size hi - sIx items.size 0 lo)).toArray.size<=sizeLine;rw[List.size_toArray,List.length_take,List.length_drop,Array.length_toList];omega
 have hj:sIx items.size items.size hi<=items.size:=CK _ _ (Nat.le_refl _) hi;obtain ⟨os,hos,hcs,hds⟩:=id hs;have hTs:s.TypeIs (.ref sl) "slice":=⟨os,hos,hcs⟩;unfold getItem;try with_reducible refine wpAny_holding ?_
 first |refine wpAny_bind (wpAny_pure ?_) |skip
 refine wpAny_bind (wpAny_sequenceKey ht.typeIs (by decide) ?_);refine wpAny_bind (wpAny_callSpecial?_slot (name:=Str.ofString "__getitem__") ht.typeIs PyProof.Rows.slot_tuple_getitem
  (wpAny_call_entry PyProof.Rows.slot_tuple_getitem ht.typeIs entry_tuple_getitem ?_ (args_tuple_getitem _ _)))
 show wpAny _ _ (Builtin.Tuple.tupleItemsOf (.ref t) >>= _) _ _ s;refine wpAny_bind (tupleItemsOf_ ht ?_);refine wpAny_bind (wpAny_typeOf hTs ?_);rw[if_pos (by decide)];refine wpAny_bind (CQ hs pl pu ?_);have hno:¬((((sIx items.size 0 lo:Nat):Int)==0&&(1:Int)==1&&(sIx items.size items.size hi - sIx items.size 0 lo)==items.size)=true):=by intro q;rw[Bool.and_eq_true,Bool.and_eq_true]at q;have q1:((sIx items.size 0 lo:Nat):Int)=0:=eq_of_beq q.1.1;have q2:sIx items.size items.size hi - sIx items.size 0 lo=items.size:=eq_of_beq q.2;exact hw ⟨by omega,by omega⟩
 show wpAny _ _ (if (((sIx items.size 0 lo:Nat):Int)==0&&(1:Int)==1&&(sIx items.size items.size hi - sIx items.size 0 lo)==items.size)=true then _ else _) _ _ s;rw[if_neg hno,X5];first
  |exact wpAny_bind (m:=Builtin.Tuple.tupleExact _) (wpAny_newObj_type (wpAny_pure ⟨_,rfl,wpAny_pure h⟩) htake)
  |exact wpAny_bind (m:=Builtin.Tuple.tupleExact _) (wpAny_newObj_type (wpAny_bind (wpAny_pure (wpAny_pure ⟨_,rfl,wpAny_pure h⟩))) htake)
  |exact wpAny_bind (wpAny_bind (m:=Builtin.Tuple.tupleExact _) (wpAny_newObj_type (wpAny_pure (wpAny_pure ⟨_,rfl,wpAny_pure h⟩)) htake))
  |exact wpAny_bind (wpAny_bind (m:=Builtin.Tuple.tupleExact _) (wpAny_newObj_type (wpAny_pure ⟨_,rfl,wpAny_pure h⟩) htake))
end
end HT
namespace L2
open PySem PySem.Spec PyProof.Rows
abbrev TO:=St->Hp->(Option Int->Hp->Prop)->Prop
def PO(X:Cx)(e:Option Expr)(t:TO):Prop:=
 ∀(pins:List (Addr×Obj))(s:Shared)(σ:St)(H:Hp)(Q:Option Int->Hp->Prop),Inv X pins σ H s->t σ H Q->
  wpAny (model X.prog X.w) X.A (evalPart e X.env) (λu s'=>∃o H',Inv X pins σ H' s'/\IsPart u o/\Q o H') X.xe s
def X7:TO:=λ_ H Q=>Q none H
def X8(t:TE):TO:=λσ H Q=>t σ H λx H1=>∃i,x=.int i/\Q (some i) H1
theorem intsAre_of{ns:List Int}:∀{us:List Value},Vals (ns.map V.int) us->IntsAre us ns:=by
 induction ns with
 |nil=>intro us r;rw[dQ]at r;cases r;exact .nil
 |cons n ns ih=>
  intro us r;rw[bq]at r;cases r with
  |cons r1 r2=>
   obtain ⟨t,e⟩:=r1;subst e;exact .cons n t (ih r2)
section
variable {X:Cx} {e:Expr} {te:TE} {lo hi:Option Expr} {tl th:TO} {pos p2:Pos}
theorem Yb:PO X none X7:=by intro pins s σ H Q I h;rw[evalPart_none];exact bn ⟨none,H,I,.none,h⟩
theorem Yc(h:PE X e te):PO X (some e) (X8 te):=by intro pins s σ H Q I hw;rw[evalPart_some];refine thn (h pins s σ H _ I hw) λu s1 ⟨x,H1,I1,r1,q1⟩=>?_;obtain ⟨i,rfl,q⟩:=q1;obtain ⟨t,rfl⟩:=r1;exact ⟨some i,H1,I1,.int i t,q⟩
def SlR(X:Cx)(r:V->Option Int->Option Int->Hp->VK->Prop):Prop:=
 ∀(pins:List (Addr×Obj))(s:Shared)(σ:St)(H:Hp)(x:V)(v vl vu:Value)(lo hi:Option Int)(sl:Addr)(Q:VK),Inv X pins σ H s->RelV x v->s.heap.IsSliceOf sl vl vu .none->IsPart vl lo->IsPart vu hi->r x lo hi H Q->
  ∃T id,typeLookup (.type T) "__getitem__"=pure (some (.builtin id))/\s.TypeIs v T/\wpAny (model X.prog X.w) X.A (getItem v (.ref sl)) (EP X pins σ Q) X.xe s
def tSl(r:V->Option Int->Option Int->Hp->VK->Prop)(te:TE)(tl th:TO):TE:=λσ H Q=>te σ H λx H1=>tl σ H1 λl H2=>th σ H2 λu H3=>r x l u H3 Q
theorem Yd{r:V->Option Int->Option Int->Hp->VK->Prop}(hr:SlR X r)(he:PE X e te)(hl:PO X lo tl)(hu:PO X hi th):PE X (.Subscript e (.Slice lo hi none p2) pos) (tSl r te tl th):=by intro pins s σ H Q I h;refine Subscript_ (thn (he pins s σ H _ I h) λv s1 ⟨x,H1,I1,r1,q1⟩=>?_);refine wpAny_Slice (thn (hl pins s1 σ H1 _ I1 q1) λvl s2 ⟨l,H2,I2,pl,q2⟩=>thn (hu pins s2 σ H2 _ I2 q2) λvu s3 ⟨u,H3,I3,pu,q3⟩=>?_);rw[evalPart_none];refine bn ?_;have I4:Inv X pins σ H3 { s3 with heap:=s3.heap.push { cls:=.type "slice",data:=.fields #[vl,vu,.none] } }:=I3.kept (t':=s3.toks) λb ob q=>al _ q;obtain ⟨T,id,hT,ht,hg⟩:=hr pins { s3 with heap:=s3.heap.push { cls:=.type "slice",data:=.fields #[vl,vu,.none] } } σ H3 x v vl vu l u s3.heap.objs.size Q I4 r1 (Heap.IsSliceOf.new ..) pl pu q3;show wpAny (model X.prog X.w) X.A (subscriptTail e (.Slice lo hi none p2) v (.ref s3.heap.objs.size)) (EP X pins σ Q) X.xe { s3 with heap:=s3.heap.push { cls:=.type "slice",data:=.fields #[vl,vu,.none] } };exact tail_any (ops:=[.ref s3.heap.objs.size,v]) ht hT hg (by with_unfolding_all rfl)
noncomputable def d7(xs:List V)(lo hi:Option Int):List V:=(xs.drop (HT.sIx xs.length 0 lo)).take (HT.sIx xs.length xs.length hi - HT.sIx xs.length 0 lo)
theorem CW(xs:List V)(lo hi:Option Int):(d7 xs lo hi).length<=xs.length:=by unfold d7;rw[bX,cf];omega
noncomputable def Ye(K:PF):V->Option Int->Option Int->Hp->VK->Prop:=λx lo hi H Q=>∃a xs,x=.ref a/\SqT K H a xs/\
 ¬(HT.sIx xs.length 0 lo=0/\HT.sIx xs.length xs.length hi=xs.length)/\∀p,H p=none->Q (.ref p) (upd H p (.tup (d7 xs lo hi)))
theorem Yg:SlR X (Ye X.K):=by
 intro pins s σ H x v vl vu lo hi sl Q I rx hs pl pu h;obtain ⟨a,xs,rfl,hx,hw,q⟩:=h;cases rx;obtain ⟨its,r,ht,hz⟩:=I.tuple hx;have hlen:its.toArray.size=xs.length:=by rw[am];exact r.length.symm
 refine ⟨"tuple",_,eP.lookup,ht.typeIs,?_⟩;refine HT.X6 ht hs pl pu (by rw[hlen];exact hw) ?_ (by rw[hlen];exact hz);rw[hlen];refine ⟨.ref s.heap.objs.size,_,I.laid (t':=s.toks) (o:=.tup (d7 xs lo hi)) (λb ob q=>al _ q) (ax _) ?_,rfl,q _ (I.hok.fresh (ax _))⟩;exact ⟨br (CW xs lo hi) hz,_,(r.drop (HT.sIx xs.length 0 lo)).take (HT.sIx xs.length xs.length hi - HT.sIx xs.length 0 lo),IsTup.new _ _⟩
def Yh(K:PF):R2:=λx y H Q=>∃a b xs ys,x=.ref a/\y=.ref b/\SqT K H a xs/\SqT K H b ys/\xs≠[]/\xs.length+ys.length<=sizeLine/\
 (ys=[]->Q (.ref a) H)/\(ys≠[]->∀p,H p=none->Q (.ref p) (upd H p (.tup (xs++ys))))
theorem Vals.nil_iff{xs:List V}{us:List Value}(r:Vals xs us):us=[]↔xs=[]:=by
 cases r with
 |nil=>simp
 |cons _ _=>simp
theorem Yi:OpR X (binaryOp .Add) (Yh X.K):=by intro pins s σ H x y v u Q I rx ry h;obtain ⟨a,b,xs,ys,rfl,rfl,ha,hb,hx,hz,q1,q2⟩:=h;cases rx;cases ry;obtain ⟨its,r1,p1,_⟩:=I.tuple ha;obtain ⟨its2,r2,p2,_⟩:=I.tuple hb;refine HT.XX p1 p2 (λz=>hx (r1.nil_iff.mp z)) (λz=>⟨.ref a,H,I,rfl,q1 (r2.nil_iff.mp z)⟩) (λz=>?_) (by rw[<-r1.length,<-r2.length];exact hz);refine ⟨.ref s.heap.objs.size,_,I.laid (t':=s.toks) (o:=.tup (xs++ys)) (λb ob q=>al _ q) (ax _) ?_,rfl,q2 (λw=>z (r2.nil_iff.mpr w)) _ (I.hok.fresh (ax _))⟩;exact ⟨by rw[av];exact hz,_,r1.append r2,IsTup.new _ _⟩
end
noncomputable def ixN(n:Nat)(i:Int):Option Nat:=if 0<=i then (if i < n then some i.toNat else none) else if -(n:Int)<=i then some (i+n).toNat else none
def atI{α:Type}(xs:List α)(i:Int):Option α:=(ixN xs.length i).bind λj=>xs[j]?
theorem CZ{n:Nat}{i:Int}{j:Nat}(h:ixN n i=some j):seqIndex? i n=some j/\j < n/\-(n:Int)<=i/\i < n:=by
 unfold ixN at h;by_cases h0:0<=i
 ·rw[if_pos h0]at h;by_cases h1:i < n
  ·rw[if_pos h1]at h;have e:i.toNat=j:=dk h;exact ⟨by rw[seqIndex_of h0 h1,e],by omega,by omega,h1⟩
  ·rw[if_neg h1]at h;cases h
 ·rw[if_neg h0]at h;by_cases h1:-(n:Int)<=i
  ·rw[if_pos h1]at h;have e:(i+n).toNat=j:=dk h;exact ⟨by rw[seqIndex_neg (by omega) h1,e],by omega,h1,by omega⟩
  ·rw[if_neg h1]at h;cases h
theorem ww{α:Type}{xs:List α}{i:Int}{v:α}(h:atI xs i=some v):∃j,seqIndex? i xs.length=some j/\xs[j]?=some v/\j < xs.length/\-(xs.length:Int)<=i/\i < xs.length:=by
 unfold atI at h;cases e:ixN xs.length i with
 |none=>rw[e]at h;cases h
 |some j=>
  rw[e]at h;obtain ⟨h1,h2,h3,h4⟩:=CZ e;exact ⟨j,h1,h,h2,h3,h4⟩
theorem bY{α:Type}{xs:List α}{j:Nat}{v:α}(h:xs[j]?=some v):atI xs (j:Int)=some v:=by
 have hj:j < xs.length:=(ar.mp h).1;have e:ixN xs.length (j:Int)=some j:=by unfold ixN;rw[if_pos (by omega),if_pos (by omega)];simp
 unfold atI;rw[e];exact h
theorem kW{α:Type}(xs:List α)(v:α):atI (xs++[v]) (-1)=some v:=by
 have hl:(xs++[v]).length=xs.length+1:=by simp
 have e:ixN (xs++[v]).length (-1)=some xs.length:=by unfold ixN;rw[hl,if_neg (by decide),if_pos (by omega)];congr 1;omega
 unfold atI;rw[e];show (xs++[v])[xs.length]?=some v;simp
def Dc(b:Expr):Prop:=∀o i,subscripted b false o i=operate [o,i] (getItem o i)
def IxR(X:Cx)(r:R2):Prop:=
 ∀(value slice:Expr)(pins:List (Addr×Obj))(s:Shared)(σ:St)(H:Hp)(x y:V)(v u:Value)(Q:VK),Inv X pins σ H s->RelV x v->RelV y u->r x y H Q->
  subscripted slice false v u=operate [v,u] (getItem v u)->wpAny (model X.prog X.w) X.A (subscriptTail value slice v u) (EP X pins σ Q) X.xe s
def MtR(X:Cx)(id:String)(r:V->List V->Hp->VK->Prop):Prop:=
 ∀(pins:List (Addr×Obj))(s:Shared)(σ:St)(H:Hp)(x:V)(xs:List V)(v:Value)(us:List Value)(Q:VK),Inv X pins σ H s->RelV x v->Vals xs us->r x xs H Q->
  wpAny (model X.prog X.w) X.A (call (.builtin id) (v::us)) (EP X pins σ Q) X.xe s
section
variable {X:Cx} {a b:Expr} {ta tb:TE} {pos:Pos}
theorem Yj{r:R2}(hr:IxR X r)(ha:PE X a ta)(hb:PE X b tb)(hs:Dc b):PE X (.Subscript a b pos) (tOp r ta tb):=by intro pins s σ H Q I h;exact Subscript_ (wg ha hb I h λv u s2 x y H2 I2 rx ry q=>hr a b pins s2 σ H2 x y v u Q I2 rx ry q (hs _ _))
def Yk(K:PF):R2:=λx y H Q=>∃p xs i v,x=.ref p/\y=.int i/\SqL K H p xs/\atI xs i=some v/\Q v H
def Yl(K:PF):R2:=λx y H Q=>∃p xs i v,x=.ref p/\y=.int i/\SqT K H p xs/\atI xs i=some v/\Q v H
def Ym:R2:=λx y H Q=>∃z i c,x=.str z/\y=.int i/\z.length<=sizeLine/\atI z.cps.toList i=some c/\Q (.str ⟨#[c]⟩) H
theorem Yn:IxR X (Yk X.K):=by
 intro value slice pins s σ H x y v u Q I rx ry h hs;obtain ⟨p,xs,i,z,rfl,rfl,hq,he,q⟩:=h;cases rx;obtain ⟨t,rfl⟩:=ry;obtain ⟨its,r,pl,hz⟩:=I.list hq;obtain ⟨j,h1,h2,h3,h4,h5⟩:=ww he;obtain ⟨w,ew,rw'⟩:=r.get h2;have hl:=r.length;have hn:=ig;have fin:EP X pins σ Q w s:=⟨z,H,I,rw',q⟩;by_cases h0:0<=i
 ·have hj:i.toNat=j:=by
   rw[seqIndex_of h0 h5]at h1;exact dk h1
  exact item_listR pl.isList h0 (by omega) (by rw[hj];simpa using ew) fin hs
 ·have hj:(i+(its.toArray.size:Int)).toNat=j:=by
   rw[seqIndex_neg (by omega) h4]at h1;rw[am,<-hl];exact dk h1
  exact subscriptTail_builtinR (x:=w) pl.isList.typeIs slot_list_getitem.lookup
   (wpAny_getItem_list_neg (Q:=λr s'=>r=w/\EP X pins σ Q r s') pl.isList (by omega) (by rw[am] <;> omega) (by omega) (by rw[hj];simpa using ew) ⟨rfl,fin⟩) hs
theorem Yo:IxR X (Yl X.K):=by
 intro value slice pins s σ H x y v u Q I rx ry h hs;obtain ⟨p,xs,i,z,rfl,rfl,hq,he,q⟩:=h;cases rx;obtain ⟨t,rfl⟩:=ry;obtain ⟨its,r,pl,hz⟩:=I.tuple hq;obtain ⟨j,h1,h2,h3,h4,h5⟩:=ww he;obtain ⟨w,ew,rw'⟩:=r.get h2;have hl:=r.length;have hn:=ig;have fin:EP X pins σ Q w s:=⟨z,H,I,rw',q⟩;exact subscriptTail_builtinR (x:=w) pl.typeIs slot_tuple_getitem.lookup
  (getItem_tuple (j:=j) (Q:=λr s'=>r=w/\EP X pins σ Q r s') pl (by omega) (by omega) (by rw[am,<-hl];exact h1) (by simpa using ew) ⟨rfl,fin⟩) hs
theorem Yp:IxR X Ym:=by
 intro value slice pins s σ H x y v u Q I rx ry h hs;obtain ⟨z,i,c,rfl,rfl,hz,he,q⟩:=h;obtain ⟨t,rfl⟩:=rx;obtain ⟨t',rfl⟩:=ry;obtain ⟨j,h1,h2,h3,h4,h5⟩:=ww he;have hl:z.cps.toList.length=z.length:=by simp[Str.length]
 rw[hl]at h1 h4 h5;have hn:=ig;exact tail_any (typeIs_str s z t) slot_str_getitem.lookup (getItem_str (c:=c) (by
  have e1:decide (i < -(2 ^ 63:Int))=false:=cq (by omega);have e2:decide (i≥2 ^ 63)=false:=cq (by omega);rw[e1,e2,Bool.or_false]) (by rw[h1];simpa using h2) ⟨.str ⟨#[c]⟩,H,I.tok _,⟨_,rfl⟩,q⟩) hs
theorem Yq (its:List Value) (n j:Nat) (u:Value):Obj.mapSeq (·.setIfInBounds j u) { cls:=.type "list",data:=.seq its.toArray n }={ cls:=.type "list",data:=.seq (its.set j u).toArray n }:=by simp[Obj.mapSeq]
theorem Inv.lst{pins:List (Addr×Obj)}{σ:St}{H:Hp}{s:Shared}{p:Addr}{xs:List V}(I:Inv X pins σ H s)(h:H p=some (.lst xs)):
  ∃(its:List Value) (n:Nat),Vals xs its/\s.heap.get? p=some { cls:=.type "list",data:=.seq its.toArray n }/\xs.length<=sizeLine:=by
 obtain ⟨z,its,n,r,e⟩:=I.hok p _ h;exact ⟨its,n,r,e,z⟩
theorem Inv.lstUpd{pins:List (Addr×Obj)}{σ:St}{H:Hp}{s:Shared}{p:Addr}{xs ys:List V}{its its':List Value}{n n':Nat}{f:Obj->Obj}(I:Inv X pins σ H s)(h:H p=some (.lst xs))
  (ho:s.heap.get? p=some { cls:=.type "list",data:=.seq its.toArray n }) (hf:f { cls:=.type "list",data:=.seq its.toArray n }={ cls:=.type "list",data:=.seq its'.toArray n' }) (r:Vals ys its') (hz:ys.length<=sizeLine) (t:Nat):
  Inv X pins σ (upd H p (.lst ys)) { s with heap:=s.heap.update p f,toks:=t }:=by
 have e:(s.heap.update p f).get? p=some { cls:=.type "list",data:=.seq its'.toArray n' }:=by rw[Heap.get?_update_self f ho (by rw[hf] <;> rfl),hf]
 refine I.write (x:=p) (e:=p) (by rw[h];trivial) (.inl rfl) (λb u hb q=>(Heap.get?_update_other _ _ (Ne.symm hb)).trans q) ⟨_,e⟩ ?_;exact ⟨hz,its',n',r,e⟩
def Yr:V->V->V->Hp->(Hp->Prop)->Prop:=λo i v H Q=>∃p xs k j,o=.ref p/\i=.int k/\H p=some (.lst xs)/\ixN xs.length k=some j/\Q (upd H p (.lst (xs.set j v)))
theorem set_list:v8 X Yr:=by
 intro pins s σ H o i v ov iv u Q I ro ri rv h;obtain ⟨p,xs,k,j,rfl,rfl,hp,hj,q⟩:=h;cases ro;obtain ⟨t,rfl⟩:=ri;obtain ⟨its,n,r,ho,hz⟩:=I.lst hp;obtain ⟨h1,h2,h3,h4⟩:=CZ hj;have hl:=r.length;have hn:=ig;have I':Inv X pins σ (upd H p (.lst (xs.set j v))) { s with heap:=s.heap.update p (Obj.mapSeq (·.setIfInBounds j u)) }:=
  I.lstUpd hp ho (Yq its n j u) (r.set rv j) (by rw[d4];exact hz) s.toks
 by_cases h0:0<=k
 ·have hk:k.toNat=j:=by
   rw[seqIndex_of h0 h4]at h1;exact dk h1
  exact PySem.W.ki_setAt ho h0 (by omega) (by rw[am,<-hl];exact h4) (by rw[hk];exact ⟨_,I',q⟩)
 ·have hk:(k+(its.toArray.size:Int)).toNat=j:=by
   rw[seqIndex_neg (by omega) h3]at h1;rw[am,<-hl];exact dk h1
  exact PySem.W.ki_setBack ho (by omega) (by rw[am,<-hl];exact h3) (by omega) (by rw[hk];exact ⟨_,I',q⟩)
theorem Dd(lo hi:Option Int)(n:Nat):(sliceBounds lo hi none n).1=((HT.sIx n 0 lo:Nat):Int)/\(sliceBounds lo hi none n).2.1=((HT.sIx n n hi:Nat):Int)/\(sliceBounds lo hi none n).2.2=1:=by
 refine ⟨?_,?_,rfl⟩
 ·cases lo with
  |none=>simp[sliceBounds,HT.sIx]
  |some i=>
   simp only[sliceBounds,HT.sIx,Option.getD_none,show (1:Int) > 0 by decide,if_true];by_cases h:i < 0
   ·simp only[h,if_true] <;> omega
   ·simp only[h,if_false] <;> omega
 ·cases hi with
  |none=>simp[sliceBounds,HT.sIx]
  |some i=>
   simp only[sliceBounds,HT.sIx,Option.getD_none,show (1:Int) > 0 by decide,if_true];by_cases h:i < 0
   ·simp only[h,if_true] <;> omega
   ·simp only[h,if_false] <;> omega
theorem Ys(its:List Value)(lo hi:Option Int):slicePick its.toArray lo hi none=((its.drop (HT.sIx its.length 0 lo)).take (HT.sIx its.length its.length hi - HT.sIx its.length 0 lo)).toArray:=by obtain ⟨h1,h2,h3⟩:=Dd lo hi its.toArray.size;unfold slicePick;rw[h1,h2,h3];simp only[sliceRange_one,pick_run,am] <;> rfl
noncomputable def Yt(K:PF):V->Option Int->Option Int->Hp->VK->Prop:=λx lo hi H Q=>∃a xs,x=.ref a/\SqL K H a xs/\∀p,H p=none->Q (.ref p) (upd H p (.lst (d7 xs lo hi)))
theorem De:SlR X (Yt X.K):=by intro pins s σ H x v vl vu lo hi sl Q I rx hs pl pu h;obtain ⟨a,xs,rfl,hx,q⟩:=h;cases rx;obtain ⟨its,r,ht,hz⟩:=I.list hx;have hlen:=r.length;refine ⟨"list",_,slot_list_getitem.lookup,ht.isList.typeIs,?_⟩;refine wpAny_getItem_list_slice ht.isList hs pl pu .none (by simp) ?_ (by rw[am] <;> omega);rw[Ys,<-hlen];refine ⟨.ref s.heap.objs.size,_,I.laid (t':=s.toks) (o:=.lst (d7 xs lo hi)) (λb ob q=>al _ q) (ax _) ?_,rfl,q _ (I.hok.fresh (ax _))⟩;exact ⟨br (CW xs lo hi) hz,_,0,(r.drop (HT.sIx xs.length 0 lo)).take (HT.sIx xs.length xs.length hi - HT.sIx xs.length 0 lo),bb _ rfl⟩
theorem Df:bC X (.builtin "len") (λxs H Q=>∃p ys,xs=[.ref p]/\(SqL X.K H p ys\/SqT X.K H p ys)/\Q (.int ys.length) H):=by
 intro pins s σ H xs us Q I r h;obtain ⟨p,ys,rfl,hq,q⟩:=h;obtain ⟨u,rfl,rx⟩:=vals1 r;cases rx;have hn:=ig;rcases hq with hq |hq
 ·obtain ⟨its,r',pl,hz⟩:=I.list hq;have hlen:=r'.length;exact Calls.call_len_list pl.isList (by simp only[am] <;> omega) ⟨.int ys.length,H,I.tok _,⟨s.toks+1,by rw[am,hlen]⟩,q⟩
 ·obtain ⟨its,r',pl,hz⟩:=I.tuple hq;have hlen:=r'.length;exact len_tuple pl (by simp only[am] <;> omega) ⟨.int ys.length,H,I.tok _,⟨s.toks+1,by rw[am,hlen]⟩,q⟩
theorem Yu:bC X (.builtin "len") (λxs H Q=>∃z,xs=[.str z]/\z.length<=sizeLine/\Q (.int z.length) H):=by intro pins s σ H xs us Q I r h;obtain ⟨z,rfl,hz,q⟩:=h;obtain ⟨u,rfl,t,rfl⟩:=vals1 r;have hn:=ig;exact len_str (by omega) ⟨.int z.length,H,I.tok _,⟨_,rfl⟩,q⟩
theorem Dg:bC X (.type "list") (λxs H Q=>∃p ys,xs=[.ref p]/\(SqL X.K H p ys\/SqT X.K H p ys)/\∀l,H l=none->Q (.ref l) (upd H l (.lst ys))):=by
 intro pins s σ H xs us Q I r h;obtain ⟨p,ys,rfl,hq,q⟩:=h;obtain ⟨u,rfl,rx⟩:=vals1 r;cases rx;have fin:∀(its:List Value),Vals ys its->ys.length<=sizeLine->∀(h':Heap)(c':Nat),(∀b o',s.heap.get? b=some o'->h'.get? b=some o')->
   h'.get? s.heap.objs.size=some { cls:=.type "list",dict:=none,data:=.seq its.toArray c',slots:=#[] }->EP X pins σ Q (.ref s.heap.objs.size) { s with heap:=h' }:=λits r' hz h' c' kp e=>
  ⟨.ref s.heap.objs.size,_,I.laid (t':=s.toks) kp (ax _) (show ObjOk X.prog X.w _ h' _ (.lst ys) from ⟨hz,its,c',r',e⟩),rfl,q _ (I.hok.fresh (ax _))⟩
 rcases hq with hq |hq
 ·obtain ⟨its,r',pl,hz⟩:=I.list hq;have hlen:=r'.length;obtain ⟨o,ho,hc,n,hd⟩:=pl.isList;exact call_list_seq p (.inl rfl) ho hc hd (λh' c' kp e=>fin its r' hz h' c' kp e) (by simp only[am] <;> omega)
 ·obtain ⟨its,r',pl,hz⟩:=I.tuple hq;have hlen:=r'.length;obtain ⟨o,ho,hc,n,hd⟩:=pl;exact call_list_seq p (.inr rfl) ho hc hd (λh' c' kp e=>fin its r' hz h' c' kp e) (by simp only[am] <;> omega)
theorem Dh:bC X (.type "tuple") (λxs H Q=>∃p ys,xs=[.ref p]/\((SqL X.K H p ys/\∀l,H l=none->Q (.ref l) (upd H l (.tup ys)))\/(SqT X.K H p ys/\Q (.ref p) H))):=by
 intro pins s σ H xs us Q I r h;obtain ⟨p,ys,rfl,h⟩:=h;obtain ⟨u,rfl,rx⟩:=vals1 r;cases rx;rcases h with ⟨hq,q⟩ |⟨hq,q⟩
 ·obtain ⟨its,r',pl,hz⟩:=I.list hq;have hlen:=r'.length;refine call_tuple_list pl.isList (λh' kp=>?_) (by simp only[am] <;> omega);have I1:Inv X pins σ H { s with heap:=h' }:=I.kept (t':=s.toks) kp;have I2:Inv X pins σ (upd H h'.objs.size (.tup ys)) { s with heap:=h'.push { cls:=.type "tuple",data:=.seq its.toArray } }:=
   I1.laid (t':=s.toks) (λb o e=>al _ e) (ax _) (show ObjOk X.prog X.w _ _ _ (.tup ys) from ⟨hz,its,r',IsTup.new _ _⟩)
  exact ⟨.ref h'.objs.size,_,I2,rfl,q _ (I1.hok.fresh (ax _))⟩
 ·obtain ⟨its,r',pl,hz⟩:=I.tuple hq;exact call_tuple_same pl ⟨.ref p,H,I,rfl,q⟩
def tyV(K:PF)(T:String)(x:V)(H:Hp):Prop:=match x with
 |.str _=>T="str"
 |.int _=>T="int"
 |.ref p=>(T="list"/\∃xs,SqL K H p xs)\/(T="tuple"/\∃o,K.lookup p=some o/\o.cls=.type "tuple"/\o.dict=none)\/
   (T="dict"/\((∃kvs,H p=some (.dK kvs))\/∃kvs,H p=some (.dT kvs)))\/(T="set"/\∃S n,H p=some (.set S n))
 |_=>False
theorem Di{pins:List (Addr×Obj)}{σ:St}{H:Hp}{s:Shared}{T:String}{x:V}{v:Value}(I:Inv X pins σ H s)(r:RelV x v)(ty:tyV X.K T x H):
  s.TypeIs v T/\∀a,v=.ref a->∃ob,s.heap.get? a=some ob/\ob.dict=none:=by
 cases x with
 |str z=>
  obtain ⟨t,rfl⟩:=r;cases (show T="str" from ty);exact ⟨typeIs_str s z t,λ_ e=>nomatch e⟩
 |int i=>
  obtain ⟨t,rfl⟩:=r;cases (show T="int" from ty);exact ⟨typeIs_int s i t,λ_ e=>nomatch e⟩
 |ref p=>
  cases r;rcases ty with ⟨rfl,xs,hq⟩ |⟨rfl,o,hk,hc,hd⟩ |⟨rfl,hk⟩ |⟨rfl,S,n,hk⟩
  ·obtain ⟨its,_,pl,_⟩:=I.list hq;refine ⟨pl.isList.typeIs,λa e=>?_⟩;cases e;obtain ⟨o,n,e,c,hd,_⟩:=pl;exact ⟨o,e,hd⟩
  ·refine ⟨⟨o,I.kIn p o hk,hc⟩,λa e=>?_⟩;cases e;exact ⟨o,I.kIn _ o hk,hd⟩
  ·have z:∃o,s.heap.get? p=some o/\o.ExactDict:=by
    rcases hk with ⟨kvs,hk⟩ |⟨kvs,hk⟩
    ·obtain ⟨_,_,_,_,o,_,_,e,ex,_⟩:=I.hok p _ hk;exact ⟨o,e,ex⟩
    ·obtain ⟨_,_,_,_,o,_,_,e,ex,_⟩:=I.hok p _ hk;exact ⟨o,e,ex⟩
   obtain ⟨o,e,ex⟩:=z;refine ⟨⟨o,e,ex.1⟩,λa e2=>?_⟩;cases e2;exact ⟨o,e,ex.2.1⟩
  ·obtain ⟨o,_,_,_,e,ex,_⟩:=I.hok p _ hk;refine ⟨⟨o,e,ex.1⟩,λa e2=>?_⟩;cases e2;exact ⟨o,e,ex.2.1⟩
 |_=>exact False.elim ty
def Yv(K:PF)(T:String)(r:V->List V->Hp->VK->Prop)(to:TE):TE:=λσ H Q=>to σ H λx H1=>tyV K T x H1/\r x [] H1 Q
def tBM(K:PF)(T:String)(r:V->List V->Hp->VK->Prop)(to:TE)(t:TA):TE:=λσ H Q=>to σ H λx H1=>tyV K T x H1/\t σ H1 λxs H2=>r x xs H2 Q
variable {o e:Expr} {es:List Expr} {to:TE} {t:TA} {name:Str} {apos cpos:Pos} {T id:String} {r:V->List V->Hp->VK->Prop}
theorem Yw (pa:PlainAttrs T) (slot:Slot T name id) (hty:typeOf (.builtin id)=pure (.type "method_descriptor")) (hm:MtR X id r) (ho:PE X o to)
  (hbase:attributeBase o name X.env (eval o X.env)=eval o X.env:=by rfl) (hline:(apos.endLine==cpos.line)=true:=by rfl):PE X (.Call (.Attribute o name apos) [] [] cpos) (Yv X.K T r to):=by
 intro pins s σ H Q I h;refine wpAny_Call_method0_late hbase hline (thn (ho pins s σ H _ I h) λv s1 ⟨x,H1,I1,r1,ty,q1⟩=>?_);obtain ⟨h1,h2⟩:=Di I1 r1 ty;exact ⟨T,id,pa,slot,hty,h1,h2,Calls.callWith_builtin rfl (PySem.evalArgs_none (hm pins s1 σ H1 x [] v [] Q I1 r1 .nil q1))⟩
theorem ik (pa:PlainAttrs T) (slot:Slot T name id) (hty:typeOf (.builtin id)=pure (.type "method_descriptor")) (hm:MtR X id r) (ho:PE X o to) (ha:PA X (e::es) t)
  (hbase:attributeBase o name X.env (eval o X.env)=eval o X.env:=by rfl)
  (hfew:((backTo cpos (starEach (e::es) X.env)).all (λx=>!x.1)&&(backToKw cpos (keywordEach [] X.env)).all (λx=>x.1.isSome)
  &&decide ((e::es).length+([]:List Keyword).length+(if ([]:List Keyword).isEmpty then 0 else 1) < 30))=true:=by rfl)
  (hline:(apos.endLine==cpos.line)=true:=by rfl) (hs:starEach (e::es) X.env=(false,eval e X.env)::starEach es X.env:=by rfl) (hplain:(backTo cpos (starEach es X.env)).any (·.1)=false:=by rfl):
  PE X (.Call (.Attribute o name apos) (e::es) [] cpos) (tBM X.K T r to t):=by
 intro pins s σ H Q I h;refine wpAny_Call_method_late hbase hfew hline rfl (thn (ho pins s σ H _ I h) λv s1 ⟨x,H1,I1,r1,ty,q1⟩=>?_);obtain ⟨h1,h2⟩:=Di I1 r1 ty;refine ⟨T,id,pa,slot,hty,h1,h2,?_⟩;have hA:=ha cpos pins s1 σ H1 _ I1 q1;rw[hs]at hA ⊢;refine Calls.callWith_builtin (by show (false||(backTo cpos (starEach es X.env)).any (·.1))=false;rw[hplain] <;> rfl) (Calls.evalArgs_plain ?_);exact thn hA λus s2 ⟨vs,H2,I2,r2,q2⟩=>hm pins s2 σ H2 x vs v us Q I2 r1 r2 q2
end
def MtM(X:Cx)(id:String)(r:V->List V->Hp->VK->Prop):Prop:=
 ∀(pins:List (Addr×Obj))(s:Shared)(σ:St)(H:Hp)(x:V)(xs:List V)(v:Value)(us:List Value)(Q:VK),Inv X pins σ H s->RelV x v->Vals xs us->r x xs H Q->
  wpAny (model X.prog X.w) X.A (call (.builtin id) (v::us)) (EP X pins σ Q) X.xe s
theorem Vals.one:∀{x:V}{us:List Value},Vals [x] us->∃u,us=[u]/\RelV x u
 |_,_,.cons r .nil=>⟨_,rfl,r⟩
theorem Vals.zero:∀{us:List Value},Vals [] us->us=[]
 |_,.nil=>rfl
theorem Vals.dropLast{xs:List V}{us:List Value}(h:Vals xs us):Vals xs.dropLast us.dropLast:=by
 induction h with
 |nil=>exact .nil
 |cons r t ih=>
  cases t with
  |nil=>exact .nil
  |cons q t'=>exact .cons r ih
theorem Vals.eraseIdx:∀{xs:List V}{us:List Value}(i:Nat),Vals xs us->Vals (xs.eraseIdx i) (us.eraseIdx i)
 |_,_,_,.nil=>.nil
 |_,_,0,.cons _ t=>t
 |_,_,i+1,.cons r t=>.cons r (Vals.eraseIdx i t)
theorem Vals.rep{xs:List V}{us:List Value}(h:Vals xs us):∀k:Nat,Vals (List.replicate k xs).flatten (List.replicate k us).flatten
 |0=>.nil
 |k+1=>by
  rw[cb,cb,eM,eM];exact Vals.append h (Vals.rep h k)
theorem Yx{α:Type}(l:List α):l.eraseIdx (l.length - 1)=l.dropLast:=by
 induction l with
 |nil=>rfl
 |cons a r ih=>
  cases r with
  |nil=>rfl
  |cons b r=>
   have e:(a::b::r).length - 1=((b::r).length - 1)+1:=by have h1:(a::b::r).length=r.length+2:=rfl;have h2:(b::r).length=r.length+1:=rfl;omega
   rw[e,List.eraseIdx_cons_succ,ih];all_goals rfl
theorem Dj{α:Type}:∀(l:List α)(i:Nat),(l.eraseIdx i).length<=l.length
 |[],_=>ax _
 |_::_,0=>fN _
 |_::r,i+1=>Nat.succ_le_succ (Dj r i)
theorem foldl_rep(its:List Value):∀(k:Nat)(acc:List Value),
  List.foldl (λx1 x2=>x1++x2) acc.toArray (List.replicate k its.toArray)=(acc++(List.replicate k its).flatten).toArray
 |0,acc=>by simp
 |k+1,acc=>by
  have e:acc.toArray++its.toArray=(acc++its).toArray:=by simp
  have e2:(acc++its)++(List.replicate k its).flatten=acc++(List.replicate (k+1) its).flatten:=by rw[cb,eM,List.append_assoc]
  rw[<-e2,<-foldl_rep its k (acc++its),<-e,cb,List.foldl_cons]
section
variable {X:Cx} {pins:List (Addr×Obj)} {σ:St} {H:Hp} {s:Shared} {l b:Addr} {xs ys zs:List V}
theorem Inv.lset{its its':List Value}{n:Nat}{f:Array Value->Array Value}{t':Nat}(I:Inv X pins σ H s)(hH:H l=some (.lst xs))
  (e:s.heap.get? l=some { cls:=.type "list",data:=.seq its.toArray n }) (hf:f its.toArray=its'.toArray) (hv:Vals ys its') (hz:ys.length<=sizeLine):
  Inv X pins σ (upd H l (.lst ys)) { s with heap:=s.heap.update l (Obj.mapSeq f),toks:=t' }:=by
 have q:=PySem.IsL.update e f;rw[hf]at q;refine I.write (x:=l) (e:=l) (by rw[hH];exact trivial) (.inl rfl) (λb' u hb hu=>(Heap.get?_update_other s.heap (Obj.mapSeq f) (Ne.symm hb)).trans hu) ⟨_,q⟩ ?_;exact ⟨hz,its',_,hv,q⟩
theorem Inv.lnew{its:List Value}{t':Nat}(I:Inv X pins σ H s)(hv:Vals ys its)(hz:ys.length<=sizeLine):
  Inv X pins σ (upd H s.heap.objs.size (.lst ys)) { s with heap:=s.heap.push { cls:=.type "list",data:=.seq its.toArray },toks:=t' }:=
 I.laid (λ_ _ q=>al _ q) (ax _) ⟨hz,its,0,hv,bb _ rfl⟩
theorem Inv.fresh(I:Inv X pins σ H s):H s.heap.objs.size=none:=I.hok.fresh (ax _)
theorem Inv.lstM (I:Inv X pins σ H s) (hH:H l=some (.lst xs)):xs.length<=sizeLine/\∃(its:List Value) (n:Nat),Vals xs its/\xs.length=its.length/\s.heap.get? l=some { cls:=.type "list",data:=.seq its.toArray n }:=by obtain ⟨z,its,n,r,e⟩:=I.hok l _ hH;exact ⟨z,its,n,r,r.length,e⟩
theorem Dk{n:Nat}(h:n<=sizeLine):Builtin.List.listTooLong n=false:=by unfold Builtin.List.listTooLong;exact cq (by omega)
end
section
variable {X:Cx}
noncomputable def Yy:V->List V->Hp->VK->Prop:=λx vs H Q=>∃l xs y,x=.ref l/\vs=[y]/\H l=some (.lst xs)/\xs.length < sizeLine/\Q .non (upd H l (.lst (xs++[y])))
theorem Yz:MtM X "list.append" Yy:=by intro pins s σ H x vs v us Q I rx rv h;obtain ⟨l,xs,y,rfl,rfl,hH,hz,q⟩:=h;cases rx;obtain ⟨u,rfl,ru⟩:=rv.one;obtain ⟨z,its,n,r,hl,e⟩:=I.lstM hH;refine fo F.slot_list_append ⟨_,e,rfl⟩ F.entry_list_append (F.args_list_append_2 _ _) (PySem.list_append l its.toArray n u (by rw[am];omega)) ⟨e,?_⟩;refine ⟨.non,_,I.lset (its':=its++[u]) hH e (by simp) (r.append (.cons ru .nil)) ?_,rfl,q⟩;rw[av,b6];omega
noncomputable def YB:V->List V->Hp->VK->Prop:=λx vs H Q=>∃l b xs zs,x=.ref l/\vs=[.ref b]/\H l=some (.lst xs)/\H b=some (.lst zs)/\xs.length+zs.length<=sizeLine/\Q .non (upd H l (.lst (xs++zs)))
theorem YC:MtM X "list.extend" YB:=by
 intro pins s σ H x vs v us Q I rx rv h;obtain ⟨l,b,xs,zs,rfl,rfl,hH,hB,hz,q⟩:=h;cases rx;obtain ⟨u,rfl,ru⟩:=rv.one;cases ru;obtain ⟨z,its,n,r,hl,e⟩:=I.lstM hH;obtain ⟨z2,its2,n2,r2,hl2,e2⟩:=I.lstM hB;have hsz:its.toArray.size+its2.toArray.size<=sizeLine:=by rw[am,am];omega
 have hlong:¬(!its.toArray.isEmpty&&Builtin.List.listTooLong (its.toArray.size+its2.toArray.size))=true:=by rw[Dk hsz,Bool.and_false];exact bo
 refine fo F.slot_list_extend ⟨_,e,rfl⟩ F.entry_list_extend (F.args_list_extend_2 _ _)
  (AutoSeq1.list_extend_list_list_0 l its.toArray n b its2.toArray n2 hlong (by rw[am];omega) (by omega)) ⟨e,e2,?_⟩
 refine ⟨.non,_,I.lset (its':=its++its2) hH e (by simp) (r.append r2) ?_,rfl,q⟩;rw[av];omega
noncomputable def YD:V->List V->Hp->VK->Prop:=λx vs H Q=>∃l xs y,x=.ref l/\vs=[]/\H l=some (.lst xs)/\xs[xs.length - 1]?=some y/\Q y (upd H l (.lst xs.dropLast))
theorem YF:MtM X "list.pop" YD:=by
 intro pins s σ H x vs v us Q I rx rv h;obtain ⟨l,xs,y,rfl,rfl,hH,hy,q⟩:=h;cases rx;have hus:=rv.zero;subst hus;obtain ⟨z,its,n,r,hl,e⟩:=I.lstM hH;obtain ⟨u,hu,ru⟩:=r.get hy;have hy':its.toArray[its.toArray.size - 1]?=some u:=by show its.toArray[its.length - 1]?=some u;rw[<-fi,<-hl];exact hu
 refine fo F.slot_list_pop ⟨_,e,rfl⟩ F.entry_list_pop (F.args_list_pop_1 _) (MeetsSeq.list_pop_last l its.toArray n u hy' (by rw[am];omega)) ⟨e,?_⟩;refine ⟨y,_,I.lset (its':=its.dropLast) hH e ?_ r.dropLast ?_,ru,q⟩
 ·show its.toArray.eraseIdxIfInBounds (its.toArray.size - 1)=its.dropLast.toArray;rw[am,List.eraseIdxIfInBounds_toArray,Yx]
 ·rw[List.length_dropLast];omega
noncomputable def YG:V->List V->Hp->VK->Prop:=λx vs H Q=>∃l xs i k y,x=.ref l/\vs=[.int i]/\H l=some (.lst xs)/\-(2 ^ 63)<=i/\i < 2 ^ 63/\seqIndex? i xs.length=some k/\xs[k]?=some y/\Q y (upd H l (.lst (xs.eraseIdx k)))
theorem YH:MtM X "list.pop" YG:=by
 intro pins s σ H x vs v us Q I rx rv h;obtain ⟨l,xs,i,k,y,rfl,rfl,hH,h1,h2,hk,hy,q⟩:=h;cases rx;obtain ⟨u,rfl,ru⟩:=rv.one;obtain ⟨t,rfl⟩:=ru;obtain ⟨z,its,n,r,hl,e⟩:=I.lstM hH;obtain ⟨w,hw,rw'⟩:=r.get hy;refine fo F.slot_list_pop ⟨_,e,rfl⟩ F.entry_list_pop (F.args_list_pop_2 _ _)
  (MeetsSeq.list_pop_at l its.toArray n i t k w (fitsIndex_both h1 h2) (by rw[am,<-hl];exact hk) (by rw[<-fi];exact hw) (by rw[am];omega)) ⟨e,?_⟩
 refine ⟨y,_,I.lset (its':=its.eraseIdx k) hH e ?_ (r.eraseIdx k) ?_,rw',q⟩
 ·show its.toArray.eraseIdxIfInBounds k=(its.eraseIdx k).toArray;rw[List.eraseIdxIfInBounds_toArray]
 ·have:=Dj xs k;omega
theorem len_rep{α:Type}(xs:List α)(k:Nat):(List.replicate k xs).flatten.length=k * xs.length:=by
 induction k with
 |zero=>simp
 |succ k ih=>rw[cb,eM,av,ih,Nat.succ_mul,Nat.add_comm]
end
end L2
namespace Att
open PySem PySem.W PySem.Calls PyProof.Rows
theorem YJ{P:Params}{h:Heap}:∀(ns:List Int)(vs:List Value),WellAll P h vs (ns.map WData.int)->IntsAre vs ns:=by
 intro ns;induction ns with
 |nil=>
  intro vs w;rw[List.map_nil]at w;cases w;exact .nil
 |cons n ns ih=>
  intro vs w;rw[List.map_cons]at w;cases w with
  |cons a b=>
   cases a;exact .cons _ _ (ih _ b)
theorem YK{l:OpenLaw}{n:Nat}(hn:l.most=some n){P:Params}{h:Heap}{args:List WData}{vals:List Value}
  (hpre:l.row.toRowW.claim.pre args=true) (hwl:WellAll P h vals args):
  ∃a vs ns,vals=[Value.ref a]/\args=[WData.list (ns.map WData.int)]/\h.get? a=some { cls:=.type "list",data:=.seq vs.toArray }/\IntsAre vs ns/\ns.length<=n:=by
 have hsh:WShape.hasAll [] args [.list .int]=true:=(pre_splitW hpre).1;have hc:l.pre.holds [] { args:=args }=true:=(pre_splitW hpre).2;obtain ⟨d,r,rfl,h1,h2⟩:=hasAllW_cons hsh;obtain rfl:=hasAllW_nil h2;obtain ⟨xs,rfl,h3⟩:=hasW_list h1;obtain ⟨ns,rfl⟩:=items_int h3;have hlen:ns.length<=n:=by
  unfold OpenLaw.pre at hc;have h4:(WTm.not (.lt (.lit (.int (n:Int))) (.len (.arg 0)))).holds [] { args:=[.list (ns.map .int)] }=true:=by have h4:=(holds_andW hc).1;rw[hn]at h4;exact h4
  have h5:=condW_of h4 (w_not (w_lt w_lit (w_len_list (w_arg rfl))));rw[List.length_map]at h5;refine Nat.le_of_not_lt λq=>?_;have q':(n:Int) < ((ns.length:Nat):Int):=by omega
  first
   | (rw[decide_eq_true q']at h5;exact absurd h5 (by decide))
   | (simp at h5;omega)
 cases hwl with
 |cons w1 w2=>
  cases w2;cases w1 with
  |list ho hall=>exact ⟨_,_,ns,rfl,rfl,ho,YJ ns _ hall,hlen⟩
theorem YL(l:OpenLaw)(args:List WData):l.row.toRowW.claim.post args (.bool true) args=true:=
 postW_of (r:=l.row.toRowW) (X:=(true==true))
  (show WShape.has [] (.bool true) .bool=true by first |rfl |decide |simp[WShape.has,WShape.arms,WShape.armsAll])
  (show (WTm.eq .res (.lit (.bool true))).value [] { args:=args,res:=some (.bool true),after:=args }=some (.bool (true==true)) from w_eq_bool (w_res rfl) w_lit) rfl
theorem attach_call{l:OpenLaw}{n:Nat}{q:Program}{loose:List Str}{XP:(Str->Option Value)->Heap->Prop}{YP:World->Heap->Prop}{d:DefRec}
  (hn:l.most=some n) (hdf:d.params.defaults=[])
  (call:∀(w:World)(s₀ s₁:Shared)(mg mb:Str->Option Value)(fa:Addr)(o:Obj)(pm cd doc:Value)(a:Addr)(vs:List Value)(ns:List Int),
   Ground q loose [] XP w s₀ mg mb s₁.heap->YP w s₁.heap->
   s₁.heap.get? fa=some o->o.data=.func (docDef d.name d.params d.body d.scope pm cd doc)->s₁.heap.CodeRec cd d.name->mg d.name=some (.ref fa)->
   s₁.heap.get? a=some { cls:=.type "list",data:=.seq vs.toArray }->IntsAre vs ns->ns.length<=n->s₁.gens=#[]->
   codeAny (model l.prog w) callerA (.call (.ref fa) ⟨[.ref a],[]⟩) (λr s'=>r=.ok (.ret (.bool true))/\OldK s₁.heap s'.heap/\s'.os=s₁.os/\AllBare s'.gens) s₁):
  WalkO q loose XP YP l.row.toRowW d [] (λf vs=>PySem.call f vs):=by
 intro w s₀ s₁ mg mb G Y fa o pm cd doc dV kV ho hd hcd hD hmg hg args vals as hpre hlay hrd hwl hlo;obtain rfl:dV=.none:=Dflts.none hD hdf;obtain rfl:kV=.none:=Dflts.noKw hD;obtain ⟨a,vs,ns,rfl,rfl,hobj,hints,hlen⟩:=YK hn hpre hwl;refine enter_call (codeAny_mono (call w s₀ s₁ mg mb fa o pm cd doc a vs ns G Y ho (fd_plain hd) hcd hmg hobj hints hlen hg) λr s' hq=>?_);obtain ⟨rfl,h2,h3,h4⟩:=hq;exact ⟨.inl ⟨.bool true,.bool true,[],rfl,λ_=>rfl,.bool true,YL l _,λ_=>⟨List.Pairwise.nil,λ_ hm=>(nomatch hm)⟩⟩,h2,h3,h4⟩
end Att
namespace L2
open PySem PySem.Spec PyProof.Rows
theorem wy:∀{vs:List Value}{ns:List Int},IntsAre vs ns->Vals (ns.map V.int) vs
 |_,_,.nil=>.nil
 |_,_,.cons n t h=>.cons ⟨t,rfl⟩ (wy h)
def Only(H:Hp):Prop:=∀b,H b=none\/∃o xs,H b=some (.frz o (.lst xs))
theorem YM{P:Program}{w:World}{K:PF}{mg mb:Str->Option Value}{CX:CXT}{k:Nat}{fa a:Addr}{fd:FuncData}{x:Str}{sp:Sp}{s₁:Shared}{vs:List Value}{ns:List Int}
  (KX:K.In s₁.heap) (hns:s₁.heap.Ns mainGlobals mg) (hb:s₁.heap.Ns builtinsNs mb) (hbb:∀x:Str,x≠"__name__"->mb x=bootBuiltins x) (hlim:s₁.heap.NoLimit) (hg:s₁.gens=#[])
  (ha:s₁.heap.get? a=some { cls:=.type "list",data:=.seq vs.toArray }) (hi:IntsAre vs ns) (hl:ns.length<=sizeLine) (hr:Room k callerA)
  (F:∀base:Heap,K.In base->base.Ns mainGlobals mg->FnOk P w K mg base CX k fa fd [x] sp) (hbind:∀(s:Shared)(u:Value),BindsTo s fd ⟨[u],[]⟩ [(x,u)])
  (hsp:∀H:Hp,Only H->SqL K H a (ns.map V.int)->sp [.ref a] H (λv _=>v=.bl true) λ_ _ _=>False)
  (hCX:∀H e s',CX [] H s₁ (λ_ _ _=>False) e s'->False):
  codeAny (model P w) callerA (.call (.ref fa) ⟨[.ref a],[]⟩) (λr s'=>r=.ok (.ret (.bool true))/\OldK s₁.heap s'.heap/\s'.os=s₁.os/\AllBare s'.gens) s₁:=by
 have rv:=wy hi;have lenV:=hi.length
 -- from an abstract heap in which nothing but the script may be tracked
 have core:∀H:Hp,Only H->SqL K H a (ns.map V.int)->HOk P w H s₁.heap->(∀b,H b≠none->b=a)->(H a≠none->K.lookup a=none)->
   codeAny (model P w) callerA (.call (.ref fa) ⟨[.ref a],[]⟩) (λr s'=>r=.ok (.ret (.bool true))/\OldK s₁.heap s'.heap/\s'.os=s₁.os/\AllBare s'.gens) s₁:=by
  intro H hO hS hok hA hK;have base_of:∀{b:Addr}{o:Obj},s₁.heap.get? b=some o->H b=none->(dF s₁.heap H).get? b=some o:=λe n=>Vt e n;have noA:∀{b:Addr}{o:Obj}{es:Array DictEntry}{ep:Nat},s₁.heap.get? b=some o->o.data=.dict es ep->H b=none:=λ{b o es ep} e d=>by
   cases q:H b with
   |none=>rfl
   |some u=>
    have e':b=a:=hA b (by rw[q];simp);subst e';rw[ha]at e;cases e;have d':Data.seq vs.toArray _=Data.dict es ep:=d;cases d'
  have nsK:∀{b:Addr}{m:Str->Option Value},s₁.heap.Ns b m->(dF s₁.heap H).Ns b m:=λ{b m} ⟨o,es,ep,e,d,r⟩=>⟨o,es,ep,base_of e (noA e d),d,r⟩;have hKb:K.In (dF s₁.heap H):=λb o e=>base_of (KX b o e) (by
   cases q:H b with
   |none=>rfl
   |some u=>
    have e':b=a:=hA b (by rw[q];simp);subst e';rw[hK (by rw[q];simp)]at e;cases e)
  have hM:Mod K mg (dF s₁.heap H):=⟨hKb,nsK hns,⟨mb,nsK hb,hbb⟩,let ⟨mc,h1,h2⟩:=hlim;⟨mc,nsK h1,h2⟩⟩;have e0:Env0 P w K mg (dF s₁.heap H) callerA [] s₁ H:=⟨rfl,hM,λb o e=>Vu e,Nat.le_of_eq (Vs _ _),trivial,λb hb=>absurd (show b∈([]:List Addr) from hb) (by simp),hok,.of_eq hg⟩;refine codeAny_mono ((F _ hKb (nsK hns)).run callerA [] s₁ H ⟨[.ref a],[]⟩ [.ref a] [.ref a] _ _ hr e0 (hbind s₁ (.ref a)) (.cons rfl .nil) (hsp H hO hS)) λr s' h=>?_;cases r with
  |error e=>exact (hCX H e s' h).elim
  |ok fl=>
   cases fl with
   |next=>exact False.elim h
   |brk=>exact False.elim h
   |cont=>exact False.elim h
   |ret u=>
    obtain ⟨v,H',os,bare,un,hok',r',q⟩:=h;have q':v=.bl true:=q;subst q';obtain rfl:u=Value.bool true:=r';refine ⟨rfl,OldK.of_keep λb o e=>?_,os,bare⟩;cases q:H b with
    |none=>exact un.keep b o e q (by intro z;exact absurd (show b∈([]:List Addr) from z) (by simp)) (by simp)
    |some u=>
     rcases hO b with z |⟨ob,xs,z⟩
     ·rw[q]at z;cases z
     ·have z2:=un.frzs b ob _ z;obtain ⟨e1,_⟩:=hok b _ z;obtain ⟨e2,_⟩:=hok' b _ z2;rw[e]at e1;cases e1;exact e2
 cases hk:K.lookup a with
 |some o=>
  -- the script is one of the module's own objects
  have e:=KX a o hk;rw[ha]at e;cases e;refine core (λ_=>none) (λ_=>.inl rfl) (.inr ⟨_,vs.toArray,_,hk,rfl,rfl,rfl,by rw[am,lenV];exact hl,by simpa using rv⟩) (λb u z=>by have z':(none:Option HO)=some u:=z;cases z') (λb z=>absurd rfl z) λz=>absurd rfl z
 |none=>
  refine core (λb=>if b=a then some (.frz { cls:=.type "list",data:=.seq vs.toArray } (.lst (ns.map V.int))) else none) (λb=>?_) (.inl (.inr ⟨{ cls:=.type "list",data:=.seq vs.toArray },if_pos rfl⟩)) (λb u z=>?_) (λb z=>?_) λ_=>hk
  ·by_cases hb:b=a
   ·exact .inr ⟨_,_,if_pos hb⟩
   ·exact .inl (if_neg hb)
  ·by_cases hb:b=a
   ·have z':=(if_pos hb).symm.trans z;cases z';subst hb;exact ⟨ha,by rw[ag];exact hl,vs,_,rv,ha⟩
   ·have z':=(if_neg hb).symm.trans z;cases z'
  ·by_cases hb:b=a
   ·exact hb
   ·exact absurd (if_neg hb) z
theorem YQ{l:PySem.W.OpenLaw}{n k:Nat}{q:Program}{loose:List Str}{XP:(Str->Option Value)->Heap->Prop}{YP:World->Heap->Prop}{d:DefRec}{K:Params->PF}{CX:World->CXT}{sp:World->Sp}{x:Str}
  (hn:l.most=some n) (hn2:n<=sizeLine) (hdf:d.params.defaults=[]) (hr:Room k callerA)
  (hY:∀(w:World)(h:Heap),YP w h->(K w.params).In h)
  (F:∀(w:World)(mg:Str->Option Value)(fa:Addr)(h:Heap),(K w.params).In h->h.Ns mainGlobals mg->mg d.name=some (.ref fa)->
   ∃fd:FuncData,(∀(s:Shared)(u:Value),BindsTo s fd ⟨[u],[]⟩ [(x,u)])/\
    ∀base:Heap,(K w.params).In base->base.Ns mainGlobals mg->FnOk l.prog w (K w.params) mg base (CX w) k fa fd [x] (sp w))
  (hsp:∀(w:World)(H:Hp)(a:Addr)(ns:List Int),ns.length<=n->Only H->SqL (K w.params) H a (ns.map V.int)->sp w [.ref a] H (λv _=>v=.bl true) λ_ _ _=>False)
  (hCX:∀(w:World)(H:Hp)(s:Shared)(e:Value)(s':Shared),CX w [] H s (λ_ _ _=>False) e s'->False):
  PySem.W.WalkO q loose XP YP l.row.toRowW d [] (λf vs=>PySem.call f vs):=by
 refine Att.attach_call hn hdf λw s₀ s₁ mg mb fa o pm cd doc a vs ns G Y ho hd hcd hmg hobj hints hlen hg=>?_;have KX:=hY w _ Y;obtain ⟨fd,hb,hF⟩:=F w mg fa _ KX G.T.g hmg;exact YM KX G.T.g G.T.b G.T.builtins G.T.nolimit hg hobj hints (br hlen hn2) hr hF hb (λH hO hS=>hsp w H a ns hlen hO hS) λH e s'=>hCX w H s₁ e s'
def jl(s:Stmt):Arguments:=match s with
 |.FunctionDef _ a _ _ _ _ _ _ _ _=>a
 |_=>{ posonlyargs:=[],args:=[],vararg:=none,kwonlyargs:=[],kw_defaults:=[],kwarg:=none,defaults:=[] }
def aF(s:Stmt):List Stmt:=match s with
 |.FunctionDef _ _ b _ _ _ _ _ _ _=>b
 |_=>[]
def ao(s:Stmt):Scope:=match s with
 |.FunctionDef _ _ _ _ _ _ sc _ _ _=>sc
 |_=>{ kind:=.function,names:=[],isGenerator:=false,isCoroutine:=false }
abbrev CX0:CXT:=λ_ _ _ _ _ _=>False
structure Fun(K:PF)(x qual:Str)(st:Stmt)(f:Addr)(fd:FuncData):Prop where
 ex:∃(oc:Value)(od:Option Addr)(kV doc pm:Value)(an:Option Addr)(cdv ct:Value)(osl:Array (Option Value)),
  fd=PySem.W.fnOf x qual (jl st) (aF st) (ao st) .none kV doc pm an cdv ct/\K.lookup f=some ⟨oc,od,.func fd,osl⟩/\PySem.W.codeIn K cdv qual=true
 kp:PySem.W.keepIn K (.ref f)=true
section
variable {P:Program} {w:World} {K:PF} {mg:Str->Option Value} {base:Heap}
theorem Fun.binds{x qual:Str}{st:Stmt}{f:Addr}{fd:FuncData}{ps:List Str}(F:Fun K x qual st f fd)
  (h:∀(kV doc pm:Value)(an:Option Addr)(cdv ct:Value)(us:List Value),us.length=ps.length->bindArgs (PySem.W.fnOf x qual (jl st) (aF st) (ao st) .none kV doc pm an cdv ct) ⟨us,[]⟩=pure (ps.zip us)):Binds K fd ps []:=by
 obtain ⟨oc,od,kV,doc,pm,an,cdv,ct,osl,rfl,lk,hcd⟩:=F.ex;exact .all (h kV doc pm an cdv ct)
theorem Dl{x qual:Str}{st:Stmt}{f:Addr}{oc:Value}{od an:Option Addr}{osl:Array (Option Value)}{kV doc pm cdv ct:Value}(l:K.lookup f=some ⟨oc,od,.func (PySem.W.fnOf x qual (jl st) (aF st) (ao st) .none kV doc pm an cdv ct),osl⟩)
  (c:PySem.W.codeIn K cdv qual=true) (k:PySem.W.keepIn K (.ref f)=true):Fun K x qual st f (PySem.W.fnOf x qual (jl st) (aF st) (ao st) .none kV doc pm an cdv ct):=⟨⟨oc,od,kV,doc,pm,an,cdv,ct,osl,rfl,l,c⟩,k⟩
end
section
variable {X:Cx}
theorem pv (i:Nat) {x:Str} {pos:Pos} (hN:X.N[i]?=some x:=by rfl) (hv:Vis X.env.scope x:=by first |exact Or.inl rfl |exact Or.inr (Or.inl rfl) |exact Or.inr (Or.inr rfl)) (hd:(x==("__debug__":Str))=false:=by decide)
  (hcd:(x==("__classdict__":Str))=false:=by decide):PE X (.Name x pos) (BK i):=BL hN hv hd hcd
end
end L2
set_option maxHeartbeats 4000000
set_option bootstrap.genMatcherCode false
set_option genSizeOf false
set_option genSizeOfSpec false
namespace L2
open PySem PySem.Spec PyProof.Rows
section
variable {X:Cx} {pins:List (Addr×Obj)} {σ:St} {H:Hp} {s:Shared} {h':Heap}
theorem Inv.turnedL{t':Nat}{ch:List Addr}(I:Inv X pins σ H s)(hf:∀b∈ch,eY X pins H b)(k:∀b o,b∉ch->s.heap.get? b=some o->h'.get? b=some o):
  Inv X pins σ H { s with heap:=h',toks:=t' }:=by
 have nit:∀b u,H b=some u->b∉ch:=λb u e z=>by
  have q:=(hf b z).1;rw[q]at e;cases e
 refine I.step (g':=s.gens) (d':=s.drawn) (ch:=ch) (λb hb=>?_) (λb o _ _ hc e _=>k b o hc e) (λb o _ _ hc e _=>⟨o.slots,k b o hc e⟩) (λ_ _ _ _ n=>n)
  (λb o hc e=>⟨o,k b o hc e⟩) (λ_ _ e=>e) (λ_ _ _ e=>e) (λb ps e=>⟨#[],by rw[e];simp⟩) (λm hm=>?_) (λb u e=>?_) I.bare
 ·obtain ⟨_,f1,_,f3,f4,f5⟩:=hf b hb;exact ⟨f3,f1,f4,f5⟩
 ·obtain ⟨o,es,ep,ho,r⟩:=hm;exact ⟨o,es,ep,k _ o (λz=>(hf _ z).2.1 rfl) ho,r⟩
 ·refine (I.hok b u e).stay (λc v hc q=>k c v ?_ q) (λ_ q=>q) λ_ _ q=>q;rcases hc with z |z
  ·rw[z];exact nit b u e
  ·exact nit c _ z
theorem Inv.track{T:Addr}{o:HO}(I:Inv X pins σ H s)(hT:eY X pins H T)(new:ObjOk X.prog X.w (upd H T o) s.heap T o):Inv X pins σ (upd H T o) s:=by
 have hn:=hT.1;have hok:HOk X.prog X.w (upd H T o) s.heap:=λb u e=>by
  by_cases hb:b=T
  ·subst hb;rw[cP]at e;cases e;exact new
  ·rw[aK hb]at e;exact (I.hok b u e).stay (λc v _ q=>q) (λc q=>by rw[aK (bu q hn)];exact q) λc xs q=>by rw[aK (bu q hn)];exact q
 obtain ⟨hp,g,d,tk,os⟩:=s;refine I.step (h':=hp) (g':=g) (d':=d) (t':=tk) (ch:=[T]) (λb hb=>?_) (λb o _ _ _ e _=>e) (λb o _ _ _ e _=>⟨o.slots,e⟩) (λb u hc _ n=>?_)
  (λb o _ e=>⟨o,e⟩) (λb xs e=>by rw[aK (bu e hn)];exact e) (λb u v e=>by rw[aK (bu e hn)];exact e) (λb ps e=>⟨#[],by rw[aK (bu e hn),e];simp⟩) (λm hm=>hm) hok I.bare
 ·have e:b=T:=by simpa using hb
  subst e;obtain ⟨_,f1,_,f3,f4,f5⟩:=hT;exact ⟨f3,f1,f4,f5⟩
 ·rw[aK (by simpa using hc)];exact n
end
def Its(x:Str):It:=⟨λi _=>i < x.cps.size,λi H v H'=>H'=H/\∃c,x.cps[i]?=some c/\v=.str ⟨#[c]⟩,λi _=>i=x.cps.size⟩
theorem Dm{prog:Program}{w:World}{A:Around}(hh:A.handled=none)(I:Addr)(x:Str)(t:Tok):
  Walks prog w A I [I] [I] x.cps.size (SignAt x) (λi h=>h.IsStrIter I (strIterType x) x t i):=by
 unfold strIterType;split
 ·exact Walks.strAscii hh I x t
 ·exact Walks.strWide hh I x t
theorem wz{P:Program}{w:World}{K:PF}{tg:Expr}(it:Addr)(x:Str)(t:Tok):Turn P w K tg (Its x) [it] it (λi h=>h.IsStrIter it (strIterType x) x t i) where
 mem:=by simp
 obj:=λi h st b hb=>by
  have e:b=it:=by simpa using hb
  subst e;obtain ⟨o,e,c,d⟩:=st;exact ⟨o,e,λv z=>by rw[d]at z;cases z⟩
 keep:=λi h h' st k=>let ⟨o,ho,r⟩:=st;⟨o,k it (by simp) o ho,r⟩
 item:=by intro X hP hw hK hc i pins s σ H E I hf st hg;subst hP hw hK;obtain ⟨f0,f1,f2,f3,f4,f5⟩:=hf it (by simp);have W:=Dm (prog:=X.prog) (w:=X.w) (I.ok.hd hc) it x t;refine W.item i s _ _ hg st λv h' tk hv st' kk=>?_;obtain ⟨c,u,e,rfl⟩:=hv;have I1:Inv X pins σ H { s with heap:=h',toks:=tk }:=I.turned (λb o hb e=>kk b o (by simpa using hb) e) f0 f1 f3 f4 f5;obtain ⟨o,eo,cc,d⟩:=id st';exact ⟨_,rfl,qG (s:={ s with heap:=h',toks:=tk }) (n:=strIterType x) eo cc d (by unfold strIterType;split <;> decide) ⟨.str ⟨#[c]⟩,H,I1,⟨u,rfl⟩,⟨rfl,c,e,rfl⟩,st',λb hb=>(hf b hb).1⟩⟩
 done:=by intro X hP hw hK hc i pins s σ H E I hf st hg;subst hP hw hK;obtain ⟨f0,f1,f2,f3,f4,f5⟩:=hf it (by simp);have W:=Dm (prog:=X.prog) (w:=X.w) (I.ok.hd hc) it x t;have hg':i=x.cps.size:=hg;subst hg';exact W.done s _ _ st λh' tk kk=>⟨rfl,I.turned (λb o hb e=>kk b o (by simpa using hb) e) f0 f1 f3 f4 f5⟩
 self:=λA i s Q E st h=>by
  unfold strIterType at st;split at st
  ·exact wpAny_pyIter_striter_ascii st h
  ·exact wpAny_pyIter_striter_wide st h
noncomputable def cJ(env:Env):List (Str×NameKind)->List (Str×Addr)->List (Str×Addr)
 |[],cs=>cs
 | (n,k)::r,cs=>cJ env r (if (k==.free)=true then (match env.cells.lookup n with |some c=>(n,c)::cs |none=>cs) else cs)
theorem Dn{env:Env}:∀{l:List (Str×NameKind)}{cs:List (Str×Addr)},(∀x c,cs.lookup x=some c->env.cells.lookup x=some c)->∀x c,(cJ env l cs).lookup x=some c->env.cells.lookup x=some c
 |[],_,h,x,c,e=>h x c e
 | (n,k)::r,cs,h,x,c,e=>by
  refine Dn (l:=r) (cs:=_) ?_ x c e;intro y d q;by_cases hk:(k==NameKind.free)=true
  ·rw[if_pos hk]at q;cases hn:env.cells.lookup n with
   |none=>rw[hn]at q;exact h y d q
   |some c'=>
    rw[hn]at q;simp only[List.lookup_cons]at q;cases hy:y==n with
    |true=>
     rw[hy]at q;have e1:y=n:=eq_of_beq hy;rw[e1,hn];exact q
    |false=>rw[hy]at q;exact h y d q
  ·rw[if_neg hk]at q;exact h y d q
theorem Do{env:Env}{x:Str}:∀{l:List (Str×NameKind)}{cs:List (Str×Addr)},(cs.lookup x).isSome=true->((cJ env l cs).lookup x).isSome=true
 |[],_,h=>h
 | (n,k)::r,cs,h=>by
  refine Do (l:=r) (cs:=_) ?_;by_cases hk:(k==NameKind.free)=true
  ·rw[if_pos hk];cases hn:env.cells.lookup n with
   |none=>exact h
   |some c'=>
    simp only[List.lookup_cons];cases hy:x==n with
    |true=>rfl
    |false=>exact h
  ·rw[if_neg hk];exact h
theorem Dp{env:Env}{x:Str}(hx:(env.cells.lookup x).isSome=true):∀{l:List (Str×NameKind)}{cs:List (Str×Addr)},(x,NameKind.free)∈l->((cJ env l cs).lookup x).isSome=true
 | (n,k)::r,cs,h=>by
  rcases a9.mp h with e |h
  ·cases e;refine Do (l:=r) (cs:=_) ?_;rw[if_pos (show (NameKind.free==NameKind.free)=true by decide)];obtain ⟨c,hc⟩:=cS.mp hx;rw[hc];simp
  ·exact Dp hx (l:=r) h
theorem Dq{scope:Scope}{env:Env}(h:∀y∈scope.names,y.2=NameKind.free->(env.cells.lookup y.1).isSome=true):closureFor scope env=pure (cJ env scope.names []):=by
 simp only[closureFor];generalize ([]:List (Str×Addr))=cs;generalize scope.names=l at h;induction l generalizing cs with
 |nil=>rfl
 |cons y r ih=>
  obtain ⟨n,k⟩:=y;have ih':=λcs=>ih cs λy hy=>h y (bi _ hy);rw[List.forIn_cons];by_cases hk:(k==NameKind.free)=true
  ·have hk':k=NameKind.free:=eq_of_beq hk;obtain ⟨c,hc⟩:=cS.mp (h (n,k) bS hk');have e1:cJ env ((n,k)::r) cs=cJ env r ((n,c)::cs):=by
    rw[cJ,if_pos hk];show cJ env r (match env.cells.lookup n with |some c=>(n,c)::cs |none=>cs)=_;have hc':env.cells.lookup n=some c:=hc;rw[hc']
   have e2:cellOf env n=pure c:=by unfold cellOf;have hc':env.cells.lookup n=some c:=hc;rw[hc']
   rw[e1,<-ih' ((n,c)::cs)];simp only[hk,if_true,e2];rfl
  ·have e1:cJ env ((n,k)::r) cs=cJ env r cs:=by rw[cJ,if_neg hk]
   rw[e1,<-ih' cs];simp only[hk,if_false];rfl
theorem wA{env:Env}{x:Str}:∀{names:List (Str×NameKind)},
  (names.map λ(n,k)=>if (k==NameKind.free&&env.scope.kind==.function&&env.kindOf n==some .cell) then (n,NameKind.cell) else (n,k)).lookup x=
   (names.lookup x).map λk=>if (k==NameKind.free&&env.scope.kind==.function&&env.kindOf x==some .cell)=true then NameKind.cell else k
 |[]=>rfl
 | (n,k)::r=>by
  have ih:=@wA env x r;rw[bq];have hh:∀(c:Prop)[Decidable c],(if c then (n,NameKind.cell) else (n,k))=(n,if c then NameKind.cell else k):=λc _=>by split <;> rfl
  show List.lookup x ((if (k==NameKind.free&&env.scope.kind==.function&&env.kindOf n==some .cell)=true then (n,NameKind.cell) else (n,k))::_)=_;rw[hh];simp only[List.lookup_cons];cases hx:x==n with
  |true=>
   have e1:x=n:=eq_of_beq hx;subst e1;rfl
  |false=>exact ih
abbrev Cx.comp(X:Cx)(N':List Str)(scope:Scope)(cl:List (Str×Addr))(C:Addr)(s₁:Shared)(H₁:Hp)(fp:List Addr)(pn:List (Addr×Obj)):Cx where
 prog:=X.prog
 w:=X.w
 K:=X.K
 mg:=X.mg
 base:=X.base
 A:=X.A
 N:=N'
 s₀:=s₁
 H₀:=H₁
 env:=compEnvC scope cl C X.env
 outer:=X.stack
 stack:=X.stack
 ex:=fp
 fn:=λ_=>false
 calm:=X.calm
 pn:=pn
 xe:=λ_ _=>False
def PIf(X:Cx)(ifs:List Expr)(t:TT):Prop:=
 ∀(pins:List (Addr×Obj))(s:Shared)(σ:St)(H:Hp)(Q:Bool->Hp->Prop),Inv X pins σ H s->t σ H Q->
  wpAny (model X.prog X.w) X.A (forIn ifs true λc r=>if r=true then do let ok <-isTrue c X.env (eval c X.env);pure (ForInStep.yield ok) else pure (ForInStep.yield r)) (TP X pins σ Q) X.xe s
def YS:TT:=λ_ H Q=>Q true H
theorem YT{X:Cx}:PIf X [] YS:=λ_ _ _ H _ I h=>wpAny_tests_nil ⟨H,I,h⟩
theorem YW{X:Cx}{c:Expr}{t:TT}(h:PT X c t):PIf X [c] t:=λpins s σ H Q I q=>wpAny_tests_one (h pins s σ H Q I q)
def d9(cap:List (Option Nat))(σ:St):St:=cap.map λo=>match o with |none=>none |some j=>(σ[j]?).join
noncomputable def Caps(X:Cx)(scope:Scope):List Str->List (Option Nat)->Prop
 |[],[]=>True
 |_::N',none::cap=>Caps X scope N' cap
 |x::N',some j::cap=>(X.N[j]?=some x/\scope.names.lookup x=some NameKind.free)/\Caps X scope N' cap
 |_,_=>False
theorem Caps.len{X:Cx}{scope:Scope}:∀{N':List Str}{cap:List (Option Nat)},Caps X scope N' cap->cap.length=N'.length
 |[],[],_=>rfl
 |_::N',none::cap,h=>by
  have:=Caps.len (N':=N') (cap:=cap) h;simp[this]
 |_::N',some _::cap,h=>by
  have:=Caps.len (N':=N') (cap:=cap) h.2;simp[this]
 |[],_::_,h=>False.elim h
 |_::_,[],h=>False.elim h
theorem Caps.at{X:Cx}{scope:Scope}:∀{N':List Str}{cap:List (Option Nat)}{i:Nat}{x:Str}{v:V}{σ:St},Caps X scope N' cap->N'[i]?=some x->(d9 cap σ)[i]?=some (some v)->
  ∃j:Nat,X.N[j]?=some x/\scope.names.lookup x=some NameKind.free/\σ[j]?=some (some v)
 |[],[],i,x,v,σ,_,e,_=>by simp at e
 |y::N',none::cap,0,x,v,σ,h,e,q=>by simp[d9]at q
 |y::N',some j::cap,0,x,v,σ,h,e,q=>by
  have e1:y=x:=by simpa using e
  subst e1;have q1:(σ[j]?).join=some v:=by simpa [d9] using q
  refine ⟨j,h.1.1,h.1.2,?_⟩;cases z:σ[j]? with
  |none=>rw[z]at q1;cases q1
  |some o=>rw[z]at q1;exact fb some q1
 |y::N',none::cap,i+1,x,v,σ,h,e,q=>Caps.at (N':=N') (cap:=cap) (i:=i) h (by simpa using e) (by simpa [d9] using q)
 |y::N',some _::cap,i+1,x,v,σ,h,e,q=>Caps.at (N':=N') (cap:=cap) (i:=i) h.2 (by simpa using e) (by simpa [d9] using q)
 |[],_::_,_,_,_,_,h,_,_=>False.elim h
 |_::_,[],_,_,_,_,h,_,_=>False.elim h
def Ds(X:Cx)(N':List Str)(scope:Scope)(tg:Expr)(ifs:List Expr)(elt:Expr)(J:It)(σ0:St)(H1:Hp)(Q:VK):Prop:=
 ∃W:Nat->Nat->List V->St->Hp->Prop,(∃m,W 0 m [] σ0 H1)/\∀i m ys σ' H',W i m ys σ' H'->
  (J.stop i H'/\ys.length<=sizeLine/\∀D,H' D=none->Q (.ref D) (upd H' D (.lst ys)))\/
  (J.go i H'/\ys.length < sizeLine/\∀cl C s₁ H₁ fp pn,∃g tt te,PG (X.comp N' scope cl C s₁ H₁ fp pn) tg g/\PIf (X.comp N' scope cl C s₁ H₁ fp pn) ifs tt/\PE (X.comp N' scope cl C s₁ H₁ fp pn) elt te/\
   ∀x H2,J.yld i H' x H2->g x σ' H2 λσ3 H3=>tt σ3 H3 λb H4=>if b=true then te σ3 H4 λy H5=>∃m',m' < m/\W (i+1) m' (ys++[y]) σ3 H5 else ∃m',m' < m/\W (i+1) m' ys σ3 H4)
def wB(X:Cx)(N':List Str)(scope:Scope)(tg:Expr)(ifs:List Expr)(elt:Expr)(wi:TI)(cap:List (Option Nat)):TE:=λσ H Q=>wi σ H λJ H1=>Ds X N' scope tg ifs elt J (d9 cap σ) H1 Q
section
variable {prog:Program} {w:World} {A:Around} {R:Result->Shared->Prop} {s:Shared}
theorem YX{elt target iter:Expr}{ifs:List Expr}{scope:Scope}{pos:Pos}{it acc:Value}{env:Env}(I:Nat->Shared->Prop)
  (turn:∀n s,I n s->wpAny (model prog w) A (pyNext it) (λr s₁=>match r with
   |none=>R (.ok .next) s₁
   |some v=>wpAny (model prog w) A (letOwnedTupleGo target it v) (λ_ s₁'=>wpAny (model prog w) A (assign target env v) (λ_ s₂=>
     wpAny (model prog w) A (forIn ifs true λc r=>if r=true then do let ok <-isTrue c env (eval c env);pure (ForInStep.yield ok) else pure (ForInStep.yield r)) (λok s₃=>
      if ok=true then wpAny (model prog w) A (eval elt env) (λx s₄=>
       wpAny (model prog w) A (call (.builtin "list.append") [acc,x]) (λ_ s₅=>∃m,m < n/\I m s₅) (λ_ _=>False) s₄) (λ_ _=>False) s₃
      else ∃m,m < n/\I m s₃) (λ_ _=>False) s₂) (λ_ _=>False) s₁') (λ_ _=>False) s₁) (λ_ _=>False) s)
  (n:Nat) (h:I n s):codeAny (model prog w) A (.compLoop (.ListComp elt [⟨target,iter,ifs,0⟩] scope pos) 0 it acc env) R s:=by
 refine codeAny_loop rfl I (λn s hI=>?_) n h;show wpAny _ A ((compTurn (.ListComp elt [⟨target,iter,ifs,0⟩] scope pos) 0 it acc env).onRaise (λx=>do noteFrame x env;theTreesLotGoes x)) _ _ s;refine wpAny_noted ?_;rw[compTurn_list];refine ah (wpAny_standAt (ah (c5 (turn n s hI) (λr s₁ h₁=>?_) λ_ _ h'=>False.elim h')));cases r with
 |none=>exact bn h₁
 |some v=>
  refine ah (c5 h₁ (λ_ s₁' h₁'=>?_) λ_ _ h'=>False.elim h');refine ah (c5 h₁' (λ_ s₂ h₂=>ah (c5 h₂ (λok s₃ h₃=>?_) λ_ _ h'=>False.elim h')) λ_ _ h'=>False.elim h');cases ok with
  |false=>exact bn ⟨rfl,h₃⟩
  |true=>
   exact ah (ah (c5 h₃ (λx s₄ h₄=>ah (c5 h₄ (λ_ s₅ h₅=>bn (bn ⟨rfl,h₅⟩)) λ_ _ h'=>False.elim h')) λ_ _ h'=>False.elim h'))
end
abbrev tx(l:List Nat):Str:=⟨l.toArray⟩
theorem bN(l:List Nat):(tx l).length=l.length:=by simp[Str.length]
theorem qP(a b:List Nat):tx a++tx b=tx (a++b):=by show (⟨a.toArray++b.toArray⟩:Str)=⟨(a++b).toArray⟩;simp
theorem Dt{a b:List Nat}(h:tx a=tx b):a=b:=by have:=fb (λx:Str=>x.cps.toList) h;simpa using this
theorem wC(x:Str):x=tx x.cps.toList:=by cases x;simp
section
variable {X:Cx}
theorem Du:∀{ys:List Str}{us:List Value},Vals (ys.map V.str) us->StrsAre us ys
 |[],us,r=>by
  rw[dQ]at r;cases r;exact .nil
 |y::ys,us,r=>by
  rw[bq]at r;cases r with
  |cons r1 r2=>
   obtain ⟨t,e⟩:=r1;subst e;exact .cons y t (Du r2)
noncomputable def rJoin(K:PF):V->List V->Hp->VK->Prop:=λx vs H Q=>∃z p ys,x=.str z/\vs=[.ref p]/\SqL K H p (ys.map V.str)/\(ys.map (·.length)).sum+ys.length * z.length<=16777216/\Q (.str (Str.join z ys)) H
theorem YZ:MtR X "str.join" (rJoin X.K):=by intro pins s σ H x xs v us Q I rx rs h;obtain ⟨z,p,ys,rfl,rfl,hq,hb,q⟩:=h;obtain ⟨t,rfl⟩:=rx;obtain ⟨u,rfl,ru⟩:=vals1 rs;cases ru;obtain ⟨its,rv,pl,hz⟩:=I.list hq;refine join_list pl.isList (by simpa using Du rv) hb λt' k=>⟨.str _,H,I.tok _,⟨_,rfl⟩,?_⟩;have e:Txt.join z ys=Str.join z ys:=StrLaws.glued_eq_join z ys;rw[e];exact q
noncomputable def Y0(K:PF):List V->Hp->VK->Prop:=λxs H Q=>∃x n t b,xs=[x,.ty n]/\TyOf K H x t/\PySem.W.kitOne K t (.type n)=some b/\Q (.bl b) H
theorem Y4:bC X (.builtin "isinstance") (Y0 X.K):=by intro pins s σ H xs us Q I r h;obtain ⟨x,n,t,b,rfl,ty,e,q⟩:=h;obtain ⟨u,w',rfl,rx,ry⟩:=vals2 r;cases ry;exact Xr I rx ty e λtk=>⟨.bl b,H,I.tok _,rfl,q⟩
theorem Y5:bootBuiltins "bool"=some (.type "bool"):=by ac_rfl
theorem Dv:bootBuiltins "int"=some (.type "int"):=by ac_rfl
theorem Dw:bootBuiltins "str"=some (.type "str"):=by ac_rfl
theorem Dy:bootBuiltins "list"=some (.type "list"):=by ac_rfl
theorem Y6:bootBuiltins "isinstance"=some (.builtin "isinstance"):=by ac_rfl
theorem Y7 {x:Str} {T:String} {pos:Pos} (hg:Gl X x) (hm:X.mg x=none) (hv:bootBuiltins x=some (.type T)) (hn:x≠"__name__":=by decide) (hd:(x==("__debug__":Str))=false:=by decide):PE X (.Name x pos) (tC (.ty T)):=
 VB hg hm hv (v:=.ty T) rfl hn hd
theorem Y8:OpR X (binaryOp .Mult) (λx y H Q=>∃i n,x=.str i/\y=.int n/\MulOk i n/\Q (.str (Txt.mul i n)) H):=by intro pins s σ H x y v u Q I rx ry h;obtain ⟨i,n,rfl,rfl,hok,q⟩:=h;obtain ⟨t,rfl⟩:=rx;obtain ⟨t',rfl⟩:=ry;exact SB.mul hok λt' k=>⟨.str _,H,I.tok _,⟨_,rfl⟩,q⟩
end
def wD(X:Cx)(st:List Stmt)(t:TS):Prop:=
 ∀(pins:List (Addr×Obj))(s:Shared)(σ:St)(H:Hp)(D:Ends),1<=s.toks->Inv X pins σ H s->t D σ H->wpAny (model X.prog X.w) X.A (execs st X.env) (SP X pins D) X.xe s
def PE1(X:Cx)(e:Expr)(t:TE):Prop:=
 ∀(pins:List (Addr×Obj))(s:Shared)(σ:St)(H:Hp)(Q:VK),1<=s.toks->Inv X pins σ H s->t σ H Q->wpAny (model X.prog X.w) X.A (eval e X.env) (EP X pins σ Q) X.xe s
theorem Y9{X:Cx}{e:Expr}{te:TE}{pos:Pos}(he:PE1 X e te):wD X [.Return (some e) pos] (BZ te):=by intro pins s σ H D h1 I h;refine gt (wpAny_Return_some (thn (he pins s σ H _ h1 I h) λv s1 ⟨x,H1,I1,r1,q1⟩=>?_));exact ⟨x,σ,H1,I1,r1,q1⟩
theorem wF{c d:Nat}:∀l:List Nat,c∉l->l.map (λa=>if a=c then d else a)=l
 |[],_=>rfl
 |a::r,h=>by
  have h1:a≠c:=λe=>h (by rw[e];exact bS);rw[bq,if_neg h1,wF r λz=>h (bi _ z)]
theorem Dz(c d:Nat):∀parts:List Str,(∀p∈parts,c∉p.cps.toList)->(Str.join ⟨#[c]⟩ parts).cps.toList.map (λa=>if a=c then d else a)=(Str.join ⟨#[d]⟩ parts).cps.toList
 |[],_=>rfl
 |[x],h=>by
  simp only[Str.join];exact wF _ (h x bS)
 |x::y::r,h=>by
  have ih:=Dz c d (y::r) λp hp=>h p (bi _ hp);have e:∀z:Str,Str.join z (x::y::r)=x++z++Str.join z (y::r):=λz=>by simp only[Str.join]
  have ap:∀u v:Str,(u++v).cps.toList=u.cps.toList++v.cps.toList:=λu v=>by
   show (u.cps++v.cps).toList=_;simp
  rw[e,e,ap,ap,ap,ap,cm,cm,ih,wF _ (h x bS)];simp
theorem Za(l:List Nat)(c d:Nat):Txt.replace (tx l) (tx [c]) (tx [d])=tx (l.map λa=>if a=c then d else a):=by
 have e:(Txt.replace (tx l) ⟨#[c]⟩ ⟨#[d]⟩).cps.toList=l.map λa=>if a=c then d else a:=by rw[StrLaws.replace_one,<-Dz c d _ (StrLaws.split_free (tx l) c),StrLaws.join_split]
 rw[wC (Txt.replace (tx l) (tx [c]) (tx [d]))];exact fb tx e
section
variable {X:Cx}
theorem Zb{o:Expr}{to:TE}{y z:Str}{ky kz:Nat}{py pz apos cpos:Pos}(ho:PE X o to)(hyz:(y==z)=false)
  (hbase:attributeBase o "replace" X.env (eval o X.env)=eval o X.env:=by rfl)
  (hfew:((backTo cpos (starEach [.Constant (.str y) ky py,.Constant (.str z) kz pz] X.env)).all (λx=>!x.1)&&(backToKw cpos (keywordEach [] X.env)).all (λx=>x.1.isSome)
  &&decide (([.Constant (.str y) ky py,.Constant (.str z) kz pz]:List Expr).length+([]:List Keyword).length+(if ([]:List Keyword).isEmpty then 0 else 1) < 30))=true:=by rfl)
  (hline:(apos.endLine==cpos.line)=true:=by rfl):
  PE1 X (.Call (.Attribute o "replace" apos) [.Constant (.str y) ky py,.Constant (.str z) kz pz] [] cpos)
   (λσ H Q=>to σ H λv H1=>∃x,v=.str x/\x.length+(x.length+1) * z.length<=16777216/\Q (.str (Txt.replace x y z)) H1):=by
 intro pins s σ H Q h1 I h;refine wpAny_Call_method_late hbase hfew hline rfl (c5 (wpAny_toks_of (n:=1) h1 (ho pins s σ H _ I h)) (λv s1 h2=>?_) (λ_ _ e=>e.2));obtain ⟨t1,v',H1,I1,r1,x,e,hb,q⟩:=h2;subst e;obtain ⟨t,rfl⟩:=r1;refine ⟨"str","str.replace",F.plainAttrs_str,F.slot_str_replace,F.type_str_replace,typeIs_str _ _ _,(λ_ e=>nomatch e),?_⟩;refine Calls.callWith_builtin (by rfl) (Calls.evalArgs_plain ?_);show wpAny _ _ (spliced [(false,eval (.Constant (.str y) ky py) X.env),(false,eval (.Constant (.str z) kz pz) X.env)]) _ _ s1;refine Calls.spliced_cons (Calls.Constant_str (Calls.spliced_cons (Calls.Constant_str (Calls.spliced_nil ?_))));exact SC.replace (by show @Ne Nat s1.toks 0;omega) (by show @Ne Nat (s1.toks+1) 0;omega) (by show @Ne Nat s1.toks (s1.toks+1);omega) hyz hb λt' k=>⟨.str _,H1,I1.tok _,⟨_,rfl⟩,q⟩
end
theorem Zc{CX:CXT}{P:Program}{w:World}{K:PF}{mg:Str->Option Value}{base:Heap}{k:Nat}{f:Addr}{name qual:Str}{params:Arguments}{body:List Stmt}{scope:Scope}{dV kV doc pm cdv ct oc:Value}{an od:Option Addr}
  {osl:Array (Option Value)} {N:List Str} {x:Str} {sp:Sp} (lk:K.lookup f=some ⟨oc,od,.func (PySem.W.fnOf name qual params body scope dV kV doc pm an cdv ct),osl⟩) (hcd:PySem.W.codeIn K cdv qual=true) (S:FnScope N [x] scope)
  (hx:scope.names.lookup x=some .local) (hnc:∀y∈scope.names,y.2≠NameKind.cell) (hcf:∀n,cellsFrom n scope.names []=[])
  (len:∀vs H Q E,sp vs H Q E->vs.length=[x].length)
  (hbody:∀(A:Around)(outer:List Env)(s:Shared)(H:Hp)(vs:List V)(Q:VK)(E:XK),Room k (A.deeper (envOfC qual scope s.heap.objs.size f cdv))->sp vs H Q E->
   ∃t,wD (cQ CX P w K mg base N qual scope f cdv A outer s H E) body t/\t { nx:=λ_ H'=>Q .non H',rt:=Q } (start N vs) H):
  FnOk P w K mg base CX (k+1) f (PySem.W.fnOf name qual params body scope dV kV doc pm an cdv ct) [x] sp:=by
 refine ⟨len,λA outer s H args us vs Q E hr e0 hb r hsp=>?_⟩;have hl:=len _ _ _ _ hsp;have KX:K.In s.heap:=e0.mod.kin.keeps λb o e=>(e0.bs b o e).1;have lim:s.heap.NoLimit:=e0.mod.nolimit.keeps λb o e=>(e0.bs b o e).1;obtain ⟨u,rfl⟩:∃u,us=[u]:=by
  have h2:=r.length;rw[hl]at h2;match us,h2 with
  |[u],_=>exact ⟨u,rfl⟩
 refine codeAny_call_function hr.depth (KX _ _ lk) rfl S.co S.gen rfl (PySem.W.codeRec_of KX hcd) (hb _ _ _ _ ?_);refine wpAny_newFunctionEnv (binds:=[x].zip [u]) hnc (λy hy=>?_) (λh' hns hsb=>?_) S.kind
 ·have e:y=(x,u):=by simpa using hy
  rw[e];exact hx
 have envEq:newEnv scope s.heap.objs.size mainGlobals [] (qual++Str.ofString ".<locals>.") (some f) cdv none builtinsNs=envOfC qual scope s.heap.objs.size f cdv:=by unfold envOfC newEnv;rw[hcf]
 have kp:∀b o,s.heap.get? b=some o->h'.get? b=some o:=λb o e=>hsb.extBut b o (cr (aE e)) (al _ e);have mEq:bindL (envOfC qual scope s.heap.objs.size f cdv).kindOf ([x].zip [u]) (λ_=>none)=λy=>(([x].zip [u]).reverse).lookup y:=by
  funext y;have hk:(envOfC qual scope s.heap.objs.size f cdv).kindOf x=some .local:=hx;show bindL (envOfC qual scope s.heap.objs.size f cdv).kindOf [(x,u)] (λ_=>none) y=List.lookup y [(x,u)];unfold bindL;rw[if_pos hk];unfold bindL;by_cases hy:y=x
  ·subst hy;simp
  ·have:(y==x)=false:=by simpa using hy
   simp[hy,List.lookup_cons,this]
 have xx:InCallC s s.heap.objs.size (bindL (envOfC qual scope s.heap.objs.size f cdv).kindOf ([x].zip [u]) λ_=>none) (cellsFrom (s.heap.objs.size+1) scope.names []) (bindC (envOfC qual scope s.heap.objs.size f cdv).kindOf ([x].zip [u]) λ_=>none)
   { s with heap:=h',toks:=s.toks+([x].zip [u]).length }:=by
  rw[mEq,hcf];exact ⟨⟨⟨h',_,rfl⟩,hns,kp,ax _⟩,(λn c e=>by simp at e),List.Pairwise.nil,(λn c e=>nomatch e)⟩
 show _/\codeAny (model P w) A (.func body (newEnv scope s.heap.objs.size mainGlobals [] (qual++Str.ofString ".<locals>.") (some f) cdv none builtinsNs)) _ _;rw[envEq];refine ⟨lim.keeps kp,codeAny_func ?_⟩;obtain ⟨t,ht,hq⟩:=hbody A outer s H vs Q E (hr.deeper _) hsp;have I:Inv (cQ CX P w K mg base N qual scope f cdv A outer s H E) [] (start N vs) H { s with heap:=h',toks:=s.toks+([x].zip [u]).length }:=CG S hr.hd e0 hl r xx;refine c5 (ht [] _ (start N vs) H _ (Nat.le_add_left 1 s.toks) I hq) (λfl s' hs=>?_) λe s' hs=>hs;have fin:∀{σ':St}{H':Hp}{v:V}{u:Value},Inv (cQ CX P w K mg base N qual scope f cdv A outer s H E) [] σ' H' s'->RelV v u->Q v H'->CE outer P w H s Q u s':=
  λ{σ' H' v u} J rv q=>⟨v,H',J.os,J.bare,J.base,J.hok,rv,q⟩
 cases fl with
 |ret u=>
  obtain ⟨v,σ',H',J,rv,q⟩:=hs;exact fin J rv q
 |next=>
  obtain ⟨σ',H',J,q⟩:=hs;exact fin (v:=V.non) (u:=Value.none) J rfl q
 |brk=>
  obtain ⟨_,_,_,q⟩:=hs;exact False.elim q
 |cont=>
  obtain ⟨_,_,_,q⟩:=hs;exact False.elim q
theorem Fun.ok1{P:Program}{w:World}{K:PF}{mg:Str->Option Value}{base:Heap}{x qual:Str}{st:Stmt}{f:Addr}{fd:FuncData}{N:List Str}{y:Str}{k:Nat}{sp:Sp}(F:Fun K x qual st f fd)(S:FnScope N [y] (ao st))
  (hx:(ao st).names.lookup y=some .local) (hnc:∀z∈(ao st).names,z.2≠NameKind.cell) (hcf:∀n,cellsFrom n (ao st).names []=[]) (len:∀vs H Q E,sp vs H Q E->vs.length=[y].length)
  (hbody:∀(cdv:Value)(A:Around)(outer:List Env)(s:Shared)(H:Hp)(vs:List V)(Q:VK)(E:XK),Room k (A.deeper (envOfC qual (ao st) s.heap.objs.size f cdv))->sp vs H Q E->
   ∃t,wD (cQ CX0 P w K mg base N qual (ao st) f cdv A outer s H E) (aF st) t/\t { nx:=λ_ H'=>Q .non H',rt:=Q } (start N vs) H):FnOk P w K mg base CX0 (k+1) f fd [y] sp:=by
 obtain ⟨oc,od,kV,doc,pm,an,cdv,ct,osl,rfl,lk,hcd⟩:=F.ex;exact Zc lk hcd S hx hnc hcf len λA outer s H vs Q E hr hsp=>hbody cdv A outer s H vs Q E hr hsp
open Builtin Builtin.Str
theorem Zd{prog:Program}{w:World}{A:Around}(hh:A.handled=none)(it:Addr)(x:Str)(t:Tok):
  Draws prog w A it [it] x.cps.size (λi v=>∃c u,x.cps[i]?=some c/\v=.str ⟨#[c]⟩ u) (λi h=>h.IsStrIter it (strIterType x) x t i):=by
 unfold strIterType;split
 ·exact Draws.strAscii hh it x t
 ·exact Draws.strWide hh it x t
structure ZApart(z TI TO i1 i2:Addr):Prop where
 TIz:TI≠z
 TOz:TO≠z
 i1z:i1≠z
 i2z:i2≠z
 TITO:TI≠TO
 TIi1:TI≠i1
 TIi2:TI≠i2
 TOi1:TO≠i1
 TOi2:TO≠i2
 i12:i1≠i2
section
variable {X:Cx}
theorem DG:∀{bs:List Bool}{us:List Value}{i:Nat}{v:Value},Vals (bs.map V.bl) us->us[i]?=some v->∃b,bs[i]?=some b/\v=.bool b
 |[],us,i,v,r,e=>by
  rw[dQ]at r;cases r;simp at e
 |b::bs,us,i,v,r,e=>by
  rw[bq]at r;cases r with
  |cons r1 r2=>
   cases i with
   |zero=>
    cases (show _=Value.bool b from r1);exact ⟨b,rfl,by simpa using e.symm⟩
   |succ i=>exact DG (i:=i) r2 (by simpa using e)
theorem Ze:bootBuiltins "all"=some (.builtin "all"):=by ac_rfl
theorem Zf:bootBuiltins "zip"=some (.type "zip"):=by ac_rfl
theorem all_range(bs:List Bool)(n:Nat)(hn:n=bs.length):((List.range n).all λi=>(bs[i]?).getD true)=bs.all id:=by
 subst hn;rw[fg,ci,ci];constructor
 ·intro h b hb;obtain ⟨i,hi,e⟩:=List.mem_iff_getElem.mp hb;have:=h i (List.mem_range.mpr hi);rw[bg hi,e]at this;simpa using this
 ·intro h i hi;have hi':=List.mem_range.mp hi;rw[bg hi'];simpa using h _ (dn hi')
theorem Zg (hc:X.calm=true):bC X (.builtin "all") (λxs H Q=>∃(p:Addr) (bs:List Bool),xs=[.ref p]/\SqL X.K H p (bs.map V.bl)/\Q (.bl (bs.all id)) H):=by
 intro pins s σ H xs us Q I r h;obtain ⟨p,bs,rfl,hq,q⟩:=h;obtain ⟨u,rfl,ru⟩:=vals1 r;cases ru;obtain ⟨its,rv,pl,hz⟩:=I.list hq;have hl:=pl.isList;have hlt:p < s.heap.objs.size:=by obtain ⟨_,e,_⟩:=hl;exact aE e
 refine call_all_walk (wpAny_pyIter_list hl ?_);refine ⟨s.heap.objs.size,[s.heap.objs.size,p],[s.heap.objs.size],its.toArray.size,_,_,λi=>(bs[i]?).getD true,rfl,Walks.list (A:=X.A.in1) (I.ok.hd hc) _ p (cr hlt) its.toArray,
  ⟨⟨_,bb _ rfl,rfl,rfl⟩,hl.push _⟩,λi v s' Q' E' hP hQ=>?_,λh' tk hk=>?_⟩
 ·obtain ⟨b,e,rfl⟩:=DG rv (i:=i) (v:=v) (by simpa using hP);simp only[e,Option.getD_some]at hQ;exact et hQ
 ·have e:=all_range bs its.toArray.size (by rw[am,<-rv.length,ag]);rw[e];exact ⟨.bl _,H,I.kept (λb o q=>hk b o (λhm=>by rw[ay.mp hm]at q;exact d6 _ (aE q)) (al _ q)),rfl,q⟩
theorem Zh:OpR X (compareOp .Is) (λx y H Q=>∃i j,x=.bl i/\y=.bl j/\Q (.bl (i==j)) H):=by intro pins s σ H x y v u Q I rx ry h;obtain ⟨i,j,rfl,rfl,q⟩:=h;cases rx;cases ry;exact is_bool ⟨.bl _,H,I,rfl,q⟩
theorem Zi:bC X (.type "int") (λxs H Q=>∃z n,xs=[.str z]/\PySem.intText? z=some n/\z.length<=640/\Q (.int n) H):=by intro pins s σ H xs us Q I r h;obtain ⟨z,n,rfl,hn,hl,q⟩:=h;obtain ⟨u,rfl,t,rfl⟩:=vals1 r;exact PySem.W.KIN.call_text hn hl ⟨.int n,H,I.tok _,⟨_,rfl⟩,q⟩
noncomputable def Zj:V->Option Int->Option Int->Hp->VK->Prop:=λx lo hi H Q=>∃z,x=.str z/\z.length<=sizeLine/\Q (.str (Txt.slice z lo hi)) H
theorem Zk:SlR X Zj:=by
 intro pins s σ H x v vl vu lo hi sl Q I rx hs pl pu h;obtain ⟨z,rfl,hz,q⟩:=h;obtain ⟨t,rfl⟩:=rx;refine ⟨"str",_,slot_str_getitem.lookup,typeIs_str _ _ _,?_⟩;obtain ⟨l,el,e1⟩:∃l:Option (Int×Tok),vl=partValue l/\l.map (·.1)=lo:=by
  cases pl with
  |none=>exact ⟨none,rfl,rfl⟩
  |int i t=>exact ⟨some (i,t),rfl,rfl⟩
 obtain ⟨u,eu,e2⟩:∃u:Option (Int×Tok),vu=partValue u/\u.map (·.1)=hi:=by
  cases pu with
  |none=>exact ⟨none,rfl,rfl⟩
  |int i t=>exact ⟨some (i,t),rfl,rfl⟩
 subst el eu e1 e2;refine wpAny_getItem_str_slice (l:=l) (u:=u) (st:=none) hs rfl ?_;unfold sliceMade;unfold Txt.slice at q;show (if ((1:Int)==1&&(slicePicked z l u none).length==z.length)=true then Made.val (.str z t) else Made.str ⟨((slicePicked z l u none).filterMap (z.cps[·]?)).toArray⟩).post _ _;have ep:slicePicked z l u none=Builtin.Str.strSliceIndices (l.map (·.1)) (u.map (·.1)) 1 z.length:=rfl;rw[ep];by_cases hc:((1:Int)==1&&(Builtin.Str.strSliceIndices (l.map (·.1)) (u.map (·.1)) 1 z.length).length==z.length)=true
 ·rw[if_pos hc]at q ⊢;exact ⟨.str z,H,I,⟨t,rfl⟩,q⟩
 ·rw[if_neg hc]at q ⊢;refine ⟨?_,⟨.str _,H,I.tok _,⟨_,rfl⟩,q⟩⟩;show (List.filterMap _ _).toArray.size<=sizeLine;rw[am];have h1:=sliceIndices_le (l.map (·.1)) (u.map (·.1)) z.length;have h2:=List.length_filterMap_le (λx=>z.cps[x]?) (Builtin.Str.strSliceIndices (l.map (·.1)) (u.map (·.1)) 1 z.length);omega
end
theorem DK{X:Cx}{elt tg iter:Expr}{ifs:List Expr}{scope:Scope}{pos:Pos}{wi:TI}{pins:List (Addr×Obj)}{s:Shared}{σ:St}{H:Hp}{Q:VK}{RR:Value->Addr->Result->Shared->Prop}(N':List Str)(cap:List (Option Nat))(hc:X.calm=true)(hi:PI X tg iter wi)(hcap:Caps X scope N' cap)
  (hcell:scope.names.all (λy=>y.2 != NameKind.cell)=true)
  (hfr:scope.names.all (λy=>y.2 != NameKind.free||(X.env.kindOf y.1==some NameKind.cell||X.env.kindOf y.1==some NameKind.free))=true)
  (hkind:scope.kind=.function) (I:Inv X pins σ H s) (h:wB X N' scope tg ifs elt wi cap σ H Q)
  (fin:∀(D C:Addr)(H':Hp)(s4:Shared)(m:Str->Option Value),Inv X pins σ H' s4->Q (.ref D) H'->s4.heap.Ns C m->eY X pins H' C->RR (.ref D) C (.ok .next) s4):
  wpAny (model X.prog X.w) X.A (eval iter X.env) (λx s₁=>wpAny (model X.prog X.w) X.A (pyIter x) (λit s₂=>wpAny (model X.prog X.w) X.A (newList []) (λacc s₃=>
   wpAny (model X.prog X.w) X.A (newFunctionEnv scope X.env.globals (cJ X.env scope.names []) [] X.env.qual none .none (some X.env)) (λcenv s₄=>
    codeAny (model X.prog X.w) X.A (.compStart (.ListComp elt [⟨tg,iter,ifs,0⟩] scope pos) 0 it acc { cenv with scope:=relabel scope X.env }) (RR acc cenv.locals) s₄) X.xe s₃) X.xe s₂) X.xe s₁) X.xe s:=by
 have hcell':∀y∈scope.names,y.2≠NameKind.cell:=λy hy=>by
  have:=ci.mp hcell y hy;simpa using this
 have hfr':∀y∈scope.names,y.2=NameKind.free->(X.env.kindOf y.1=some NameKind.cell\/X.env.kindOf y.1=some NameKind.free):=λy hy hl=>by
  have:=ci.mp hfr y hy;simpa [hl] using this
 have hcs:∀y∈scope.names,y.2=NameKind.free->(X.env.cells.lookup y.1).isSome=true:=λy hy hl=>by
  obtain ⟨c,e⟩:=I.ok.has y.1 (hfr' y hy hl);rw[e];rfl
 have clsub:∀x c,(cJ X.env scope.names []).lookup x=some c->X.env.cells.lookup x=some c:=Dn (λx c e=>by simp at e);have clhas:∀x,scope.names.lookup x=some NameKind.free->∃c,(cJ X.env scope.names []).lookup x=some c:=λx e=>by
  have hm:=d3 e;exact cS.mp (Dp (hcs _ hm rfl) hm)
 have rel:∀x,(relabel scope X.env).names.lookup x=(scope.names.lookup x).map λk=>if (k==NameKind.free&&X.env.scope.kind==.function&&X.env.kindOf x==some .cell)=true then NameKind.cell else k:=λx=>wA
 have relfree:∀x,((relabel scope X.env).names.lookup x=some NameKind.cell\/(relabel scope X.env).names.lookup x=some NameKind.free)->scope.names.lookup x=some NameKind.free:=λx e=>by
  rw[rel x]at e;cases z:scope.names.lookup x with
  |none=>rw[z]at e;rcases e with e |e <;> cases e
  |some k=>
   have nk:=hcell' _ (d3 z);rw[z]at e;cases k with
   |free=>rfl
   |cell=>exact absurd rfl nk
   | «local»=>rcases e with e |e <;> simp[show (NameKind.«local»==NameKind.free)=false by decide]at e
   |globalExplicit=>rcases e with e |e <;> simp[show (NameKind.globalExplicit==NameKind.free)=false by decide]at e
   |globalImplicit=>rcases e with e |e <;> simp[show (NameKind.globalImplicit==NameKind.free)=false by decide]at e
 generalize hcl:cJ X.env scope.names []=cl at clsub clhas;refine thn (hi pins s σ H _ I h) λxv s0 h0=>thn h0 λitv s2 h2=>?_;obtain ⟨it,fp,tn,J,H2,e,I2,T,st2,f2,W,⟨m0,w0⟩,turn⟩:=h2;subst e;refine wpAny_newObj_type (wpAny_newFunctionEnv hcell' (by intro y hy;simp at hy) (λh₁ hns₁ hsb₁=>?_) hkind);dsimp only at hns₁ hsb₁ ⊢;generalize hH2:s2.heap.push { cls:=.type "list",dict:=none,data:=.seq ([]:List Value).toArray }=HP at hns₁ hsb₁ ⊢;have hC:HP.objs.size=s2.heap.objs.size+1:=by rw[<-hH2,dL]
 have hDC:s2.heap.objs.size≠HP.objs.size:=by rw[hC];exact cr (gp _)
 have below:∀b,b < s2.heap.objs.size->b≠HP.objs.size/\b≠s2.heap.objs.size:=λb hb=>⟨by rw[hC];exact cr (Nat.lt_succ_of_lt hb),cr hb⟩;have old:∀b o,s2.heap.get? b=some o->h₁.get? b=some o:=λb o e=>hsb₁.extBut b o (below b (aE e)).1 (al _ (hH2 ▸ al _ e));have hacc:h₁.get? s2.heap.objs.size=some { cls:=.type "list",data:=.seq ([]:List Value).toArray 0 }:=hsb₁.extBut _ _ hDC (al _ (hH2 ▸ bb _ rfl));have hst₁:tn 0 h₁:=T.keep _ _ _ st2 λb _ o e=>old b o e;have fplt:∀b∈fp,b < s2.heap.objs.size:=λb hb=>by
  obtain ⟨o,e,_⟩:=T.obj _ _ st2 b hb;exact aE e
 have fslt:∀b∈frs X.stack,b < s2.heap.objs.size:=λb hb=>by
  obtain ⟨_,o,e,_⟩:=I2.stack.mem hb;exact aE e
 have celllt:∀x c,cl.lookup x=some c->c < s2.heap.objs.size:=λx c e=>by
  obtain ⟨v,q⟩:=I2.cell x c (clsub x c e);exact q.lt
 have hDf:H2 s2.heap.objs.size=none:=I2.hok.fresh (ax _);have hCf:H2 HP.objs.size=none:=I2.hok.fresh (by rw[hC];exact fN _);have nofs:∀b∈fp,b∉frs X.stack:=λb hb z=>by
  obtain ⟨_,f1,f2',_⟩:=f2 b hb;rcases a9.mp (I2.stkSub b z) with e |e
  ·exact f1 e
  ·exact f2' e
 have ok':(X.comp N' scope cl HP.objs.size s2 H2 fp (X.pn++pins)).Ok:=
  ⟨I2.ok.mod,hkind,I2.ok.glob,I2.ok.blt,(by show s2.heap.objs.size<=HP.objs.size;rw[hC];exact fN _),
   λx y c e1 e2=>I2.ok.inj x y c (clsub x c e1) (clsub y c e2),λx hx=>clhas x (relfree x hx),λx c hf _=>(by cases hf),I2.ok.hd,I2.ok.frames,.inl rfl,
   λb hb=>⟨(below b (fplt b hb)).1,λx c e=>(f2 b hb).2.2.2.2.1 x c (clsub x c e)⟩,I2.bs,br I2.ok.bsz I2.sz,
   λb o e hb=>(by
    rcases (f2 b hb).2.2.2.1 with z |z
    ·exact I2.ok.noex b o e z
    ·exact absurd (bP (aE e) (br I2.ok.bsz z)) (d6 _)),
   nofs,I2.stack,I2.stkFree⟩
 have pnOk:∀p∈X.pn++pins,p.1 < s2.heap.objs.size/\p.1∉frs X.stack:=λp hp=>by
  obtain ⟨e,_,n1,n2,_⟩:=I2.pin p hp;refine ⟨aE e,λz=>?_⟩;rcases a9.mp (I2.stkSub _ z) with e |e
  ·exact n1 e
  ·exact n2 e
 have I0:∀t,Inv (X.comp N' scope cl HP.objs.size s2 H2 fp (X.pn++pins)) [(s2.heap.objs.size,{ cls:=.type "list",data:=.seq ([]:List Value).toArray 0 })] (d9 cap σ) H2 { s2 with heap:=h₁,toks:=t }:=λt=>
  ⟨ok',rfl,I2.bare,Un.kept old,⟨_,hns₁,λi x v e1 e2 _=>by
    obtain ⟨j,nj,fr,sj⟩:=hcap.at e1 e2;obtain ⟨m,_,hl⟩:=I2.loc;have hk:=hfr' (x,NameKind.free) (d3 fr) rfl;obtain ⟨u,r,l⟩:=hl j x v nj sj (by rcases hk with hk |hk;exact .inr (.inl hk);exact .inr (.inr hk));refine ⟨u,r,.inr ⟨?_,?_⟩⟩
    ·show (relabel scope X.env).names.lookup x=some .cell\/(relabel scope X.env).names.lookup x=some .free;rw[rel x,fr,Option.map_some];by_cases hh:(NameKind.free==NameKind.free&&X.env.scope.kind==ScopeKind.function&&X.env.kindOf x==some NameKind.cell)=true
     ·exact .inl (by rw[if_pos hh])
     ·exact .inr (by rw[if_neg hh])
    ·obtain ⟨c,ec⟩:=clhas x fr;have ec':=clsub x c ec;rcases l with ⟨k1,_⟩ |⟨_,c',e',q⟩
     ·rcases hk with hk |hk <;> (rw[hk]at k1;cases k1)
     ·have ecc:X.env.cells.lookup x=some c:=ec';rw[e']at ecc;cases ecc;obtain ⟨o,ho,hd⟩:=q;exact ⟨_,ec,o,old _ _ ho,hd⟩⟩,
   λx c e=>(by obtain ⟨v,o,ho,hd⟩:=I2.cell x c (clsub x c e);exact ⟨v,o,old _ _ ho,hd⟩),hCf,λx c e=>I2.freeC x c (clsub x c e),
   λp hp=>by
    rcases a7.mp hp with z |z
    ·obtain ⟨e,n0,_,_,d⟩:=I2.pin p z;exact ⟨old _ _ e,n0,(below _ (pnOk p z).1).1,(pnOk p z).2,d⟩
    ·have e:p=_:=ay.mp z;subst e;exact ⟨hacc,hDf,hDC,λz=>absurd (fslt _ z) (d6 _),λv z=>by have z':Data.seq _ _=Data.cell v:=z;cases z'⟩,
   I2.hok.kept old,by show (d9 cap σ).length=N'.length;unfold d9;rw[ag];exact hcap.len⟩
 have fpok:∀{H':Hp}{o:Obj},(∀b∈fp,H' b=none)->∀b∈fp,eY (X.comp N' scope cl HP.objs.size s2 H2 fp (X.pn++pins)) [(s2.heap.objs.size,o)] H' b:=λhn b hb=>
  ⟨hn b hb,(below b (fplt b hb)).1,nofs b hb,.inl hb,λx c e=>(f2 b hb).2.2.2.2.1 x c (clsub x c e),λp hp=>by
   rcases a7.mp hp with z |z
   ·exact (f2 b hb).2.2.2.2.2 p z
   ·have e:p=_:=ay.mp z;subst e;exact Ne.symm (below b (fplt b hb)).2⟩
 have loop:∀s₃:Shared,s₃={ s2 with heap:=h₁,toks:=s2.toks+([]:List (Str×Value)).length }->
   codeAny (model X.prog X.w) X.A (.compLoop (.ListComp elt [⟨tg,iter,ifs,0⟩] scope pos) 0 (.ref it) (.ref s2.heap.objs.size) (compEnvC scope cl HP.objs.size X.env))
    (RR (.ref s2.heap.objs.size) HP.objs.size) s₃:=by
  rintro s₃ rfl;refine YX
   (λk s'=>∃(i:Nat) (ys:List V) (its:List Value) (n:Nat) (σ':St) (H':Hp),Inv (X.comp N' scope cl HP.objs.size s2 H2 fp (X.pn++pins)) [(s2.heap.objs.size,{ cls:=.type "list",data:=.seq its.toArray n })] σ' H' s'/\Vals ys its/\
    tn i s'.heap/\(∀b∈fp,H' b=none)/\W i k ys σ' H') ?_ m0 ⟨0,[],[],0,_,H2,I0 _,.nil,hst₁,λb hb=>(f2 b hb).1,w0⟩
  rintro k s3 ⟨i,ys,its,n,σ3,H3,I3,rv3,st3,fr3,w3⟩;rcases turn i k ys σ3 H3 w3 with ⟨stop,hz,qn⟩ |⟨go,hz,step⟩
  ·refine thn (T.done (X.comp N' scope cl HP.objs.size s2 H2 fp (X.pn++pins)) rfl rfl rfl hc i _ s3 σ3 H3 _ I3 (fpok fr3) st3 stop) λr s4 ⟨hr,I4⟩=>?_;subst hr;obtain ⟨m,hn,_⟩:=I4.loc;obtain ⟨pD,nD,_,_,_⟩:=I4.pin (s2.heap.objs.size,{ cls:=.type "list",data:=.seq its.toArray n }) (a8 _ (ay.mpr rfl));have nC:H3 HP.objs.size=none:=I4.free;have u:Un (frs X.stack) fp H2 H3 s2.heap s4.heap:=I4.base;refine fin s2.heap.objs.size HP.objs.size (upd H3 s2.heap.objs.size (.lst ys)) s4 m ?_ (qn _ nD) hn ?_
   ·refine I2.call' (s':=s4) (ch:=fp) I4.os ?_ ?_ I4.bare λb hb=>⟨(f2 b hb).2.2.2.1,(f2 b hb).2.1,(f2 b hb).2.2.2.2.1,(f2 b hb).2.2.2.2.2⟩
    ·refine ⟨λb o e n0 hb hx=>u.keep b o e n0 hb hx,λb o e n0 hb hx=>u.slot b o e n0 hb hx,λb o e n0 hx=>?_,λb o e hx=>u.there b o e hx,λb xs e=>?_,λb o v e=>?_,λb ps e=>?_⟩
     ·rw[aK (below b (aE e)).2];exact u.free b o e n0 hx
     ·rw[aK (bu e hDf)];exact u.tups b xs e
     ·rw[aK (bu e hDf)];exact u.frzs b o v e
     ·rw[aK (bu e hDf)];exact u.tbls b ps e
    ·intro b o e;by_cases hb:b=s2.heap.objs.size
     ·subst hb;rw[cP]at e;cases e;exact ⟨hz,its,n,rv3,pD⟩
     ·rw[aK hb]at e;exact (I4.hok b o e).stay (λc v _ q=>q) (λc q=>by rw[aK (bu q nD)];exact q) λc xs q=>by rw[aK (bu q nD)];exact q
   ·have hle:s2.heap.objs.size<=HP.objs.size:=by rw[hC];exact fN _
    exact I2.fpOk hle (by rw[aK (Ne.symm hDC)];exact nC)
  ·refine thn (T.item (X.comp N' scope cl HP.objs.size s2 H2 fp (X.pn++pins)) rfl rfl rfl hc i _ s3 σ3 H3 _ I3 (fpok fr3) st3 go) λr s4 ⟨u,hr,h4⟩=>?_;subst hr;refine thn h4 λ_ s5 ⟨x,H5,I5,r5,y5,st5,fr5⟩=>?_;obtain ⟨g,tt,te,hg,ht,he,body⟩:=step cl HP.objs.size s2 H2 fp (X.pn++pins);have I5':=I5.pinned (fpok fr5) (T.obj _ _ st5);have tail:∀{σ7:St}{H7:Hp}{s7:Shared}{po:Obj},Inv (X.comp N' scope cl HP.objs.size s2 H2 fp (X.pn++pins)) ([(s2.heap.objs.size,po)]++kI fp s5.heap) σ7 H7 s7->tn (i+1) s7.heap/\∀b∈fp,H7 b=none:=λ{σ7 H7 s7 po} I7=>by
    refine ⟨T.keep _ _ _ st5 λb hb o e=>(I7.pin (b,o) (a8 _ (a8 _ (qH hb e)))).1,λb hb=>?_⟩;obtain ⟨o,e,d⟩:=T.obj _ _ st5 b hb;exact (I7.pin (b,o) (a8 _ (a8 _ (qH hb e)))).2.1
   refine thn (hg _ s5 σ3 H5 x u _ I5' r5 (body x H5 y5)) λ_ s6 ⟨σ6,H6,I6,q6⟩=>?_;refine thn (ht _ s6 σ6 H6 _ I6 q6) λok s7 ⟨H7,I7,q7⟩=>?_;cases ok with
   |false=>
    obtain ⟨m',hm,w7⟩:=q7;obtain ⟨t7,n7⟩:=tail I7;exact ⟨m',hm,i+1,ys,its,n,σ6,H7,I7.unpinned,rv3,t7,n7,w7⟩
   |true=>
    refine thn (he _ s7 σ6 H7 _ I7 q7) λv s8 ⟨y,H8,I8,r8,m',hm,w8⟩=>?_;obtain ⟨t8,n8⟩:=tail I8;obtain ⟨pD,nD,_,_,_⟩:=I8.pin (s2.heap.objs.size,{ cls:=.type "list",data:=.seq its.toArray n }) (a8 _ (cK _ (ay.mpr rfl)));have hl:=rv3.length;refine append_at (hsz:=by rw[am];omega) pD λh9 hs9 hD9=>?_;have I8a:Inv (X.comp N' scope cl HP.objs.size s2 H2 fp (X.pn++pins)) [] σ6 H8 s8:=I8.pins_of λp hp=>nomatch hp;have I9:Inv (X.comp N' scope cl HP.objs.size s2 H2 fp (X.pn++pins)) [] σ6 H8 { s8 with heap:=h9 }:=I8a.turned (t':=s8.toks) (it:=s2.heap.objs.size) (λb o hb e=>hs9.extBut b o hb e) nD hDC (.inr (ax _))
     (λx c e z=>absurd (celllt x c e) (by rw[z];exact d6 _)) (λp hp z=>by
      rcases a7.mp hp with hp |hp
      ·exact absurd (pnOk p hp).1 (by rw[z];exact d6 _)
      ·exact nomatch hp)
    have hD9':h9.get? s2.heap.objs.size=some { cls:=.type "list",data:=.seq (its++[v]).toArray (n+1) }:=by rw[hD9,List.push_toArray]
    refine ⟨m',hm,i+1,ys++[y],its++[v],n+1,σ6,H8,I9.pins_of λp hp=>?_,rv3.append (.cons r8 .nil),T.keep _ _ _ t8 λb hb o e=>hs9.extBut b o (below b (fplt b hb)).2 e,n8,w8⟩;have e:p=_:=ay.mp hp;subst e;exact ⟨hD9',nD,hDC,λz=>absurd (fslt _ z) (d6 _),λv z=>by have z':Data.seq _ _=Data.cell v:=z;cases z'⟩
 exact codeAny_compStart_list (loop _ rfl) (T.self X.A 0 _ _ _ hst₁ (loop _ rfl))
theorem Zm{X:Cx}{elt tg iter:Expr}{ifs:List Expr}{scope:Scope}{pos:Pos}{wi:TI}(N':List Str)(cap:List (Option Nat))(hc:X.calm=true)(hi:PI X tg iter wi)(hcap:Caps X scope N' cap)
  (hcell:scope.names.all (λy=>y.2 != NameKind.cell)=true) (hnames:scope.names.all (λy=>y.2 != NameKind.local||scope.names.lookup y.1==some NameKind.local)=true)
  (hfr:scope.names.all (λy=>y.2 != NameKind.free||(X.env.kindOf y.1==some NameKind.cell||X.env.kindOf y.1==some NameKind.free))=true)
  (hkind:scope.kind=.function) (hs:∀x,foldedSetIterable iter X.env x=pure x):
  PE X (.ListComp elt [⟨tg,iter,ifs,0⟩] scope pos) (wB X N' scope tg ifs elt wi cap):=by
 intro pins s σ H Q I h;have hnames':∀y∈scope.names,y.2=NameKind.local->scope.names.lookup y.1=some NameKind.local:=λy hy hl=>by
  have:=ci.mp hnames y hy;simpa [hl] using this
 have hcs:∀y∈scope.names,y.2=NameKind.free->(X.env.cells.lookup y.1).isSome=true:=λy hy hl=>by
  have:=ci.mp hfr y hy;obtain ⟨c,e⟩:=I.ok.has y.1 (by simpa [hl] using this);rw[e];rfl
 rw[eval_ListComp];refine wpAny_comprehension_free (use:=none) (Q:=EP X pins σ Q) rfl hs (Dq hcs) hkind hnames'
  (DK (RR:=λacc C=>compPost (model X.prog X.w) X.A X.xe none (EP X pins σ Q) acc C) N' cap hc hi hcap hcell hfr hkind I h λL C H' s4 m I4 q hn fC=>?_)
 obtain ⟨f0,f1,f2,f3,f4,f5⟩:=fC;exact ⟨m,hn,λh' hs'=>⟨.ref L,H',I4.turned (t':=s4.toks) (it:=C) (λb o hb e=>hs'.extBut b o hb e) f0 f1 f3 f4 f5,rfl,q⟩⟩
theorem Zn{X:Cx}{elt tg iter:Expr}{ifs:List Expr}{scope:Scope}{pos py spos:Pos}{wi:TI}{i:Nat}{y:Str}(hN:X.N.Nodup)(hiy:X.N[i]?=some y)(hy:Loc X.env.scope y)(N':List Str)(cap:List (Option Nat))(hc:X.calm=true)(hi:PI X tg iter wi)(hcap:Caps X scope N' cap)
  (hcell:scope.names.all (λy=>y.2 != NameKind.cell)=true:=by rfl) (hnames:scope.names.all (λy=>y.2 != NameKind.local||scope.names.lookup y.1==some NameKind.local)=true:=by rfl)
  (hfr:scope.names.all (λy=>y.2 != NameKind.free||(X.env.kindOf y.1==some NameKind.cell||X.env.kindOf y.1==some NameKind.free))=true:=by rfl)
  (hkind:scope.kind=.function:=by rfl) (hs:∀x,foldedSetIterable iter X.env x=pure x:=by intro _;rfl)
  (hsw:swapsWith (.ListComp elt [⟨tg,iter,ifs,0⟩] scope pos) (some (.Name y py)) spos.line X.env=pure true:=by rfl)
  (hf:X.fn y=true\/X.env.scope.names.lookup y=some .local:=by first |exact .inl rfl |exact .inr rfl |assumption):
  PS X (.Assign [.Name y py] (.ListComp elt [⟨tg,iter,ifs,0⟩] scope pos) spos) (qF (wB X N' scope tg ifs elt wi cap) (qD i)):=by
 intro pins s σ H D I h;have hnames':∀y∈scope.names,y.2=NameKind.local->scope.names.lookup y.1=some NameKind.local:=λy hy hl=>by
  have:=ci.mp hnames y hy;simpa [hl] using this
 have hcs:∀y∈scope.names,y.2=NameKind.free->(X.env.cells.lookup y.1).isSome=true:=λy hy hl=>by
  have:=ci.mp hfr y hy;obtain ⟨c,e⟩:=I.ok.has y.1 (by simpa [hl] using this);rw[e];rfl
 rw[exec_Assign_Name_used _ _ _ _ hsw];refine ah (wpAny_standAt (ah ?_));show wpAny _ X.A (do let _ <-comprehension (.ListComp elt [⟨tg,iter,ifs,0⟩] scope pos) scope X.env _ (newList []) false (eval iter X.env) (some (assign (.Name y py) X.env))) _ _ s;refine ah (c5 (wpAny_comprehension_free (use:=some (assign (.Name y py) X.env)) (Q:=λ_ s'=>SP X pins D .next s') rfl hs (Dq hcs) hkind hnames'
  (DK (RR:=λacc C=>compPost (model X.prog X.w) X.A X.xe (some (assign (.Name y py) X.env)) (λ_ s'=>SP X pins D .next s') acc C) N' cap hc hi hcap hcell hfr hkind I h λL C H' s4 m I4 q hn fC=>?_)) (λ_ s' hq=>bn (bn hq)) λ_ _ e=>e)
 obtain ⟨oC,es,ep,eC,rC⟩:=id hn;obtain ⟨f0,f1,f2,f3,f4,f5⟩:=fC;have ncell:∀v,oC.data≠.cell v:=λv z=>by rw[rC.1]at z;cases z
 have I5:Inv X (pins++[(C,oC)]) σ H' s4:=I4.pins_of λp hp=>by
  rcases a7.mp hp with z |z
  ·exact I4.pin p (a8 _ z)
  ·have e:p=_:=ay.mp z;subst e;exact ⟨eC,f0,f1,f2,ncell⟩
 refine wpAny_assign_Name (qC I5 hN hiy hy (v:=.ref L) (u:=.ref L) rfl (λs5 I6=>?_) hf);have eC5:s5.heap.get? C=some oC:=(I6.pin (C,oC) (a8 _ (a8 _ (ay.mpr rfl)))).1;have I7:Inv X pins (σ.set i (some (.ref L))) H' s5:=I6.pins_of λp hp=>I6.pin p (a8 _ (cK _ hp));refine ⟨m,⟨oC,es,ep,eC5,rC⟩,λh'' hs''=>?_⟩;exact ⟨_,H',I7.turned (t':=s5.toks) (it:=C) (λb o hb e=>hs''.extBut b o hb e) f0 f1 f3 f4 f5,q⟩
section
variable {X:Cx}
theorem Zo:OpR X (compareOp .IsNot) (λx y H Q=>∃i j,x=.bl i/\y=.bl j/\Q (.bl (i != j)) H):=by intro pins s σ H x y v u Q I rx ry h;obtain ⟨i,j,rfl,rfl,q⟩:=h;cases rx;cases ry;exact isnot_bool ⟨.bl _,H,I,rfl,q⟩
end
def noStar:Expr->Bool
 |.Starred ..=>false
 |_=>true
theorem cj(e:Expr)(es:List Expr)(env:Env)(h:noStar e=true):starEach (e::es) env=(false,eval e env)::starEach es env:=by cases e <;> first |rfl |cases h
variable {X:Cx} {e st:Expr} {te ts:TE} {p2 pos:Pos}
noncomputable def holes(h:Heap)(l:List Addr):Heap:={ h with objs:=h.objs.mapIdx λi o=>if l.contains i then { o with data:=.freed } else o }
theorem DN{h:Heap}{l:List Addr}{b:Addr}:(holes h l).get? b=if l.contains b then none else h.get? b:=by
 unfold holes Heap.get?;simp only[Array.getElem?_mapIdx];cases hb:h.objs[b]? with
 |none=>simp
 |some o=>
  cases hc:l.contains b with
  |true=>simp[hc]
  |false=>simp[hc]
theorem gF{h:Heap}{l:List Addr}{b:Addr}(hb:b∈l):(holes h l).get? b=none:=by rw[DN,aT.mpr hb];rfl
theorem wG{h:Heap}{l:List Addr}{b:Addr}(hb:b∉l):(holes h l).get? b=h.get? b:=by
 rw[DN];cases hc:l.contains b with
 |true=>exact absurd (aT.mp hc) hb
 |false=>rfl
theorem qQ{h:Heap}{l:List Addr}:(holes h l).StaysIn h:=λb o e=>by
 by_cases hb:b∈l
 ·rw[gF hb]at e;cases e
 ·rw[wG hb]at e;exact e
theorem ObjOk.at{P:Program}{w:World}{H:Hp}{h:Heap}{a:Addr}{o:HO}(x:ObjOk P w H h a o):∃u,h.get? a=some u:=by
 cases o with
 |lst xs=>obtain ⟨_,_,_,_,e⟩:=x;exact ⟨_,e⟩
 |tup xs=>obtain ⟨_,_,_,o,e,_⟩:=x;exact ⟨_,e⟩
 |dK kvs=>obtain ⟨_,_,_,_,o,_,_,e,_⟩:=x;exact ⟨_,e⟩
 |dT kvs=>obtain ⟨_,_,_,_,o,_,_,e,_⟩:=x;exact ⟨_,e⟩
 |set S n=>obtain ⟨o,_,_,_,e,_⟩:=x;exact ⟨_,e⟩
 |ins C dx fs=>obtain ⟨_,_,_,e,_⟩:=x;exact ⟨_,e⟩
 |own y=>exact x
 |xd fs=>obtain ⟨_,⟨_,_,_,e,_⟩,_⟩:=x;exact ⟨_,e⟩
 |rng lo hi=>obtain ⟨_,_,_,e⟩:=x;exact ⟨_,e⟩
 |frz ob u=>obtain ⟨e,_⟩:=x;exact ⟨_,e⟩
 |tbl ps=>exact ⟨_,(show h.get? a=some _ from x)⟩
 |met f y=>exact ⟨_,(show h.get? a=some _ from x)⟩
 |ext φ=>obtain ⟨_,e,_⟩:=x;exact e
theorem HOk.gone{P:Program}{w:World}{H:Hp}{h:Heap}{a:Addr}(x:HOk P w H h)(e:h.get? a=none):H a=none:=by
 cases q:H a with
 |none=>rfl
 |some u=>obtain ⟨o,ho⟩:=(x a u q).at;rw[ho]at e;cases e
theorem wH{h base:Heap}:∀{l:List Env},h.FunFrames base l->∀b∈frs l,∃o,h.get? b=some o/\∀vs,o.data≠.fields vs
 |[],_,b,hb=>by cases hb
 |env::l,hf,b,hb=>by
  unfold Heap.FunFrames at hf;obtain ⟨_,⟨L,o,e1,_,e3,e4⟩,hr⟩:=hf;unfold frs at hb;rw[fE,e1]at hb;rcases a9.mp hb with rfl |hb
  ·exact ⟨o,e3,e4⟩
  ·exact wH hr b hb
theorem kY{h base:Heap}{x:List Addr}:∀{l:List Env},h.FunFrames base l->(∀b∈frs l,b∈x)->h.FunFrames (holes h x) l
 |[],_,_=>by unfold Heap.FunFrames;trivial
 |env::l,hf,hx=>by
  unfold Heap.FunFrames at hf ⊢;obtain ⟨h1,⟨L,o,e1,_,e3,e4⟩,hr⟩:=hf;have hL:L∈frs (env::l):=by unfold frs;rw[fE,e1];exact bS
  refine ⟨h1,⟨L,o,e1,gF (hx L hL),e3,e4⟩,kY hr λb hb=>hx b ?_⟩;unfold frs at hb ⊢;rw[fE,e1];exact bi _ hb
theorem wI{h base:Heap}{env:Env}{l:List Env}(hf:h.FunFrames base (env::l)):∃L,env.frame=some L:=by unfold Heap.FunFrames at hf;obtain ⟨_,⟨L,o,e1,_⟩,_⟩:=hf;exact ⟨L,e1⟩
def Tr(h0:Heap)(H:Hp)(h:Heap)(a:Addr)(c:Value):Prop:=
 ∃oe vs T oT ts,h.get? a=some oe/\oe.cls=c/\oe.data=.fields vs/\vs[1]?=some (.ref T)/\T≠a/\h.get? T=some oT/\oT.data=.fields ts/\ts[3]?=some .none/\
  h0.get? a=none/\h0.get? T=none/\H a=none/\H T=none
def CX1(P:Program)(w:World):CXT:=λouter H s E e s'=>
 ∃(a:Addr)(c:Value)(H':Hp),e=.ref a/\s'.os=s.os/\AllBare s'.gens/\Un (frs outer) [] H H' s.heap s'.heap/\HOk P w H' s'.heap/\Tr s.heap H' s'.heap a c/\E c none H'
theorem DP{P:Program}{w:World}{fs st:List Addr}{H0 H:Hp}{h0 h h':Heap}{l:List Env}{a:Addr}{xs:List Addr}{c:Value}(un:Un fs [] H0 H h0 h)(hok:HOk P w H h)
  (up:∀b∈fs,b∈st) (old:∀b o,h0.get? b=some o->b∉fs->b∉st) (fr:∀b∈st,H b=none/\∃o,h.get? b=some o/\∀vs,o.data≠.fields vs)
  (ha:h0.get? a=none) (hHa:H a=none) (hxs:∀x∈xs,h0.get? x=none/\H x=none)
  (L:(holes h (st++a::xs)).Left l a c h h'):Un fs [] H0 H h0 h'/\HOk P w H h'/\Tr h0 H h' a c:=by
 obtain ⟨stay,_,tr,slots⟩:=L;have old:∀b o,h0.get? b=some o->b∉fs->b∉st++a::xs:=by
  intro b o hb hf hin;rcases a7.mp hin with hin |hin
  ·exact old b o hb hf hin
  ·rcases a9.mp hin with e |e
   ·rw[e,ha]at hb;cases hb
   ·rw[(hxs b e).1]at hb;cases hb
 have kept:∀b o,h.get? b=some o->b∉st++a::xs->h'.get? b=some o:=λb o e hn=>stay b o (by rw[wG hn];exact e);have trk:∀b o,H b=some o->b∉st++a::xs:=by
  intro b o hb hin;rcases a7.mp hin with hin |hin
  ·rw[(fr b hin).1]at hb;cases hb
  ·rcases a9.mp hin with e |e
   ·rw[e,hHa]at hb;cases hb
   ·rw[(hxs b e).2]at hb;cases hb
 have noex:∀b:Addr,b∉([]:List Addr):=λb hb=>by cases hb
 have frd:∀b∈st,∀o,h.get? b=some o->∀vs,o.data≠.fields vs:=by intro b hb o ho vs;obtain ⟨_,o',e1,e2⟩:=fr b hb;rw[e1]at ho;cases ho;exact e2 vs
 refine ⟨⟨?_,?_,?_,?_,un.tups,un.frzs,un.tbls⟩,?_,?_⟩
 ·intro b o hb hn hf _;exact kept b o (un.keep b o hb hn hf (noex b)) (old b o hb hf)
 ·intro b o hb hn hf _;obtain ⟨sl,e⟩:=un.slot b o hb hn hf (noex b);obtain ⟨sl',e'⟩:=slots b _ e (frd b (up b hf) _ e);exact ⟨sl',e'⟩
 ·intro b o hb hn _;exact un.free b o hb hn (noex b)
 ·intro b o hb _;obtain ⟨o',e⟩:=un.there b o hb (noex b);by_cases hin:b∈st++a::xs
  ·rcases a7.mp hin with h1 |h1
   ·obtain ⟨sl',e'⟩:=slots b _ e (frd b h1 _ e);exact ⟨_,e'⟩
   ·rcases a9.mp h1 with e2 |e2
    ·rw[e2,ha]at hb;cases hb
    ·rw[(hxs b e2).1]at hb;cases hb
  ·exact ⟨_,kept b o' e hin⟩
 ·intro b o hb;refine (hok b o hb).stay (λb' u hb' e=>kept b' u e ?_) (λ_ z=>z) λ_ _ z=>z;rcases hb' with rfl |hb'
  ·exact trk _ _ hb
  ·exact trk _ _ hb'
 ·obtain ⟨oe,vs,T,oT,ts,t1,t2,t3,t4,t5,t6,t7,t8,t9⟩:=tr;have hT:T∈xs\/h.get? T=none:=by
   by_cases hin:T∈st++a::xs
   ·rcases a7.mp hin with h1 |h1
    ·exfalso;obtain ⟨_,o,e1,e2⟩:=fr T h1;obtain ⟨sl,e3⟩:=slots T o e1 e2;rw[e3]at t7;cases t7;exact e2 ts t8
    ·rcases a9.mp h1 with e2 |e2
     ·exact absurd e2 t6
     ·exact .inl e2
   ·rw[wG hin]at t5;exact .inr t5
  refine ⟨oe,vs,T,oT,ts,t1,t2,t3,t4,t6,t7,t8,t9,ha,?_,hHa,?_⟩
  ·rcases hT with h1 |h1
   ·exact (hxs T h1).1
   ·cases e:h0.get? T with
    |none=>rfl
    |some o=>obtain ⟨o',e'⟩:=un.there T o e (noex T);rw[e']at h1;cases h1
  ·rcases hT with h1 |h1
   ·exact (hxs T h1).2
   ·exact hok.gone h1
section
variable {X:Cx} {pins:List (Addr×Obj)} {σ:St} {H:Hp} {s:Shared}
theorem DQ(J:Inv X pins σ H s)(hst:X.stack=X.env::X.outer)(hex:X.ex=[]){a:Addr}{xs:List Addr}{c:Value}{E:XK}
  (ha:X.s₀.heap.get? a=none) (hHa:H a=none) (hxs:∀x∈xs,X.s₀.heap.get? x=none/\H x=none)
  {h':Heap} (L:(holes s.heap (frs X.stack++a::xs)).Left (X.env::X.outer) a c s.heap h') (q:E c none H):
  CX1 X.prog X.w X.outer X.H₀ X.s₀ E (.ref a) { s with heap:=h' }:=by
 have sub:=J.stkSub;have hb0:=J.base;rw[hex]at hb0;have up:∀b∈X.fs,b∈frs X.stack:=by
  intro b hb;rw[hst];unfold Cx.fs at hb;unfold frs at hb ⊢;rw[fE];split
  ·exact hb
  ·exact bi _ hb
 have old:∀b o,X.s₀.heap.get? b=some o->b∉X.fs->b∉frs X.stack:=by
  intro b o hb hf hin;rcases a9.mp (sub b hin) with e |e
  ·have h1:=aE hb;have h2:=J.ok.above;rw[e]at h1;exact absurd h1 (Nat.not_lt.mpr h2)
  ·exact hf e
 obtain ⟨u,k,t⟩:=DP hb0 J.hok up old (λb hb=>⟨J.stkFree b hb,wH J.stack b hb⟩) ha hHa hxs L;exact ⟨a,c,H,rfl,J.os,J.bare,u,k,t,q⟩
theorem Zq(J:Inv X pins σ H s)(hst:X.stack=X.env::X.outer)(hex:X.ex=[]){a:Addr}{c:Value}{E:XK}(t:Tr X.s₀.heap H s.heap a c)(q:E c none H){E':Value->Shared->Prop}:
  wpAny (model X.prog X.w) X.A (leaving X.env (.ref a)) (λ_ s''=>CX1 X.prog X.w X.outer X.H₀ X.s₀ E (.ref a) s'') E' s:=by
 obtain ⟨oe,vs,T,oT,ts,t1,t2,t3,t4,t6,t7,t8,t9,n1,n2,n3,n4⟩:=t;have hfr:=J.stack;rw[hst]at hfr;obtain ⟨L,hL⟩:=wI hfr;have sub:∀b∈frs (X.env::X.outer),b∈frs X.stack++a::[T]:=λb hb=>by rw[hst];exact cK _ hb
 refine wpAny_leaving_next (base:=holes s.heap (frs X.stack++a::[T])) (cls:=c) (by rw[J.ok.frames,hst]) (kY hfr sub) hL ?_ qQ (gF (by simp)) λh' hl=>?_
 ·exact ⟨oe,vs,T,oT,ts,t1,t2,t3,t4,gF (by simp),t6,t7,t8,t9⟩
 ·exact DQ J hst hex n1 n3 (λx hx=>by rw[ay.mp hx];exact ⟨n2,n4⟩) hl q
theorem Zr{h':Heap}(I:Inv X pins σ H s)(hst:X.stack=X.env::X.outer)(hex:X.ex=[]){a:Addr}{c:Value}{args:List Value}{E:XK}(m:s.heap.MadeExcOf h' a c args)(q:E c none H){E':Value->Shared->Prop}:
  wpAny (model X.prog X.w) X.A (leaving X.env (.ref a)) (λ_ s''=>CX1 X.prog X.w X.outer X.H₀ X.s₀ E (.ref a) s'') E' { s with heap:=h' }:=by
 have J:Inv X pins σ H { s with heap:=h' }:=I.kept (t':=s.toks) m.keeps;have hfr:=J.stack;rw[hst]at hfr;obtain ⟨L,hL⟩:=wI hfr;have sub:∀b∈frs (X.env::X.outer),b∈frs X.stack++a::[]:=λb hb=>by rw[hst];exact cK _ hb
 obtain ⟨t,e,_,_⟩:=m.there;have n1:X.s₀.heap.get? a=none:=by
  cases e:X.s₀.heap.get? a with
  |none=>rfl
  |some o=>
   obtain ⟨o',e'⟩:=I.base.there a o e (by rw[hex];simp);rw[m.new]at e';cases e'
 refine wpAny_leaving_first (base:=holes h' (frs X.stack++a::[])) (by rw[J.ok.frames,hst]) (kY hfr sub) hL e qQ (gF (by simp)) rfl rfl λh'' hl=>?_;exact DQ J hst hex n1 (I.hok.gone m.new) (λx hx=>by cases hx) hl q
theorem Zt{E:XK}(hst:X.stack=X.env::X.outer)(hex:X.ex=[])(hxe:∀e s',wpAny (model X.prog X.w) X.A (leaving X.env e) (λ_ s''=>CX1 X.prog X.w X.outer X.H₀ X.s₀ E e s'') (λe' s''=>CX1 X.prog X.w X.outer X.H₀ X.s₀ E e' s'') s'->X.xe e s'):
  eZ (CX1 X.prog X.w) X E:=by
 intro pins σ H s e s' I h;obtain ⟨a,c,H',rfl,ho,hg,un,hok,tr,q⟩:=h;have J:Inv X pins σ H' s':=I.call' (ch:=[]) ho un hok hg (λb z=>absurd z (by simp));refine hxe _ _ (Zq J hst hex ?_ q);obtain ⟨oe,vs,T,oT,ts,t1,t2,t3,t4,t6,t7,t8,t9,n1,n2,n3,n4⟩:=tr;have old:∀b,s.heap.get? b=none->X.s₀.heap.get? b=none:=λb hb=>by
  cases e:X.s₀.heap.get? b with
  |none=>rfl
  |some o=>
   obtain ⟨o',e'⟩:=I.base.there b o e (by rw[hex];simp);rw[hb]at e';cases e'
 exact ⟨oe,vs,T,oT,ts,t1,t2,t3,t4,t6,t7,t8,t9,old a n1,old T n2,n3,n4⟩
theorem DR{P:Program}{w:World}(Y:Cx):eZ (CX1 P w) Y λ_ _ _=>False:=λ_ _ _ _ _ _ _ h=>by
 obtain ⟨_,_,_,_,_,_,_,_,_,q⟩:=h;exact q.elim
end
abbrev veM:List Value:=[.type "ValueError",.type "Exception",.type "BaseException",.type "object"]
noncomputable def wJ:List Value->Bool
 |[.type a,.type b,.type c,.type d]=>a=="ValueError"&&b=="Exception"&&c=="BaseException"&&d=="object"
 |_=>false
theorem Zu{l:List Value}(h:wJ l=true):l=veM:=by
 unfold wJ at h;split at h
 ·simp only[ae,aw]at h;obtain ⟨⟨⟨rfl,rfl⟩,rfl⟩,rfl⟩:=h;rfl
 ·cases h
def DW:Value->Bool
 |.str _ _=>true
 |_=>false
noncomputable def nsB(K:PF)(N:Addr):Bool:=match K.lookup N with
 |some ⟨_,_,.dict es _,_⟩=>es.toList.all (λe=>DW e.key)&&quietNames.all λn=>(nsFind es n).isNone
 |_=>false
theorem DX{K:PF}{N:Addr}{h:Heap}(KX:K.In h)(b:nsB K N=true):∃m,h.Ns N m/\∀n∈quietNames,m n=none:=by
 unfold nsB at b;split at b
 ·rename_i c d es ep sl e;rw[ae,ci,ci]at b;refine ⟨nsFind es,⟨_,es,ep,KX _ _ e,rfl,λx hx=>?_,λ_=>rfl⟩,λn hn=>by simpa using b.2 n hn⟩;have:=b.1 x (Array.mem_toList_iff.mpr hx);unfold DW at this;split at this
  ·rename_i y t e;exact ⟨_,_,e⟩
  ·cases this
 ·cases b
noncomputable def DY(K:PF)(A:Addr):Bool:=match K.lookup A with
 |some ⟨_,_,.cls cd,_⟩=>nsB K cd.ns
 |_=>false
noncomputable def qR(K:PF):List Value->Bool
 |[]=>false
 |v::tl=>(match v with |.ref A=>DY K A&&qR K tl |_=>wJ (v::tl))
theorem Ea{K:PF}{h:Heap}(KX:K.In h):∀{l:List Value},qR K l=true->OwnTailQ h veM l
 |[],b=>by cases b
 |v::tl,b=>by
  unfold qR at b;split at b
  ·rename_i A;rw[ae]at b;have b1:=b.1;unfold DY at b1;split at b1
   ·rename_i c d cd sl e;obtain ⟨m,hm,hq⟩:=DX KX b1;exact .own (KX _ _ e) hm hq (Ea KX b.2)
   ·cases b1
  ·rw[Zu b];exact .base
def isRef(C:Addr):Value->Bool
 |.ref a=>a==C
 |_=>false
def isNew:Option Value->Bool
 |some (.builtin s)=>s=="ValueError.__new__"
 |_=>false
def Eb:Value->Bool
 |.type s=>s=="type"
 |_=>false
noncomputable def il(K:PF)(C:Addr):Bool:=match K.lookup C with
 |some ⟨ty,_,.cls cd,⟨[_,_,_,_,k,_]⟩⟩=>Eb ty&&isNew k&&nsB K cd.ns&&!cd.hasDel&&(match cd.mro with |v::tl=>isRef C v&&qR K tl |[]=>false)
 |_=>false
theorem Zv {K:PF} {C:Addr} {h:Heap} {mg:Str->Option Value} {x:Str} (KX:K.In h) (b:il K C=true) (hm:mg x=some (.ref C)):OwnClsQ x C veM "ValueError.__new__" mg h:=by
 unfold il at b;split at b
 ·rename_i ty dd cd k0 k1 k2 k3 k k5 e;simp only[ae]at b;obtain ⟨⟨⟨⟨b1,b2⟩,b3⟩,b5⟩,b4⟩:=b;obtain ⟨m,hns,hq⟩:=DX KX b3;have e1:ty=.type "type":=by
   unfold Eb at b1;split at b1
   ·rw[aw]at b1;rw[b1]
   ·cases b1
  have e2:k=some (.builtin "ValueError.__new__"):=by
   unfold isNew at b2;split at b2
   ·rw[aw]at b2;rw[b2]
   ·cases b2
  obtain ⟨nm,bs,mro,ns,q,hd,sn,sub,ab,col,del⟩:=cd;dsimp only at b4 hns b5;have e4:del=false:=by simpa using b5
  subst e4;split at b4
  ·rename_i v tl;rw[ae]at b4;have e3:v=.ref C:=by
    have:=b4.1;unfold isRef at this;split at this
    ·rw[aw]at this;rw[this]
    ·cases this
   subst e1 e2 e3;exact ⟨hm,tl,ns,nm,q,bs,hd,sn,sub,ab,col,dd,k0,k1,k2,k3,k5,m,KX _ _ e,hns,hq,Ea KX b4.2⟩
  ·cases b4
 ·cases b
theorem Zw{h:Heap}{bmB bm:List Value}(t:OwnTail h bmB bm){v:Value}(hv:bmB.contains v=true):bm.contains v=true:=by
 induction t with
 |base=>exact hv
 |own _ _ _ _ ih=>rw[List.contains_cons,ih,Bool.or_true]
theorem Ec{h h':Heap}(k:∀b o,h.get? b=some o->h'.get? b=some o){N:Addr}{m:Str->Option Value}(n:h.Ns N m):h'.Ns N m:=by obtain ⟨o,es,ep,e,r⟩:=n;exact ⟨o,es,ep,k _ _ e,r⟩
theorem Zx{h h':Heap}(k:∀b o,h.get? b=some o->h'.get? b=some o){bmB bm:List Value}(t:OwnTail h bmB bm):OwnTail h' bmB bm:=by
 induction t with
 |base=>exact .base
 |own e n i _ ih=>exact .own (k _ _ e) (Ec k n) i ih
section
variable {X:Cx}
abbrev TJ:=St->Hp->(Hp->Prop)->Prop
def PJ(X:Cx)(es:List Expr)(t:TJ)(n:Nat):Prop:=∀(pins:List (Addr×Obj))(s:Shared)(σ:St)(H:Hp)(Q:Hp->Prop)(out:Str),Inv X pins σ H s->out.length+n<=100000->t σ H Q->
 wpAny (model X.prog X.w) X.A (joinParts out (evalEach es X.env)) (EP X pins σ λv H'=>(∃x,v=.str x)/\Q H') X.xe s
theorem Zy:PJ X [] (λ_ H Q=>Q H) 0:=λpins s σ H Q out I hl q=>by
 refine joinParts_nil ⟨.str out,H,I.tok _,⟨_,rfl⟩,⟨_,rfl⟩,q⟩ ?_;have:sizeLine≥100000:=by decide
 omega
theorem qT(x y:Str):(x++y).length=x.length+y.length:=by show (x.cps++y.cps).size=_;rw[Array.size_append];rfl
theorem Zz{y:Str}{k:Nat}{p:Pos}{es:List Expr}{t:TJ}{n:Nat}(h:PJ X es t n):PJ X (.Constant (.str y) k p::es) t (y.length+n):=λpins s σ H Q out I hl q=>by
 have hz:sizeLine≥100000:=by decide
 refine joinParts_consE (joinParts_cons (Calls.Constant_str ?_));dsimp only;refine ⟨by rw[qT];omega,h pins _ σ H Q _ (I.tok _) (by rw[qT];omega) q⟩
theorem digits_le:∀n:Fin 100,(Str.ofString (toString (n.val:Int))).length<=3:=by ac_rfl
theorem ZC{e:Expr}{te:TE}{p:Pos}{es:List Expr}{t:TJ}{n:Nat}(he:PE X e te)(h:PJ X es t n):PJ X (.FormattedValue e (-1) none p::es) (λσ H Q=>te σ H λv H1=>(∃m:Nat,v=.int m/\m < 100)/\t σ H1 Q) (3+n):=λpins s σ H Q out I hl q=>by
 have hz:sizeLine≥100000:=by decide
 refine joinParts_consE (joinParts_cons (FormattedValue_plain (thn (he pins s σ H _ I q) λv s1 hy=>?_)));obtain ⟨x,H1,I1,r1,⟨m,rfl,hm⟩,q1⟩:=hy;obtain ⟨tk,rfl⟩:=r1;have hd:(Str.ofString (toString (m:Int))).length<=3:=digits_le ⟨m,hm⟩;refine formatField_int_small ?_ ?_
 ·have:(m:Int).natAbs=m:=Int.natAbs_natCast m;rw[this];exact Nat.lt_of_le_of_lt (Nat.log2_le_self m) (by omega)
 ·dsimp only;exact ⟨by rw[qT];omega,h pins _ σ H1 Q _ ((I1.tok _)) (by rw[qT];omega) q1⟩
theorem ZD{v1 v2:Expr}{es:List Expr}{t:TJ}{n:Nat}{pos:Pos}(h:PJ X (v1::v2::es) t n)(hn:n<=100000):PE X (.JoinedStr (v1::v2::es) pos) (λσ H Q=>t σ H λH1=>∀x,Q (.str x) H1):=λpins s σ H Q I q=>by
 refine JoinedStr_many ?_;refine c5 (h pins s σ H _ Str.empty I (by show 0+n<=_;omega) q) (λv s1 hy=>?_) λ_ _ z=>z;obtain ⟨x,H1,I1,r1,⟨y,rfl⟩,q1⟩:=hy;exact ⟨_,H1,I1,r1,q1 y⟩
def Throws(X:Cx)(E:XK):Prop:=∀(pins:List (Addr×Obj))(σ:St)(H:Hp)(s:Shared)(h':Heap)(a:Addr)(c:Value)(args:List Value),Inv X pins σ H s->s.heap.MadeExcOf h' a c args->E c none H->X.xe (.ref a) { s with heap:=h' }
theorem ZF{E:XK}(hst:X.stack=X.env::X.outer)(hex:X.ex=[])(hxe:∀e s',wpAny (model X.prog X.w) X.A (leaving X.env e) (λ_ s''=>CX1 X.prog X.w X.outer X.H₀ X.s₀ E e s'') (λe' s''=>CX1 X.prog X.w X.outer X.H₀ X.s₀ E e' s'') s'->X.xe e s'):Throws X E:=
 λ_ _ _ _ _ _ _ _ I m q=>hxe _ _ (Zr I hst hex m q)
theorem Ed{x:Str}{C:Addr}{np cpos pos:Pos}{e:Expr}{es:List Expr}{ta:TA}{E:XK}(hc:X.calm=true)(hg:Gl X x)(hm:X.mg x=some (.ref C))(hb:il X.K C=true)(hE:Throws X E)(ha:PA X (e::es) ta)
  (hdb:(x==("__debug__":Str))=false:=by decide) (he:starEach (e::es) X.env=(false,eval e X.env)::starEach es X.env:=by rfl) (hpl:(backTo cpos (starEach es X.env)).any (·.1)=false:=by rfl):
  PS X (.Raise (some (.Call (.Name x np) (e::es) [] cpos)) none pos) (λ_ σ H=>ta σ H λvs H1=>vs.length<=sizeLine/\E (.ref C) none H1):=by
 intro pins s σ H D I h;have kb:=I.ok.mod.kin;obtain ⟨bm,N,nm,q,bs,hd,sn,sub,ab,col,dd,k0,k1,k2,k3,k5,mN,b1,b2,b3,b4⟩:=(Zv kb hb hm:OwnClsQ x C veM "ValueError.__new__" X.mg X.base).own.obj;refine wpAny_Raise_call_subT (nm:=nm) (q:=q) (N:=N) (bs:=bs) (hdct:=hd) (sn:=sn) (sub:=sub) (ab:=ab) (col:=col) (dd:=dd) (k0:=k0) (k1:=k1) (k2:=k2) (k3:=k3) (k5:=k5) (F.excBase_ValueError) (Zw b4 (by decide)) (I.ok.hd hc) ?_ b3 (kE I hg hm ⟨rfl,?_⟩ hdb)
 ·rw[he];exact hpl
 ·have hsp:=ha cpos pins s σ H _ I h;rw[he]at hsp ⊢;refine Calls.evalArgs_plain (c5 hsp (λvs s2 hy=>?_) λ_ _ z=>z);obtain ⟨ws,H2,I2,r2,hl,q2⟩:=hy;refine ⟨rfl,by rw[<-r2.length];exact hl,I2.bk _ _ b1,Ec I2.bk b2,Zx I2.bk b4,λh' a m=>hE pins σ H2 s2 h' a _ _ I2 m q2⟩
end
section
variable {X:Cx}
abbrev Cx.marked(X:Cx)(a:Addr)(E:Value->Shared->Prop):Cx:={ X with A:=X.A.mark (some (.ref a)),calm:=false,xe:=E }
theorem Cx.Ok.marked{X:Cx}(ok:X.Ok)(a:Addr)(E:Value->Shared->Prop):(X.marked a E).Ok:=
 ⟨ok.mod,ok.kind,ok.glob,ok.blt,ok.above,ok.inj,ok.has,ok.cab,λh=>(by cases h),ok.frames,ok.stk,ok.exf,ok.bs,ok.bsz,ok.noex,ok.exfs,ok.funs,ok.frf⟩
variable {pins:List (Addr×Obj)} {σ:St} {H:Hp} {s:Shared}
theorem Inv.marked(I:Inv X pins σ H s)(a:Addr)(E:Value->Shared->Prop):Inv (X.marked a E) pins σ H s:=⟨I.ok.marked a E,I.os,I.bare,I.base,I.loc,I.cell,I.free,I.freeC,I.pin,I.hok,I.len⟩
theorem Inv.unmarked{a:Addr}{E:Value->Shared->Prop}(I:Inv (X.marked a E) pins σ H s)(ok:X.Ok):Inv X pins σ H s:=⟨ok,I.os,I.bare,I.base,I.loc,I.cell,I.free,I.freeC,I.pin,I.hok,I.len⟩
theorem SP.unmarked{a:Addr}{E:Value->Shared->Prop}{D:Ends}{f:Flow}{s':Shared}(ok:X.Ok)(h:SP (X.marked a E) pins D f s'):SP X pins D f s':=by
 cases f with
 |next=>obtain ⟨σ',H',I,q⟩:=h;exact ⟨σ',H',I.unmarked ok,q⟩
 |brk=>obtain ⟨σ',H',I,q⟩:=h;exact ⟨σ',H',I.unmarked ok,q⟩
 |cont=>obtain ⟨σ',H',I,q⟩:=h;exact ⟨σ',H',I.unmarked ok,q⟩
 |ret u=>obtain ⟨v,σ',H',I,r,q⟩:=h;exact ⟨v,σ',H',I.unmarked ok,r,q⟩
structure Caught(X:Cx)(H:Hp)(s:Shared)(H':Hp)(a:Addr)(c:Value)(s':Shared):Prop where
 os:s'.os=s.os
 bare:AllBare s'.gens
 un:Un (frs X.stack) [] H H' s.heap s'.heap
 hok:HOk X.prog X.w H' s'.heap
 tr:Tr s.heap H' s'.heap a c
variable {H':Hp} {a:Addr} {c:Value} {s':Shared}
theorem Caught.inv(K:Caught X H s H' a c s')(I:Inv X pins σ H s):Inv X pins σ H' s':=I.call' (ch:=[]) K.os K.un K.hok K.bare (λb z=>absurd z (by simp))
theorem Caught.left(K:Caught X H s H' a c s')(I:Inv X pins σ H s){T:Addr}{h':Heap}{l:List Env}(hT:s.heap.get? T=none/\H' T=none)(L:(holes s'.heap (frs X.stack++a::[T])).Left l a c s'.heap h'):Caught X H s H' a c { s' with heap:=h' }:=by have J:=K.inv I;obtain ⟨_,_,_,_,_,_,_,_,_,_,_,_,_,n1,_,n3,_⟩:=K.tr;obtain ⟨u,k,t⟩:=DP K.un K.hok (λb hb=>hb) (λb o _ hn=>hn) (λb hb=>⟨J.stkFree b hb,wH J.stack b hb⟩) n1 n3 (λx hx=>by rw[ay.mp hx];exact hT) L;exact ⟨K.os,K.bare,u,k,t⟩
theorem Caught.note(K:Caught X H s H' a c s')(I:Inv X pins σ H s)(hst:X.stack=X.env::X.outer){Q:Shared->Prop}{E1 E2:Value->Shared->Prop}(hQ:∀h2,Caught X H s H' a c { s' with heap:=h2 }->Q { s' with heap:=h2 }):
  wpAny (model X.prog X.w) X.A (noteFrame (.ref a) X.env) (λ_ s2=>wpAny (model X.prog X.w) X.A (setFlight (.ref a) none) (λ_ s3=>Q s3) E1 s2) E2 s':=by
 have J:=K.inv I;obtain ⟨oe,vs,T,oT,ts,t1,t2,t3,t4,t6,t7,t8,t9,n1,n2,n3,n4⟩:=K.tr;have hfr:=J.stack;rw[hst]at hfr;obtain ⟨L,hL⟩:=wI hfr;have sub:∀b∈frs (X.env::X.outer),b∈frs X.stack++a::[T]:=λb hb=>by rw[hst];exact cK _ hb
 obtain ⟨a0,h0⟩:∃a0,vs[0]?=some a0:=by obtain ⟨hi,_⟩:=fA.mp t4;exact ⟨vs[0],Array.getElem?_eq_getElem (by omega)⟩
 refine wpAny_noteFrame_onW (base:=holes s'.heap (frs X.stack++a::[T])) (cls:=c) (a0:=a0) (by rw[J.ok.frames,hst]) (kY hfr sub) hL ?_ qQ (gF (by simp)) λh1 hn=>?_
 ·exact ⟨oe,vs,T,oT,ts,t1,⟨t2,h0⟩,t3,t4,gF (by simp),t6,t7,t8,t9⟩
 ·obtain ⟨m1,m2,m3,m4⟩:=hn;refine wpAny_setFlight_noneW m1 m2 m3 λh2 p1 p2 p3 p4=>?_;refine hQ h2 (K.left I ⟨n2,n4⟩ (l:=X.env::X.outer) ⟨p1,p2,?_,λb o e d=>?_⟩)
  ·obtain ⟨oe,vs,T,oT,ts,t1,⟨t2,_⟩,r⟩:=p3;exact ⟨oe,vs,T,oT,ts,t1,t2,r⟩
  ·obtain ⟨sl,e'⟩:=m4 b o e d;exact ⟨sl,p4 b _ e' d⟩
theorem Caught.flight(K:Caught X H s H' a c s')(I:Inv X pins σ H s){A:Around}{Q:Shared->Prop}{E1:Value->Shared->Prop}(hQ:∀h2,Caught X H s H' a c { s' with heap:=h2 }->Q { s' with heap:=h2 }):
  wpAny (model X.prog X.w) A (setFlight (.ref a) none) (λ_ s3=>Q s3) E1 s':=by
 have J:=K.inv I;obtain ⟨oe,vs,T,oT,ts,t1,t2,t3,t4,t6,t7,t8,t9,n1,n2,n3,n4⟩:=K.tr;obtain ⟨a0,h0⟩:∃a0,vs[0]?=some a0:=by obtain ⟨hi,_⟩:=fA.mp t4;exact ⟨vs[0],Array.getElem?_eq_getElem (by omega)⟩
 refine wpAny_setFlight_noneW (base:=holes s'.heap (frs X.stack++a::[T])) (l:=X.stack) (cls:=c) (a0:=a0) (fl:=.none) qQ (kY J.stack λb hb=>cK _ hb) ?_ λh2 p1 p2 p3 p4=>?_
 ·exact ⟨oe,vs,T,oT,ts,t1,⟨t2,h0⟩,t3,t4,gF (by simp),t6,t7,t8,t9⟩
 ·refine hQ h2 (K.left I ⟨n2,n4⟩ (l:=X.stack) ⟨p1,p2,?_,λb o e d=>⟨o.slots,p4 b o e d⟩⟩);obtain ⟨oe,vs,T,oT,ts,t1,⟨t2,_⟩,r⟩:=p3;exact ⟨oe,vs,T,oT,ts,t1,t2,r⟩
end
open Builtin.ObjectAttr Builtin.Getset_descriptor
open PySem.W (findIn mroIn clsIn typeIn Looks InstAt looks_findIn looks_mroIn looks_typeIn)
noncomputable def Ef(K:PF)(D:Addr):Bool:=
 findIn K (.ref D) "__class__"==some (some (.builtin "object.__class__"))&&findIn K (.ref D) "__getattribute__"==some (some (.builtin "BaseException.__getattribute__"))&&findIn K (.ref D) "__getattr__"==some none &&
  mroIn K D (.type "object")==some true&&mroIn K D (.type "BaseException")==some true&&(clsIn K D).isSome
open PySem.W (findIn mroIn clsIn typeIn Looks looks_findIn looks_mroIn looks_typeIn)
section
variable {X:Cx}
def XO(H:Hp)(a c:Addr):Prop:=∃o y,H a=some (.frz o (.own y))/\o.cls=.ref c
def valOf:V->Value
 |.ref a=>.ref a
 |.ty n=>.type n
 |_=>.none
end
section
variable {M:Model} {A:Around} {E:Value->Shared->Prop} {h:Heap} {g:Array GenState} {d:Drawn} {t:Nat} {os:OsState} {e:Addr} {oe:Obj} {K:PF} {D C:Addr}
theorem ZG {Q:Bool->Shared->Prop} (X:K.In h) (he:h.get? e=some oe) (hcls:oe.cls=.ref D) (hC:typeIn K (.ref C)=some (.type "type")) (hk:(clsIn K C).isSome=true) (hB:mroIn K C (.type "BaseException")=some true) (hm:mroIn K D (.ref C)=some true)
  (hq:Q true ⟨h,g,d,t,os⟩):wpAny M A (excMatches (.ref e) (.ref C)) Q E ⟨h,g,d,t,os⟩:=by
 have f:=tc_notTuple;have L0:=looks_typeIn (M:=M) X hC;have L1:=looks_mroIn (M:=M) X hB;have L2:=looks_mroIn (M:=M) X hm;unfold clsIn at hk;split at hk
 ·rename_i c' d' cd' sl' ho;have hoC:=X _ _ ho;unfold excMatches;have hC2:(K.lookup C).map (·.cls)=some (.type "type"):=hC;rw[ho]at hC2;have ec:c'=.type "type":=by simpa using hC2
  subst ec;repeat (first | (with_reducible refine wpAny_loadPart_at he ?_;rw[hcls]) |with_reducible refine wpAny_loadPart_at hoC ?_ |with_reducible refine L1.at ?_ |with_reducible refine L2.at ?_ |wp_step)
  exact hq
 ·cases hk
end
section
variable {X:Cx}
abbrev TX:=(St->Hp->Prop)->(Value->St->Hp->Prop)->St->Hp->Prop
def XP(X:Cx)(pins:List (Addr×Obj))(ex:Value->St->Hp->Prop)(σ:St)(e:Value)(s1:Shared):Prop:=∃a c H1 s0 H',e=.ref a/\Inv X pins σ H1 s0/\Caught X H1 s0 H' a c s1/\ex c σ H'
def NP(X:Cx)(pins:List (Addr×Obj))(nx:St->Hp->Prop)(f:Flow)(s1:Shared):Prop:=f=.next/\∃σ' H',Inv X pins σ' H' s1/\nx σ' H'
def PXs(X:Cx)(sts:List Stmt)(t:TX):Prop:=
 ∀(pins:List (Addr×Obj))(s:Shared)(σ:St)(H:Hp)(nx:St->Hp->Prop)(ex:Value->St->Hp->Prop)(E':Value->Shared->Prop),Inv X pins σ H s->PassesOwn (model X.prog X.w) X.A X.env E'->(∀e s1,XP X pins ex σ e s1->E' e s1)->t nx ex σ H->
  wpAny (model X.prog X.w) X.A (execs sts X.env) (NP X pins nx) E' s
theorem ZJ{prog:Program}{w:World}{A:Around}{E:Value->Shared->Prop}{s:Shared}{env:Env}{K:PF}{e C D:Addr}{t:Expr}{b₀:Stmt}{suite:List Stmt}{pos:Pos}{rest:List ExceptHandler}{Q:Flow->Shared->Prop}
  (hC:typeIn K (.ref C)=some (.type "type")) (hk:(clsIn K C).isSome=true) (hB:mroIn K C (.type "BaseException")=some true) (hm:mroIn K D (.ref C)=some true)
  (h:wpAny (model prog w) (A.mark (some (.ref e))) (eval t env) (λc s₁=>c=.ref C/\K.In s₁.heap/\(∃oe,s₁.heap.get? e=some oe/\oe.cls=.ref D)/\
   wpAny (model prog w) (A.mark (some (.ref e))) (setFlight (.ref e) none) (λ_ s₂=>wpAny (model prog w) (A.mark (some (.ref e))) (execs (b₀::suite) env) Q (notedBy (model prog w) (A.mark (some (.ref e))) env (cameBackBy (model prog w) A env E)) s₂) (notedBy (model prog w) (A.mark (some (.ref e))) env (cameBackBy (model prog w) A env E)) s₁) (notedBy (model prog w) (A.mark (some (.ref e))) env (cameBackBy (model prog w) A env E)) s):
  wpAny (model prog w) A (handleBy (.ref e) env (.ExceptHandler (some t) none (b₀::suite) pos::rest)) Q E s:=by
 refine wpAny_handleBy_cons (codeAny_handlers_test (c5 h (λc s₁ h₁=>?_) λ_ _ y=>y)) (by intro q;cases q);obtain ⟨rfl,O,⟨oe,he,hcls⟩,hkk⟩:=h₁;obtain ⟨hh,g,d,tk,os⟩:=s₁;exact ZG O he hcls hC hk hB hm (codeAny_handlers_suite hkk)
structure Cat(K:PF)(C:Addr):Prop where
 t:typeIn K (.ref C)=some (.type "type")
 c:(clsIn K C).isSome=true
 b:mroIn K C (.type "BaseException")=some true
noncomputable def qU (K:PF) (C:Addr):Bool:=typeIn K (.ref C)==some (.type "type")&&(clsIn K C).isSome&&mroIn K C (.type "BaseException")==some true
theorem ZK{K:PF}{C:Addr}(h:qU K C=true):Cat K C:=by unfold qU at h;rw[ae,ae,aw,aw]at h;exact ⟨h.1.1,h.1.2,h.2⟩
theorem ZL{C:Addr}{cx y:Str}{i:Nat}{b:Bool}{j:Nat}{p1 p2 p3 p4 p5 pos:Pos}{body:List Stmt}{t:TX}(hb:PXs X body t)(hst:X.stack=X.env::X.outer)
  (hcg:Gl X cx) (hcm:X.mg cx=some (.ref C)) (hcb:Cat X.K C) (hN:X.N.Nodup) (hi:X.N[i]?=some y) (hx:Loc X.env.scope y) (hf:X.fn y=true\/X.env.scope.names.lookup y=some .local)
  (hs2:swapsWith (.Constant (.bool b) j p3) (some (.Name y p2)) p4.line X.env=pure false:=by rfl) (hdc:(cx==("__debug__":Str))=false:=by decide):
  PS X (.Try body [.ExceptHandler (some (.Name cx p1)) none [.Assign [.Name y p2] (.Constant (.bool b) j p3) p4] p5] [] [] pos)
   (λD σ H=>t D.nx (λc σ' H2=>∃d,c=.ref d/\mroIn X.K d (.ref C)=some true/\D.nx (σ'.set i (some (.bl b))) H2) σ H):=by
 intro pins s σ H D I h;refine wpAny_Try_except (c5 (hb pins s σ H _ _ _ I PassesOwn.looking (λe s1 q=>?_) h) (λf s1 q=>?_) λ_ _ q=>q)
 ·obtain ⟨a,c,H1,s0,H2,rfl,I1,K,d,rfl,hm,qn⟩:=q;refine K.note I1 hst λh3 K3=>ZJ (K:=X.K) (C:=C) (D:=d) hcb.t hcb.c hcb.b hm ?_;have J3:=K3.inv I1;have hcl:∃oe,h3.get? a=some oe/\oe.cls=.ref d:=by
   obtain ⟨oe,_,_,_,_,t1,t2,_⟩:=K3.tr;exact ⟨oe,t1,t2⟩
  refine kE (X:=X.marked a X.xe) (J3.marked a X.xe) hcg hcm ⟨rfl,J3.kIn,hcl,?_⟩ hdc;refine K3.flight I1 λh4 K4=>?_;have J4:=K4.inv I1;exact c5 (BX (v9 (X:=X.marked a _) hN hi hx BP hs2 hf) pins _ σ H2 D (J4.marked a _) qn) (λf s5 z=>z.unmarked J4.ok) λ_ _ z=>z
 ·obtain ⟨rfl,σ',H',I',q'⟩:=q;exact ft ⟨σ',H',I',q'⟩
end
open PySem.SeqAt
section
variable {X:Cx}
theorem wK:∀{bs:List Bool}{us:List Value},Vals (bs.map V.bl) us->us=bs.map Value.bool
 |[],us,r=>by cases r;rfl
 |b::bs,us,r=>by
  cases r with
  |cons r1 r2=>
   have e:_=Value.bool b:=r1;rw[e,wK r2];rfl
theorem Eg(k:Bool){bs:List Bool}:∀y,y∈(bs.map Value.bool)->∀(A:Around)(s:Shared),EqAt A s y (.bool k) (isBoolOf k y):=by intro y hy A s;obtain ⟨b,_,rfl⟩:=ba.mp hy;exact EqAt.bool_bool b k
theorem ZM(k:Bool)(bs:List Bool):(bs.map Value.bool).countP (isBoolOf k)=bs.count k:=by
 induction bs with
 |nil=>rfl
 |cons b bs ih=>
  rw[bq,List.countP_cons,ih,List.count_cons];rfl
noncomputable def ZP(K:PF):V->List V->Hp->VK->Prop:=λx vs H Q=>∃(p:Addr)(bs:List Bool),x=.ref p/\vs=[.bl true]/\SqL K H p (bs.map V.bl)/\Q (.int (bs.count true:Nat)) H
theorem ZQ:MtR X "list.count" (ZP X.K):=by intro pins s σ H x xs v us Q I rx rs h;obtain ⟨p,bs,rfl,rfl,hq,q⟩:=h;cases rx;obtain ⟨u,rfl,ru⟩:=vals1 rs;cases ru;obtain ⟨its,rv,⟨o,n,ho,hc,hd,hdd⟩,hz⟩:=I.list hq;obtain ⟨cls,dd,data,sl⟩:=o;simp only at hc hd hdd;subst hc hd hdd;have e:=wK rv;subst e;refine fo PySem.F.slot_list_count ⟨_,ho,rfl⟩ PySem.F.entry_list_count (PySem.F.args_list_count_2 _ _) (list_countAt p _ n _ sl (.bool true) (isBoolOf true)) ⟨ho,λy hy=>Eg true y (by simpa using hy) _ _,?_⟩;refine ⟨.int _,H,I.tok _,⟨_,rfl⟩,?_⟩;rw[show ((bs.map Value.bool).toArray).toList=bs.map Value.bool from rfl,ZM];exact q
noncomputable def ZR(K:PF):V->List V->Hp->VK->Prop:=λx vs H Q=>∃(p:Addr)(bs:List Bool),x=.ref p/\vs=[.bl true]/\SqL K H p (bs.map V.bl)/\true∈bs/\Q (.int (bs.idxOf true:Nat)) H
theorem Eh(bs:List Bool)(j:Nat)(h:j < (bs.map Value.bool).length)(h':j < bs.length):isBoolOf true (bs.map Value.bool)[j]=(bs[j]==true):=by rw[List.getElem_map];rfl
theorem ZS:MtR X "list.index" (ZR X.K):=by
 intro pins s σ H x xs v us Q I rx rs h;obtain ⟨p,bs,rfl,rfl,hq,hin,q⟩:=h;cases rx;obtain ⟨u,rfl,ru⟩:=vals1 rs;cases ru;obtain ⟨its,rv,⟨o,n,ho,hc,hd,hdd⟩,hz⟩:=I.list hq;obtain ⟨cls,dd,data,sl⟩:=o;simp only at hc hd hdd;subst hc hd hdd;have e:=wK rv;subst e;have hj:bs.idxOf true < bs.length:=List.idxOf_lt_length_iff.mpr hin;have hz':bs.length<=sizeLine:=by rw[ag]at hz;exact hz
 have hs:sizeLine < 2 ^ 63 - 1:=by decide
 refine fo PySem.F.slot_list_index ⟨_,ho,rfl⟩ PySem.F.entry_list_index (PySem.F.args_list_index_2 _ _) (list_indexAt p _ n _ sl (.bool true) (isBoolOf true) (bs.idxOf true) (by simpa using hj) (by omega) ?_ ?_) ⟨ho,λy hy=>Eg true y (by simpa using hy) _ _,?_⟩
 ·have h3:bs.idxOf true < (bs.map Value.bool).length:=by rw[ag];exact hj
  show isBoolOf true ((bs.map Value.bool)[bs.idxOf true]'h3)=true;rw[Eh bs _ h3 hj];simpa using List.getElem_idxOf hj
 ·intro j hjs hlt;have h2:j < bs.length:=by omega
  have h3:j < (bs.map Value.bool).length:=by rw[ag];exact h2
  show isBoolOf true ((bs.map Value.bool)[j]'h3)=false;rw[Eh bs j h3 h2];have h4:j < bs.findIdx (·==true):=hlt;simpa using List.not_of_lt_findIdx h4
 ·exact ⟨.int _,H,I.tok _,⟨_,rfl⟩,q⟩
end
section
variable {X:Cx}
theorem ZV:OpR X (binaryOp .FloorDiv) (rI (λ_ j=>0 < j/\j < 1152921504606846976) λi j=>.int (i / j)):=opI λi j _ _ _ _ _ hc q=>by
 have h1:(0:Int) < j:=hc.1;have h2:j < 1152921504606846976:=hc.2;refine floordiv_int (by omega) (by rw[Int.fdiv_eq_ediv_of_nonneg i (by omega)];exact q) (.inl (PyProof.noPylong_of_log2 ?_));have:j.natAbs.log2 < 60:=(Nat.log2_lt (by omega)).mpr (by show j.natAbs < 1152921504606846976;omega);omega
def wL(m:Nat):Str:=Str.ofString (toString (m:Int))
theorem ZW{m:Nat}(h:m < 100):(m:Int).natAbs.log2 < 1920:=by have:(m:Int).natAbs=m:=Int.natAbs_natCast m;rw[this];exact Nat.lt_of_le_of_lt (Nat.log2_le_self m) (by omega)
theorem ZX:bC X (.type "str") (λxs H Q=>∃m:Nat,xs=[.int m]/\m < 100/\Q (.str (wL m)) H):=by intro pins s σ H xs us Q I r h;obtain ⟨m,rfl,hm,q⟩:=h;obtain ⟨u,rfl,ru⟩:=vals1 r;obtain ⟨t,rfl⟩:=ru;exact PySem.P.str_of_int (ZW hm) ⟨.str _,H,I.tok _,⟨_,rfl⟩,q⟩
end
end L2
namespace HT
open PySem PySem.Spec PyProof.Rows Builtin
theorem ZZ:fillsNumberSlot (.type "tuple") "mul"=pure false:=
 PySem.fillsNumberSlot_seq (id:="tuple.__mul__") (r:=some (.builtin "tuple.__rmul__")) PySem.F.slot_tuple_mul.lookup (by ac_rfl) PySem.F.slot_tuple_rmul.lookup (by ac_rfl)
theorem Z0:seqRepeat? (.type "tuple")=pure (some (.builtin "tuple.__mul__")):=by unfold seqRepeat?;rw[PySem.seqSlot_of (T:="tuple") (name:="__mul__") (id:="tuple.__mul__") PySem.F.slot_tuple_mul.lookup (by ac_rfl),PySem.seqSlot_of (T:="tuple") (name:="__rmul__") (id:="tuple.__rmul__") PySem.F.slot_tuple_rmul.lookup (by ac_rfl)];rfl
theorem Z1(a:Int)(t:Tok)(l:Addr)(items:Array Value)(n:Nat)(dd:Option Addr)(sl:Array (Option Value)):
  Meets (Builtin.«int.__rmul__» ⟨[.int a t,.ref l],[]⟩) (λ_ R s=>s.heap.get? l=some { cls:=.type "tuple",dict:=dd,data:=.seq items n,slots:=sl }/\R (.ok (.ret Value.notImplemented)) s):=
 .of_wp λprog w A R s h=>by obtain ⟨hp,g,d,tk,os⟩:=s;obtain ⟨hl,h⟩:=h;wp_walk;exact ⟨_,rfl,h⟩
theorem Z2(l:Addr)(items:Array Value)(n:Nat)(dd:Option Addr)(sl:Array (Option Value))(k:Int)(t:Tok)(h2:2<=k)(hk:k<=1000)(hne:items.isEmpty=false)(hz:items.size * k.toNat<=sizeLine)(hz2:(List.foldl (λx1 x2=>x1++x2) #[] (List.replicate k.toNat items)).size<=sizeLine):
  Meets (Builtin.«tuple.__mul__» ⟨[.ref l,.int k t],[]⟩) (λ_ R s=>s.heap.get? l=some { cls:=.type "tuple",dict:=dd,data:=.seq items n,slots:=sl }/\
   R (.ok (.ret (.ref s.heap.objs.size))) { s with heap:=s.heap.push { cls:=.type "tuple",data:=.seq ((List.replicate k.toNat items).foldl (· ++ ·) #[]) } }):=
 .of_wp λprog w A R s h=>by
  obtain ⟨hp,g,d,tk,os⟩:=s;obtain ⟨hl,h⟩:=h;have a1:(decide (k < -(2 ^ 63))||decide (k≥2 ^ 63))=false:=by rw[decide_eq_false (by omega),decide_eq_false (by omega)];rfl
  have a2:(items.isEmpty||k==1)=false:=by rw[hne,Bool.false_or,beq_eq_false_iff_ne];omega
  have a3:(decide (k<=0)||items.isEmpty)=false:=by rw[decide_eq_false (by omega),hne];rfl
  have hs:(items.size:Int) * k=((items.size * k.toNat:Nat):Int):=by rw[Int.natCast_mul,Int.toNat_of_nonneg (by omega)]
  have hsl:sizeLine<=1152921504606846975:=by decide
  have a4:¬((items.size:Int) * k > (2 ^ 63 - 1) / 8):=by rw[hs];omega
  have a5:¬(Tuple.tupleTooMany ((items.size:Int) * k)=true):=by unfold Tuple.tupleTooMany;rw[decide_eq_true_iff,hs];omega
  wp_walk
  rw[if_neg (by rw[a1];exact Bool.false_ne_true)];wp_walk
  rw[if_neg (by rw[a2];exact Bool.false_ne_true)];dsimp only;rw[if_neg (by rw[a3];exact Bool.false_ne_true),if_neg a4,if_neg a5];unfold Tuple.tupleExact;wp_walk
  exact ⟨_,rfl,h⟩
end HT
namespace L2
open PySem PySem.Spec PyProof.Rows
section
variable {X:Cx}
def Z3(K:PF):R2:=λx y H Q=>∃(l:Addr)(k:Int)(xs:List V),x=.ref l/\y=.int k/\SqT K H l xs/\xs≠[]/\2<=k/\k<=1000/\xs.length * k.toNat<=sizeLine/\∀p,H p=none->Q (.ref p) (upd H p (.tup (List.replicate k.toNat xs).flatten))
theorem Z4:OpR X (binaryOp .Mult) (Z3 X.K):=by
 intro pins s σ H x y v u Q I rx ry h;obtain ⟨l,k,xs,rfl,rfl,hT,hne,h2,hk,hz,q⟩:=h;cases rx;obtain ⟨t,rfl⟩:=ry;obtain ⟨its,r,pt,_⟩:=I.tuple hT;obtain ⟨⟨cls,dd,data,sl⟩,ho,hc,n,hd⟩:=id pt;simp only at hc hd;subst hc hd;have hl:=r.length;have hz':its.toArray.size * k.toNat<=sizeLine:=by rw[am,<-hl];exact hz
 have he:its.toArray.isEmpty=false:=by
  cases its with
  |nil=>exact absurd (df.mp hl) hne
  |cons _ _=>rfl
 have hnew:List.foldl (λx1 x2=>x1++x2) #[] (List.replicate k.toNat its.toArray)=(List.replicate k.toNat its).flatten.toArray:=by have:=foldl_rep its k.toNat [];rw[List.nil_append]at this;exact this
 refine wpAny_binaryOp_repeat_ref (T:="tuple") (U:="int") (by decide) ⟨_,ho,rfl⟩ (λs'=>typeIs_int s' k t) HT.ZZ F.fills_int_mul F.slot_int_rmul HT.Z0 F.slot_int_index.lookup
  (fo F.slot_int_rmul (typeIs_int s k t) F.entry_int_rmul (F.args_int_rmul_2 _ _) (HT.Z1 k t l its.toArray n dd sl)
   ⟨ho,rfl,⟨_,ho,rfl⟩,fo PySem.F.slot_tuple_mul ⟨_,ho,rfl⟩ PySem.F.entry_tuple_mul (PySem.F.args_tuple_mul_2 _ _) (HT.Z2 l its.toArray n dd sl k t h2 hk he hz' (by rw[hnew,am,len_rep,Nat.mul_comm,<-hl];exact hz)) ⟨ho,?_⟩⟩)
 rw[hnew];refine ⟨.ref s.heap.objs.size,_,I.laid (t':=s.toks) (o:=.tup (List.replicate k.toNat xs).flatten) (λb ob q=>al _ q) (ax _) ?_,rfl,q _ (I.hok.fresh (ax _))⟩;exact ⟨by rw[len_rep,Nat.mul_comm];exact hz,_,r.rep k.toNat,IsTup.new _ _⟩
end
end L2
namespace HT
open PySem PySem.Spec PyProof.Rows Builtin
theorem Z5(a:Int)(t:Tok)(l:Addr)(items:Array Value)(n:Nat)(dd:Option Addr)(sl:Array (Option Value)):
  Meets (Builtin.«int.__rmul__» ⟨[.int a t,.ref l],[]⟩) (λ_ R s=>s.heap.get? l=some { cls:=.type "list",dict:=dd,data:=.seq items n,slots:=sl }/\R (.ok (.ret Value.notImplemented)) s):=
 .of_wp λprog w A R s h=>by obtain ⟨hp,g,d,tk,os⟩:=s;obtain ⟨hl,h⟩:=h;wp_walk;exact ⟨_,rfl,h⟩
theorem Z6(l:Addr)(items:Array Value)(n:Nat)(dd:Option Addr)(sl:Array (Option Value))(x:Int)(u:Tok)(hc0:¬(!Builtin.List.listFitsIndex x)=true)(hc1:¬items.size * x.toNat > (2 ^ 63 - 1) / 8)(hc2:¬Builtin.List.listTooLong (items.size * x.toNat)=true):
  Meets (Builtin.«list.__mul__» ⟨[.ref l,.int x u],[]⟩) (λ_ R s=>s.heap.get? l=some { cls:=.type "list",dict:=dd,data:=.seq items n,slots:=sl }/\R (.ok (.ret (Value.ref s.heap.objs.size))) { s with heap:=s.heap.push { cls:=Value.type "list",data:=Data.seq (List.foldl (λx1 x2=>x1++x2) #[] (List.replicate (if items.isEmpty=true then 0 else x.toNat) items)) },toks:=s.toks }):=
 .of_wp λprog w A R s h=>by
  obtain ⟨hp,g,d,tk,os⟩:=s;obtain ⟨hl,h⟩:=h;have hsz:=AutoListH.joined_fits hc2;wp_walk;refine wpAny_ite_false (decide_eq_false (Nat.not_lt.mpr hsz)) ?_;wp_walk;exact ⟨_,rfl,h⟩
end HT
namespace L2
open PySem PySem.Spec PyProof.Rows
section
variable {X:Cx}
def Z7(K:PF):R2:=λx y H Q=>∃(l:Addr)(k:Int)(xs:List V),x=.ref l/\y=.int k/\SqL K H l xs/\0<=k/\k<=1000/\xs.length * k.toNat<=sizeLine/\∀p,H p=none->Q (.ref p) (upd H p (.lst (List.replicate k.toNat xs).flatten))
theorem Z8:OpR X (binaryOp .Mult) (Z7 X.K):=by
 intro pins s σ H x y v u Q I rx ry h;obtain ⟨l,k,xs,rfl,rfl,hH,h1,h2,hz,q⟩:=h;cases rx;obtain ⟨t,rfl⟩:=ry;obtain ⟨its,r,⟨⟨cls,dd,data,sl⟩,n,e,c1,c2,c3⟩,_⟩:=I.list hH;simp only at c1 c2 c3;have hl:=r.length;have hlen:its.toArray.size * k.toNat<=sizeLine:=by rw[am,<-hl];exact hz
 have hcap:¬its.toArray.size * k.toNat > (2 ^ 63 - 1) / 8:=by
  have:(sizeLine:Nat)<=(2 ^ 63 - 1) / 8:=by decide
  omega
 have hfit:¬(!Builtin.List.listFitsIndex k)=true:=by rw[fitsIndex_both (by omega) (by omega)];exact bo
 have hlong:¬Builtin.List.listTooLong (its.toArray.size * k.toNat)=true:=by rw[Dk hlen];exact bo
 have hnew:List.foldl (λx1 x2=>x1++x2) #[] (List.replicate (if its.toArray.isEmpty=true then 0 else k.toNat) its.toArray)=(List.replicate k.toNat its).flatten.toArray:=by
  have f0:∀m:Nat,List.foldl (λx1 x2=>x1++x2) #[] (List.replicate m its.toArray)=(List.replicate m its).flatten.toArray:=λm=>by
   have:=foldl_rep its m [];rw[List.nil_append]at this;exact this
  rw[f0];cases its with
  |nil=>simp
  |cons a r'=>rw[if_neg (by simp)]
 subst c1 c3;refine wpAny_binaryOp_repeat_ref (T:="list") (U:="int") (by decide) ⟨_,e,rfl⟩ (λs'=>typeIs_int s' k t) noFill_list_mul F.fills_int_mul F.slot_int_rmul repeat_list F.slot_int_index.lookup
  (fo F.slot_int_rmul (typeIs_int s k t) F.entry_int_rmul (F.args_int_rmul_2 _ _) (HT.Z5 k t l its.toArray n dd sl)
   ⟨e,rfl,⟨_,e,rfl⟩,fo F.slot_list_mul ⟨_,e,rfl⟩ F.entry_list_mul (F.args_list_mul_2 _ _) (HT.Z6 l its.toArray n dd sl k t hfit hcap hlong) ⟨e,?_⟩⟩)
 rw[hnew];exact ⟨.ref _,_,I.lnew (t':=s.toks) (r.rep k.toNat) (by rw[len_rep,Nat.mul_comm];exact hz),rfl,q _ I.fresh⟩
end
end L2
namespace PySem
end PySem
namespace L2
open PySem PySem.Spec PyProof.Rows
end L2
namespace PyProof.Rows
open PySem
theorem Z9 {prog:Program} {w:World} {A:Around} {E:Value->Shared->Prop} {s:Shared} {it:Addr} {T:String} {o:Obj} {items:List Value} {n:Nat} {ns:List Int} {Q:Value->Shared->Prop} (hT:T="list"\/T="tuple")
  (ho:s.heap.get? it=some o) (hc:o.cls=.type T) (hd:o.data=.seq items.toArray n) (hI:IntsAre items ns) (h64:items.length < 64)
  (h:∀(h1 h':Heap) (e:Nat) (out:Array Value) (ns':List Int),IntsAre out.toList ns'->ns'.Perm ns->ns'.Pairwise (·<=·)->(∀b o',s.heap.get? b=some o'->h1.get? b=some o')->(∀b o',h1.get? b=some o'->h'.get? b=some o')->h'.get? h1.objs.size=some (seqObj "list" out e)->Q (.ref h1.objs.size) { s with heap:=h' }):
  wpAny (model prog w) A (call (.builtin "sorted") [.ref it]) Q E s:=by
 refine Calls.call_function_entry kind_sorted plain_sorted entry_sorted (args_sorted1 _) ?_;unfold Builtin.«sorted»;refine wpAny_bind (m:=checkCount "sorted" 1 1 _) (wpAny_pure ?_);refine wpAny_bind (wpAny_collect_seq it hT ho hc hd (λh1 k1=>?_) (by rw[List.size_toArray,sizeLine_eq];omega));refine wpAny_bind (wpAny_newList ?_);have e1:items.toArray.toList=items:=by simp
 rw[e1];have hoL:(h1.push (seqObj "list" items.toArray 0)).get? h1.objs.size=some (seqObj "list" items.toArray 0):=Heap.get?_push_size _ rfl;show wpAny _ _ _ _ _ { s with heap:=h1.push (seqObj "list" items.toArray 0) };refine wpAny_bind (wpAny_holding (wpAny_call_entry slot_list_sort ⟨_,hoL,rfl⟩ entry_list_sort (list_sort_tree hoL hI h64 λout ns' a1 a2 a3=>⟨_,rfl,?_⟩) (args_list_sort _)));obtain ⟨e,he⟩:=sortedHeap_at (vs:=items) (out:=out) hoL;refine wpAny_pure ⟨_,rfl,h h1 _ e out ns' a1 a2 a3 k1 (λb o' hb1=>?_) he⟩;rw[sortedHeap_old (Nat.ne_of_lt (Heap.lt_size hb1)) (by rw[size_push'];exact Nat.lt_succ_of_lt (Heap.lt_size hb1))];exact Heap.get?_push_of_some _ hb1
end PyProof.Rows
namespace L2
open PySem PySem.Spec PyProof.Rows
theorem ajh {X:Cx}:bC X (.builtin "sorted") (λxs H Q=>∃(p:Addr) (ns:List Int),xs=[.ref p]/\SqT X.K H p (ns.map V.int)/\ns.length < 64/\∀ns':List Int,ns'.Perm ns->ns'.Pairwise (·<=·)->∀l,H l=none->Q (.ref l) (upd H l (.lst (ns'.map V.int)))):=by
 intro pins s σ H xs us Q I r h;obtain ⟨p,ns,rfl,hq,h64,q⟩:=h;obtain ⟨u,rfl,ru⟩:=vals1 r;cases ru;obtain ⟨its,rv,⟨o,ho,hc,n,hd⟩,hz⟩:=I.tuple hq;have hlen:its.length=ns.length:=by rw[<-rv.length];simp
 refine Z9 (.inr rfl) ho hc hd (intsAre_of rv) (by omega) λh1 h' e out ns' a1 a2 a3 k1 k2 he=>?_;have I1:Inv X pins σ H { s with heap:=h1 }:=I.kept (t':=s.toks) k1;have hsz:(ns'.map V.int).length<=sizeLine:=by rw[ag,a2.length_eq,gg];omega
 exact ⟨.ref h1.objs.size,_,I1.laid (t':=s.toks) k2 (ax _) (show ObjOk X.prog X.w _ _ _ (.lst (ns'.map V.int)) from ⟨hsz,out.toList,e,wy a1,by rw[Array.toArray_toList];exact he⟩),rfl,q ns' a2 a3 _ (I1.hok.fresh (ax _))⟩
end L2
namespace RF
open PySem PySem.Spec PyProof.Rows L2
inductive D where
 |non |bl (b:Bool) |int (i:Int) |str (l:List Nat) |tup (xs:List D) |lst (xs:List D) |ref (a:Addr) |scr (ns:List Int) |exn (C:String) |obj (C f:String) (q:Addr)
 deriving Inhabited
inductive DO where
 |lst (xs:List D)
 deriving Inhabited
abbrev DH:=Addr->Option DO
def aD(G:DH)(a:Addr)(o:DO):DH:=λb=>if b=a then some o else G b
def ir(G:DH)(a:Addr):DH:=λb=>if b=a then none else G b
theorem aW{G:DH}{a:Addr}{o:DO}:aD G a o a=some o:=if_pos rfl
theorem bO{G:DH}{a b:Addr}{o:DO}(h:b≠a):aD G a o b=G b:=if_neg h
theorem wM{G:DH}{a:Addr}:ir G a a=none:=if_pos rfl
theorem Ei{G:DH}{a b:Addr}(h:b≠a):ir G a b=G b:=if_neg h
theorem aaa{G:DH}{a:Addr}{o u:DO}:aD (aD G a o) a u=aD G a u:=by funext b;unfold aD;split <;> rfl
theorem Ej{G:DH}{a:Addr}{o:DO}(h:G a=none):ir (aD G a o) a=G:=by
 funext b;unfold aD ir;split
 ·rename_i e;rw[e,h]
 ·rename_i e;exact if_neg e
theorem Ek{G:DH}{a b:Addr}{o:DO}(h:G a=some o)(h':G b=none):a≠b:=by intro e;subst e;rw[h]at h';cases h'
abbrev sz:Nat:=1000000
abbrev FZ:=Addr->Prop
def FzL(H:Hp)(F:FZ)(a:Addr)(vs:List V):Prop:=F a/\H a=some (.lst vs)
theorem FzL.sq{K:PF}{H:Hp}{F:FZ}{a:Addr}{vs:List V}(h:FzL H F a vs):SqL K H a vs:=.inl (.inl h.2)
structure TpT(K:PF)(H:Hp)(a:Addr)(vs:List V):Prop where
 it:H a=some (.tup vs)
theorem TpT.sq{K:PF}{H:Hp}{a:Addr}{vs:List V}(h:TpT K H a vs):SqT K H a vs:=.inl (.inl h.it)
def ScL(K:PF)(H:Hp)(a:Addr)(vs:List V):Prop:=
 (∃o,H a=some (.frz o (.lst vs)))\/
  ∃(o:Obj) (its:Array Value) (n:Nat),K.lookup a=some o/\o.cls=.type "list"/\o.dict=none/\o.data=.seq its n/\its.size<=sizeLine/\Vals vs its.toList
theorem ScL.sq{K:PF}{H:Hp}{a:Addr}{vs:List V}(h:ScL K H a vs):SqL K H a vs:=by
 rcases h with ⟨o,h⟩ |h
 ·exact .inl (.inr ⟨o,h⟩)
 ·exact .inr h
def FzO(H:Hp)(F:FZ)(a c dx:Addr)(f:Str)(q:Addr):Prop:=F a/\H a=some (.ins c dx [(f,.ref q)])
mutual
noncomputable def Rep(K:PF)(H:Hp)(F:FZ):D->V->Prop
 |.non,v=>v=.non
 |.bl b,v=>v=.bl b
 |.int i,v=>v=.int i
 |.str l,v=>v=.str (tx l)/\l.length<=sz
 |.tup ds,v=>∃a vs,v=.ref a/\TpT K H a vs/\Reps K H F ds vs
 |.lst ds,v=>∃a vs,v=.ref a/\FzL H F a vs/\Reps K H F ds vs
 |.ref a,v=>v=.ref a
 |.scr ns,v=>∃a,v=.ref a/\ScL K H a (ns.map V.int)
 |.obj C f q,v=>∃a c dx,v=.ref a/\FzO H F a c dx (Str.ofString f) q/\PySem.W.nsIn K mainGlobals (Str.ofString C)=some (some (.ref c))
 |.exn C,v=>∃a c,v=.ref a/\XO H a c/\PySem.W.nsIn K mainGlobals (Str.ofString C)=some (some (.ref c))
noncomputable def Reps(K:PF)(H:Hp)(F:FZ):List D->List V->Prop
 |[],vs=>vs=[]
 |d::ds,vs=>∃v r,vs=v::r/\Rep K H F d v/\Reps K H F ds r
end
structure Ext(H:Hp)(F:FZ)(H':Hp)(F':FZ):Prop where
 sub:∀a,F a->F' a
 keep:∀a,F a->H' a=H a
 tups:∀a xs,H a=some (.tup xs)->H' a=some (.tup xs)
 frzs:∀a o u,H a=some (.frz o u)->H' a=some (.frz o u)
theorem Ext.refl(H:Hp)(F:FZ):Ext H F H F:=⟨λ_ h=>h,λ_ _=>rfl,λ_ _ h=>h,λ_ _ _ h=>h⟩
theorem Ext.trans{H H1 H2:Hp}{F F1 F2:FZ}(a:Ext H F H1 F1)(b:Ext H1 F1 H2 F2):Ext H F H2 F2:=
 ⟨λc h=>b.sub c (a.sub c h),λc h=>(b.keep c (a.sub c h)).trans (a.keep c h),λc xs h=>b.tups c xs (a.tups c xs h),λc o u h=>b.frzs c o u (a.frzs c o u h)⟩
section
variable {K:PF} {H H':Hp} {F F':FZ}
theorem TpT.ext{a:Addr}{vs:List V}(x:Ext H F H' F')(h:TpT K H a vs):TpT K H' a vs:=⟨x.tups _ _ h.it⟩
theorem FzL.ext{a:Addr}{vs:List V}(x:Ext H F H' F')(h:FzL H F a vs):FzL H' F' a vs:=⟨x.sub _ h.1,(x.keep _ h.1).trans h.2⟩
theorem ScL.ext{a:Addr}{vs:List V}(x:Ext H F H' F')(h:ScL K H a vs):ScL K H' a vs:=by
 rcases h with ⟨o,h⟩ |h
 ·exact .inl ⟨o,x.frzs _ _ _ h⟩
 ·exact .inr h
mutual
theorem Rep.ext(x:Ext H F H' F'):∀{d:D}{v:V},Rep K H F d v->Rep K H' F' d v
 |.non,_,h=>h
 |.bl _,_,h=>h
 |.int _,_,h=>h
 |.str _,_,h=>h
 |.tup _,_,⟨a,vs,e,q,r⟩=>⟨a,vs,e,TpT.ext x q,Reps.ext x r⟩
 |.lst _,_,⟨a,vs,e,q,r⟩=>⟨a,vs,e,FzL.ext x q,Reps.ext x r⟩
 |.ref _,_,h=>h
 |.scr _,_,⟨a,e,q⟩=>⟨a,e,ScL.ext x q⟩
 |.obj _ _ _,_,⟨a,c,dx,e,⟨hf,hh⟩,n⟩=>⟨a,c,dx,e,⟨x.sub _ hf,(x.keep _ hf).trans hh⟩,n⟩
 |.exn _,_,⟨a,c,e,⟨o,y,q,hc⟩,n⟩=>⟨a,c,e,⟨o,y,x.frzs _ _ _ q,hc⟩,n⟩
theorem Reps.ext(x:Ext H F H' F'):∀{ds:List D}{vs:List V},Reps K H F ds vs->Reps K H' F' ds vs
 |[],_,h=>h
 |_::_,_,⟨v,r,e,h,t⟩=>⟨v,r,e,Rep.ext x h,Reps.ext x t⟩
end
theorem Reps.nil:Reps K H F [] []:=rfl
theorem Reps.cons{d:D}{v:V}{ds:List D}{vs:List V}(h:Rep K H F d v)(t:Reps K H F ds vs):Reps K H F (d::ds) (v::vs):=⟨v,vs,rfl,h,t⟩
theorem Reps.length:∀{ds:List D}{vs:List V},Reps K H F ds vs->ds.length=vs.length
 |[],_,h=>by cases h;rfl
 |_::_,_,⟨v,r,e,_,t⟩=>by subst e;simp[Reps.length t]
theorem Reps.append:∀{ds es:List D}{vs us:List V},Reps K H F ds vs->Reps K H F es us->Reps K H F (ds++es) (vs++us)
 |[],_,_,_,h,t=>by cases h;exact t
 |_::_,_,_,_,⟨v,r,e,h,t⟩,t'=>by subst e;exact ⟨v,_,rfl,h,Reps.append t t'⟩
theorem Reps.get:∀{ds:List D}{vs:List V}{i:Nat}{d:D},Reps K H F ds vs->ds[i]?=some d->∃v,vs[i]?=some v/\Rep K H F d v
 |[],_,_,_,_,e=>by simp at e
 |_::_,_,0,_,⟨v,r,e,h,t⟩,q=>by subst e;simp at q;subst q;exact ⟨v,rfl,h⟩
 |_::_,_,i+1,d,⟨v,r,e,h,t⟩,q=>by
  subst e;obtain ⟨u,h1,h2⟩:=Reps.get (i:=i) (d:=d) t (by simpa using q);exact ⟨u,by simpa using h1,h2⟩
theorem Reps.set{d:D}{v:V}(r:Rep K H F d v):∀{ds:List D}{vs:List V}(i:Nat),Reps K H F ds vs->Reps K H F (ds.set i d) (vs.set i v)
 |[],_,_,h=>by cases h;exact rfl
 |_::_,_,0,⟨v',r',e,h,t⟩=>by subst e;exact ⟨_,_,rfl,r,t⟩
 |_::_,_,i+1,⟨v',r',e,h,t⟩=>by subst e;exact ⟨_,_,rfl,h,Reps.set r i t⟩
theorem Reps.take:∀{ds:List D}{vs:List V}(n:Nat),Reps K H F ds vs->Reps K H F (ds.take n) (vs.take n)
 |_,_,0,_=>rfl
 |[],_,_+1,h=>by cases h;exact rfl
 |_::_,_,n+1,⟨v',r',e,h,t⟩=>by subst e;exact ⟨_,_,rfl,h,Reps.take n t⟩
theorem Reps.drop:∀{ds:List D}{vs:List V}(n:Nat),Reps K H F ds vs->Reps K H F (ds.drop n) (vs.drop n)
 |_,_,0,h=>h
 |[],_,_+1,h=>by cases h;exact rfl
 |_::_,_,n+1,⟨v',r',e,h,t⟩=>by subst e;exact Reps.drop n t
theorem Reps.cut{ds:List D}{vs:List V}(h:Reps K H F ds vs)(lo hi:Option Int):
  Reps K H F ((ds.drop (HT.sIx ds.length 0 lo)).take (HT.sIx ds.length ds.length hi - HT.sIx ds.length 0 lo)) (d7 vs lo hi):=by
 unfold d7;rw[<-h.length];exact (h.drop _).take _
theorem Reps.rep{ds:List D}{vs:List V}(h:Reps K H F ds vs):∀k:Nat,Reps K H F (List.replicate k ds).flatten (List.replicate k vs).flatten
 |0=>rfl
 |k+1=>by
  rw[cb,cb,eM,eM];exact Reps.append h (Reps.rep h k)
end
def aab(K:PF)(H:Hp)(F:FZ)(a:Addr):DO->Prop
 |.lst ds=>∃vs,H a=some (.lst vs)/\Reps K H F ds vs
structure R(K:PF)(H:Hp)(F:FZ)(G:DH):Prop where
 fz:∀a,F a->G a=none/\∃o,H a=some o
 ob:∀a o,G a=some o->aab K H F a o
section
variable {K:PF} {H:Hp} {F:FZ} {G:DH} {p:Addr} {vs:List V} {ds:List D}
theorem R.lst(r:R K H F G)(h:G p=some (.lst ds)):∃vs,H p=some (.lst vs)/\Reps K H F ds vs:=r.ob p _ h
theorem R.free(r:R K H F G)(h:H p=none):G p=none:=by
 cases e:G p with
 |none=>rfl
 |some o=>
  cases o with
  |lst ds=>obtain ⟨vs,q,_⟩:=r.lst e;rw[h]at q;cases q
theorem R.notF(r:R K H F G)(h:H p=none):¬F p:=λf=>by
 obtain ⟨_,vs,q⟩:=r.fz p f;rw[h]at q;cases q
theorem dw{o:HO}(r:R K H F G)(h:H p=none):Ext H F (upd H p o) F:=
 ⟨λ_ f=>f,λa f=>aK λe=>r.notF h (by rw[<-e];exact f),λa xs q=>by rw[aK (bu q h)];exact q,λa ob u q=>by rw[aK (bu q h)];exact q⟩
theorem R.new{o:HO}(r:R K H F G)(h:H p=none):R K (upd H p o) F G:=by
 have x:Ext H F (upd H p o) F:=dw r h;refine ⟨λa f=>⟨(r.fz a f).1,?_⟩,λa u e=>?_⟩
 ·obtain ⟨_,vs,q⟩:=r.fz a f;exact ⟨vs,by rw[x.keep a f];exact q⟩
 ·cases u with
  |lst ds=>
   obtain ⟨vs,q,t⟩:=r.lst e;exact ⟨vs,by rw[aK (bu q h)];exact q,Reps.ext x t⟩
theorem R.newL(r:R K H F G)(h:H p=none)(t:Reps K H F ds vs):R K (upd H p (.lst vs)) F (aD G p (.lst ds)):=by
 have x:Ext H F (upd H p (.lst vs)) F:=dw r h;have r':R K (upd H p (.lst vs)) F G:=r.new h;refine ⟨λa f=>⟨?_,(r'.fz a f).2⟩,λa u e=>?_⟩
 ·rw[bO λe=>r.notF h (by rw[<-e];exact f)];exact (r.fz a f).1
 ·by_cases ha:a=p
  ·subst ha;rw[aW]at e;cases e;exact ⟨vs,cP,Reps.ext x t⟩
  ·rw[bO ha]at e;exact r'.ob a u e
theorem wN(r:R K H F G)(h:H p=none):Ext H F (upd H p (.lst vs)) (λa=>F a\/a=p):=
 ⟨λ_ f=>.inl f,(dw r h).keep,(dw r h).tups,(dw r h).frzs⟩
theorem R.newF(r:R K H F G)(h:H p=none):R K (upd H p (.lst vs)) (λa=>F a\/a=p) G:=by
 have x:Ext H F (upd H p (.lst vs)) (λa=>F a\/a=p):=wN r h;refine ⟨λa f=>?_,λa u e=>?_⟩
 ·rcases f with f |f
  ·obtain ⟨g,vs',q⟩:=r.fz a f;exact ⟨g,vs',by rw[x.keep a f];exact q⟩
  ·subst f;exact ⟨r.free h,_,cP⟩
 ·cases u with
  |lst ds=>
   obtain ⟨vs',q,t⟩:=r.lst e;exact ⟨vs',by rw[aK (bu q h)];exact q,Reps.ext x t⟩
theorem wO{o:HO}(r:R K H F G)(h:H p=none):Ext H F (upd H p o) (λa=>F a\/a=p):=
 ⟨λ_ f=>.inl f,(dw r h).keep,(dw r h).tups,(dw r h).frzs⟩
theorem R.newO{o:HO}(r:R K H F G)(h:H p=none):R K (upd H p o) (λa=>F a\/a=p) G:=by
 have x:Ext H F (upd H p o) (λa=>F a\/a=p):=wO r h;refine ⟨λa f=>?_,λa u e=>?_⟩
 ·rcases f with f |f
  ·obtain ⟨g,vs',q⟩:=r.fz a f;exact ⟨g,vs',by rw[x.keep a f];exact q⟩
  ·subst f;exact ⟨r.free h,_,cP⟩
 ·cases u with
  |lst ds=>
   obtain ⟨vs',q,t⟩:=r.lst e;exact ⟨vs',by rw[aK (bu q h)];exact q,Reps.ext x t⟩
theorem aac(r:R K H F G)(h:H p=none)(t:Reps K H F ds vs):Rep K (upd H p (.lst vs)) (λa=>F a\/a=p) (.lst ds) (.ref p):=
 ⟨p,vs,rfl,⟨.inr rfl,cP⟩,Reps.ext (wN r h) t⟩
theorem wQ(r:R K H F G)(h:H p=none)(t:Reps K H F ds vs):Rep K (upd H p (.tup vs)) F (.tup ds) (.ref p):=
 ⟨p,vs,rfl,⟨cP⟩,Reps.ext (dw r h) t⟩
theorem jm{H:Hp}{a x c dx:Addr}{u:HO}{fs:List (Str×V)}(h:H a=some u)(hx:H x=some (.ins c dx []))(hu:u≠.ins c dx []):a≠x:=λe=>hu (by subst e;rw[h]at hx;exact dk hx)
mutual
theorem Rep.setO{x c dx:Addr}{fs:List (Str×V)}(hx:H x=some (.ins c dx [])):∀{d:D}{v:V},Rep K H F d v->Rep K (upd H x (.ins c dx fs)) F d v
 |.non,_,h=>h
 |.bl _,_,h=>h
 |.int _,_,h=>h
 |.str _,_,h=>h
 |.tup _,_,⟨a,vs,e,q,r⟩=>⟨a,vs,e,⟨by rw[aK (jm (fs:=fs) q.it hx (by intro w;cases w))];exact q.it⟩,Reps.setO hx r⟩
 |.lst _,_,⟨a,vs,e,q,r⟩=>⟨a,vs,e,⟨q.1,by rw[aK (jm (fs:=fs) q.2 hx (by intro w;cases w))];exact q.2⟩,Reps.setO hx r⟩
 |.ref _,_,h=>h
 |.scr _,_,⟨a,e,q⟩=>⟨a,e,by
   rcases q with ⟨o,q⟩ |q
   ·exact .inl ⟨o,by rw[aK (jm (fs:=fs) q hx (by intro w;cases w))];exact q⟩
   ·exact .inr q⟩
 |.obj _ _ _,_,⟨a,c',dx',e,⟨hf,hh⟩,n⟩=>⟨a,c',dx',e,⟨hf,by rw[aK (jm (fs:=fs) hh hx (by intro w;cases w))];exact hh⟩,n⟩
 |.exn _,_,⟨a,c',e,⟨o,y,q,hc⟩,n⟩=>⟨a,c',e,⟨o,y,by rw[aK (jm (fs:=fs) q hx (by intro w;cases w))];exact q,hc⟩,n⟩
theorem Reps.setO{x c dx:Addr}{fs:List (Str×V)}(hx:H x=some (.ins c dx [])):∀{ds:List D}{vs:List V},Reps K H F ds vs->Reps K (upd H x (.ins c dx fs)) F ds vs
 |[],_,h=>h
 |_::_,_,⟨v,r,e,h,t⟩=>⟨v,r,e,Rep.setO hx h,Reps.setO hx t⟩
end
theorem R.setO{x c dx:Addr}{fs:List (Str×V)}(r:R K H F G)(hx:H x=some (.ins c dx [])):R K (upd H x (.ins c dx fs)) F G:=by
 refine ⟨λa f=>⟨(r.fz a f).1,?_⟩,λa u e=>?_⟩
 ·by_cases h:a=x
  ·exact ⟨_,by rw[h,cP]⟩
  ·rw[aK h];exact (r.fz a f).2
 ·cases u with
  |lst ds=>
   obtain ⟨vs,q,t⟩:=r.lst e;exact ⟨vs,by rw[aK (jm (fs:=fs) q hx (by intro w;cases w))];exact q,Reps.setO hx t⟩
theorem fW{ds0:List D}{o:HO}(r:R K H F G)(h:G p=some (.lst ds0)):Ext H F (upd H p o) F:=by
 obtain ⟨vs0,q,_⟩:=r.lst h;refine ⟨λ_ f=>f,λa f=>aK λe=>?_,λa xs z=>?_,λa ob u z=>?_⟩
 ·subst e;rw[(r.fz a f).1]at h;cases h
 ·rw[aK (By z q (by intro w;cases w))];exact z
 ·rw[aK (By z q (by intro w;cases w))];exact z
theorem R.write{ds0:List D}(r:R K H F G)(h:G p=some (.lst ds0))(t:Reps K H F ds vs):R K (upd H p (.lst vs)) F (aD G p (.lst ds)):=by
 have x:Ext H F (upd H p (.lst vs)) F:=fW r h;refine ⟨λa f=>⟨?_,?_⟩,λa u e=>?_⟩
 ·rw[bO λe=>by subst e;rw[(r.fz a f).1]at h;cases h];exact (r.fz a f).1
 ·obtain ⟨_,vs',q⟩:=r.fz a f;exact ⟨vs',by rw[x.keep a f];exact q⟩
 ·by_cases ha:a=p
  ·subst ha;rw[aW]at e;cases e;exact ⟨vs,cP,Reps.ext x t⟩
  ·rw[bO ha]at e;cases u with
   |lst ds'=>
    obtain ⟨vs',q,t'⟩:=r.lst e;exact ⟨vs',by rw[aK ha];exact q,Reps.ext x t'⟩
theorem wR:Ext H F H (λa=>F a\/a=p):=⟨λ_ f=>.inl f,λ_ _=>rfl,λ_ _ h=>h,λ_ _ _ h=>h⟩
theorem R.frz(r:R K H F G)(h:G p=some (.lst ds)):R K H (λa=>F a\/a=p) (ir G p):=by
 have x:Ext H F H (λa=>F a\/a=p):=wR;refine ⟨λa f=>?_,λa u e=>?_⟩
 ·rcases f with f |f
  ·obtain ⟨g,vs',q⟩:=r.fz a f;refine ⟨?_,vs',q⟩;by_cases ha:a=p
   ·rw[ha];exact wM
   ·rw[Ei ha];exact g
  ·subst f;obtain ⟨vs,q,_⟩:=r.lst h;exact ⟨wM,_,q⟩
 ·by_cases ha:a=p
  ·rw[ha,wM]at e;cases e
  ·rw[Ei ha]at e;cases u with
   |lst ds'=>
    obtain ⟨vs',q,t'⟩:=r.lst e;exact ⟨vs',q,Reps.ext x t'⟩
theorem aad(r:R K H F G)(h:G p=some (.lst ds)):Rep K H (λa=>F a\/a=p) (.lst ds) (.ref p):=by obtain ⟨vs,q,t⟩:=r.lst h;exact ⟨p,vs,rfl,⟨.inr rfl,q⟩,Reps.ext wR t⟩
end
def view(G:DH):D->D
 |.ref p=>match G p with |some (.lst ds)=>.lst ds |none=>.ref p
 |d=>d
theorem Rep.list{K:PF}{H:Hp}{F:FZ}{G:DH}{d:D}{v:V}{ds:List D}(r:R K H F G)(h:Rep K H F d v)(e:view G d=.lst ds):∃a vs,v=.ref a/\SqL K H a vs/\Reps K H F ds vs:=by
 cases d with
 |lst xs=>
  have e':D.lst xs=.lst ds:=e;cases e';obtain ⟨a,vs,e1,q,t⟩:=h;exact ⟨a,vs,e1,q.sq,t⟩
 |ref p=>
  have hv:v=.ref p:=h;unfold view at e;cases g:G p with
  |none=>simp only[g]at e;cases e
  |some o=>
   cases o with
   |lst xs=>
    simp only[g]at e;cases e;obtain ⟨vs,q,t⟩:=r.lst g;exact ⟨p,vs,hv,.inl (.inl q),t⟩
 |_=>cases (show _=D.lst ds from e)
theorem fj{G:DH}{d:D}{ds:List D}(e:view G d=.tup ds):d=.tup ds:=by
 cases d with
 |ref p=>
  unfold view at e;cases g:G p with
  |none=>simp only[g]at e;cases e
  |some o=>cases o;simp only[g]at e;cases e
 |_=>exact e
theorem fu{G:DH}{d:D}{l:List Nat}(e:view G d=.str l):d=.str l:=by
 cases d with
 |ref p=>
  unfold view at e;cases g:G p with
  |none=>simp only[g]at e;cases e
  |some o=>cases o;simp only[g]at e;cases e
 |_=>exact e
theorem dz{G:DH}{d:D}{l:Int}(e:view G d=.int l):d=.int l:=by
 cases d with
 |ref p=>
  unfold view at e;cases g:G p with
  |none=>simp only[g]at e;cases e
  |some o=>cases o;simp only[g]at e;cases e
 |_=>exact e
theorem wU{G:DH}{d:D}{l:Bool}(e:view G d=.bl l):d=.bl l:=by
 cases d with
 |ref p=>
  unfold view at e;cases g:G p with
  |none=>simp only[g]at e;cases e
  |some o=>cases o;simp only[g]at e;cases e
 |_=>exact e
theorem El{G:DH}{d:D}(e:view G d=.non):d=.non:=by
 cases d with
 |ref p=>
  unfold view at e;cases g:G p with
  |none=>simp only[g]at e;cases e
  |some o=>cases o;simp only[g]at e;cases e
 |_=>exact e
abbrev ak:=List (Option D)
def EnvR(K:PF)(H:Hp)(F:FZ):ak->L2.St->Prop
 |[],σ=>σ=[]
 |o::ρ,σ=>∃u τ,σ=u::τ/\(∀d,o=some d->∃v,u=some v/\Rep K H F d v)/\EnvR K H F ρ τ
section
variable {K:PF} {H H':Hp} {F F':FZ}
theorem EnvR.ext(x:Ext H F H' F'):∀{ρ:ak}{σ:L2.St},EnvR K H F ρ σ->EnvR K H' F' ρ σ
 |[],_,h=>h
 |_::_,_,⟨u,τ,e,h,t⟩=>⟨u,τ,e,λd q=>by obtain ⟨v,e1,r⟩:=h d q;exact ⟨v,e1,Rep.ext x r⟩,EnvR.ext x t⟩
theorem EnvR.get:∀{ρ:ak}{σ:L2.St}{i:Nat}{d:D},EnvR K H F ρ σ->ρ[i]?=some (some d)->∃v,σ[i]?=some (some v)/\Rep K H F d v
 |[],_,_,_,_,e=>by simp at e
 |_::_,_,0,d,⟨u,τ,e,h,t⟩,q=>by
  subst e;obtain ⟨v,e1,r⟩:=h d (by simpa using q);exact ⟨v,by simp[e1],r⟩
 |_::_,_,i+1,d,⟨u,τ,e,h,t⟩,q=>by
  subst e;obtain ⟨v,e1,r⟩:=EnvR.get (i:=i) (d:=d) t (by simpa using q);exact ⟨v,by simpa using e1,r⟩
theorem EnvR.set{d:D}{v:V}(r:Rep K H F d v):∀{ρ:ak}{σ:L2.St}(i:Nat),EnvR K H F ρ σ->EnvR K H F (ρ.set i (some d)) (σ.set i (some v))
 |[],_,_,h=>by cases h;exact rfl
 |_::_,_,0,⟨u,τ,e,h,t⟩=>by subst e;exact ⟨_,_,rfl,λd' q=>⟨v,rfl,by cases q;exact r⟩,t⟩
 |_::_,_,i+1,⟨u,τ,e,h,t⟩=>by subst e;exact ⟨_,_,rfl,h,EnvR.set r i t⟩
theorem EnvR.unset:∀{ρ:ak}{σ:L2.St}(i:Nat),EnvR K H F ρ σ->EnvR K H F (ρ.set i Option.none) (σ.set i Option.none)
 |[],_,_,h=>by cases h;exact rfl
 |_::_,_,0,⟨u,τ,e,h,t⟩=>by subst e;exact ⟨_,_,rfl,λd' q=>(nomatch q),t⟩
 |_::_,_,i+1,⟨u,τ,e,h,t⟩=>by subst e;exact ⟨_,_,rfl,h,EnvR.unset i t⟩
theorem EnvR.none:∀(n:Nat),EnvR K H F (List.replicate n Option.none) (List.replicate n Option.none)
 |0=>rfl
 |n+1=>⟨_,_,rfl,λd q=>(nomatch q),EnvR.none n⟩
theorem EnvR.start:∀{ds:List D}{vs:List V}(n:Nat),Reps K H F ds vs->EnvR K H F (ds.map some++List.replicate n Option.none) (vs.map some++List.replicate n Option.none)
 |[],_,n,h=>by cases h;exact EnvR.none n
 |d::ds,_,n,⟨v,r,e,h,t⟩=>by
  subst e;exact ⟨_,_,rfl,λd' q=>⟨v,rfl,by cases q;exact h⟩,EnvR.start n t⟩
theorem EnvR.cap{ρ:ak}{σ:L2.St}(h:EnvR K H F ρ σ):∀(cap:List (Option Nat)),EnvR K H F (cap.map λo=>match o with |Option.none=>Option.none |some j=>(ρ[j]?).join) (d9 cap σ)
 |[]=>rfl
 |Option.none::cap=>⟨_,_,rfl,λd q=>(nomatch q),EnvR.cap h cap⟩
 |some j::cap=>by
  refine ⟨_,_,rfl,λd q=>?_,EnvR.cap h cap⟩;have q':(ρ[j]?).join=some d:=q;have z:ρ[j]?=some (some d):=by
   cases e:ρ[j]? with
   |none=>rw[e]at q';cases q'
   |some o=>rw[e]at q';exact fb some q'
  obtain ⟨v,e1,r⟩:=h.get z;exact ⟨v,by show (σ[j]?).join=some v;rw[e1];rfl,r⟩
end
mutual
noncomputable def deq:D->D->Bool
 |.non,.non=>true
 |.bl a,.bl b=>a==b
 |.bl a,.int b=>(if a then 1 else 0)==b
 |.int a,.bl b=>a==(if b then 1 else 0)
 |.int a,.int b=>a==b
 |.str a,.str b=>a==b
 |.tup a,.tup b=>bJ a b
 |.lst a,.lst b=>bJ a b
 |_,_=>false
noncomputable def bJ:List D->List D->Bool
 |[],[]=>true
 |a::as,b::bs=>deq a b&&bJ as bs
 |_,_=>false
end
mutual
/-- no tracked object within -/
noncomputable def nr:D->Bool
 |.tup a=>nrs a
 |.lst a=>nrs a
 |.ref _=>false
 |.scr _=>false
 |.exn _=>false
 |.obj _ _ _=>false
 |_=>true
noncomputable def nrs:List D->Bool
 |[]=>true
 |a::as=>nr a&&nrs as
end
mutual
def dpt:D->Nat
 |.tup a=>aO a+1
 |.lst a=>aO a+1
 |_=>0
def aO:List D->Nat
 |[]=>0
 |a::as=>max (dpt a) (aO as)
end
noncomputable def truth:D->Option Bool
 |.non=>some false
 |.bl b=>some b
 |.int i=>some (i != 0)
 |.str l=>some (!l.isEmpty)
 |.tup l=>some (!l.isEmpty)
 |.lst l=>some (!l.isEmpty)
 |_=>none
noncomputable def cut{α:Type}(xs:List α)(lo hi:Option Int):List α:=(xs.drop (HT.sIx xs.length 0 lo)).take (HT.sIx xs.length xs.length hi - HT.sIx xs.length 0 lo)
def reps{α:Type}(xs:List α)(n:Nat):List α:=(List.replicate n xs).flatten
def mk(fz:Bool)(xs:List D)(G:DH)(k:D->DH->Prop):Prop:=
 match fz with
 |true=>k (.lst xs) G
 |false=>∀p,G p=none->k (.ref p) (aD G p (.lst xs))
def jn(fz:Bool)(a b:D)(G:DH)(k:D->DH->Prop):Prop:=
 match a with
 |.int i=>(match b with |.int j=>k (.int (i+j)) G |_=>False)
 |.str x=>(match b with |.str y=>x.length+y.length<=sz/\k (.str (x++y)) G |_=>False)
 |.lst x=>(match b with |.lst y=>x.length+y.length<=sz/\mk fz (x++y) G k |_=>False)
 |.tup x=>(match b with |.tup y=>x.length+y.length<=sz/\k (.tup (x++y)) G |_=>False)
 |_=>False
def gG(a b:D)(p:Int->Int->Prop):Prop:=
 match a with
 |.int i=>(match b with |.int j=>p i j |_=>False)
 |_=>False
def jo(fz:Bool)(a b:D)(G:DH)(k:D->DH->Prop):Prop:=
 match b with
 |.int n=>(match a with |.int i=>CMul i n/\k (.int (i * n)) G |.str x=>0<=n/\n<=1000/\x.length * n.toNat<=sz/\k (.str (reps x n.toNat)) G |.tup x=>2<=n/\n<=1000/\x≠[]/\x.length * n.toNat<=sz/\k (.tup (reps x n.toNat)) G |.lst x=>0<=n/\n<=1000/\x.length * n.toNat<=sz/\mk fz (reps x n.toNat) G k |_=>False)
 |_=>False
def cu(op:Operator)(fz:Bool)(a b:D)(G:DH)(k:D->DH->Prop):Prop:=
 match op with
 |.Add=>jn fz a b G k
 |.Sub=>gG a b λi j=>k (.int (i - j)) G
 |.Mult=>jo fz a b G k
 |.FloorDiv=>gG a b λi j=>(0 < j/\j < 1152921504606846976)/\k (.int (i / j)) G
 |.Mod=>gG a b λi j=>0 < j/\k (.int (i % j)) G
 |.Pow=>gG a b λi j=>qJ i j/\k (.int (i ^ j.toNat)) G
 |_=>False
def isIn(x:D)(ys:List D):Bool:=ys.any λy=>deq y x
def Em(a b:D):Prop:=nr a=true/\nr b=true/\min (dpt a) (dpt b)<=60
def inG(a:D)(l:List D):Prop:=nr a=true/\nrs l=true/\aO l<=60
def jq(a b:D)(k:Bool->Prop):Prop:=
 match a,b with
 |.int i,.int j=>k (decide (i < j))
 |.str i,.str j=>k (decide (i < j))
 |_,_=>False
def jr(a b:D)(k:Bool->Prop):Prop:=
 match a,b with
 |.int i,.int j=>k (decide (i<=j))
 |.str i,.str j=>k (!decide (j < i))
 |_,_=>False
def jt(a b:D)(k:Bool->Prop):Prop:=
 match a,b with
 |.int i,.int j=>k (decide (j < i))
 |_,_=>False
def ju(a b:D)(k:Bool->Prop):Prop:=
 match a,b with
 |.int i,.int j=>k (decide (j<=i))
 |_,_=>False
def qW(a:D):Bool:=match a with |.non=>true |_=>false
def jw(a b:D)(k:Bool->Prop):Prop:=
 match b with
 |.non=>k (qW a)
 |.bl b=>(match a with |.bl a=>k (a==b) |_=>False)
 |_=>False
def jx(a b:D)(k:Bool->Prop):Prop:=
 match b with
 |.non=>k (!qW a)
 |.bl b=>(match a with |.bl a=>k (a != b) |_=>False)
 |_=>False
def fX(a b:D)(k:Bool->Prop):Prop:=
 match b with
 |.str l=>(match a with |.str [c]=>k (l.contains c) |_=>False)
 |.lst l=>inG a l/\k (isIn a l)
 |.tup l=>inG a l/\k (isIn a l)
 |_=>False
def aX(op:CmpOp)(a b:D)(k:Bool->Prop):Prop:=
 match op with
 |.Eq=>Em a b/\k (deq a b)
 |.NotEq=>Em a b/\k (!deq a b)
 |.Lt=>jq a b k
 |.LtE=>jr a b k
 |.Gt=>jt a b k
 |.GtE=>ju a b k
 |.Is=>jw a b k
 |.IsNot=>jx a b k
 |.In=>fX a b k
 |.NotIn=>fX a b λc=>k (!c)
def cz(a i:D)(k:D->Prop):Prop:=
 match a,i with
 |.lst ds,.int i=>match atI ds i with |some d=>k d |none=>False
 |.tup ds,.int i=>match atI ds i with |some d=>k d |none=>False
 |.str l,.int i=>match atI l i with |some c=>k (.str [c]) |none=>False
 |_,_=>False
def eE(fz:Bool)(a:D)(lo hi:Option Int)(G:DH)(k:D->DH->Prop):Prop:=
 match a with
 |.lst ds=>mk fz (cut ds lo hi) G k
 |.scr ns=>mk fz ((cut ns lo hi).map .int) G k
 |.tup ds=>k (.tup (cut ds lo hi)) G
 |.str l=>k (.str (cut l lo hi)) G
 |_=>False
def jy(fz:Bool)(a y:D)(G:DH)(k:D->DH->Prop):Prop:=
 match a with
 |.lst ds=>y=.int (-1)/\mk fz ds.reverse G k
 |_=>False
noncomputable def bools:List D->Option (List Bool)
 |[]=>some []
 |.bl b::r=>match bools r with |some s=>some (b::s) |none=>none
 |_=>none
noncomputable def bZ:List D->Option (List Int)
 |[]=>some []
 |.int b::r=>match bZ r with |some s=>some (b::s) |none=>none
 |_=>none
noncomputable def bw:List D->Option (List (List Nat))
 |[]=>some []
 |.str b::r=>match bw r with |some s=>some (b::s) |none=>none
 |_=>none
def eF(s:List Nat):List (List Nat)->List Nat
 |[]=>[]
 |[x]=>x
 |x::y::r=>x++s++eF s (y::r)
inductive Bf where
 |len |all |int |tuple |sum |min |max |str |abs |min2
inductive Lf where
 |list |sorted
inductive Mf where
 |join |append |extend |insert |count |index |pop
def wV(as:List D)(k:D->Prop):Prop:=
 match as with
 |[.lst ds]=>k (.int ds.length)
 |[.tup ds]=>k (.int ds.length)
 |[.str l]=>k (.int l.length)
 |_=>False
def qX(as:List D)(k:D->Prop):Prop:=
 match as with
 |[.lst ds]=>match bools ds with |some bs=>k (.bl (bs.all id)) |none=>False
 |_=>False
def qY(as:List D)(k:D->Prop):Prop:=
 match as with
 |[.bl b]=>k (.int (if b then 1 else 0))
 |[.int i]=>k (.int i)
 |[.str l]=>match PySem.intText? (tx l) with |some n=>l.length<=640/\k (.int n) |none=>False
 |_=>False
def wW(as:List D)(k:D->Prop):Prop:=
 match as with
 |[.lst ds]=>k (.tup ds)
 |[.tup ds]=>k (.tup ds)
 |_=>False
def wX(as:List D)(k:D->Prop):Prop:=
 match as with
 |[.lst ds]=>match bZ ds with |some ns=>k (.int ns.sum) |none=>False
 |_=>False
def kZ(as:List D)(k:D->Prop):Prop:=
 match as with
 |[.lst ds]=>match bZ ds with
  |some ns=>ns≠[]/\∀m,m∈ns->(∀a,a∈ns->m<=a)->k (.int m)
  |none=>match bw ds with
   |some ls=>∀m,m∈ls->(∀a,a∈ls->¬a < m)->k (.str m)
   |none=>False
 |_=>False
def Eo(as:List D)(k:D->Prop):Prop:=match as with
 |[.int a]=>k (.int (if a < 0 then -a else a))
 |_=>False
def Ep(as:List D)(k:D->Prop):Prop:=match as with
 |[.int a,.int b]=>k (.int (if b < a then b else a))
 |_=>False
def Er(as:List D)(k:D->Prop):Prop:=
 match as with
 |[.int a,.int b]=>k (.int (if b > a then b else a))
 |_=>False
def gH(m:Nat):List Nat:=(wL m).cps.toList
def wY(as:List D)(k:D->Prop):Prop:=
 match as with
 |[.int i]=>(0<=i/\i < 100)/\k (.str (gH i.toNat))
 |_=>False
noncomputable def opB:Bf->List D->(D->Prop)->Prop
 |.len=>wV
 |.all=>qX
 |.int=>qY
 |.tuple=>wW
 |.sum=>wX
 |.min=>kZ
 |.max=>Er
 |.abs=>Eo
 |.min2=>Ep
 |.str=>wY
def wZ(as:List D)(k:List D->Prop):Prop:=
 match as with
 |[.lst ds]=>k ds
 |[.tup ds]=>k ds
 |[.str l]=>k (l.map λc=>.str [c])
 |_=>False
def qZ(as:List D)(k:List D->Prop):Prop:=
 match as with
 |[.lst ds]=>match bw ds with |some ls=>ls.length < 64/\∀ls':List (List Nat),ls'.Perm ls->PyProof.Rows.sortedS (ls'.map tx)=true->k (ls'.map D.str) |none=>False
 |[.tup ds]=>match bZ ds with |some ns=>ns.length < 64/\∀ns':List Int,ns'.Perm ns->ns'.Pairwise (·<=·)->k (ns'.map D.int) |none=>False
 |_=>False
def cR:Lf->List D->(List D->Prop)->Prop
 |.list=>wZ
 |.sorted=>qZ
noncomputable def isT(t:String)(d:D):Option Bool:=
 match d with
 |.non=>some false
 |.bl _=>some (t=="bool"||t=="int")
 |.int _=>some (t=="int")
 |.str _=>some (t=="str")
 |.tup _=>some (t=="tuple")
 |.lst _=>some (t=="list")
 |_=>none
def fY (t:String):Bool:=t=="bool"||t=="int"||t=="str"||t=="tuple"||t=="list"
def q8(o:D)(as:List D)(G:DH)(k:D->DH->Prop):Prop:=
 match o,as with
 |.str s,[.lst ds]=>match bw ds with |some ls=>((ls.map (·.length)).sum+ls.length * s.length<=sz)/\k (.str (eF s ls)) G |none=>False
 |_,_=>False
def q9(o:D)(as:List D)(G:DH)(k:D->DH->Prop):Prop:=
 match o,as with
 |.ref p,[x]=>match G p with |some (.lst ds)=>ds.length < sz/\k .non (aD G p (.lst (ds++[x]))) |none=>False
 |_,_=>False
def rm(o:D)(as:List D)(G:DH)(k:D->DH->Prop):Prop:=
 match o,as with
 |.ref p,[.lst xs]=>match G p with |some (.lst ds)=>ds.length+xs.length < sz/\k .non (aD G p (.lst (ds++xs))) |none=>False
 |_,_=>False
def rn(o:D)(as:List D)(G:DH)(k:D->DH->Prop):Prop:=
 match o,as with
 |.ref p,[.int i,x]=>match G p with |some (.lst ds)=>ds.length < sz/\0<=i/\i<=1000000/\k .non (aD G p (.lst (ds.take i.toNat++x::ds.drop i.toNat))) |none=>False
 |_,_=>False
def w5(o:D)(as:List D)(G:DH)(k:D->DH->Prop):Prop:=
 match o,as with
 |.ref p,[.int i]=>match G p with |some (.lst ds)=>0<=i/\i<=1000000/\(match ds[i.toNat]? with |some y=>k y (aD G p (.lst (ds.eraseIdx i.toNat))) |none=>False) |none=>False
 |_,_=>False
def rz(o:D)(as:List D)(G:DH)(k:D->DH->Prop):Prop:=
 match o,as with
 |.lst ds,[.bl true]=>match bools ds with |some bs=>k (.int (bs.count true:Nat)) G |none=>False
 |_,_=>False
def rA(o:D)(as:List D)(G:DH)(k:D->DH->Prop):Prop:=
 match o,as with
 |.lst ds,[.bl true]=>match bools ds with |some bs=>true∈bs/\k (.int (bs.idxOf true:Nat)) G |none=>False
 |_,_=>False
def xf:D->Prop
 |.lst _=>True
 |_=>False
def recv(m:Mf)(o:D)(G:DH):Prop:=
 match m,o with
 |.join,.str _=>True
 |.append,.ref p=>match G p with |some (.lst _)=>True |none=>False
 |.extend,.ref p=>match G p with |some (.lst _)=>True |none=>False
 |.insert,.ref p=>match G p with |some (.lst _)=>True |none=>False
 |.pop,.ref p=>match G p with |some (.lst _)=>True |none=>False
 |.count,o=>xf (view G o)
 |.index,o=>xf (view G o)
 |_,_=>False
noncomputable def opM:Mf->D->List D->DH->(D->DH->Prop)->Prop
 |.join,o,as,G,k=>q8 o (as.map (view G)) G k
 |.append,o,as,G,k=>q9 o as G k
 |.extend,o,as,G,k=>rm o (as.map (view G)) G k
 |.insert,o,as,G,k=>rn o as G k
 |.pop,o,as,G,k=>w5 o as G k
 |.count,o,as,G,k=>rz (view G o) as G k
 |.index,o,as,G,k=>rA (view G o) as G k
def fZ (C C':String):Bool:=C==C'||C'=="SieveError"||C'=="ValueError"
mutual
inductive Tg where
 |nm (i:Nat)
 |tp (ts:Tgs)
inductive Tgs where
 |nil
 |cons (t:Tg) (r:Tgs)
end
mutual
inductive Ex where
 |var (i:Nat)
 |cst (d:D)
 |glb (x:String) (d:D)
 |bin (op:Operator) (fz:Bool) (a b:Ex)
 |neg (a:Ex)
 |cmp (op:CmpOp) (a b:Ex)
 |chn (op op':CmpOp) (a b c:Ex)
 |not (a:Ex)
 |boo (isAnd:Bool) (e:Ex) (es:Exs)
 |ife (c:Tx) (a b:Ex)
 |tup (es:Exs)
 |lst (fz:Bool) (es:Exs)
 |idx (a i:Ex)
 |slc (fz:Bool) (a:Ex) (lo hi:Ox)
 |rvs (fz:Bool) (a s:Ex)
 |call (f:String) (es:Exs)
 |bcl (f:Bf) (es:Exs)
 |lcl (fz:Bool) (f:Lf) (es:Exs)
 |isi (a:Ex) (t:String)
 |isx (a:Ex) (C:String) (xs:List String)
 |fst (es:Exs)
 |rgl (fz:Bool) (a:Ex)
 |rgt (a:Ex)
 |rpl (f:String) (a b ix:Ex)
 |fld (C f:String) (o:Ex)
 |mcl (f C m:String) (o:Ex) (es:Exs)
 |mko (C:String) (es:Exs)
 |pp0 (o:Ex)
 |mth (m:Mf) (o:Ex) (es:Exs)
 |comp (fz:Bool) (elt:Ex) (tg:Tg) (it:It') (cond:Tx) (N:List String) (cap:List (Option Nat))
 |frz (a:Ex)
inductive Exs where
 |nil
 |cons (e:Ex) (es:Exs)
/-- a test -/
inductive Tx where
 |val (e:Ex)
 |not (t:Tx)
 |boo (isAnd:Bool) (t:Tx) (ts:Txs)
 |yes
inductive Txs where
 |nil
 |cons (t:Tx) (ts:Txs)
/-- a bound of a slice -/
inductive Ox where
 |no
 |ob (e:Ex)
/-- what a loop walks -/
inductive It' where
 |seq (e:Ex)
 |rng (a:Ex)
 |rng2 (a b:Ex)
 |rev (a:Ex)
 |dwn (a b c:Ex)
 |enm (e:Ex)
 |zip (a b:Ex)
end
inductive Tb where
 |call (f:String) (es:Exs)
 |asg (i:Nat) (f:String) (es:Exs)
 |pick (f g:String) (i:Nat) (es:Exs)
 |ite (c:Tx) (a b:Tb)
 |mcl (f C m:String) (o:Ex) (es:Exs)
 |mko (C:String) (es:Exs)
inductive Hd where
 |flag (i:Nat) (b:Bool)
 |bind (n i:Nat)
mutual
inductive Sx where
 |exp (e:Ex)
 |asg (t:Tg) (e:Ex)
 |set (o i e:Ex)
 |aug (i:Nat) (op:Operator) (e:Ex)
 |augs (o i:Ex) (op:Operator) (e:Ex)
 |ret (e:Ex)
 |rtn
 |ite (c:Tx) (a b:Sxs)
 |for_ (t:Tg) (it:It') (body:Sxs)
 |whl (c:Tx) (body:Sxs)
 |pas
 |brk
 |cnt
 |nev
 |rse (C:String) (es:Exs)
 |tryc (f:String) (es:Exs) (C:String) (i:Nat) (b:Bool)
 |tryx (b:Tb) (C:String) (h:Hd) (xs:List String)
inductive Sxs where
 |nil
 |cons (s:Sx) (r:Sxs)
end
structure Xn where
 cls:String
 fld:D
structure Spec where
 A:Type
 pre:List D->DH->A->Prop
 post:A->D->DH->Prop
 exc:A->Xn->DH->Prop
abbrev EK:=Xn->DH->Prop
def Spec.t(S:Spec)(ds:List D)(G:DH)(Q:D->DH->Prop)(E:EK):Prop:=
 ∃a,S.pre ds G a/\(∀d G',S.post a d G'->Q d G')/\∀x G',S.exc a x G'->E x G'
theorem Spec.mono{S:Spec}{ds:List D}{G:DH}{Q Q':D->DH->Prop}{E E':EK}(h:S.t ds G Q E)(hq:∀d G',Q d G'->Q' d G')(he:∀x G',E x G'->E' x G'):S.t ds G Q' E':=by obtain ⟨a,h1,h2,h3⟩:=h;exact ⟨a,h1,λd G' q=>hq _ _ (h2 d G' q),λx G' q=>he _ _ (h3 x G' q)⟩
abbrev aa:=String->Spec
def gf(C f:String)(d:D)(k:Addr->Prop):Prop:=match d with |.obj C' f' q=>C'=C/\f'=f/\k q |_=>False
def cX(C m:String)(d:D):Prop:=match d with |.obj C' f' _=>C'=C/\(Str.ofString m==Str.ofString f')=false |_=>False
def fB(d:D)(G:DH)(k:D->DH->Prop):Prop:=match d with |.ref p=>(match G p with |some (.lst ds)=>(match ds[ds.length - 1]? with |some y=>k y (aD G p (.lst ds.dropLast)) |none=>False) |none=>False) |_=>False
def xg(d:D)(k:List Nat->Prop):Prop:=match d with |.str l=>l.length<=1000/\k l |_=>False
def xj(i:D)(l:List Nat)(k:List Nat->Prop):Prop:=match i with |.int n=>(match atI [48,49] n with |some c=>k (l.map λa=>if a=42 then c else a) |none=>False) |_=>False
mutual
noncomputable def aZ:Tg->D->ak->DH->(ak->Prop)->Prop
 |.nm i,d,ρ,_,k=>k (ρ.set i (some d))
 |.tp ts,d,ρ,G,k=>match d with |.tup ds=>bD ts ds ρ G k |.lst ds=>bD ts ds ρ G k |_=>False
noncomputable def bD:Tgs->List D->ak->DH->(ak->Prop)->Prop
 |.nil,ds,ρ,_,k=>match ds with |[]=>k ρ |_=>False
 |.cons t r,ds,ρ,G,k=>match ds with |d::ds=>aZ t d ρ G (λρ'=>bD r ds ρ' G k) |[]=>False
end
abbrev Hld:=List (Addr×List D)
def held:Hld->DH->Prop
 |[],_=>True
 | (a,ds)::r,G=>G a=some (.lst ds)/\held r G
noncomputable def compLoop(step:D->ak->DH->(Option D->ak->DH->Prop)->Prop)(g:Hld):List D->List D->ak->DH->(List D->DH->Prop)->Prop
 |[],acc,_,G,k=>held g G/\acc.length<=sz/\k acc G
 |d::ds,acc,ρ,G,k=>held g G/\acc.length < sz/\step d ρ G (λo ρ' G'=>match o with |some y=>compLoop step g ds (acc++[y]) ρ' G' k |none=>compLoop step g ds acc ρ' G' k)
def dG:Nat->List D->List D
 |_,[]=>[]
 |i,d::ds=>.tup [.int i,d]::dG (i+1) ds
def bF:List D->List D->List D
 |a::as,b::bs=>.tup [a,b]::bF as bs
 |_,_=>[]
noncomputable def itemsOf(G:DH):D->Option (List D×Hld)
 |.lst ds=>some (ds,[])
 |.tup ds=>some (ds,[])
 |.str l=>some (l.map λc=>.str [c],[])
 |.ref p=>match G p with |some (.lst ds)=>some (ds,[(p,ds)]) |none=>none
 |_=>none
def bc(lo:Int)(n:Nat):List D:=(List.range n).map λi=>.int (lo+(i:Nat))
def rB(lo:Int)(n:Nat):List D:=(List.range n).map λi=>.int (lo - (i:Nat))
def noE:EK:=λ_ _=>False
mutual
def wpE(Φ:aa):Ex->EK->ak->DH->(D->DH->Prop)->Prop
 |.var i,_,ρ,G,k=>match ρ[i]? with |some (some d)=>k d G |_=>False
 |.cst d,_,_,G,k=>k d G
 |.glb _ d,_,_,G,k=>k d G
 |.bin op fz a b,E,ρ,G,k=>wpE Φ a E ρ G λx G1=>wpE Φ b E ρ G1 λy G2=>cu op fz (view G2 x) (view G2 y) G2 k
 |.neg a,E,ρ,G,k=>wpE Φ a E ρ G λx G1=>match x with |.int i=>k (.int (-i)) G1 |_=>False
 |.cmp op a b,E,ρ,G,k=>wpE Φ a E ρ G λx G1=>wpE Φ b E ρ G1 λy G2=>aX op (view G2 x) (view G2 y) λc=>k (.bl c) G2
 |.chn op op' a b c,E,ρ,G,k=>wpE Φ a E ρ G λx G1=>wpE Φ b E ρ G1 λy G2=>aX op (view G2 x) (view G2 y) λt=>
   match t with
   |true=>wpE Φ c E ρ G2 λz G3=>aX op' (view G3 y) (view G3 z) λt'=>k (.bl t') G3
   |false=>k (.bl false) G2
 |.not a,E,ρ,G,k=>wpE Φ a E ρ G λx G1=>match truth (view G1 x) with |some b=>k (.bl (!b)) G1 |none=>False
 |.boo isAnd e es,E,ρ,G,k=>wpE Φ e E ρ G λd G1=>match d with |.bl b=>wpB Φ es isAnd b E ρ G1 (λc G2=>k (.bl c) G2) |_=>False
 |.ife c a b,E,ρ,G,k=>wpT Φ c E ρ G λt G1=>match t with |true=>wpE Φ a E ρ G1 k |false=>wpE Φ b E ρ G1 k
 |.tup es,E,ρ,G,k=>aM Φ es E ρ G λds G1=>ds.length<=sz/\k (.tup ds) G1
 |.lst fz es,E,ρ,G,k=>aM Φ es E ρ G λds G1=>ds.length<=sz/\mk fz ds G1 k
 |.idx a i,E,ρ,G,k=>wpE Φ a E ρ G λx G1=>wpE Φ i E ρ G1 λy G2=>cz (view G2 x) y λd=>k d G2
 |.slc fz a lo hi,E,ρ,G,k=>wpE Φ a E ρ G λx G1=>wpO Φ lo E ρ G1 λl G2=>wpO Φ hi E ρ G2 λh G3=>eE fz (view G3 x) l h G3 k
 |.rvs fz a s,E,ρ,G,k=>wpE Φ a E ρ G λx G1=>wpE Φ s E ρ G1 λy G2=>jy fz (view G2 x) y G2 k
 |.call f es,E,ρ,G,k=>aM Φ es E ρ G λds G1=>(Φ f).t ds G1 k E
 |.bcl f es,E,ρ,G,k=>aM Φ es E ρ G λds G1=>opB f (ds.map (view G1)) λd=>k d G1
 |.lcl fz f es,E,ρ,G,k=>aM Φ es E ρ G λds G1=>cR f (ds.map (view G1)) λxs=>mk fz xs G1 k
 |.isi a t,E,ρ,G,k=>wpE Φ a E ρ G λx G1=>match isT t (view G1 x) with |some b=>k (.bl b) G1 |none=>False
 |.isx a C xs,E,ρ,G,k=>wpE Φ a E ρ G λx G1=>match x with |.exn c=>xs.contains c=true/\k (.bl (fZ c C)) G1 |_=>False
 |.fst es,E,ρ,G,k=>wpF Φ es E ρ G λl G1=>l.length<=sz/\k (.str l) G1
 |.rgl fz a,E,ρ,G,k=>wpE Φ a E ρ G λd G1=>match d with |.int n=>(0<=n/\n<=1000)/\mk fz (bc 0 n.toNat) G1 k |_=>False
 |.rpl f a b ix,E,ρ,G,k=>wpE Φ a E ρ G λda G1=>wpE Φ b E ρ G1 λdb G2=>cz (view G2 db) (.int 0) λd0=>(Φ f).t [da,d0] G2 (λd G3=>xg d λl=>wpE Φ ix E ρ G3 λi G4=>xj i l λm=>k (.str m) G4) E
 |.fld C f o,E,ρ,G,k=>wpE Φ o E ρ G λd G1=>gf C f d λq=>k (.ref q) G1
 |.mcl f C m o es,E,ρ,G,k=>wpE Φ o E ρ G λd G1=>cX C m d/\aM Φ es E ρ G1 λds G2=>(Φ f).t (d::ds) G2 k E
 |.mko C es,E,ρ,G,k=>aM Φ es E ρ G λds G1=>(Φ C).t ds G1 k E
 |.pp0 o,E,ρ,G,k=>wpE Φ o E ρ G λd G1=>fB d G1 k
 |.rgt a,E,ρ,G,k=>wpE Φ a E ρ G λd G1=>match d with |.int n=>(0<=n/\n<=1000)/\k (.tup (bc 0 n.toNat)) G1 |_=>False
 |.mth m o es,E,ρ,G,k=>wpE Φ o E ρ G λx G1=>recv m x G1/\aM Φ es E ρ G1 λds G2=>opM m x ds G2 k
 |.comp fz elt tg it cond _ cap,E,ρ,G,k=>wpI Φ it E ρ G λitems g G1=>
   compLoop (λd ρ' G' k'=>aZ tg d ρ' G' λρ1=>wpT Φ cond noE ρ1 G' λb G2=>match b with |true=>wpE Φ elt noE ρ1 G2 λy G3=>k' (some y) ρ1 G3 |false=>k' none ρ1 G2)
    g items [] (cap.map λo=>match o with |none=>none |some j=>(ρ[j]?).join) G1 λds G2=>mk fz ds G2 k
 |.frz a,E,ρ,G,k=>wpE Φ a E ρ G λx G1=>match x with |.ref p=>(match G1 p with |some (.lst ds)=>k (.lst ds) (ir G1 p) |none=>False) |d=>k d G1
/-- a test -/
def wpT(Φ:aa):Tx->EK->ak->DH->(Bool->DH->Prop)->Prop
 |.not a,E,ρ,G,k=>wpT Φ a E ρ G λb G1=>k (!b) G1
 |.boo isAnd e es,E,ρ,G,k=>wpT Φ e E ρ G λb G1=>gh Φ es isAnd b E ρ G1 k
 |.yes,_,_,G,k=>k true G
 |.val x,E,ρ,G,k=>wpE Φ x E ρ G λd G1=>match truth (view G1 d) with |some b=>k b G1 |none=>False
def wpF(Φ:aa):Exs->EK->ak->DH->(List Nat->DH->Prop)->Prop
 |.nil,_,_,G,k=>k [] G
 |.cons e es,E,ρ,G,k=>wpE Φ e E ρ G λd G1=>match d with
  |.str l=>l.length<=1000/\wpF Φ es E ρ G1 λx G2=>k (l++x) G2
  |.int i=>(0<=i/\i < 100)/\wpF Φ es E ρ G1 λx G2=>k (gH i.toNat++x) G2
  |_=>False
def aM(Φ:aa):Exs->EK->ak->DH->(List D->DH->Prop)->Prop
 |.nil,_,_,G,k=>k [] G
 |.cons e es,E,ρ,G,k=>wpE Φ e E ρ G λd G1=>aM Φ es E ρ G1 λds G2=>k (d::ds) G2
/-- and,or as values:truths alone;b:the one ahead -/
def wpB(Φ:aa):Exs->Bool->Bool->EK->ak->DH->(Bool->DH->Prop)->Prop
 |.nil,_,b,_,_,G,k=>k b G
 |.cons e es,isAnd,b,E,ρ,G,k=>match isAnd,b with
  |true,false=>k false G
  |false,true=>k true G
  |_,_=>wpE Φ e E ρ G λd G1=>match d with |.bl b'=>wpB Φ es isAnd b' E ρ G1 k |_=>False
def gh(Φ:aa):Txs->Bool->Bool->EK->ak->DH->(Bool->DH->Prop)->Prop
 |.nil,_,b,_,_,G,k=>k b G
 |.cons e es,isAnd,b,E,ρ,G,k=>match isAnd,b with
  |true,false=>k false G
  |false,true=>k true G
  |_,_=>wpT Φ e E ρ G λb' G1=>gh Φ es isAnd b' E ρ G1 k
/-- a bound of a slice -/
def wpO(Φ:aa):Ox->EK->ak->DH->(Option Int->DH->Prop)->Prop
 |.no,_,_,G,k=>k none G
 |.ob x,E,ρ,G,k=>wpE Φ x E ρ G λd G1=>match d with |.int i=>k (some i) G1 |_=>False
def wpI(Φ:aa):It'->EK->ak->DH->(List D->Hld->DH->Prop)->Prop
 |.seq e,E,ρ,G,k=>wpE Φ e E ρ G λd G1=>match itemsOf G1 d with |some ds=>k ds.1 ds.2 G1 |none=>False
 |.rng a,E,ρ,G,k=>wpE Φ a E ρ G λd G1=>match d with |.int n=>(-(2 ^ 62)<=n/\n < 2 ^ 62)/\k (bc 0 n.toNat) [] G1 |_=>False
 |.rng2 a b,E,ρ,G,k=>wpE Φ a E ρ G λx G1=>wpE Φ b E ρ G1 λy G2=>match x,y with
  |.int m,.int n=>(-(2 ^ 62)<=m/\m < 2 ^ 62/\-(2 ^ 62)<=n/\n < 2 ^ 62)/\k (bc m (n - m).toNat) [] G2
  |_,_=>False
 |.rev a,E,ρ,G,k=>wpE Φ a E ρ G λd G1=>match d with |.int n=>(-(2 ^ 62)<=n/\n < 2 ^ 62)/\k (rB ((n.toNat:Int) - 1) n.toNat) [] G1 |_=>False
 |.dwn a b c,E,ρ,G,k=>wpE Φ a E ρ G λx G1=>wpE Φ b E ρ G1 λy G2=>wpE Φ c E ρ G2 λz G3=>match x,y,z with
  |.int m,.int n,.int s=>(s=-1/\-(2 ^ 62)<=m/\m < 2 ^ 62/\-(2 ^ 62)<=n/\n < 2 ^ 62)/\k (rB m (m - n).toNat) [] G3
  |_,_,_=>False
 |.enm e,E,ρ,G,k=>wpE Φ e E ρ G λd G1=>match itemsOf G1 d with |some ds=>k (dG 0 ds.1) ds.2 G1 |none=>False
 |.zip a b,E,ρ,G,k=>wpE Φ a E ρ G λx G1=>wpE Φ b E ρ G1 λy G2=>match itemsOf G2 x,itemsOf G2 y with |some ds,some es=>k (bF ds.1 es.1) (ds.2++es.2) G2 |_,_=>False
end
structure En where
 nx:ak->DH->Prop
 rt:D->DH->Prop
 bk:ak->DH->Prop
 ct:ak->DH->Prop
noncomputable def forLoop(step:D->ak->DH->(ak->DH->Prop)->Prop)(g:Hld):List D->ak->DH->(ak->DH->Prop)->Prop
 |[],ρ,G,k=>held g G/\k ρ G
 |d::ds,ρ,G,k=>held g G/\step d ρ G λρ' G'=>forLoop step g ds ρ' G' k
def whileLoop(test:ak->DH->(Bool->DH->Prop)->Prop)(body:ak->DH->(ak->DH->Prop)->Prop):Nat->ak->DH->(ak->DH->Prop)->Prop
 |0,_,_,_=>False
 |n+1,ρ,G,k=>test ρ G λb G1=>match b with |true=>body ρ G1 λρ' G'=>whileLoop test body n ρ' G' k |false=>k ρ G1
def eG(o i x:D)(G:DH)(k:DH->Prop):Prop:=
 match o,i with
 |.ref p,.int i=>match G p with |some (.lst ds)=>(match ixN ds.length i with |some j=>k (aD G p (.lst (ds.set j x))) |none=>False) |none=>False
 |_,_=>False
def dH(op:Operator)(a b:D)(k:D->Prop):Prop:=
 match op,a,b with
 |.Add,.int i,.int j=>k (.int (i+j))
 |.Add,.str x,.str y=>x.length+y.length<=sz/\k (.str (x++y))
 |.Sub,.int i,.int j=>k (.int (i - j))
 |_,_,_=>False
def xm:D->Bool
 |.int i=>decide (0<=i)&&decide (i < 100)
 |_=>false
def wpM(Φ:aa):Exs->EK->ak->DH->(DH->Prop)->Prop
 |.nil,_,_,G,k=>k G
 |.cons e es,E,ρ,G,k=>wpE Φ e E ρ G λd G1=>xm d=true/\wpM Φ es E ρ G1 k
def wpX(Φ:aa):Tb->ak->DH->(ak->DH->Prop)->(Xn->ak->DH->Prop)->Prop
 |.call f es,ρ,G,nx,ex=>aM Φ es noE ρ G λds G1=>(Φ f).t ds G1 (λ_ G2=>nx ρ G2) λx G2=>ex x ρ G2
 |.asg i f es,ρ,G,nx,ex=>aM Φ es noE ρ G λds G1=>(Φ f).t ds G1 (λd G2=>nx (ρ.set i (some d)) G2) λx G2=>ex x ρ G2
 |.pick f g i es,ρ,G,nx,ex=>wpE Φ (.var i) noE ρ G λd G1=>∃b:Bool,d=.int (if b then 1 else 0)/\aM Φ es noE ρ G1 λds G2=>(Φ (if b then g else f)).t ds G2 (λ_ G3=>nx ρ G3) λx G3=>ex x ρ G3
 |.ite c a b,ρ,G,nx,ex=>wpT Φ c noE ρ G λt G1=>match t with |true=>wpX Φ a ρ G1 nx ex |false=>wpX Φ b ρ G1 nx ex
 |.mcl f C m o es,ρ,G,nx,ex=>wpE Φ o noE ρ G λd G1=>cX C m d/\aM Φ es noE ρ G1 λds G2=>(Φ f).t (d::ds) G2 (λ_ G3=>nx ρ G3) λx G3=>ex x ρ G3
 |.mko C es,ρ,G,nx,ex=>aM Φ es noE ρ G λds G1=>(Φ C).t ds G1 (λ_ G2=>nx ρ G2) λx G2=>ex x ρ G2
def caught(h:Hd)(C:String)(ρ:ak):ak:=match h with
 |.flag i b=>ρ.set i (some (.bl b))
 |.bind n i=>((ρ.set n (some (.exn C))).set i (some (.exn C))).set n none
mutual
def wpS(Φ:aa):Sx->EK->ak->DH->En->Prop
 |.exp e,E,ρ,G,D=>wpE Φ e E ρ G λ_ G1=>D.nx ρ G1
 |.asg t e,E,ρ,G,D=>wpE Φ e E ρ G λd G1=>aZ t d ρ G1 λρ'=>D.nx ρ' G1
 |.set o i e,E,ρ,G,D=>wpE Φ e E ρ G λx G1=>wpE Φ o E ρ G1 λa G2=>wpE Φ i E ρ G2 λy G3=>eG a y x G3 λG4=>D.nx ρ G4
 |.aug i op e,E,ρ,G,D=>match ρ[i]? with
  |some (some a)=>wpE Φ e E ρ G λb G1=>dH op a b λc=>D.nx (ρ.set i (some c)) G1
  |_=>False
 |.augs o i op e,E,ρ,G,D=>wpE Φ o E ρ G λa G1=>wpE Φ i E ρ G1 λy G2=>cz (view G2 a) y λold=>wpE Φ e E ρ G2 λb G3=>dH op old b λc=>eG a y c G3 λG4=>D.nx ρ G4
 |.ret e,E,ρ,G,D=>wpE Φ e E ρ G D.rt
 |.rtn,_,_,G,D=>D.rt .non G
 |.ite c a b,E,ρ,G,D=>wpT Φ c E ρ G λt G1=>match t with |true=>aq Φ a E ρ G1 D |false=>aq Φ b E ρ G1 D
 |.for_ t it body,E,ρ,G,D=>wpI Φ it E ρ G λitems g G1=>
   forLoop (λd ρ' G' k=>aZ t d ρ' G' λρ1=>aq Φ body E ρ1 G' { D with nx:=k,ct:=k,bk:=D.nx }) g items ρ G1 D.nx
 |.whl c body,E,ρ,G,D=>∃n,whileLoop (λρ' G' k=>wpT Φ c E ρ' G' k) (λρ' G' k=>aq Φ body E ρ' G' { D with nx:=k,ct:=k,bk:=D.nx }) n ρ G D.nx
 |.pas,_,ρ,G,D=>D.nx ρ G
 |.brk,_,ρ,G,D=>D.bk ρ G
 |.cnt,_,ρ,G,D=>D.ct ρ G
 |.nev,_,_,_,_=>False
 |.rse C es,E,ρ,G,_=>wpM Φ es E ρ G λG1=>E ⟨C,.non⟩ G1
 |.tryc f es C i b,_,ρ,G,D=>aM Φ es noE ρ G λds G1=>(Φ f).t ds G1 (λ_ G2=>D.nx ρ G2) λx G2=>x.cls=C/\x.fld=.non/\D.nx (ρ.set i (some (.bl b))) G2
 |.tryx b C h xs,_,ρ,G,D=>wpX Φ b ρ G D.nx λx ρ' G'=>x.fld=.non/\xs.contains x.cls=true/\fZ x.cls C=true/\D.nx (caught h x.cls ρ') G'
def aq(Φ:aa):Sxs->EK->ak->DH->En->Prop
 |.nil,_,ρ,G,D=>D.nx ρ G
 |.cons s r,E,ρ,G,D=>wpS Φ s E ρ G { D with nx:=λρ' G'=>aq Φ r E ρ' G' D }
end
theorem rD{Φ:aa}{a}{E}{ρ}{G}{k}:wpT Φ (.not a) E ρ G k=(wpT Φ a E ρ G λb G1=>k (!b) G1):=rfl
theorem rE{Φ:aa}{isAnd}{e}{es}{E}{ρ}{G}{k}:wpT Φ (.boo isAnd e es) E ρ G k=(wpT Φ e E ρ G λb G1=>gh Φ es isAnd b E ρ G1 k):=rfl
theorem rF{Φ:aa}{E}{ρ}{G}{k}:wpT Φ .yes E ρ G k=(k true G):=rfl
theorem jz{Φ:aa}{x}{E}{ρ}{G}{k}:wpT Φ (.val x) E ρ G k=(wpE Φ x E ρ G λd G1=>match truth (view G1 d) with |some b=>k b G1 |none=>False):=rfl
theorem gj{Φ:aa}{E}{ρ}{G}{k}:aM Φ .nil E ρ G k=(k [] G):=rfl
theorem gJ{Φ:aa}{e}{es}{E}{ρ}{G}{k}:aM Φ (.cons e es) E ρ G k=(wpE Φ e E ρ G λd G1=>aM Φ es E ρ G1 λds G2=>k (d::ds) G2):=rfl
theorem rG{Φ:aa}{isAnd:Bool}{b:Bool}{E}{ρ}{G}{k}:wpB Φ .nil isAnd b E ρ G k=(k b G):=rfl
theorem lg{Φ:aa}{e}{es}{isAnd:Bool}{b:Bool}{E}{ρ}{G}{k}:wpB Φ (.cons e es) isAnd b E ρ G k=(match isAnd,b with
  |true,false=>k false G
  |false,true=>k true G
  |_,_=>wpE Φ e E ρ G λd G1=>match d with |.bl b'=>wpB Φ es isAnd b' E ρ G1 k |_=>False):=rfl
theorem rH{Φ:aa}{isAnd:Bool}{b:Bool}{E}{ρ}{G}{k}:gh Φ .nil isAnd b E ρ G k=(k b G):=rfl
theorem lq{Φ:aa}{e}{es}{isAnd:Bool}{b:Bool}{E}{ρ}{G}{k}:gh Φ (.cons e es) isAnd b E ρ G k=(match isAnd,b with
  |true,false=>k false G
  |false,true=>k true G
  |_,_=>wpT Φ e E ρ G λb' G1=>gh Φ es isAnd b' E ρ G1 k):=rfl
theorem rJ{Φ:aa}{E}{ρ}{G}{k}:wpO Φ .no E ρ G k=(k none G):=rfl
theorem rK{Φ:aa}{x}{E}{ρ}{G}{k}:wpO Φ (.ob x) E ρ G k=(wpE Φ x E ρ G λd G1=>match d with |.int i=>k (some i) G1 |_=>False):=rfl
theorem rM{Φ:aa}{e}{E}{ρ}{G}{k}:wpI Φ (.seq e) E ρ G k=(wpE Φ e E ρ G λd G1=>match itemsOf G1 d with |some ds=>k ds.1 ds.2 G1 |none=>False):=rfl
theorem rN{Φ:aa}{a}{E}{ρ}{G}{k}:wpI Φ (.rng a) E ρ G k=(wpE Φ a E ρ G λd G1=>match d with |.int n=>(-(2 ^ 62)<=n/\n < 2 ^ 62)/\k (bc 0 n.toNat) [] G1 |_=>False):=rfl
theorem xq{Φ:aa}{a}{b}{E}{ρ}{G}{k}:wpI Φ (.rng2 a b) E ρ G k=(wpE Φ a E ρ G λx G1=>wpE Φ b E ρ G1 λy G2=>match x,y with
  |.int m,.int n=>(-(2 ^ 62)<=m/\m < 2 ^ 62/\-(2 ^ 62)<=n/\n < 2 ^ 62)/\k (bc m (n - m).toNat) [] G2
  |_,_=>False):=rfl
theorem xr{Φ:aa}{a}{E}{ρ}{G}{k}:wpI Φ (.rev a) E ρ G k=(wpE Φ a E ρ G λd G1=>match d with |.int n=>(-(2 ^ 62)<=n/\n < 2 ^ 62)/\k (rB ((n.toNat:Int) - 1) n.toNat) [] G1 |_=>False):=rfl
theorem xu{Φ:aa}{a}{b}{c}{E}{ρ}{G}{k}:wpI Φ (.dwn a b c) E ρ G k=(wpE Φ a E ρ G λx G1=>wpE Φ b E ρ G1 λy G2=>wpE Φ c E ρ G2 λz G3=>match x,y,z with
  |.int m,.int n,.int s=>(s=-1/\-(2 ^ 62)<=m/\m < 2 ^ 62/\-(2 ^ 62)<=n/\n < 2 ^ 62)/\k (rB m (m - n).toNat) [] G3
  |_,_,_=>False):=rfl
theorem rO{Φ:aa}{e}{E}{ρ}{G}{k}:wpI Φ (.enm e) E ρ G k=(wpE Φ e E ρ G λd G1=>match itemsOf G1 d with |some ds=>k (dG 0 ds.1) ds.2 G1 |none=>False):=rfl
theorem rP{Φ:aa}{a}{b}{E}{ρ}{G}{k}:wpI Φ (.zip a b) E ρ G k=(wpE Φ a E ρ G λx G1=>wpE Φ b E ρ G1 λy G2=>match itemsOf G2 x,itemsOf G2 y with |some ds,some es=>k (bF ds.1 es.1) (ds.2++es.2) G2 |_,_=>False):=rfl
theorem jA{Φ:aa}{E}{ρ}{G}{D}:aq Φ .nil E ρ G D=(D.nx ρ G):=rfl
theorem jB{Φ:aa}{s}{r}{E}{ρ}{G}{D}:aq Φ (.cons s r) E ρ G D=(wpS Φ s E ρ G { D with nx:=λρ' G'=>aq Φ r E ρ' G' D }):=rfl
theorem rQ{Φ:aa}{i E ρ G k}:wpE Φ (.var i) E ρ G k=(match ρ[i]? with |some (some d)=>k d G |_=>False):=rfl
theorem iu{Φ:aa}{d E ρ G k}:wpE Φ (.cst d) E ρ G k=(k d G):=rfl
theorem rR{Φ:aa}{u0 d E ρ G k}:wpE Φ (.glb u0 d) E ρ G k=(k d G):=rfl
theorem rT{Φ:aa}{op fz a b E ρ G k}:wpE Φ (.bin op fz a b) E ρ G k=(wpE Φ a E ρ G λx G1=>wpE Φ b E ρ G1 λy G2=>cu op fz (view G2 x) (view G2 y) G2 k):=rfl
theorem rW{Φ:aa}{a E ρ G k}:wpE Φ (.neg a) E ρ G k=(wpE Φ a E ρ G λx G1=>match x with |.int i=>k (.int (-i)) G1 |_=>False):=rfl
theorem lr{Φ:aa}{op a b E ρ G k}:wpE Φ (.cmp op a b) E ρ G k=(wpE Φ a E ρ G λx G1=>wpE Φ b E ρ G1 λy G2=>aX op (view G2 x) (view G2 y) λc=>k (.bl c) G2):=rfl
theorem lu{Φ:aa}{op op' a b c E ρ G k}:wpE Φ (.chn op op' a b c) E ρ G k=(wpE Φ a E ρ G λx G1=>wpE Φ b E ρ G1 λy G2=>aX op (view G2 x) (view G2 y) λt=>
   match t with
   |true=>wpE Φ c E ρ G2 λz G3=>aX op' (view G3 y) (view G3 z) λt'=>k (.bl t') G3
   |false=>k (.bl false) G2):=rfl
theorem rY{Φ:aa}{a E ρ G k}:wpE Φ (.not a) E ρ G k=(wpE Φ a E ρ G λx G1=>match truth (view G1 x) with |some b=>k (.bl (!b)) G1 |none=>False):=rfl
theorem rZ{Φ:aa}{isAnd e es E ρ G k}:wpE Φ (.boo isAnd e es) E ρ G k=(wpE Φ e E ρ G λd G1=>match d with |.bl b=>wpB Φ es isAnd b E ρ G1 (λc G2=>k (.bl c) G2) |_=>False):=rfl
theorem sr{Φ:aa}{c a b E ρ G k}:wpE Φ (.ife c a b) E ρ G k=(wpT Φ c E ρ G λt G1=>match t with |true=>wpE Φ a E ρ G1 k |false=>wpE Φ b E ρ G1 k):=rfl
theorem su{Φ:aa}{es E ρ G k}:wpE Φ (.tup es) E ρ G k=(aM Φ es E ρ G λds G1=>ds.length<=sz/\k (.tup ds) G1):=rfl
theorem sy{Φ:aa}{fz es E ρ G k}:wpE Φ (.lst fz es) E ρ G k=(aM Φ es E ρ G λds G1=>ds.length<=sz/\mk fz ds G1 k):=rfl
theorem sE{Φ:aa}{a i E ρ G k}:wpE Φ (.idx a i) E ρ G k=(wpE Φ a E ρ G λx G1=>wpE Φ i E ρ G1 λy G2=>cz (view G2 x) y λd=>k d G2):=rfl
theorem xF{Φ:aa}{fz a s E ρ G k}:wpE Φ (.rvs fz a s) E ρ G k=(wpE Φ a E ρ G λx G1=>wpE Φ s E ρ G1 λy G2=>jy fz (view G2 x) y G2 k):=rfl
theorem sG{Φ:aa}{fz a lo hi E ρ G k}:wpE Φ (.slc fz a lo hi) E ρ G k=(wpE Φ a E ρ G λx G1=>wpO Φ lo E ρ G1 λl G2=>wpO Φ hi E ρ G2 λh G3=>eE fz (view G3 x) l h G3 k):=rfl
theorem sH{Φ:aa}{f es E ρ G k}:wpE Φ (.call f es) E ρ G k=(aM Φ es E ρ G λds G1=>(Φ f).t ds G1 k E):=rfl
theorem sI{Φ:aa}{f es E ρ G k}:wpE Φ (.bcl f es) E ρ G k=(aM Φ es E ρ G λds G1=>opB f (ds.map (view G1)) λd=>k d G1):=rfl
theorem sJ{Φ:aa}{fz f es E ρ G k}:wpE Φ (.lcl fz f es) E ρ G k=(aM Φ es E ρ G λds G1=>cR f (ds.map (view G1)) λxs=>mk fz xs G1 k):=rfl
theorem sO{Φ:aa}{a t E ρ G k}:wpE Φ (.isi a t) E ρ G k=(wpE Φ a E ρ G λx G1=>match isT t (view G1 x) with |some b=>k (.bl b) G1 |none=>False):=rfl
theorem xG{Φ:aa}{a C xs E ρ G k}:wpE Φ (.isx a C xs) E ρ G k=(wpE Φ a E ρ G λx G1=>match x with |.exn c=>xs.contains c=true/\k (.bl (fZ c C)) G1 |_=>False):=rfl
theorem xH{Φ:aa}{fz a E ρ G k}:wpE Φ (.rgl fz a) E ρ G k=(wpE Φ a E ρ G λd G1=>match d with |.int n=>(0<=n/\n<=1000)/\mk fz (bc 0 n.toNat) G1 k |_=>False):=rfl
theorem aae{Φ:aa}{f a b ix E ρ G k}:wpE Φ (.rpl f a b ix) E ρ G k=(wpE Φ a E ρ G λda G1=>wpE Φ b E ρ G1 λdb G2=>cz (view G2 db) (.int 0) λd0=>(Φ f).t [da,d0] G2 (λd G3=>xg d λl=>wpE Φ ix E ρ G3 λi G4=>xj i l λm=>k (.str m) G4) E):=rfl
theorem sS{Φ:aa}{C f o E ρ G k}:wpE Φ (.fld C f o) E ρ G k=(wpE Φ o E ρ G λd G1=>gf C f d λq=>k (.ref q) G1):=rfl
theorem sU{Φ:aa}{f C m o es E ρ G k}:wpE Φ (.mcl f C m o es) E ρ G k=(wpE Φ o E ρ G λd G1=>cX C m d/\aM Φ es E ρ G1 λds G2=>(Φ f).t (d::ds) G2 k E):=rfl
theorem sV{Φ:aa}{C es E ρ G k}:wpE Φ (.mko C es) E ρ G k=(aM Φ es E ρ G λds G1=>(Φ C).t ds G1 k E):=rfl
theorem sW{Φ:aa}{o E ρ G k}:wpE Φ (.pp0 o) E ρ G k=(wpE Φ o E ρ G λd G1=>fB d G1 k):=rfl
theorem xJ{Φ:aa}{a E ρ G k}:wpE Φ (.rgt a) E ρ G k=(wpE Φ a E ρ G λd G1=>match d with |.int n=>(0<=n/\n<=1000)/\k (.tup (bc 0 n.toNat)) G1 |_=>False):=rfl
theorem xK{Φ:aa}{es E ρ G k}:wpE Φ (.fst es) E ρ G k=(wpF Φ es E ρ G λl G1=>l.length<=sz/\k (.str l) G1):=rfl
theorem xM{Φ:aa}{E ρ G k}:wpF Φ .nil E ρ G k=k [] G:=rfl
theorem xN{Φ:aa}{e es E ρ G k}:wpF Φ (.cons e es) E ρ G k=(wpE Φ e E ρ G λd G1=>match d with
  |.str l=>l.length<=1000/\wpF Φ es E ρ G1 λx G2=>k (l++x) G2
  |.int i=>(0<=i/\i < 100)/\wpF Φ es E ρ G1 λx G2=>k (gH i.toNat++x) G2
  |_=>False):=rfl
theorem fD{Φ:aa}{m o es E ρ G k}:wpE Φ (.mth m o es) E ρ G k=(wpE Φ o E ρ G λx G1=>recv m x G1/\aM Φ es E ρ G1 λds G2=>opM m x ds G2 k):=rfl
theorem sX{Φ:aa}{a E ρ G k}:wpE Φ (.frz a) E ρ G k=(wpE Φ a E ρ G λx G1=>match x with |.ref p=>(match G1 p with |some (.lst ds)=>k (.lst ds) (ir G1 p) |none=>False) |d=>k d G1):=rfl
theorem sY{Φ:aa}{e E ρ G D}:wpS Φ (.exp e) E ρ G D=(wpE Φ e E ρ G λ_ G1=>D.nx ρ G1):=rfl
theorem jC{Φ:aa}{t e E ρ G D}:wpS Φ (.asg t e) E ρ G D=(wpE Φ e E ρ G λd G1=>aZ t d ρ G1 λρ'=>D.nx ρ' G1):=rfl
theorem sZ{Φ:aa}{o i e E ρ G D}:wpS Φ (.set o i e) E ρ G D=(wpE Φ e E ρ G λx G1=>wpE Φ o E ρ G1 λa G2=>wpE Φ i E ρ G2 λy G3=>eG a y x G3 λG4=>D.nx ρ G4):=rfl
theorem tu{Φ:aa}{i op e E ρ G D}:wpS Φ (.aug i op e) E ρ G D=(match ρ[i]? with
  |some (some a)=>wpE Φ e E ρ G λb G1=>dH op a b λc=>D.nx (ρ.set i (some c)) G1
  |_=>False):=rfl
theorem xO{Φ:aa}{o i op e E ρ G D}:wpS Φ (.augs o i op e) E ρ G D=(wpE Φ o E ρ G λa G1=>wpE Φ i E ρ G1 λy G2=>cz (view G2 a) y λold=>wpE Φ e E ρ G2 λb G3=>dH op old b λc=>eG a y c G3 λG4=>D.nx ρ G4):=rfl
theorem tB{Φ:aa}{e E ρ G D}:wpS Φ (.ret e) E ρ G D=(wpE Φ e E ρ G D.rt):=rfl
theorem tD{Φ:aa}{E ρ G D}:wpS Φ .rtn E ρ G D=(D.rt .non G):=rfl
theorem tH{Φ:aa}{c a b E ρ G D}:wpS Φ (.ite c a b) E ρ G D=(wpT Φ c E ρ G λt G1=>match t with |true=>aq Φ a E ρ G1 D |false=>aq Φ b E ρ G1 D):=rfl
theorem tM{Φ:aa}{E ρ G D}:wpS Φ .pas E ρ G D=(D.nx ρ G):=rfl
theorem tQ{Φ:aa}{E ρ G D}:wpS Φ .brk E ρ G D=(D.bk ρ G):=rfl
theorem tR{Φ:aa}{E ρ G D}:wpS Φ .cnt E ρ G D=(D.ct ρ G):=rfl
theorem lw{Φ:aa}{C es E ρ G D}:wpS Φ (.rse C es) E ρ G D=(wpM Φ es E ρ G λG1=>E ⟨C,.non⟩ G1):=rfl
theorem xP{Φ:aa}{E ρ G k}:wpM Φ .nil E ρ G k=k G:=rfl
theorem tU{Φ:aa}{e es E ρ G k}:wpM Φ (.cons e es) E ρ G k=(wpE Φ e E ρ G λd G1=>xm d=true/\wpM Φ es E ρ G1 k):=rfl
theorem xQ{Φ:aa}{f es C i b E ρ G D}:wpS Φ (.tryc f es C i b) E ρ G D=(aM Φ es noE ρ G λds G1=>(Φ f).t ds G1 (λ_ G2=>D.nx ρ G2) λx G2=>x.cls=C/\x.fld=.non/\D.nx (ρ.set i (some (.bl b))) G2):=rfl
theorem tV{Φ:aa}{b C h xs E ρ G D}:wpS Φ (.tryx b C h xs) E ρ G D=(wpX Φ b ρ G D.nx λx ρ' G'=>x.fld=.non/\xs.contains x.cls=true/\fZ x.cls C=true/\D.nx (caught h x.cls ρ') G'):=rfl
theorem xR{Φ:aa}{f g i es ρ G nx ex}:wpX Φ (.pick f g i es) ρ G nx ex=(wpE Φ (.var i) noE ρ G λd G1=>∃b:Bool,d=.int (if b then 1 else 0)/\aM Φ es noE ρ G1 λds G2=>(Φ (if b then g else f)).t ds G2 (λ_ G3=>nx ρ G3) λx G3=>ex x ρ G3):=rfl
theorem tW{Φ:aa}{f C m o es ρ G nx ex}:wpX Φ (.mcl f C m o es) ρ G nx ex=(wpE Φ o noE ρ G λd G1=>cX C m d/\aM Φ es noE ρ G1 λds G2=>(Φ f).t (d::ds) G2 (λ_ G3=>nx ρ G3) λx G3=>ex x ρ G3):=rfl
theorem xT{Φ:aa}{C es ρ G nx ex}:wpX Φ (.mko C es) ρ G nx ex=(aM Φ es noE ρ G λds G1=>(Φ C).t ds G1 (λ_ G2=>nx ρ G2) λx G2=>ex x ρ G2):=rfl
theorem xU{Φ:aa}{f es ρ G nx ex}:wpX Φ (.call f es) ρ G nx ex=(aM Φ es noE ρ G λds G1=>(Φ f).t ds G1 (λ_ G2=>nx ρ G2) λx G2=>ex x ρ G2):=rfl
theorem xV{Φ:aa}{i f es ρ G nx ex}:wpX Φ (.asg i f es) ρ G nx ex=(aM Φ es noE ρ G λds G1=>(Φ f).t ds G1 (λd G2=>nx (ρ.set i (some d)) G2) λx G2=>ex x ρ G2):=rfl
theorem xW{Φ:aa}{c a b ρ G nx ex}:wpX Φ (.ite c a b) ρ G nx ex=(wpT Φ c noE ρ G λt G1=>match t with |true=>wpX Φ a ρ G1 nx ex |false=>wpX Φ b ρ G1 nx ex):=rfl
theorem tX{Φ:aa}{E ρ G D}:wpS Φ .nev E ρ G D=(False):=rfl
theorem xX{Φ:aa}{fz elt tg it cond N cap E ρ G k}:wpE Φ (.comp fz elt tg it cond N cap) E ρ G k=(wpI Φ it E ρ G λitems g G1=>
   compLoop (λd ρ' G' k'=>aZ tg d ρ' G' λρ1=>wpT Φ cond noE ρ1 G' λb G2=>match b with |true=>wpE Φ elt noE ρ1 G2 λy G3=>k' (some y) ρ1 G3 |false=>k' none ρ1 G2)
    g items [] (cap.map λo=>match o with |none=>none |some j=>(ρ[j]?).join) G1 λds G2=>mk fz ds G2 k):=rfl
theorem Es{Φ:aa}{t it body E ρ G D}:wpS Φ (.for_ t it body) E ρ G D=(wpI Φ it E ρ G λitems g G1=>
   forLoop (λd ρ' G' k=>aZ t d ρ' G' λρ1=>aq Φ body E ρ1 G' { D with nx:=k,ct:=k,bk:=D.nx }) g items ρ G1 D.nx):=rfl
theorem Et{Φ:aa}{c body E ρ G D}:wpS Φ (.whl c body) E ρ G D=(∃n,whileLoop (λρ' G' k=>wpT Φ c E ρ' G' k) (λρ' G' k=>aq Φ body E ρ' G' { D with nx:=k,ct:=k,bk:=D.nx }) n ρ G D.nx):=rfl
section
variable {k k':D->DH->Prop} {G:DH}
theorem dI{fz:Bool}{xs:List D}(h:∀d G',k d G'->k' d G')(q:mk fz xs G k):mk fz xs G k':=by
 cases fz with
 |true=>exact h _ _ q
 |false=>exact λp hp=>h _ _ (q p hp)
theorem Eu{a b:D}{p:Int->Int->Prop}(h:gG a b p):∃i j,a=.int i/\b=.int j/\p i j:=by
 cases a with
 |int i=>cases b with
  |int j=>exact ⟨i,j,rfl,rfl,h⟩
  |_=>exact h.elim
 |_=>exact h.elim
theorem tY{a b:D}{p q:Int->Int->Prop}(h:∀i j,p i j->q i j)(z:gG a b p):gG a b q:=by obtain ⟨i,j,rfl,rfl,z⟩:=Eu z;exact h i j z
theorem Ew{op:Operator}{fz:Bool}{a b:D}(h:∀d G',k d G'->k' d G')(q:cu op fz a b G k):cu op fz a b G k':=by
 cases op with
 |Add=>
  have q:jn fz a b G k:=q;show jn fz a b G k';unfold jn at q ⊢;cases a with
  |int i=>cases b <;> first |exact h _ _ q |exact q
  |str i=>cases b <;> first |exact ⟨q.1,h _ _ q.2⟩ |exact q
  |lst i=>cases b <;> first |exact ⟨q.1,dI h q.2⟩ |exact q
  |tup i=>cases b <;> first |exact ⟨q.1,h _ _ q.2⟩ |exact q
  |_=>exact q
 |Sub=>exact tY (λ_ _ z=>h _ _ z) q
 |Mult=>
  have q:jo fz a b G k:=q;show jo fz a b G k';unfold jo at q ⊢;cases b with
  |int n=>cases a <;> first |exact ⟨q.1,h _ _ q.2⟩ |exact ⟨q.1,q.2.1,q.2.2.1,h _ _ q.2.2.2⟩ |exact ⟨q.1,q.2.1,q.2.2.1,dI h q.2.2.2⟩ |exact ⟨q.1,q.2.1,q.2.2.1,q.2.2.2.1,h _ _ q.2.2.2.2⟩ |exact q
  |_=>exact q
 |FloorDiv=>exact tY (λ_ _ z=>⟨z.1,h _ _ z.2⟩) q
 |Mod=>exact tY (λ_ _ z=>⟨z.1,h _ _ z.2⟩) q
 |Pow=>exact tY (λ_ _ z=>⟨z.1,h _ _ z.2⟩) q
 |_=>exact q
theorem Ey{a b:D}{k k':Bool->Prop}(h:∀c,k c->k' c)(q:fX a b k):fX a b k':=by
 unfold fX at q ⊢;split at q
 ·split at q
  ·exact h _ q
  ·exact q
 ·exact ⟨q.1,h _ q.2⟩
 ·exact ⟨q.1,h _ q.2⟩
 ·exact q
theorem iw{op:CmpOp}{a b:D}{k k':Bool->Prop}(h:∀c,k c->k' c)(q:aX op a b k):aX op a b k':=by
 cases op with
 |Eq=>exact ⟨q.1,h _ q.2⟩
 |NotEq=>exact ⟨q.1,h _ q.2⟩
 |Lt=>have q:jq a b k:=q;show jq a b k';unfold jq at q ⊢;split at q <;> first |exact h _ q |exact q
 |LtE=>have q:jr a b k:=q;show jr a b k';unfold jr at q ⊢;split at q <;> first |exact h _ q |exact q
 |Gt=>have q:jt a b k:=q;show jt a b k';unfold jt at q ⊢;split at q <;> first |exact h _ q |exact q
 |GtE=>have q:ju a b k:=q;show ju a b k';unfold ju at q ⊢;split at q <;> first |exact h _ q |exact q
 |Is=>
  have q:jw a b k:=q;show jw a b k';unfold jw at q ⊢;split at q
  ·exact h _ q
  ·split at q
   ·exact h _ q
   ·exact q
  ·exact q
 |IsNot=>
  have q:jx a b k:=q;show jx a b k';unfold jx at q ⊢;split at q
  ·exact h _ q
  ·split at q
   ·exact h _ q
   ·exact q
  ·exact q
 |In=>exact Ey h q
 |NotIn=>exact Ey (λc=>h _) q
theorem tZ{a i:D}{k k':D->Prop}(h:∀c,k c->k' c)(q:cz a i k):cz a i k':=by
 unfold cz at q ⊢;split at q
 ·split at q
  ·exact h _ q
  ·exact q
 ·split at q
  ·exact h _ q
  ·exact q
 ·split at q
  ·exact h _ q
  ·exact q
 ·exact q
theorem Ez{fz:Bool}{a:D}{lo hi:Option Int}(h:∀d G',k d G'->k' d G')(q:eE fz a lo hi G k):eE fz a lo hi G k':=by
 unfold eE at q ⊢;split at q <;> first
  |exact dI h q
  |exact h _ _ q
  |exact q.elim
theorem aaf{fz:Bool}{a y:D}(h:∀d G',k d G'->k' d G')(q:jy fz a y G k):jy fz a y G k':=by
 unfold jy at q ⊢;split at q
 ·exact ⟨q.1,dI h q.2⟩
 ·exact q.elim
theorem EY{f:Bf}{as:List D}{k k':D->Prop}(h:∀c,k c->k' c)(q:opB f as k):opB f as k':=by
 cases f with
 |len=>simp only[opB,wV]at q ⊢;split at q <;> first |exact h _ q |exact q.elim
 |all=>
  simp only[opB,qX]at q ⊢;split at q
  ·split at q
   ·exact h _ q
   ·exact q
  ·exact q
 |int=>
  simp only[opB,qY]at q ⊢;split at q
  ·exact h _ q
  ·exact h _ q
  ·split at q
   ·exact ⟨q.1,h _ q.2⟩
   ·exact q
  ·exact q
 |tuple=>simp only[opB,wW]at q ⊢;split at q <;> first |exact h _ q |exact q.elim
 |sum=>
  simp only[opB,wX]at q ⊢;split at q
  ·split at q
   ·exact h _ q
   ·exact q
  ·exact q
 |min=>
  simp only[opB,kZ]at q ⊢;split at q
  ·split at q
   ·exact ⟨q.1,λm h1 h2=>h _ (q.2 m h1 h2)⟩
   ·split at q
    ·exact λm h1 h2=>h _ (q m h1 h2)
    ·exact q
  ·exact q
 |max=>simp only[opB,Er]at q ⊢;split at q <;> first |exact h _ q |exact q.elim
 |abs=>simp only[opB,Eo]at q ⊢;split at q <;> first |exact h _ q |exact q.elim
 |min2=>simp only[opB,Ep]at q ⊢;split at q <;> first |exact h _ q |exact q.elim
 |str=>
  simp only[opB,wY]at q ⊢;split at q
  ·exact ⟨q.1,h _ q.2⟩
  ·exact q
theorem Fb{f:Lf}{as:List D}{k k':List D->Prop}(h:∀c,k c->k' c)(q:cR f as k):cR f as k':=by
 cases f with
 |list=>simp only[cR,wZ]at q ⊢;split at q <;> first |exact h _ q |exact q.elim
 |sorted=>
  simp only[cR,qZ]at q ⊢;split at q
  ·split at q
   ·exact ⟨q.1,λls p z=>h _ (q.2 ls p z)⟩
   ·exact q
  ·split at q
   ·exact ⟨q.1,λls p z=>h _ (q.2 ls p z)⟩
   ·exact q
  ·exact q
theorem gK{m:Mf}{o:D}{as:List D}(h:∀d G',k d G'->k' d G')(q:opM m o as G k):opM m o as G k':=by
 cases m with
 |join=>
  simp only[opM,q8]at q ⊢;split at q
  ·split at q
   ·exact ⟨q.1,h _ _ q.2⟩
   ·exact q
  ·exact q
 |append=>
  simp only[opM,q9]at q ⊢;split at q
  ·split at q
   ·exact ⟨q.1,h _ _ q.2⟩
   ·exact q
  ·exact q
 |extend=>
  simp only[opM,rm]at q ⊢;split at q
  ·split at q
   ·exact ⟨q.1,h _ _ q.2⟩
   ·exact q
  ·exact q
 |insert=>
  simp only[opM,rn]at q ⊢;split at q
  ·split at q
   ·exact ⟨q.1,q.2.1,q.2.2.1,h _ _ q.2.2.2⟩
   ·exact q
  ·exact q
 |pop=>
  simp only[opM,w5]at q ⊢;split at q
  ·split at q
   ·refine ⟨q.1,q.2.1,?_⟩;have q2:=q.2.2;split at q2
    ·exact h _ _ q2
    ·exact q2
   ·exact q
  ·exact q
 |count=>
  simp only[opM,rz]at q ⊢;split at q
  ·split at q
   ·exact h _ _ q
   ·exact q
  ·exact q
 |index=>
  simp only[opM,rA]at q ⊢;split at q
  ·split at q
   ·exact ⟨q.1,h _ _ q.2⟩
   ·exact q
  ·exact q
theorem xY{o i x:D}{k k':DH->Prop}(h:∀G',k G'->k' G')(q:eG o i x G k):eG o i x G k':=by
 unfold eG at q ⊢;split at q
 ·split at q
  ·split at q
   ·exact h _ q
   ·exact q
  ·exact q
 ·exact q
theorem xZ{op:Operator}{a b:D}{k k':D->Prop}(h:∀c,k c->k' c)(q:dH op a b k):dH op a b k':=by
 unfold dH at q ⊢;split at q <;> first
  |exact h _ q
  |exact ⟨q.1,h _ q.2⟩
  |exact q.elim
mutual
theorem gk{k k':ak->Prop}(h:∀ρ,k ρ->k' ρ):∀(t:Tg){d:D}{ρ:ak},aZ t d ρ G k->aZ t d ρ G k'
 |.nm i,d,ρ,q=>h _ q
 |.tp ts,d,ρ,q=>by
  unfold aZ at q ⊢;split at q
  ·exact yc h ts q
  ·exact yc h ts q
  ·exact q
theorem yc{k k':ak->Prop}(h:∀ρ,k ρ->k' ρ):∀(ts:Tgs){ds:List D}{ρ:ak},bD ts ds ρ G k->bD ts ds ρ G k'
 |.nil,ds,ρ,q=>by
  unfold bD at q ⊢;split at q
  ·exact h _ q
  ·exact q
 |.cons t r,ds,ρ,q=>by
  unfold bD at q ⊢;split at q
  ·exact gk (λρ' q'=>yc h r q') t q
  ·exact q
end
theorem uc{step step':D->ak->DH->(Option D->ak->DH->Prop)->Prop}(hs:∀d ρ G (k k':Option D->ak->DH->Prop),(∀o ρ' G',k o ρ' G'->k' o ρ' G')->step d ρ G k->step' d ρ G k')
  {g:Hld} {k k':List D->DH->Prop} (h:∀ds G',k ds G'->k' ds G'):∀(ds acc:List D)(ρ:ak)(G:DH),compLoop step g ds acc ρ G k->compLoop step' g ds acc ρ G k'
 |[],acc,ρ,G,q=>⟨q.1,q.2.1,h _ _ q.2.2⟩
 |d::ds,acc,ρ,G,q=>by
  refine ⟨q.1,q.2.1,hs d ρ G _ _ (λo ρ' G' z=>?_) q.2.2⟩;cases o with
  |some y=>exact uc hs h ds (acc++[y]) ρ' G' z
  |none=>exact uc hs h ds acc ρ' G' z
theorem Fd{step step':D->ak->DH->(ak->DH->Prop)->Prop}(hs:∀d ρ G (k k':ak->DH->Prop),(∀ρ' G',k ρ' G'->k' ρ' G')->step d ρ G k->step' d ρ G k')
  {g:Hld} {k k':ak->DH->Prop} (h:∀ρ G',k ρ G'->k' ρ G'):∀(ds:List D)(ρ:ak)(G:DH),forLoop step g ds ρ G k->forLoop step' g ds ρ G k'
 |[],ρ,G,q=>⟨q.1,h _ _ q.2⟩
 |d::ds,ρ,G,q=>⟨q.1,hs d ρ G _ _ (λρ' G' z=>Fd hs h ds ρ' G' z) q.2⟩
theorem Fe{test test':ak->DH->(Bool->DH->Prop)->Prop}{body body':ak->DH->(ak->DH->Prop)->Prop}
  (ht:∀ρ G (k k':Bool->DH->Prop),(∀b G',k b G'->k' b G')->test ρ G k->test' ρ G k') (hb:∀ρ G (k k':ak->DH->Prop),(∀ρ' G',k ρ' G'->k' ρ' G')->body ρ G k->body' ρ G k')
  {k k':ak->DH->Prop} (h:∀ρ G',k ρ G'->k' ρ G'):∀(n:Nat)(ρ:ak)(G:DH),whileLoop test body n ρ G k->whileLoop test' body' n ρ G k'
 |0,ρ,G,q=>q
 |n+1,ρ,G,q=>ht ρ G _ _ (λb G' z=>by
   cases b with
   |true=>exact hb ρ G' _ _ (λρ' G'' z'=>Fe ht hb h n ρ' G'' z') z
   |false=>exact h _ _ z) q
end
section
variable {Φ:aa} {G:DH}
mutual
theorem aG{E:EK}{ρ:ak}:∀(x:Ex){G:DH}{k k':D->DH->Prop},(∀d G',k d G'->k' d G')->wpE Φ x E ρ G k->wpE Φ x E ρ G k'
 |.var i,G,k,k',h,q=>by
  rw[rQ]at q ⊢;split at q
  ·exact h _ _ q
  ·exact q
 |.cst d,G,k,k',h,q=>by rw[iu]at q ⊢;exact h _ _ q
 |.glb x d,G,k,k',h,q=>by rw[rR]at q ⊢;exact h _ _ q
 |.bin op fz a b,G,k,k',h,q=>by
  rw[rT]at q ⊢;exact aG a (λ_ _ q=>aG b (λ_ _ q=>Ew h q) q) q
 |.neg a,G,k,k',h,q=>by
  rw[rW]at q ⊢;refine aG a (λx _ q=>?_) q;split at q
  ·exact h _ _ q
  ·exact q
 |.cmp op a b,G,k,k',h,q=>by
  rw[lr]at q ⊢;exact aG a (λ_ _ q=>aG b (λ_ _ q=>iw (λ_ q=>h _ _ q) q) q) q
 |.chn op op' a b c,G,k,k',h,q=>by
  rw[lu]at q ⊢;refine aG a (λ_ _ q=>aG b (λ_ _ q=>iw (λt q=>?_) q) q) q;cases t with
  |true=>exact aG c (λ_ _ q=>iw (λ_ q=>h _ _ q) q) q
  |false=>exact h _ _ q
 |.not a,G,k,k',h,q=>by
  rw[rY]at q ⊢;refine aG a (λx _ q=>?_) q;split at q
  ·exact h _ _ q
  ·exact q
 |.boo isAnd e es,G,k,k',h,q=>by
  rw[rZ]at q ⊢;refine aG e (λx _ q=>?_) q;split at q
  ·exact ud es (λ_ _ q=>h _ _ q) q
  ·exact q
 |.ife c a b,G,k,k',h,q=>by
  rw[sr]at q ⊢;refine cT c (λt _ q=>?_) q;cases t with
  |true=>exact aG a h q
  |false=>exact aG b h q
 |.tup es,G,k,k',h,q=>by
  rw[su]at q ⊢;exact cA es (λ_ _ q=>⟨q.1,h _ _ q.2⟩) q
 |.lst fz es,G,k,k',h,q=>by
  rw[sy]at q ⊢;exact cA es (λ_ _ q=>⟨q.1,dI h q.2⟩) q
 |.idx a i,G,k,k',h,q=>by
  rw[sE]at q ⊢;exact aG a (λ_ _ q=>aG i (λ_ _ q=>tZ (λ_ q=>h _ _ q) q) q) q
 |.slc fz a lo hi,G,k,k',h,q=>by
  rw[sG]at q ⊢;exact aG a (λ_ _ q=>ye lo (λ_ _ q=>ye hi (λ_ _ q=>Ez h q) q) q) q
 |.rvs fz a s,G,k,k',h,q=>by
  rw[xF]at q ⊢;exact aG a (λ_ _ q=>aG s (λ_ _ q=>aaf h q) q) q
 |.call f es,G,k,k',h,q=>by
  rw[sH]at q ⊢;exact cA es (λ_ _ q=>Spec.mono q h λ_ _ z=>z) q
 |.bcl f es,G,k,k',h,q=>by
  rw[sI]at q ⊢;exact cA es (λ_ _ q=>EY (λ_ q=>h _ _ q) q) q
 |.lcl fz f es,G,k,k',h,q=>by
  rw[sJ]at q ⊢;exact cA es (λ_ _ q=>Fb (λ_ q=>dI h q) q) q
 |.isi a t,G,k,k',h,q=>by
  rw[sO]at q ⊢;refine aG a (λx _ q=>?_) q;split at q
  ·exact h _ _ q
  ·exact q
 |.isx a C xs,G,k,k',h,q=>by
  rw[xG]at q ⊢;refine aG a (λx _ q=>?_) q;split at q
  ·exact ⟨q.1,h _ _ q.2⟩
  ·exact q
 |.rgl fz a,G,k,k',h,q=>by
  rw[xH]at q ⊢;refine aG a (λd _ q=>?_) q;split at q
  ·exact ⟨q.1,dI h q.2⟩
  ·exact q
 |.rpl f a b ix,G,k,k',h,q=>by
  rw[aae]at q ⊢;refine aG a (λ_ _ q=>aG b (λ_ _ q=>tZ (λ_ q=>Spec.mono q (λd G3 q=>?_) λ_ _ z=>z) q) q) q;unfold xg at q ⊢;split at q
  ·refine ⟨q.1,aG ix (λi G4 q=>?_) q.2⟩;unfold xj at q ⊢;split at q
   ·split at q
    ·exact h _ _ q
    ·exact q
   ·exact q
  ·exact q
 |.fld C f o,G,k,k',h,q=>by
  rw[sS]at q ⊢;refine aG o (λd _ q=>?_) q;unfold gf at q ⊢;split at q
  ·exact ⟨q.1,q.2.1,h _ _ q.2.2⟩
  ·exact q
 |.mcl f C m o es,G,k,k',h,q=>by
  rw[sU]at q ⊢;exact aG o (λd _ q=>⟨q.1,cA es (λ_ _ q=>Spec.mono q h λ_ _ z=>z) q.2⟩) q
 |.mko C es,G,k,k',h,q=>by
  rw[sV]at q ⊢;exact cA es (λ_ _ q=>Spec.mono q h λ_ _ z=>z) q
 |.pp0 o,G,k,k',h,q=>by
  rw[sW]at q ⊢;refine aG o (λd _ q=>?_) q;unfold fB at q ⊢;split at q
  ·split at q
   ·split at q
    ·exact h _ _ q
    ·exact q
   ·exact q
  ·exact q
 |.rgt a,G,k,k',h,q=>by
  rw[xJ]at q ⊢;refine aG a (λd _ q=>?_) q;split at q
  ·exact ⟨q.1,h _ _ q.2⟩
  ·exact q
 |.fst es,G,k,k',h,q=>by
  rw[xK]at q ⊢;exact yd es (λ_ _ q=>⟨q.1,h _ _ q.2⟩) q
 |.mth m o es,G,k,k',h,q=>by
  rw[fD]at q ⊢;exact aG o (λ_ _ q=>⟨q.1,cA es (λ_ _ q=>gK h q) q.2⟩) q
 |.comp fz elt tg it cond N cap,G,k,k',h,q=>by
  rw[xX]at q ⊢;refine lz it (λitems g G1 q=>?_) q;refine uc ?_ (λds G2 z=>dI h z) items [] _ G1 q;intro d ρ' G' k k' hk z;refine gk (λρ1 z=>?_) tg z;refine cT cond (λb G2 z=>?_) z;cases b with
  |true=>exact aG elt (λy G3 z=>hk _ _ _ z) z
  |false=>exact hk _ _ _ z
 |.frz a,G,k,k',h,q=>by
  rw[sX]at q ⊢;refine aG a (λx G1 q=>?_) q;split at q
  ·split at q
   ·exact h _ _ q
   ·exact q
  ·exact h _ _ q
theorem cT{E:EK}{ρ:ak}:∀(x:Tx){G:DH}{k k':Bool->DH->Prop},(∀d G',k d G'->k' d G')->wpT Φ x E ρ G k->wpT Φ x E ρ G k'
 |.not a,G,k,k',h,q=>by rw[rD]at q ⊢;exact cT a (λ_ _ q=>h _ _ q) q
 |.boo isAnd e es,G,k,k',h,q=>by rw[rE]at q ⊢;exact cT e (λ_ _ q=>ue es h q) q
 |.yes,G,k,k',h,q=>by rw[rF]at q ⊢;exact h _ _ q
 |.val a,G,k,k',h,q=>by
  rw[jz]at q ⊢;refine aG a (λx _ q=>?_) q;split at q
  ·exact h _ _ q
  ·exact q
theorem yd{E:EK}{ρ:ak}:∀(x:Exs){G:DH}{k k':List Nat->DH->Prop},(∀d G',k d G'->k' d G')->wpF Φ x E ρ G k->wpF Φ x E ρ G k'
 |.nil,G,k,k',h,q=>by rw[xM]at q ⊢;exact h _ _ q
 |.cons e es,G,k,k',h,q=>by
  rw[xN]at q ⊢;refine aG e (λd _ q=>?_) q;split at q
  ·exact ⟨q.1,yd es (λ_ _ q=>h _ _ q) q.2⟩
  ·exact ⟨q.1,yd es (λ_ _ q=>h _ _ q) q.2⟩
  ·exact q
theorem cA{E:EK}{ρ:ak}:∀(x:Exs){G:DH}{k k':List D->DH->Prop},(∀d G',k d G'->k' d G')->aM Φ x E ρ G k->aM Φ x E ρ G k'
 |.nil,G,k,k',h,q=>by rw[gj]at q ⊢;exact h _ _ q
 |.cons e es,G,k,k',h,q=>by rw[gJ]at q ⊢;exact aG e (λ_ _ q=>cA es (λ_ _ q=>h _ _ q) q) q
theorem ud{E:EK}{ρ:ak}:∀(x:Exs){isAnd b:Bool}{G:DH}{k k':Bool->DH->Prop},(∀d G',k d G'->k' d G')->wpB Φ x isAnd b E ρ G k->wpB Φ x isAnd b E ρ G k'
 |.nil,_,_,G,k,k',h,q=>by rw[rG]at q ⊢;exact h _ _ q
 |.cons e es,isAnd,b,G,k,k',h,q=>by
  rw[lg]at q ⊢;cases isAnd <;> cases b <;> first
   |exact h _ _ q
   | (refine aG e (λd _ q=>?_) q
      split at q
      ·exact ud es h q
      ·exact q)
theorem ue{E:EK}{ρ:ak}:∀(x:Txs){isAnd b:Bool}{G:DH}{k k':Bool->DH->Prop},(∀d G',k d G'->k' d G')->gh Φ x isAnd b E ρ G k->gh Φ x isAnd b E ρ G k'
 |.nil,_,_,G,k,k',h,q=>by rw[rH]at q ⊢;exact h _ _ q
 |.cons e es,isAnd,b,G,k,k',h,q=>by
  rw[lq]at q ⊢;cases isAnd <;> cases b <;> first
   |exact h _ _ q
   |exact cT e (λd _ q=>ue es h q) q
theorem ye{E:EK}{ρ:ak}:∀(x:Ox){G:DH}{k k':Option Int->DH->Prop},(∀d G',k d G'->k' d G')->wpO Φ x E ρ G k->wpO Φ x E ρ G k'
 |.no,G,k,k',h,q=>by rw[rJ]at q ⊢;exact h _ _ q
 |.ob a,G,k,k',h,q=>by
  rw[rK]at q ⊢;refine aG a (λx _ q=>?_) q;split at q
  ·exact h _ _ q
  ·exact q
theorem lz{E:EK}{ρ:ak}:∀(x:It'){G:DH}{k k':List D->Hld->DH->Prop},(∀d g G',k d g G'->k' d g G')->wpI Φ x E ρ G k->wpI Φ x E ρ G k'
 |.seq a,G,k,k',h,q=>by
  rw[rM]at q ⊢;refine aG a (λx _ q=>?_) q;split at q
  ·exact h _ _ _ q
  ·exact q
 |.rng a,G,k,k',h,q=>by
  rw[rN]at q ⊢;refine aG a (λx _ q=>?_) q;split at q
  ·exact ⟨q.1,h _ _ _ q.2⟩
  ·exact q
 |.rev a,G,k,k',h,q=>by
  rw[xr]at q ⊢;refine aG a (λx _ q=>?_) q;split at q
  ·exact ⟨q.1,h _ _ _ q.2⟩
  ·exact q
 |.dwn a b d,G,k,k',h,q=>by
  rw[xu]at q ⊢;refine aG a (λx _ q=>aG b (λy _ q=>aG d (λz _ q=>?_) q) q) q;split at q
  ·exact ⟨q.1,h _ _ _ q.2⟩
  ·exact q
 |.rng2 a b,G,k,k',h,q=>by
  rw[xq]at q ⊢;refine aG a (λx _ q=>aG b (λy _ q=>?_) q) q;split at q
  ·exact ⟨q.1,h _ _ _ q.2⟩
  ·exact q
 |.enm a,G,k,k',h,q=>by
  rw[rO]at q ⊢;refine aG a (λx _ q=>?_) q;split at q
  ·exact h _ _ _ q
  ·exact q
 |.zip a b,G,k,k',h,q=>by
  rw[rP]at q ⊢;refine aG a (λx _ q=>aG b (λy _ q=>?_) q) q;split at q
  ·exact h _ _ _ q
  ·exact q
end
structure En.Le(D D':En):Prop where
 nx:∀ρ G,D.nx ρ G->D'.nx ρ G
 rt:∀d G,D.rt d G->D'.rt d G
 bk:∀ρ G,D.bk ρ G->D'.bk ρ G
 ct:∀ρ G,D.ct ρ G->D'.ct ρ G
theorem uf:∀(b:Tb){ρ:ak}{G:DH}{nx nx':ak->DH->Prop}{ex ex':Xn->ak->DH->Prop},(∀ρ G,nx ρ G->nx' ρ G)->(∀x ρ G,ex x ρ G->ex' x ρ G)->wpX Φ b ρ G nx ex->wpX Φ b ρ G nx' ex'
 |.call f es,ρ,G,nx,nx',ex,ex',h,h',q=>by rw[xU]at q ⊢;exact cA es (λ_ _ q=>Spec.mono q (λ_ _ z=>h _ _ z) λ_ _ z=>h' _ _ _ z) q
 |.pick f g i es,ρ,G,nx,nx',ex,ex',h,h',q=>by
  rw[xR]at q ⊢;exact aG (.var i) (λ_ _ q=>let ⟨b,e,q⟩:=q;⟨b,e,cA es (λ_ _ q=>Spec.mono q (λ_ _ z=>h _ _ z) λ_ _ z=>h' _ _ _ z) q⟩) q
 |.mcl f C m o es,ρ,G,nx,nx',ex,ex',h,h',q=>by
  rw[tW]at q ⊢;exact aG o (λ_ _ q=>⟨q.1,cA es (λ_ _ q=>Spec.mono q (λ_ _ z=>h _ _ z) λ_ _ z=>h' _ _ _ z) q.2⟩) q
 |.mko C es,ρ,G,nx,nx',ex,ex',h,h',q=>by rw[xT]at q ⊢;exact cA es (λ_ _ q=>Spec.mono q (λ_ _ z=>h _ _ z) λ_ _ z=>h' _ _ _ z) q
 |.asg i f es,ρ,G,nx,nx',ex,ex',h,h',q=>by rw[xV]at q ⊢;exact cA es (λ_ _ q=>Spec.mono q (λ_ _ z=>h _ _ z) λ_ _ z=>h' _ _ _ z) q
 |.ite c a b,ρ,G,nx,nx',ex,ex',h,h',q=>by
  rw[xW]at q ⊢;refine cT c (λt _ q=>?_) q;cases t with
  |true=>exact uf a h h' q
  |false=>exact uf b h h' q
mutual
theorem wpS_mono{E:EK}:∀(x:Sx){ρ:ak}{G:DH}{D D':En},D.Le D'->wpS Φ x E ρ G D->wpS Φ x E ρ G D'
 |.exp e,ρ,G,D,D',h,q=>by rw[sY]at q ⊢;exact aG e (λ_ _ q=>h.nx _ _ q) q
 |.asg t e,ρ,G,D,D',h,q=>by rw[jC]at q ⊢;exact aG e (λ_ _ q=>gk (λ_ q=>h.nx _ _ q) t q) q
 |.set o i e,ρ,G,D,D',h,q=>by rw[sZ]at q ⊢;exact aG e (λ_ _ q=>aG o (λ_ _ q=>aG i (λ_ _ q=>xY (λ_ q=>h.nx _ _ q) q) q) q) q
 |.aug i op e,ρ,G,D,D',h,q=>by
  rw[tu]at q ⊢;split at q
  ·exact aG e (λ_ _ q=>xZ (λ_ q=>h.nx _ _ q) q) q
  ·exact q
 |.augs o i op e,ρ,G,D,D',h,q=>by
  rw[xO]at q ⊢;exact aG o (λ_ _ q=>aG i (λ_ _ q=>tZ (λ_ q=>aG e (λ_ _ q=>xZ (λ_ q=>xY (λ_ q=>h.nx _ _ q) q) q) q) q) q) q
 |.ret e,ρ,G,D,D',h,q=>by rw[tB]at q ⊢;exact aG e (λ_ _ q=>h.rt _ _ q) q
 |.rtn,ρ,G,D,D',h,q=>by rw[tD]at q ⊢;exact h.rt _ _ q
 |.ite c a b,ρ,G,D,D',h,q=>by
  rw[tH]at q ⊢;refine cT c (λt _ q=>?_) q;cases t with
  |true=>exact cY a h q
  |false=>exact cY b h q
 |.for_ t it body,ρ,G,D,D',h,q=>by
  rw[Es]at q ⊢;exact lz it (λitems g G1 q=>Fd (λd ρ' G' k k' hk z=>gk (λρ1 z=>cY body (D:={ D with nx:=k,ct:=k,bk:=D.nx }) (D':={ D' with nx:=k',ct:=k',bk:=D'.nx }) ⟨hk,h.rt,h.nx,hk⟩ z) t z) h.nx items ρ G1 q) q
 |.whl c body,ρ,G,D,D',h,q=>by
  rw[Et]at q ⊢;obtain ⟨n,q⟩:=q;refine ⟨n,?_⟩;refine Fe ?_ ?_ h.nx n ρ G q
  ·exact λρ' G' k k' hk z=>cT c hk z
  ·exact λρ' G' k k' hk z=>cY body (D:={ D with nx:=k,ct:=k,bk:=D.nx }) (D':={ D' with nx:=k',ct:=k',bk:=D'.nx }) ⟨hk,h.rt,h.nx,hk⟩ z
 |.pas,ρ,G,D,D',h,q=>by rw[tM]at q ⊢;exact h.nx _ _ q
 |.brk,ρ,G,D,D',h,q=>by rw[tQ]at q ⊢;exact h.bk _ _ q
 |.cnt,ρ,G,D,D',h,q=>by rw[tR]at q ⊢;exact h.ct _ _ q
 |.nev,ρ,G,D,D',h,q=>by rw[tX]at q;exact q.elim
 |.rse C es,ρ,G,D,D',h,q=>by rw[lw]at q ⊢;exact q
 |.tryc f es C i b,ρ,G,D,D',h,q=>by rw[xQ]at q ⊢;exact cA es (λ_ _ q=>Spec.mono q (λ_ _ z=>h.nx _ _ z) λ_ _ z=>⟨z.1,z.2.1,h.nx _ _ z.2.2⟩) q
 |.tryx b C hd xs,ρ,G,D,D',h,q=>by rw[tV]at q ⊢;exact uf b (λ_ _ z=>h.nx _ _ z) (λ_ _ _ z=>⟨z.1,z.2.1,z.2.2.1,h.nx _ _ z.2.2.2⟩) q
theorem cY{E:EK}:∀(x:Sxs){ρ:ak}{G:DH}{D D':En},D.Le D'->aq Φ x E ρ G D->aq Φ x E ρ G D'
 |.nil,ρ,G,D,D',h,q=>by rw[jA]at q ⊢;exact h.nx _ _ q
 |.cons s r,ρ,G,D,D',h,q=>by rw[jB]at q ⊢;exact wpS_mono s (D:={ D with nx:=λρ' G'=>aq Φ r E ρ' G' D }) (D':={ D' with nx:=λρ' G'=>aq Φ r E ρ' G' D' }) ⟨λ_ _ z=>cY r h z,h.rt,h.bk,h.ct⟩ q
end
end
def PV(K:PF)(H:Hp)(F:FZ)(Q:VK):D->DH->Prop:=λd G'=>∀H' F' v,Ext H F H' F'->R K H' F' G'->Rep K H' F' d v->Q v H'
def PB(K:PF)(H:Hp)(F:FZ)(Q:Bool->Hp->Prop):Bool->DH->Prop:=λb G'=>∀H' F',Ext H F H' F'->R K H' F' G'->Q b H'
noncomputable def PLs(K:PF)(H:Hp)(F:FZ)(Q:List V->Hp->Prop):List D->DH->Prop:=λds G'=>∀H' F' vs,Ext H F H' F'->R K H' F' G'->Reps K H' F' ds vs->Q vs H'
section
variable {K:PF} {H:Hp} {F:FZ} {G:DH} {Q:VK}
theorem PV.now{d:D}{v:V}(h:PV K H F Q d G)(r:R K H F G)(q:Rep K H F d v):Q v H:=h H F v (Ext.refl H F) r q
theorem gm{fz:Bool}{ds:List D}{vs:List V}(h:mk fz ds G (PV K H F Q))(r:R K H F G)(t:Reps K H F ds vs)(p:Addr)(hp:H p=none):Q (.ref p) (upd H p (.lst vs)):=by
 cases fz with
 |true=>exact h _ _ _ (wN r hp) (r.newF hp) (aac r hp t)
 |false=>exact h p (r.free hp) _ _ _ (dw r hp) (r.newL hp t) rfl
theorem lA{ds:List D}{vs:List V}(h:PV K H F Q (.tup ds) G)(r:R K H F G)(t:Reps K H F ds vs)(p:Addr)(hp:H p=none):Q (.ref p) (upd H p (.tup vs)):=
 h _ _ _ (dw r hp) (r.new hp) (wQ r hp t)
end
theorem szl:sz<=sizeLine:=by rw[gg];decide
theorem cZ{n:Nat}(h:n<=sz):n<=sizeLine:=br h szl
def rB2(K:PF)(f:D->D->DH->(D->DH->Prop)->Prop):R2:=λx y H Q=>∃F G a b,R K H F G/\Rep K H F a x/\Rep K H F b y/\f (view G a) (view G b) G (PV K H F Q)
section
variable {X:Cx}
theorem aag:OpR X (binaryOp .Add) (λx y H Q=>∃a b xs ys,x=.ref a/\y=.ref b/\SqL X.K H a xs/\SqL X.K H b ys/\xs.length+ys.length<=sizeLine/\∀p,H p=none->Q (.ref p) (upd H p (.lst (xs++ys)))):=by
 intro pins s σ H x y v u Q I rx ry h;obtain ⟨a,b,xs,ys,rfl,rfl,ha,hb,hz,q⟩:=h;cases rx;cases ry;obtain ⟨its,r1,p1,_⟩:=I.list ha;obtain ⟨its2,r2,p2,_⟩:=I.list hb;obtain ⟨⟨cls,dd,data,sl⟩,ho,hc,n,hd⟩:=p1.isList;obtain ⟨⟨cls2,dd2,data2,sl2⟩,ho2,hc2,n2,hd2⟩:=p2.isList;simp only at hc hd hc2 hd2;subst hc hd hc2 hd2;have e:its.toArray++its2.toArray=(its++its2).toArray:=by simp
 refine concat_meets ⟨_,ho,rfl⟩ ⟨_,ho2,rfl⟩ noFill_list_add seq_list_add PySem.F.slot_list_add PySem.F.entry_list_add (PySem.F.args_list_add_2 _ _)
  (list_addW a b its.toArray its2.toArray n n2 dd dd2 sl sl2 (by rw[am,am,<-r1.length,<-r2.length];exact hz)) ⟨ho,ho2,?_⟩
 rw[e];exact ⟨.ref _,_,I.lnew (t':=s.toks) (r1.append r2) (by rw[av];exact hz),rfl,q _ I.fresh⟩
theorem aah:OpR X (binaryOp .Add) (λx y H Q=>∃a b ys,x=.ref a/\y=.ref b/\SqT X.K H a []/\SqT X.K H b ys/\Q (.ref b) H):=by
 intro pins s σ H x y v u Q I rx ry h;obtain ⟨a,b,ys,rfl,rfl,ha,hb,q⟩:=h;cases rx;cases ry;obtain ⟨its,r1,p1,_⟩:=I.tuple ha;obtain ⟨its2,r2,p2,_⟩:=I.tuple hb;obtain ⟨⟨cls,dd,data,sl⟩,ho,hc,n,hd⟩:=id p1;obtain ⟨⟨cls2,dd2,data2,sl2⟩,ho2,hc2,n2,hd2⟩:=id p2;simp only at hc hd hc2 hd2;subst hc hd hc2 hd2;cases r1;exact concat_meets ⟨_,ho,rfl⟩ ⟨_,ho2,rfl⟩ noFill_tuple_add seq_tuple_add PySem.F.slot_tuple_add PySem.F.entry_tuple_add (PySem.F.args_tuple_add_2 _ _)
   (tuple_addW0 a b _ its2.toArray n n2 dd dd2 sl sl2 (by simp)) ⟨ho,ho2,⟨.ref b,H,I,rfl,q⟩⟩
theorem yf{K:PF}{H:Hp}{F:FZ}{ds:List D}{vs:List V}(t:Reps K H F ds vs):ds=[]↔vs=[]:=by
 have:=t.length;constructor
 ·intro e;subst e;exact df.mp this.symm
 ·intro e;subst e;exact df.mp this
theorem aai{x:Str}{n:Nat}(h1:n<=1000)(h:x.length * n<=sz):MulOk x (n:Int):=by
 have h2:((x.length * n:Nat):Int)<=((1000000:Nat):Int):=Int.ofNat_le.mpr h;rw[Int.natCast_mul]at h2;refine ⟨?_,?_,?_⟩
 ·rw[cq (by omega),cq (by omega)];rfl
 ·intro hn _ hh;have hp:(0:Int) < n:=by omega
  have h3:(x.length:Int)<=(2 ^ 63 - 1) / n:=(Int.le_ediv_iff_mul_le hp).mpr (Int.le_trans h2 (by decide));exact absurd hh (Int.not_lt.mpr h3)
 ·intro _ _;unfold Builtin.Str.tooLong;rw[gg,de];exact cq (by have:sz=1000000:=rfl;omega)
theorem Ff(l:List Nat):∀(n:Nat)(acc:List Nat),(List.replicate n l.toArray).foldl (· ++ ·) acc.toArray=(acc++reps l n).toArray
 |0,acc=>by simp[reps]
 |n+1,acc=>by
  rw[cb,List.foldl_cons];have e:acc.toArray++l.toArray=(acc++l).toArray:=by simp
  rw[e,Ff l n (acc++l)];unfold reps;rw[cb,eM,List.append_assoc]
theorem aaj(n:Nat):reps ([]:List Nat) n=[]:=by
 unfold reps;induction n with
 |zero=>rfl
 |succ n ih=>rw[cb,eM,ih];rfl
theorem aak{α:Type}(l:List α)(n:Nat):(reps l n).length=n * l.length:=len_rep l n
theorem aal(l:List Nat)(n:Nat):Txt.mul (tx l) (n:Int)=tx (reps l n):=by
 unfold Txt.mul;by_cases h:(n:Int) < 1
 ·rw[if_pos h];have:n=0:=by omega
  subst this;rfl
 ·rw[if_neg h];by_cases h2:((n:Int)==1||(tx l).length==0)=true
  ·rw[if_pos h2];rw[dc]at h2;rcases h2 with h2 |h2
   ·have:n=1:=by have:=eq_of_beq h2;omega
    subst this;simp[reps]
   ·have h3:=eq_of_beq h2;rw[bN]at h3;have:l=[]:=df.mp h3;subst this;rw[aaj]
  ·rw[if_neg h2];have e:=Ff l n [];rw[List.nil_append]at e;exact fb Str.mk (by simpa using e)
theorem aam(op:Operator)(fz:Bool):OpR X (binaryOp op) (rB2 X.K (cu op fz)):=by
 intro pins s σ H x y v u Q I rx ry h;obtain ⟨F,G,a,b,r,ra,rb,h⟩:=h;generalize ea:view G a=va at h;generalize eb:view G b=vb at h;have twoI:∀{p:Int->Int->Prop},gG va vb p->∃i j,x=.int i/\y=.int j/\p i j:=λ{p} h=>by
  obtain ⟨i,j,rfl,rfl,h⟩:=Eu h;cases dz ea;cases dz eb;exact ⟨i,j,ra,rb,h⟩
 cases op with
 |Add=>
  have h:jn fz va vb G _:=h;unfold jn at h;cases va with
  |int _=>cases vb with
   |int _=>
    cases dz ea;cases dz eb;have ha:x=.int _:=ra;have hb:y=.int _:=rb;subst ha;subst hb;exact WQ pins s σ H _ _ v u Q I rx ry ⟨_,_,rfl,rfl,h.now r rfl⟩
   |_=>exact h.elim
  |str _=>cases vb with
   |str _=>
    cases fu ea;cases fu eb;obtain ⟨ha,la⟩:=ra;obtain ⟨hb,lb⟩:=rb;subst ha;subst hb;refine Xb pins s σ H _ _ v u Q I rx ry ⟨_,_,rfl,rfl,?_,?_⟩
    ·rw[bN,bN];exact cZ h.1
    ·rw[qP];exact h.2.now r ⟨rfl,by rw[av];exact h.1⟩
   |_=>exact h.elim
  |lst _=>cases vb with
   |lst _=>
    obtain ⟨p,vs,rfl,q1,t1⟩:=Rep.list r ra ea;obtain ⟨p',vs',rfl,q2,t2⟩:=Rep.list r rb eb;exact aag pins s σ H _ _ v u Q I rx ry ⟨p,p',vs,vs',rfl,rfl,q1,q2,by rw[<-t1.length,<-t2.length];exact cZ h.1,gm h.2 r (t1.append t2)⟩
   |_=>exact h.elim
  |tup xs=>cases vb with
   |tup ys=>
    cases fj ea;cases fj eb;obtain ⟨p,vs,rfl,q1,t1⟩:=id ra;obtain ⟨p',vs',rfl,q2,t2⟩:=id rb;by_cases hx:vs=[]
    ·subst hx;have:xs=[]:=(yf t1).mpr rfl;subst this;exact aah pins s σ H _ _ v u Q I rx ry ⟨p,p',vs',rfl,rfl,q1.sq,q2.sq,h.2.now r rb⟩
    ·refine Yi pins s σ H _ _ v u Q I rx ry ⟨p,p',vs,vs',rfl,rfl,q1.sq,q2.sq,hx,by rw[<-t1.length,<-t2.length];exact cZ h.1,λe=>?_,λ_=>lA h.2 r (t1.append t2)⟩;subst e;have:ys=[]:=(yf t2).mpr rfl;subst this;have h2:=h.2;rw[dy]at h2;exact h2.now r ra
   |_=>exact h.elim
  |_=>exact h.elim
 |Sub=>
  obtain ⟨i,j,rfl,rfl,h⟩:=twoI h;exact WR pins s σ H _ _ v u Q I rx ry ⟨_,_,rfl,rfl,h.now r rfl⟩
 |Mult=>
  have h:jo fz va vb G _:=h;unfold jo at h;cases vb with
  |int _=>cases va with
   |int _=>
    cases dz ea;cases dz eb;have ha:x=.int _:=ra;have hb:y=.int _:=rb;subst ha;subst hb;exact WT pins s σ H _ _ v u Q I rx ry ⟨_,_,rfl,rfl,h.1,h.2.now r rfl⟩
   |str _=>
    cases fu ea;cases dz eb;obtain ⟨ha,la⟩:=ra;have hb:y=.int _:=rb;subst ha;subst hb;obtain ⟨h0,h1,h2,h3⟩:=h;obtain ⟨n,rfl⟩:=c6 h0;rw[de]at h2 h3;refine Y8 pins s σ H _ _ v u Q I rx ry ⟨_,_,rfl,rfl,aai (by omega) (by rw[bN];exact h2),?_⟩;rw[aal];exact h3.now r ⟨rfl,by rw[aak,Nat.mul_comm];exact h2⟩
   |tup _=>
    cases fj ea;cases dz eb;obtain ⟨p,vs,rfl,q1,t1⟩:=ra;have hb:y=.int _:=rb;subst hb;obtain ⟨h0,h1,h2,h3,h4⟩:=h;refine Z4 pins s σ H _ _ v u Q I rx ry ⟨p,_,vs,rfl,rfl,q1.sq,λe=>h2 ((yf t1).mpr e),h0,h1,by rw[<-t1.length];exact cZ h3,?_⟩;exact lA h4 r (t1.rep _)
   |lst _=>
    cases dz eb;have hb:y=.int _:=rb;subst hb;obtain ⟨p,vs,rfl,q1,t1⟩:=ra.list r ea;obtain ⟨h0,h1,h2,h3⟩:=h;exact Z8 pins s σ H _ _ v u Q I rx ry ⟨p,_,vs,rfl,rfl,q1,h0,h1,by rw[<-t1.length];exact cZ h2,gm h3 r (t1.rep _)⟩
   |_=>exact h.elim
  |_=>exact h.elim
 |FloorDiv=>
  obtain ⟨i,j,rfl,rfl,h⟩:=twoI h;exact ZV pins s σ H _ _ v u Q I rx ry ⟨_,_,rfl,rfl,h.1,h.2.now r rfl⟩
 |Mod=>
  obtain ⟨i,j,rfl,rfl,h⟩:=twoI h;exact WW pins s σ H _ _ v u Q I rx ry ⟨_,_,rfl,rfl,h.1,h.2.now r rfl⟩
 |Pow=>
  obtain ⟨i,j,rfl,rfl,h⟩:=twoI h;exact WX pins s σ H _ _ v u Q I rx ry ⟨_,_,rfl,rfl,h.1,h.2.now r rfl⟩
 |_=>exact h.elim
end
mutual
theorem yg:∀{d:D},nr d=true->deq d d=true
 |.non,_=>rfl
 |.bl b,_=>by simp[deq]
 |.int i,_=>by simp[deq]
 |.str l,_=>by simp[deq]
 |.tup xs,h=>by rw[deq];exact yh (by rw[nr]at h;exact h)
 |.lst xs,h=>by rw[deq];exact yh (by rw[nr]at h;exact h)
 |.ref a,h=>by rw[nr]at h;cases h
 |.scr a,h=>by rw[nr]at h;cases h
 |.exn a,h=>by rw[nr]at h;cases h
 |.obj _ _ _,h=>by rw[nr]at h;cases h
theorem yh:∀{ds:List D},nrs ds=true->bJ ds ds=true
 |[],_=>rfl
 |d::ds,h=>by
  rw[nrs,ae]at h;rw[bJ,yg h.1,yh h.2];rfl
end
theorem ug:∀(xs ys:List D),bJ xs ys=((List.range (min xs.length ys.length)).all (λj=>deq (xs.getD j .non) (ys.getD j .non))&&xs.length==ys.length)
 |[],[]=>rfl
 |[],y::ys=>by simp[bJ]
 |x::xs,[]=>by simp[bJ]
 |x::xs,y::ys=>by
  have e:min (x::xs).length (y::ys).length=(min xs.length ys.length)+1:=by simp only[ck];omega
  rw[bJ,ug xs ys,e,List.range_succ_eq_map,List.all_cons,List.all_map];simp only[List.getD_cons_zero,ck,Bool.and_assoc];congr 1;congr 1;rw[fg];simp
theorem aan{xs ys:List D}(h:xs.length≠ys.length):bJ xs ys=false:=by rw[ug];rw[show (xs.length==ys.length)=false from cy.mpr h,Bool.and_false]
theorem lB:∀{xs:List D}{i:Nat},nrs xs=true->nr (xs.getD i .non)=true
 |[],_,_=>rfl
 |x::xs,0,h=>by rw[nrs,ae]at h;exact h.1
 |x::xs,i+1,h=>by rw[nrs,ae]at h;rw[List.getD_cons_succ];exact lB h.2
theorem lC:∀{xs:List D}{i:Nat},dpt (xs.getD i .non)<=aO xs
 |[],_=>eg _
 |x::xs,0=>by rw[aO,List.getD_cons_zero];omega
 |x::xs,i+1=>by rw[aO,List.getD_cons_succ];have:=@lC xs i;omega
section
variable {X:Cx} {pins:List (Addr×Obj)} {σ:L2.St} {H:Hp} {s:Shared} {F:FZ}
mutual
theorem uh(I:Inv X pins σ H s):∀{d d':D}{v:V},nr d=true->nr d'=true->Rep X.K H F d v->Rep X.K H F d' v->d=d'
 |.non,d',v,_,n',h,h'=>by
  have h:v=.non:=h;subst h;cases d' with
  |non=>rfl
  |bl _=>simp only[Rep]at h';cases h'
  |int _=>simp only[Rep]at h';cases h'
  |ref _=>simp only[Rep]at h';cases h'
  |scr _=>rw[nr]at n';cases n'
  |exn _=>rw[nr]at n';cases n'
  |obj _ _ _=>rw[nr]at n';cases n'
  |str _=>simp only[Rep]at h';obtain ⟨e,_⟩:=h';cases e
  |tup _=>simp only[Rep]at h';obtain ⟨_,_,e,_⟩:=h';cases e
  |lst _=>simp only[Rep]at h';obtain ⟨_,_,e,_⟩:=h';cases e
 |.bl b,d',v,_,n',h,h'=>by
  have h:v=.bl b:=h;subst h;cases d' with
  |non=>simp only[Rep]at h';cases h'
  |bl _=>simp only[Rep]at h';cases h';rfl
  |int _=>simp only[Rep]at h';cases h'
  |ref _=>simp only[Rep]at h';cases h'
  |scr _=>rw[nr]at n';cases n'
  |exn _=>rw[nr]at n';cases n'
  |obj _ _ _=>rw[nr]at n';cases n'
  |str _=>simp only[Rep]at h';obtain ⟨e,_⟩:=h';cases e
  |tup _=>simp only[Rep]at h';obtain ⟨_,_,e,_⟩:=h';cases e
  |lst _=>simp only[Rep]at h';obtain ⟨_,_,e,_⟩:=h';cases e
 |.int b,d',v,_,n',h,h'=>by
  have h:v=.int b:=h;subst h;cases d' with
  |non=>simp only[Rep]at h';cases h'
  |bl _=>simp only[Rep]at h';cases h'
  |int _=>simp only[Rep]at h';cases h';rfl
  |ref _=>simp only[Rep]at h';cases h'
  |scr _=>rw[nr]at n';cases n'
  |exn _=>rw[nr]at n';cases n'
  |obj _ _ _=>rw[nr]at n';cases n'
  |str _=>simp only[Rep]at h';obtain ⟨e,_⟩:=h';cases e
  |tup _=>simp only[Rep]at h';obtain ⟨_,_,e,_⟩:=h';cases e
  |lst _=>simp only[Rep]at h';obtain ⟨_,_,e,_⟩:=h';cases e
 |.str l,d',v,_,n',h,h'=>by
  obtain ⟨h,_⟩:=h;subst h;cases d' with
  |str l'=>
   obtain ⟨e,_⟩:=h';injection e with e;rw[Dt e]
  |non=>simp only[Rep]at h';cases h'
  |bl _=>simp only[Rep]at h';cases h'
  |int _=>simp only[Rep]at h';cases h'
  |ref _=>simp only[Rep]at h';cases h'
  |scr _=>rw[nr]at n';cases n'
  |exn _=>rw[nr]at n';cases n'
  |obj _ _ _=>rw[nr]at n';cases n'
  |tup _=>simp only[Rep]at h';obtain ⟨_,_,e,_⟩:=h';cases e
  |lst _=>simp only[Rep]at h';obtain ⟨_,_,e,_⟩:=h';cases e
 |.tup xs,d',v,n,n',h,h'=>by
  obtain ⟨a,vs,e,q,t⟩:=h;subst e;cases d' with
  |tup ys=>
   obtain ⟨a',vs',e,q',t'⟩:=h';injection e with e;subst e;have:=I.tuple_inj q.sq q'.sq;subst this;rw[nr]at n n';rw[yj I n n' t t']
  |lst ys=>
   obtain ⟨a',vs',e,q',t'⟩:=h';injection e with e;subst e;obtain ⟨its,_,⟨o,e1,c1,_⟩,_⟩:=I.tuple q.sq;obtain ⟨its',_,⟨o',n',e2,c2,_⟩,_⟩:=I.list q'.sq;rw[e1]at e2;cases e2;rw[c1]at c2;exact absurd c2 (by ac_rfl)
  |ref _=>rw[nr]at n';cases n'
  |scr _=>rw[nr]at n';cases n'
  |exn _=>rw[nr]at n';cases n'
  |obj _ _ _=>rw[nr]at n';cases n'
  |str _=>simp only[Rep]at h';obtain ⟨e,_⟩:=h';cases e
  |non=>simp only[Rep]at h';cases h'
  |bl _=>simp only[Rep]at h';cases h'
  |int _=>simp only[Rep]at h';cases h'
 |.lst xs,d',v,n,n',h,h'=>by
  obtain ⟨a,vs,e,q,t⟩:=h;subst e;cases d' with
  |lst ys=>
   obtain ⟨a',vs',e,q',t'⟩:=h';injection e with e;subst e;have:=I.list_inj q.sq q'.sq;subst this;rw[nr]at n n';rw[yj I n n' t t']
  |tup ys=>
   obtain ⟨a',vs',e,q',t'⟩:=h';injection e with e;subst e;obtain ⟨its,_,⟨o,e1,c1,_⟩,_⟩:=I.tuple q'.sq;obtain ⟨its',_,⟨o',n',e2,c2,_⟩,_⟩:=I.list q.sq;rw[e1]at e2;cases e2;rw[c1]at c2;exact absurd c2 (by ac_rfl)
  |ref _=>rw[nr]at n';cases n'
  |scr _=>rw[nr]at n';cases n'
  |exn _=>rw[nr]at n';cases n'
  |obj _ _ _=>rw[nr]at n';cases n'
  |str _=>simp only[Rep]at h';obtain ⟨e,_⟩:=h';cases e
  |non=>simp only[Rep]at h';cases h'
  |bl _=>simp only[Rep]at h';cases h'
  |int _=>simp only[Rep]at h';cases h'
 |.ref a,d',v,n,_,_,_=>by rw[nr]at n;cases n
 |.scr a,d',v,n,_,_,_=>by rw[nr]at n;cases n
 |.exn a,d',v,n,_,_,_=>by rw[nr]at n;cases n
 |.obj _ _ _,d',v,n,_,_,_=>by rw[nr]at n;cases n
theorem yj(I:Inv X pins σ H s):∀{ds ds':List D}{vs:List V},nrs ds=true->nrs ds'=true->Reps X.K H F ds vs->Reps X.K H F ds' vs->ds=ds'
 |[],[],_,_,_,_,_=>rfl
 |[],_::_,_,_,_,h,⟨v,r,e,_⟩=>by have h:_=[]:=h;rw[h]at e;cases e
 |_::_,[],_,_,_,⟨v,r,e,_⟩,h=>by have h:_=[]:=h;rw[h]at e;cases e
 |d::ds,d'::ds',_,n,n',⟨v,r,e,h,t⟩,⟨v',r',e',h',t'⟩=>by
  subst e;injection e' with e1 e2;subst e1;subst e2;rw[nrs,ae]at n n';rw[uh I n.1 n'.1 h h',yj I n.2 n'.2 t t']
end
theorem ul{I:Inv X pins σ H s}{ds:List D}{vs:List V}{its:List Value}(t:Reps X.K H F ds vs)(r:Vals vs its)(j:Nat)(h:j < its.length):∃v,Rep X.K H F (ds.getD j .non) v/\RelV v its[j]:=by
 have hl:j < ds.length:=by rw[t.length,r.length];exact h
 have e1:ds[j]?=some (ds.getD j .non):=by rw[eA,bg hl];rfl
 obtain ⟨v,e2,r2⟩:=t.get e1;obtain ⟨u,e3,r3⟩:=r.get e2;rw[bg h]at e3;cases e3;exact ⟨v,r2,r3⟩
theorem aao(a b:List Nat):(tx a==tx b)=(a==b):=by rw[fg,aw,aw];exact ⟨λh=>Dt h,λh=>by rw[h]⟩
theorem aap(I:Inv X pins σ H s){n:Nat}{A:Around}{xs ys:List D}{a a':Addr}{vs vs':List V}{its its':List Value}
  (ih:∀m,m < n->∀(A:Around)(d d':D)(v v':V)(u u':Value),A.units+m < cLine->min (dpt d) (dpt d')<=m->nr d=true->nr d'=true->Rep X.K H F d v->Rep X.K H F d' v'->RelV v u->RelV v' u'->
   SeqAt.RcAt A s u u' (deq d d')/\SeqAt.EqAt A s u u' (deq d d')/\SeqAt.RcNeAt A s u u' (!deq d d'))
  (hu:A.units+n < cLine) (hd:min (dpt (.tup xs)) (dpt (.tup ys))<=n) (n1:nr (.tup xs)=true) (n2:nr (.tup ys)=true) (h:Rep X.K H F (.tup xs) (.ref a)) (h':Rep X.K H F (.tup ys) (.ref a'))
  (pt:s.heap.IsTuple a its.toArray) (pt':s.heap.IsTuple a' its'.toArray) (rv:Vals vs its) (rv':Vals vs' its') (tt:Reps X.K H F xs vs) (tt':Reps X.K H F ys vs'):
  SeqAt.RcAt A s (.ref a) (.ref a') (deq (.tup xs) (.tup ys))/\SeqAt.EqAt A s (.ref a) (.ref a') (deq (.tup xs) (.tup ys))/\SeqAt.RcNeAt A s (.ref a) (.ref a') (!deq (.tup xs) (.tup ys)):=by
 have hd':min (aO xs+1) (aO ys+1)<=n:=by rw[dpt,dpt]at hd;exact hd
 have hn1:nrs xs=true:=by rw[nr]at n1;exact n1
 have hn2:nrs ys=true:=by rw[nr]at n2;exact n2
 have l1:its.toArray.size=xs.length:=by rw[am,<-rv.length,tt.length]
 have l2:its'.toArray.size=ys.length:=by rw[am,<-rv'.length,tt'.length]
 have he:∀j (h1:j < its.toArray.size) (h2:j < its'.toArray.size),SeqAt.EqAt A.in1 s its.toArray[j] its'.toArray[j] (deq (xs.getD j .non) (ys.getD j .non)):=by intro j h1 h2;obtain ⟨w1,q1,q2⟩:=ul (I:=I) tt rv j (by simpa using h1);obtain ⟨w2,q3,q4⟩:=ul (I:=I) tt' rv' j (by simpa using h2);have d1:=@lC xs j;have d2:=@lC ys j;exact (ih (n - 1) (by omega) A.in1 _ _ w1 w2 _ _ (by show A.units+1+(n - 1) < cLine;omega) (by omega) (lB hn1) (lB hn2) q1 q3 (by simpa using q2) (by simpa using q4)).2.1
 have e:deq (.tup xs) (.tup ys)=((List.range (min its.toArray.size its'.toArray.size)).all (λj=>deq (xs.getD j .non) (ys.getD j .non))&&its.toArray.size==its'.toArray.size):=by rw[deq,ug,l1,l2]
 have rc:SeqAt.RcAt A s (.ref a) (.ref a') (deq (.tup xs) (.tup ys)):=by rw[e];exact .tuples pt pt' (by omega) he
 refine ⟨rc,?_,by rw[e];exact .tuples pt pt' (by omega) he⟩;by_cases z:a=a'
 ·subst z;have:=uh I n1 n2 h h';rw[<-this,yg n1];exact .same _
 ·exact .of_refs z rc
theorem aaq(I:Inv X pins σ H s){n:Nat}{A:Around}{xs ys:List D}{a a':Addr}{vs vs':List V}{its its':List Value}
  (ih:∀m,m < n->∀(A:Around)(d d':D)(v v':V)(u u':Value),A.units+m < cLine->min (dpt d) (dpt d')<=m->nr d=true->nr d'=true->Rep X.K H F d v->Rep X.K H F d' v'->RelV v u->RelV v' u'->
   SeqAt.RcAt A s u u' (deq d d')/\SeqAt.EqAt A s u u' (deq d d')/\SeqAt.RcNeAt A s u u' (!deq d d'))
  (hu:A.units+n < cLine) (hd:min (dpt (.lst xs)) (dpt (.lst ys))<=n) (n1:nr (.lst xs)=true) (n2:nr (.lst ys)=true) (h:a=a'->xs=ys)
  (pt:s.heap.IsList a its.toArray) (pt':s.heap.IsList a' its'.toArray) (rv:Vals vs its) (rv':Vals vs' its') (tt:Reps X.K H F xs vs) (tt':Reps X.K H F ys vs'):
  SeqAt.RcAt A s (.ref a) (.ref a') (deq (.lst xs) (.lst ys))/\SeqAt.EqAt A s (.ref a) (.ref a') (deq (.lst xs) (.lst ys))/\SeqAt.RcNeAt A s (.ref a) (.ref a') (!deq (.lst xs) (.lst ys)):=by
 have hd':min (aO xs+1) (aO ys+1)<=n:=by rw[dpt,dpt]at hd;exact hd
 have hn1:nrs xs=true:=by rw[nr]at n1;exact n1
 have hn2:nrs ys=true:=by rw[nr]at n2;exact n2
 have l1:its.toArray.size=xs.length:=by rw[am,<-rv.length,tt.length]
 have l2:its'.toArray.size=ys.length:=by rw[am,<-rv'.length,tt'.length]
 have eqs:∀(rc:SeqAt.RcAt A s (.ref a) (.ref a') (deq (.lst xs) (.lst ys))),SeqAt.EqAt A s (.ref a) (.ref a') (deq (.lst xs) (.lst ys)):=λrc=>by
  by_cases z:a=a'
  ·have:=h z;subst z;subst this;rw[yg n1];exact .same _
  ·exact .of_refs z rc
 by_cases hl:xs.length=ys.length
 ·have he:∀j (h1:j < its.toArray.size) (h2:j < its'.toArray.size),SeqAt.EqAt A.in1 s its.toArray[j] its'.toArray[j] (deq (xs.getD j .non) (ys.getD j .non)):=by
   intro j h1 h2;obtain ⟨w1,q1,q2⟩:=ul (I:=I) tt rv j (by simpa using h1);obtain ⟨w2,q3,q4⟩:=ul (I:=I) tt' rv' j (by simpa using h2);have d1:=@lC xs j;have d2:=@lC ys j;exact (ih (n - 1) (by omega) A.in1 _ _ w1 w2 _ _ (by show A.units+1+(n - 1) < cLine;omega) (by omega) (lB hn1) (lB hn2) q1 q3 (by simpa using q2) (by simpa using q4)).2.1
  have e:deq (.lst xs) (.lst ys)=(List.range its.toArray.size).all (λj=>deq (xs.getD j .non) (ys.getD j .non)):=by rw[deq,ug,l1,hl,Nat.min_self];simp
  have rc:SeqAt.RcAt A s (.ref a) (.ref a') (deq (.lst xs) (.lst ys)):=by rw[e];exact .lists pt pt' (by rw[l1,l2];exact hl) (by omega) he
  exact ⟨rc,eqs rc,by rw[e];exact .lists pt pt' (by rw[l1,l2];exact hl) (by omega) he⟩
 ·have e:deq (.lst xs) (.lst ys)=false:=by rw[deq];exact aan hl
  have hne:(its.toArray.size != its'.toArray.size)=true:=by rw[l1,l2];simpa using hl
  have rc:SeqAt.RcAt A s (.ref a) (.ref a') (deq (.lst xs) (.lst ys)):=by rw[e];exact .lists_lengths pt pt' hne (by omega)
  exact ⟨rc,eqs rc,by rw[e];exact .lists_lengths pt pt' hne (by omega)⟩
theorem yl(I:Inv X pins σ H s):∀(n:Nat)(A:Around)(d d':D)(v v':V)(u u':Value),A.units+n < cLine->min (dpt d) (dpt d')<=n->nr d=true->nr d'=true->Rep X.K H F d v->Rep X.K H F d' v'->RelV v u->RelV v' u'->
  SeqAt.RcAt A s u u' (deq d d')/\SeqAt.EqAt A s u u' (deq d d')/\SeqAt.RcNeAt A s u u' (!deq d d'):=by
 intro n;induction n using Nat.strongRecOn with
 |_ n ih=>
  intro A d d' v v' u u' hu hd n1 n2 h h' r r';have hu0:A.units < cLine:=by omega
  cases d with
  |ref a=>rw[nr]at n1;cases n1
  |scr a=>rw[nr]at n1;cases n1
  |exn a=>rw[nr]at n1;cases n1
  |obj _ _ _=>rw[nr]at n1;cases n1
  |non=>
   have hv:v=.non:=h;subst hv;have hr:u=Value.none:=r;subst hr;cases d' with
   |ref a=>rw[nr]at n2;cases n2
   |scr a=>rw[nr]at n2;cases n2
   |exn a=>rw[nr]at n2;cases n2
   |obj _ _ _=>rw[nr]at n2;cases n2
   |non=>
    have hv:v'=.non:=h';subst hv;have hr:u'=Value.none:=r';subst hr;exact ⟨.none_none,.same _,.none_none⟩
   |bl b'=>
    have hv:v'=.bl b':=h';subst hv;have hr:u'=Value.bool b':=r';subst hr;exact ⟨.none_bool b',.none_bool b',.none_bool b'⟩
   |int i'=>
    have hv:v'=.int i':=h';subst hv;obtain ⟨t',hr⟩:∃t',u'=Value.int i' t':=r';subst hr;exact ⟨.none_int i' t',.none_int i' t',.none_int i' t'⟩
   |str l'=>
    obtain ⟨hv,_⟩:=h';subst hv;obtain ⟨t',hr⟩:∃t',u'=Value.str (tx l') t':=r';subst hr;exact ⟨.none_str (tx l') t',.none_str (tx l') t',.none_str (tx l') t'⟩
   |tup ys=>
    obtain ⟨a',vs',hv,q',tt'⟩:=id h';subst hv;have hr:u'=Value.ref a':=r';subst hr;obtain ⟨its',rv',pt',_⟩:=I.tuple q'.sq;have pt':s.heap.IsTuple a' its'.toArray:=pt';exact ⟨.none_tuple pt' hu0,.none_tuple pt' hu0,.none_tuple pt' hu0⟩
   |lst ys=>
    obtain ⟨a',vs',hv,q',tt'⟩:=id h';subst hv;have hr:u'=Value.ref a':=r';subst hr;obtain ⟨its',rv',pl',_⟩:=I.list q'.sq;have pt':s.heap.IsList a' its'.toArray:=pl'.isList;exact ⟨.none_list pt' hu0,.none_list pt' hu0,.none_list pt' hu0⟩
  |bl b=>
   have hv:v=.bl b:=h;subst hv;have hr:u=Value.bool b:=r;subst hr;cases d' with
   |ref a=>rw[nr]at n2;cases n2
   |scr a=>rw[nr]at n2;cases n2
   |exn a=>rw[nr]at n2;cases n2
   |obj _ _ _=>rw[nr]at n2;cases n2
   |non=>
    have hv:v'=.non:=h';subst hv;have hr:u'=Value.none:=r';subst hr;exact ⟨.bool_none b,.bool_none b,.bool_none b⟩
   |bl b'=>
    have hv:v'=.bl b':=h';subst hv;have hr:u'=Value.bool b':=r';subst hr;exact ⟨.bool_bool b b',.bool_bool b b',.bool_bool b b'⟩
   |int i'=>
    have hv:v'=.int i':=h';subst hv;obtain ⟨t',hr⟩:∃t',u'=Value.int i' t':=r';subst hr;exact ⟨.bool_int b i' t',.bool_int b i' t',.bool_int b i' t'⟩
   |str l'=>
    obtain ⟨hv,_⟩:=h';subst hv;obtain ⟨t',hr⟩:∃t',u'=Value.str (tx l') t':=r';subst hr;exact ⟨.bool_str b (tx l') t',.bool_str b (tx l') t',.bool_str b (tx l') t'⟩
   |tup ys=>
    obtain ⟨a',vs',hv,q',tt'⟩:=id h';subst hv;have hr:u'=Value.ref a':=r';subst hr;obtain ⟨its',rv',pt',_⟩:=I.tuple q'.sq;have pt':s.heap.IsTuple a' its'.toArray:=pt';exact ⟨.bool_tuple b pt' hu0,.bool_tuple b pt' hu0,.bool_tuple b pt' hu0⟩
   |lst ys=>
    obtain ⟨a',vs',hv,q',tt'⟩:=id h';subst hv;have hr:u'=Value.ref a':=r';subst hr;obtain ⟨its',rv',pl',_⟩:=I.list q'.sq;have pt':s.heap.IsList a' its'.toArray:=pl'.isList;exact ⟨.bool_list b pt' hu0,.bool_list b pt' hu0,.bool_list b pt' hu0⟩
  |int i=>
   have hv:v=.int i:=h;subst hv;obtain ⟨t,hr⟩:∃t,u=Value.int i t:=r;subst hr;cases d' with
   |ref a=>rw[nr]at n2;cases n2
   |scr a=>rw[nr]at n2;cases n2
   |exn a=>rw[nr]at n2;cases n2
   |obj _ _ _=>rw[nr]at n2;cases n2
   |non=>
    have hv:v'=.non:=h';subst hv;have hr:u'=Value.none:=r';subst hr;exact ⟨.int_none i t,.int_none i t,.int_none i t⟩
   |bl b'=>
    have hv:v'=.bl b':=h';subst hv;have hr:u'=Value.bool b':=r';subst hr;exact ⟨.int_bool i t b',.int_bool i t b',.int_bool i t b'⟩
   |int i'=>
    have hv:v'=.int i':=h';subst hv;obtain ⟨t',hr⟩:∃t',u'=Value.int i' t':=r';subst hr;exact ⟨.int_int i t i' t',.int_int i t i' t',.int_int i t i' t'⟩
   |str l'=>
    obtain ⟨hv,_⟩:=h';subst hv;obtain ⟨t',hr⟩:∃t',u'=Value.str (tx l') t':=r';subst hr;exact ⟨.int_str i t (tx l') t',.int_str i t (tx l') t',.int_str i t (tx l') t'⟩
   |tup ys=>
    obtain ⟨a',vs',hv,q',tt'⟩:=id h';subst hv;have hr:u'=Value.ref a':=r';subst hr;obtain ⟨its',rv',pt',_⟩:=I.tuple q'.sq;have pt':s.heap.IsTuple a' its'.toArray:=pt';exact ⟨.int_tuple i t pt' hu0,.int_tuple i t pt' hu0,.int_tuple i t pt' hu0⟩
   |lst ys=>
    obtain ⟨a',vs',hv,q',tt'⟩:=id h';subst hv;have hr:u'=Value.ref a':=r';subst hr;obtain ⟨its',rv',pl',_⟩:=I.list q'.sq;have pt':s.heap.IsList a' its'.toArray:=pl'.isList;exact ⟨.int_list i t pt' hu0,.int_list i t pt' hu0,.int_list i t pt' hu0⟩
  |str l=>
   obtain ⟨hv,_⟩:=h;subst hv;obtain ⟨t,hr⟩:∃t,u=Value.str (tx l) t:=r;subst hr;cases d' with
   |ref a=>rw[nr]at n2;cases n2
   |scr a=>rw[nr]at n2;cases n2
   |exn a=>rw[nr]at n2;cases n2
   |obj _ _ _=>rw[nr]at n2;cases n2
   |non=>
    have hv:v'=.non:=h';subst hv;have hr:u'=Value.none:=r';subst hr;exact ⟨.str_none (tx l) t,.str_none (tx l) t,.str_none (tx l) t⟩
   |bl b'=>
    have hv:v'=.bl b':=h';subst hv;have hr:u'=Value.bool b':=r';subst hr;exact ⟨.str_bool (tx l) t b',.str_bool (tx l) t b',.str_bool (tx l) t b'⟩
   |int i'=>
    have hv:v'=.int i':=h';subst hv;obtain ⟨t',hr⟩:∃t',u'=Value.int i' t':=r';subst hr;exact ⟨.str_int (tx l) t i' t',.str_int (tx l) t i' t',.str_int (tx l) t i' t'⟩
   |str l'=>
    obtain ⟨hv,_⟩:=h';subst hv;obtain ⟨t',hr⟩:∃t',u'=Value.str (tx l') t':=r';subst hr;rw[deq,<-aao];exact ⟨.str_str (tx l) t (tx l') t',.str_str (tx l) t (tx l') t',.str_str (tx l) t (tx l') t'⟩
   |tup ys=>
    obtain ⟨a',vs',hv,q',tt'⟩:=id h';subst hv;have hr:u'=Value.ref a':=r';subst hr;obtain ⟨its',rv',pt',_⟩:=I.tuple q'.sq;have pt':s.heap.IsTuple a' its'.toArray:=pt';exact ⟨.str_tuple (tx l) t pt' hu0,.str_tuple (tx l) t pt' hu0,.str_tuple (tx l) t pt' hu0⟩
   |lst ys=>
    obtain ⟨a',vs',hv,q',tt'⟩:=id h';subst hv;have hr:u'=Value.ref a':=r';subst hr;obtain ⟨its',rv',pl',_⟩:=I.list q'.sq;have pt':s.heap.IsList a' its'.toArray:=pl'.isList;exact ⟨.str_list (tx l) t pt' hu0,.str_list (tx l) t pt' hu0,.str_list (tx l) t pt' hu0⟩
  |tup xs=>
   obtain ⟨a,vs,hv,q,tt⟩:=id h;subst hv;have hr:u=Value.ref a:=r;subst hr;obtain ⟨its,rv,pt,_⟩:=I.tuple q.sq;have pt:s.heap.IsTuple a its.toArray:=pt;cases d' with
   |ref a=>rw[nr]at n2;cases n2
   |scr a=>rw[nr]at n2;cases n2
   |exn a=>rw[nr]at n2;cases n2
   |obj _ _ _=>rw[nr]at n2;cases n2
   |non=>
    have hv:v'=.non:=h';subst hv;have hr:u'=Value.none:=r';subst hr;exact ⟨.tuple_none pt hu0,.tuple_none pt hu0,.tuple_none pt hu0⟩
   |bl b'=>
    have hv:v'=.bl b':=h';subst hv;have hr:u'=Value.bool b':=r';subst hr;exact ⟨.tuple_bool b' pt hu0,.tuple_bool b' pt hu0,.tuple_bool b' pt hu0⟩
   |int i'=>
    have hv:v'=.int i':=h';subst hv;obtain ⟨t',hr⟩:∃t',u'=Value.int i' t':=r';subst hr;exact ⟨.tuple_int i' t' pt hu0,.tuple_int i' t' pt hu0,.tuple_int i' t' pt hu0⟩
   |str l'=>
    obtain ⟨hv,_⟩:=h';subst hv;obtain ⟨t',hr⟩:∃t',u'=Value.str (tx l') t':=r';subst hr;exact ⟨.tuple_str (tx l') t' pt hu0,.tuple_str (tx l') t' pt hu0,.tuple_str (tx l') t' pt hu0⟩
   |tup ys=>
    obtain ⟨a',vs',hv,q',tt'⟩:=id h';subst hv;have hr:u'=Value.ref a':=r';subst hr;obtain ⟨its',rv',pt',_⟩:=I.tuple q'.sq;have pt':s.heap.IsTuple a' its'.toArray:=pt';exact aap I ih hu hd n1 n2 h h' pt pt' rv rv' tt tt'
   |lst ys=>
    obtain ⟨a',vs',hv,q',tt'⟩:=id h';subst hv;have hr:u'=Value.ref a':=r';subst hr;obtain ⟨its',rv',pl',_⟩:=I.list q'.sq;have pt':s.heap.IsList a' its'.toArray:=pl'.isList;exact ⟨.tuple_list pt pt' hu0,.tuple_list pt pt' hu0,.tuple_list pt pt' hu0⟩
  |lst xs=>
   obtain ⟨a,vs,hv,q,tt⟩:=id h;subst hv;have hr:u=Value.ref a:=r;subst hr;obtain ⟨its,rv,pl,_⟩:=I.list q.sq;have pt:s.heap.IsList a its.toArray:=pl.isList;cases d' with
   |ref a=>rw[nr]at n2;cases n2
   |scr a=>rw[nr]at n2;cases n2
   |exn a=>rw[nr]at n2;cases n2
   |obj _ _ _=>rw[nr]at n2;cases n2
   |non=>
    have hv:v'=.non:=h';subst hv;have hr:u'=Value.none:=r';subst hr;exact ⟨.list_none pt hu0,.list_none pt hu0,.list_none pt hu0⟩
   |bl b'=>
    have hv:v'=.bl b':=h';subst hv;have hr:u'=Value.bool b':=r';subst hr;exact ⟨.list_bool b' pt hu0,.list_bool b' pt hu0,.list_bool b' pt hu0⟩
   |int i'=>
    have hv:v'=.int i':=h';subst hv;obtain ⟨t',hr⟩:∃t',u'=Value.int i' t':=r';subst hr;exact ⟨.list_int i' t' pt hu0,.list_int i' t' pt hu0,.list_int i' t' pt hu0⟩
   |str l'=>
    obtain ⟨hv,_⟩:=h';subst hv;obtain ⟨t',hr⟩:∃t',u'=Value.str (tx l') t':=r';subst hr;exact ⟨.list_str (tx l') t' pt hu0,.list_str (tx l') t' pt hu0,.list_str (tx l') t' pt hu0⟩
   |tup ys=>
    obtain ⟨a',vs',hv,q',tt'⟩:=id h';subst hv;have hr:u'=Value.ref a':=r';subst hr;obtain ⟨its',rv',pt',_⟩:=I.tuple q'.sq;have pt':s.heap.IsTuple a' its'.toArray:=pt';exact ⟨.list_tuple pt pt' hu0,.list_tuple pt pt' hu0,.list_tuple pt pt' hu0⟩
   |lst ys=>
    obtain ⟨a',vs',hv,q',tt'⟩:=id h';subst hv;have hr:u'=Value.ref a':=r';subst hr;obtain ⟨its',rv',pl',_⟩:=I.list q'.sq;have pt':s.heap.IsList a' its'.toArray:=pl'.isList;exact aaq I ih hu hd n1 n2 (λz=>by subst z;have e:=uh I n1 n2 h h';injection e) pt pt' rv rv' tt tt'
end
def FA(F:FZ)(G:DH):FZ:=λa=>F a\/∃o,G a=some o
theorem Fg{H:Hp}{F:FZ}{G:DH}:Ext H F H (FA F G):=⟨λ_ f=>.inl f,λ_ _=>rfl,λ_ _ h=>h,λ_ _ _ h=>h⟩
theorem um{K:PF}{H:Hp}{F:FZ}{G:DH}{d:D}{v:V}(r:R K H F G)(h:Rep K H F d v):Rep K H (FA F G) (view G d) v:=by
 cases d with
 |ref p=>
  have hv:v=.ref p:=h;cases g:G p with
  |none=>
   have e:view G (.ref p)=.ref p:=by simp only[view,g]
   rw[e];exact hv
  |some o=>
   cases o with
   |lst ds=>
    have e:view G (.ref p)=.lst ds:=by simp only[view,g]
    rw[e];obtain ⟨vs,q,t⟩:=r.lst g;exact ⟨p,vs,hv,⟨.inr ⟨_,g⟩,q⟩,Reps.ext Fg t⟩
 |_=>exact Rep.ext Fg h
def rC2(K:PF)(f:D->D->(Bool->Prop)->Prop):R2:=λx y H Q=>∃F G a b,R K H F G/\Rep K H F a x/\Rep K H F b y/\f (view G a) (view G b) (λc=>PV K H F Q (.bl c) G)
section
variable {X:Cx}
theorem Fi(c:Nat)(l:List Nat):(!(Builtin.Str.occurrences (tx l) (tx [c]) 0 (tx l).length 1).isEmpty)=l.contains c:=by have:=StrLaws.found_one (tx l) c;rw[this,fg];simp
theorem aar{pins:List (Addr×Obj)}{σ:L2.St}{H:Hp}{s:Shared}{F:FZ}(I:Inv X pins σ H s){A:Around}{x:D}{v:V}{u:Value}(hu:A.units+64 < cLine)(hx:nr x=true)(rx:Rep X.K H F x v)(ru:RelV v u):
  ∀{ds:List D}{vs:List V}{us:List Value},nrs ds=true->aO ds<=60->Reps X.K H F ds vs->Vals vs us->∃e:Value->Bool,(∀y∈us,SeqAt.EqAt A s y u (e y))/\us.any e=isIn x ds:=by
 intro ds vs us hn hd t r;let P:Value->D->Prop:=λy d=>nr d=true/\∃v,Rep X.K H F d v/\RelV v y
 have one:∀y d d',P y d->P y d'->d=d':=λy d d' ⟨n,v,q,z⟩ ⟨n',v',q',z'⟩=>by
  have e:=z.inj z';subst e;exact uh I n n' q q'
 have ⟨f,hf⟩:∃f:Value->D,∀y d,P y d->f y=d:=by refine ⟨λy=>Classical.epsilon (P y),λy d h=>?_⟩;exact one y _ _ (Classical.epsilon_spec ⟨d,h⟩) h
 refine ⟨λy=>deq (f y) x,?_,?_⟩
 ·skip;have key:∀{ds:List D}{vs:List V}{us:List Value},nrs ds=true->aO ds<=60->Reps X.K H F ds vs->Vals vs us->∀y∈us,SeqAt.EqAt A s y u (deq (f y) x):=by
   intro ds;induction ds with
   |nil=>
    intro vs us _ _ t r y hy;have t:vs=[]:=t;subst t;cases r;cases hy
   |cons d ds ih=>
    intro vs us hn hd t r y hy;obtain ⟨v1,r1,e,h1,t1⟩:=t;subst e;rw[nrs,ae]at hn;rw[aO]at hd;cases r with
    |cons p q=>
     rcases a9.mp hy with e |hy
     ·subst e;rw[hf _ d ⟨hn.1,_,h1,p⟩];exact (yl I 60 A d x v1 v _ u (by omega) (by omega) hn.1 hx h1 rx p ru).2.1
     ·exact ih hn.2 (by omega) t1 q y hy
  exact key hn hd t r
 ·have key:∀{ds:List D}{vs:List V}{us:List Value},nrs ds=true->Reps X.K H F ds vs->Vals vs us->us.any (λy=>deq (f y) x)=isIn x ds:=by
   intro ds;induction ds with
   |nil=>
    intro vs us _ t r;have t:vs=[]:=t;subst t;cases r;rfl
   |cons d ds ih=>
    intro vs us hn t r;obtain ⟨v1,r1,e,h1,t1⟩:=t;subst e;rw[nrs,ae]at hn;cases r with
    |cons p q=>
     rw[List.any_cons,hf _ d ⟨hn.1,_,h1,p⟩,ih hn.2 t1 q];rfl
  exact key hn t r
theorem jD(op:CmpOp)(hu:X.A.units+100 < cLine):OpR X (compareOp op) (rC2 X.K (aX op)):=by
 intro pins s σ H x y v u Q I rx ry h;obtain ⟨F,G,a,b,r,ra,rb,h⟩:=h;have ra':=um r ra;have rb':=um r rb;generalize ea:view G a=va at h ra';generalize eb:view G b=vb at h rb';have fin:∀c:Bool,PV X.K H F Q (.bl c) G->EP X pins σ Q (.bool c) s:=λc q=>⟨.bl c,H,I,rfl,q.now r rfl⟩;have hin:∀(l:List D)(k:Bool->Prop),(nr va=true/\nrs l=true/\aO l<=60)->∀{vs:List V}{us:List Value},Reps X.K H (FA F G) l vs->Vals vs us->
   ∃e:Value->Bool,(∀z∈us,SeqAt.EqAt X.A.in1 s z v (e z))/\us.any e=isIn va l:=λl k hh {vs us} t rv=>
  aar I (A:=X.A.in1) (by show X.A.units+1+64 < cLine;omega) hh.1 ra' rx hh.2.1 hh.2.2 t rv
 cases op with
 |Eq=>
  obtain ⟨⟨n1,n2,n3⟩,q⟩:=h;exact (yl I 60 X.A _ _ x y v u (by omega) n3 n1 n2 ra' rb' rx ry).1 _ _ _ _ (fin _ q)
 |NotEq=>
  obtain ⟨⟨n1,n2,n3⟩,q⟩:=h;exact (yl I 60 X.A _ _ x y v u (by omega) n3 n1 n2 ra' rb' rx ry).2.2 _ _ _ _ (fin _ q)
 |Lt=>
  have h:jq va vb (λc=>PV X.K H F Q (.bl c) G):=h;unfold jq at h;split at h
  ·have e1:x=.int _:=ra';have e2:y=.int _:=rb';subst e1;subst e2;obtain ⟨t,rfl⟩:=rx;obtain ⟨t',rfl⟩:=ry;exact lt_int (fin _ h)
  ·obtain ⟨e1,_⟩:=ra';obtain ⟨e2,_⟩:=rb';subst e1;subst e2;obtain ⟨t,rfl⟩:=rx;obtain ⟨t',rfl⟩:=ry;exact lt_str (fin _ h)
  ·exact h.elim
 |LtE=>
  have h:jr va vb (λc=>PV X.K H F Q (.bl c) G):=h;unfold jr at h;split at h
  ·have e1:x=.int _:=ra';have e2:y=.int _:=rb';subst e1;subst e2;obtain ⟨t,rfl⟩:=rx;obtain ⟨t',rfl⟩:=ry;exact le_int (fin _ h)
  ·obtain ⟨e1,_⟩:=ra';obtain ⟨e2,_⟩:=rb';subst e1;subst e2;obtain ⟨t,rfl⟩:=rx;obtain ⟨t',rfl⟩:=ry;exact PySem.P.le_str (fin _ h)
  ·exact h.elim
 |Gt=>
  have h:jt va vb (λc=>PV X.K H F Q (.bl c) G):=h;unfold jt at h;split at h
  ·have e1:x=.int _:=ra';have e2:y=.int _:=rb';subst e1;subst e2;obtain ⟨t,rfl⟩:=rx;obtain ⟨t',rfl⟩:=ry;exact gt_int (fin _ h)
  ·exact h.elim
 |GtE=>
  have h:ju va vb (λc=>PV X.K H F Q (.bl c) G):=h;unfold ju at h;split at h
  ·have e1:x=.int _:=ra';have e2:y=.int _:=rb';subst e1;subst e2;obtain ⟨t,rfl⟩:=rx;obtain ⟨t',rfl⟩:=ry;exact ge_int (fin _ h)
  ·exact h.elim
 |Is=>
  have h:jw va vb (λc=>PV X.K H F Q (.bl c) G):=h;unfold jw at h;split at h
  ·have e2:y=.non:=rb';subst e2;have q:∀c,(c=decide (x=.non))->PV X.K H F Q (.bl c) G->wpAny (model X.prog X.w) X.A (compareOp .Is v u) (EP X pins σ Q) X.xe s:=λc e q=>
    W3 pins s σ H _ _ v u Q I rx ry ⟨rfl,by rw[<-e];exact q.now r rfl⟩
   refine q _ ?_ h;have:qW va=decide (x=.non):=by
    cases va with
    |non=>have e1:x=.non:=ra';subst e1;rfl
    |bl _=>have e1:x=.bl _:=ra';subst e1;rfl
    |int _=>have e1:x=.int _:=ra';subst e1;rfl
    |str _=>obtain ⟨e1,_⟩:=ra';subst e1;rfl
    |tup _=>obtain ⟨_,_,e1,_⟩:=ra';subst e1;rfl
    |lst _=>obtain ⟨_,_,e1,_⟩:=ra';subst e1;rfl
    |ref _=>have e1:x=.ref _:=ra';subst e1;rfl
    |scr _=>obtain ⟨_,e1,_⟩:=ra';subst e1;rfl
    |exn _=>obtain ⟨_,_,e1,_⟩:=ra';subst e1;rfl
    |obj _ _ _=>obtain ⟨_,_,_,e1,_⟩:=ra';subst e1;rfl
   rw[this]
  ·split at h
   ·have e1:x=.bl _:=ra';have e2:y=.bl _:=rb';subst e1;subst e2;exact Zh pins s σ H _ _ v u Q I rx ry ⟨_,_,rfl,rfl,h.now r rfl⟩
   ·exact h.elim
  ·exact h.elim
 |IsNot=>
  have h:jx va vb (λc=>PV X.K H F Q (.bl c) G):=h;unfold jx at h;split at h
  ·have e2:y=.non:=rb';subst e2;have q:∀c,(c=!decide (x=.non))->PV X.K H F Q (.bl c) G->wpAny (model X.prog X.w) X.A (compareOp .IsNot v u) (EP X pins σ Q) X.xe s:=λc e q=>
    W4 pins s σ H _ _ v u Q I rx ry ⟨rfl,by rw[<-e];exact q.now r rfl⟩
   refine q _ ?_ h;have:qW va=decide (x=.non):=by
    cases va with
    |non=>have e1:x=.non:=ra';subst e1;rfl
    |bl _=>have e1:x=.bl _:=ra';subst e1;rfl
    |int _=>have e1:x=.int _:=ra';subst e1;rfl
    |str _=>obtain ⟨e1,_⟩:=ra';subst e1;rfl
    |tup _=>obtain ⟨_,_,e1,_⟩:=ra';subst e1;rfl
    |lst _=>obtain ⟨_,_,e1,_⟩:=ra';subst e1;rfl
    |ref _=>have e1:x=.ref _:=ra';subst e1;rfl
    |scr _=>obtain ⟨_,e1,_⟩:=ra';subst e1;rfl
    |exn _=>obtain ⟨_,_,e1,_⟩:=ra';subst e1;rfl
    |obj _ _ _=>obtain ⟨_,_,_,e1,_⟩:=ra';subst e1;rfl
   rw[this]
  ·split at h
   ·have e1:x=.bl _:=ra';have e2:y=.bl _:=rb';subst e1;subst e2;exact Zo pins s σ H _ _ v u Q I rx ry ⟨_,_,rfl,rfl,h.now r rfl⟩
   ·exact h.elim
  ·exact h.elim
 |In=>
  have h:fX va vb (λc=>PV X.K H F Q (.bl c) G):=h;unfold fX at h;split at h
  ·split at h
   ·obtain ⟨e1,_⟩:=ra';obtain ⟨e2,_⟩:=rb';subst e1;subst e2;obtain ⟨t,rfl⟩:=rx;obtain ⟨t',rfl⟩:=ry;exact in_str (by rw[Fi];exact fin _ h)
   ·exact h.elim
  ·obtain ⟨hh,q⟩:=h;obtain ⟨p,vs,e2,q2,t⟩:=rb';subst e2;cases ry;obtain ⟨its,rv,pl,hz⟩:=I.list q2.sq;obtain ⟨e,he,hany⟩:=hin _ (λ_=>True) hh t rv;refine SeqAt.in_listAt e pl.isList (λw hw=>he w (by simpa using hw)) ?_;rw[show its.toArray.any e=its.any e by simp,hany];exact fin _ q
  ·obtain ⟨hh,q⟩:=h;obtain ⟨p,vs,e2,q2,t⟩:=rb';subst e2;cases ry;obtain ⟨its,rv,pl,hz⟩:=I.tuple q2.sq;obtain ⟨e,he,hany⟩:=hin _ (λ_=>True) hh t rv;refine SeqAt.in_tupleAt e pl (λw hw=>he w (by simpa using hw)) ?_;rw[show its.toArray.any e=its.any e by simp,hany];exact fin _ q
  ·exact h.elim
 |NotIn=>
  have h:fX va vb (λc=>PV X.K H F Q (.bl (!c)) G):=h;unfold fX at h;split at h
  ·split at h
   ·obtain ⟨e1,_⟩:=ra';obtain ⟨e2,_⟩:=rb';subst e1;subst e2;obtain ⟨t,rfl⟩:=rx;obtain ⟨t',rfl⟩:=ry;exact notIn_str (by rw[Fi];exact fin _ h)
   ·exact h.elim
  ·obtain ⟨hh,q⟩:=h;obtain ⟨p,vs,e2,q2,t⟩:=rb';subst e2;cases ry;obtain ⟨its,rv,pl,hz⟩:=I.list q2.sq;obtain ⟨e,he,hany⟩:=hin _ (λ_=>True) hh t rv;refine SeqAt.notIn_listAt e pl.isList (λw hw=>he w (by simpa using hw)) ?_;rw[show its.toArray.any e=its.any e by simp,hany];exact fin _ q
  ·obtain ⟨hh,q⟩:=h;obtain ⟨p,vs,e2,q2,t⟩:=rb';subst e2;cases ry;obtain ⟨its,rv,pl,hz⟩:=I.tuple q2.sq;obtain ⟨e,he,hany⟩:=hin _ (λ_=>True) hh t rv;refine SeqAt.notIn_tupleAt e pl (λw hw=>he w (by simpa using hw)) ?_;rw[show its.toArray.any e=its.any e by simp,hany];exact fin _ q
  ·exact h.elim
end
section
variable {X:Cx}
def aas(K:PF):R2:=λx y H Q=>∃F G a b,R K H F G/\Rep K H F a x/\Rep K H F b y/\cz (view G a) b (λd=>PV K H F Q d G)
theorem Fj{K:PF}{H:Hp}{F:FZ}{ds:List D}{vs:List V}{i:Int}{d:D}(t:Reps K H F ds vs)(h:atI ds i=some d):∃v,atI vs i=some v/\Rep K H F d v:=by
 unfold atI at h ⊢;rw[<-t.length];cases e:ixN ds.length i with
 |none=>rw[e]at h;cases h
 |some j=>
  rw[e]at h;obtain ⟨v,e1,r⟩:=t.get (show ds[j]?=some d from h);exact ⟨v,e1,r⟩
theorem aat:IxR X (aas X.K):=by
 intro value slice pins s σ H x y v u Q I rx ry h hs;obtain ⟨F,G,a,b,r,ra,rb,h⟩:=h;generalize ea:view G a=va at h;unfold cz at h;split at h
 ·obtain ⟨p,vs,e,q,t⟩:=Rep.list r ra ea;subst e;have e2:y=.int _:=rb;subst e2;split at h
  ·rename_i d hd;obtain ⟨w,hw,rw'⟩:=Fj t hd;exact Yn value slice pins s σ H _ _ v u Q I rx ry ⟨p,vs,_,w,rfl,rfl,q,hw,h.now r rw'⟩ hs
  ·exact h.elim
 ·cases fj ea;obtain ⟨p,vs,e,q,t⟩:=ra;subst e;have e2:y=.int _:=rb;subst e2;split at h
  ·rename_i d hd;obtain ⟨w,hw,rw'⟩:=Fj t hd;exact Yo value slice pins s σ H _ _ v u Q I rx ry ⟨p,vs,_,w,rfl,rfl,q.sq,hw,h.now r rw'⟩ hs
  ·exact h.elim
 ·cases fu ea;obtain ⟨e,hl⟩:=ra;subst e;have e2:y=.int _:=rb;subst e2;split at h
  ·rename_i c hc;exact Yp value slice pins s σ H _ _ v u Q I rx ry ⟨_,_,c,rfl,rfl,by rw[bN];exact cZ hl,hc,h.now r ⟨rfl,by show 1<=sz;decide⟩⟩ hs
  ·exact h.elim
 ·exact h.elim
theorem aau(l:List Nat)(lo hi:Option Int):Txt.slice (tx l) lo hi=tx (cut l lo hi):=by
 have e:Builtin.Str.strSliceIndices lo hi 1 (tx l).length=sliceRange (sliceBounds lo hi none (tx l).length).1 (sliceBounds lo hi none (tx l).length).2.1 1:=by unfold Builtin.Str.strSliceIndices sliceBounds;cases lo <;> cases hi <;> rfl
 obtain ⟨h1,h2,h3⟩:=Dd lo hi (tx l).length;rw[h1,h2,sliceRange_one]at e;have e2:((Builtin.Str.strSliceIndices lo hi 1 (tx l).length).filterMap ((tx l).cps[·]?))=cut l lo hi:=by rw[e,pick_run];unfold cut;rw[bN]
 unfold Txt.slice;split
 ·rename_i hh;rw[ae]at hh;have hl:=eq_of_beq hh.2;rw[e,ag,List.length_range,bN]at hl;have b1:HT.sIx l.length l.length hi<=l.length:=HT.CK _ _ (ax _) hi;unfold cut;by_cases hz:l=[]
  ·subst hz;simp
  ·have hp:0 < l.length:=fF.mpr hz;have e3:HT.sIx l.length 0 lo=0:=by omega
   have e4:HT.sIx l.length l.length hi=l.length:=by omega
   rw[e3,e4];simp
 ·rw[e2]
theorem aav{α:Type}(xs:List α)(lo hi:Option Int):(cut xs lo hi).length<=xs.length:=by unfold cut;rw[bX,cf];omega
theorem aaw{prog:Program}{w:World}{A:Around}{E:Value->Shared->Prop}{s:Shared}{t sl:Addr}{items:Array Value}{vl vu:Value}{lo hi:Option Int}{Q:Value->Shared->Prop}(ht:IsTup s.heap t items)(hs:s.heap.IsSliceOf sl vl vu .none)(pl:IsPart vl lo)(pu:IsPart vu hi)
  (hw:HT.sIx items.size 0 lo=0/\HT.sIx items.size items.size hi=items.size) (h:Q (.ref t) s):wpAny (model prog w) A (getItem (.ref t) (.ref sl)) Q E s:=by
 obtain ⟨os,hos,hcs,hds⟩:=id hs;have hTs:s.TypeIs (.ref sl) "slice":=⟨os,hos,hcs⟩;unfold getItem;try with_reducible refine eT ?_
 first |refine ah (bn ?_) |skip
 refine ah (wpAny_sequenceKey ht.typeIs (by decide) ?_);refine ah (e9 (name:=Str.ofString "__getitem__") ht.typeIs eP
  (gu eP ht.typeIs entry_tuple_getitem ?_ (args_tuple_getitem _ _)))
 show wpAny _ _ (Builtin.Tuple.tupleItemsOf (.ref t) >>= _) _ _ s;refine ah (tupleItemsOf_ ht ?_);refine ah (wpAny_typeOf hTs ?_);rw[if_pos (by decide)];refine ah (HT.CQ hs pl pu ?_);have hyes:(((HT.sIx items.size 0 lo:Nat):Int)==0&&(1:Int)==1&&(HT.sIx items.size items.size hi - HT.sIx items.size 0 lo)==items.size)=true:=by rw[hw.1,hw.2];simp
 show wpAny _ _ (if (((HT.sIx items.size 0 lo:Nat):Int)==0&&(1:Int)==1&&(HT.sIx items.size items.size hi - HT.sIx items.size 0 lo)==items.size)=true then _ else _) _ _ s;rw[if_pos hyes];refine ah (m:=Builtin.Tuple.tupleIsExact _) (ah (wpAny_typeOf ht.typeIs (bn ?_)));rw[if_pos (by decide)];exact ah (wpAny_rule (bn ⟨_,rfl,bn h⟩))
theorem aax:SlR X (λx lo hi H Q=>∃a xs,x=.ref a/\SqT X.K H a xs/\(HT.sIx xs.length 0 lo=0/\HT.sIx xs.length xs.length hi=xs.length)/\Q (.ref a) H):=by
 intro pins s σ H x v vl vu lo hi sl Q I rx hs pl pu h;obtain ⟨a,xs,rfl,hx,hw,q⟩:=h;cases rx;obtain ⟨its,r,ht,hz⟩:=I.tuple hx;have hlen:its.toArray.size=xs.length:=by rw[am];exact r.length.symm
 exact ⟨"tuple",_,eP.lookup,ht.typeIs,aaw ht hs pl pu (by rw[hlen];exact hw) ⟨.ref a,H,I,rfl,q⟩⟩
theorem Fl{K:PF}{H:Hp}{F:FZ}:∀ns:List Int,Reps K H F (ns.map D.int) (ns.map V.int)
 |[]=>rfl
 |n::ns=>⟨_,_,rfl,rfl,Fl ns⟩
noncomputable def aay(K:PF)(fz:Bool):V->Option Int->Option Int->Hp->VK->Prop:=λx lo hi H Q=>∃F G a,R K H F G/\Rep K H F a x/\eE fz (view G a) lo hi G (PV K H F Q)
theorem Fp{K:PF}{H:Hp}{F:FZ}{ds:List D}{vs:List V}(t:Reps K H F ds vs)(lo hi:Option Int):Reps K H F (cut ds lo hi) (d7 vs lo hi):=t.cut lo hi
theorem aaz(fz:Bool):SlR X (aay X.K fz):=by
 intro pins s σ H x v vl vu lo hi sl Q I rx hs pl pu h;obtain ⟨F,G,a,r,ra,h⟩:=h;generalize ea:view G a=va at h;unfold eE at h;split at h
 ·obtain ⟨p,vs,e,q,t⟩:=Rep.list r ra ea;subst e;exact De pins s σ H _ v vl vu lo hi sl Q I rx hs pl pu ⟨p,vs,rfl,q,gm h r (Fp t lo hi)⟩
 ·rename_i ns;have ea':a=.scr ns:=by
   cases a with
   |ref p=>
    unfold view at ea;cases g:G p with
    |none=>simp only[g]at ea;cases ea
    |some o=>cases o;simp only[g]at ea;cases ea
   |_=>exact ea
  subst ea';obtain ⟨p,e,q⟩:=ra;subst e;refine De pins s σ H _ v vl vu lo hi sl Q I rx hs pl pu ⟨p,_,rfl,q.sq,gm h r ?_⟩;have e2:d7 (ns.map V.int) lo hi=(cut ns lo hi).map V.int:=by unfold d7 cut;rw[ag,List.map_take,List.map_drop]
  rw[e2];exact Fl (cut ns lo hi)
 ·cases fj ea;obtain ⟨p,vs,e,q,t⟩:=id ra;subst e;by_cases hw:HT.sIx vs.length 0 lo=0/\HT.sIx vs.length vs.length hi=vs.length
  ·refine aax pins s σ H _ v vl vu lo hi sl Q I rx hs pl pu ⟨p,vs,rfl,q.sq,hw,?_⟩;refine h.now r ?_;rename_i ds;have:cut ds lo hi=ds:=by
    unfold cut;rw[t.length,hw.1,hw.2];simp[<-t.length]
   rw[this];exact ra
  ·exact Yg pins s σ H _ v vl vu lo hi sl Q I rx hs pl pu ⟨p,vs,rfl,q.sq,hw,lA h r (Fp t lo hi)⟩
 ·cases fu ea;obtain ⟨e,hl⟩:=ra;subst e;refine Zk pins s σ H _ v vl vu lo hi sl Q I rx hs pl pu ⟨_,rfl,by rw[bN];exact cZ hl,?_⟩;rw[aau];exact h.now r ⟨rfl,br (aav _ _ _) hl⟩
 ·exact h.elim
theorem Fq{K:PF}{H:Hp}{F:FZ}{G:DH}{d:D}{v:V}{b:Bool}(r:R K H F G)(h:Rep K H F d v)(e:truth (view G d)=some b):qK K v H b:=by
 have h':=um r h;generalize view G d=w at e h';cases w with
 |non=>have e1:v=.non:=h';subst e1;simp only[truth,aI]at e;exact e.symm
 |bl x=>have e1:v=.bl x:=h';subst e1;simp only[truth,aI]at e;exact e.symm
 |int i=>have e1:v=.int i:=h';subst e1;simp only[truth,aI]at e;exact e.symm
 |str l=>
  obtain ⟨e1,hl⟩:=h';subst e1;simp only[truth,aI]at e;refine ⟨by rw[bN];exact cZ hl,?_⟩;rw[bN,<-e];cases l with
  |nil=>rfl
  |cons c l=>simp;omega
 |tup l=>
  obtain ⟨a,vs,e1,q,t⟩:=h';subst e1;simp only[truth,aI]at e;refine .inr (.inl ⟨vs,q.sq,?_⟩);rw[<-e];cases l with
  |nil=>have t:vs=[]:=t;subst t;rfl
  |cons c l=>obtain ⟨_,_,e2,_⟩:=t;subst e2;rfl
 |lst l=>
  obtain ⟨a,vs,e1,q,t⟩:=h';subst e1;simp only[truth,aI]at e;refine .inl ⟨vs,q.sq,?_⟩;rw[<-e];cases l with
  |nil=>have t:vs=[]:=t;subst t;rfl
  |cons c l=>obtain ⟨_,_,e2,_⟩:=t;subst e2;rfl
 |ref a=>simp[truth]at e
 |scr a=>simp[truth]at e
 |exn a=>simp[truth]at e
 |obj _ _ _=>simp[truth]at e
theorem uo{K:PF}{H:Hp}{F:FZ}:∀{ds:List D}{vs:List V}{bs:List Bool},bools ds=some bs->Reps K H F ds vs->vs=bs.map V.bl
 |[],_,bs,e,h=>by
  simp only[bools,aI]at e;subst e;exact h
 |d::ds,_,bs,e,⟨v,w,e1,h,t⟩=>by
  cases d with
  |bl b=>
   simp only[bools]at e;cases q:bools ds with
   |none=>rw[q]at e;cases e
   |some s=>
    rw[q]at e;cases e;have hv:v=.bl b:=h;rw[e1,hv,uo q t];rfl
  |_=>simp[bools]at e
theorem bA{K:PF}{H:Hp}{F:FZ}{d:D}{vs:List V}(t:Reps K H F [d] vs):∃v,vs=[v]/\Rep K H F d v:=by obtain ⟨v,r,e,h,t⟩:=t;have t:r=[]:=t;subst t;exact ⟨v,e,h⟩
noncomputable def iy(K:PF)(f:Bf):List V->Hp->VK->Prop:=λvs H Q=>∃F G ds,R K H F G/\Reps K H F ds vs/\opB f (ds.map (view G)) (λd=>PV K H F Q d G)
theorem map_one{G:DH}{ds:List D}{x:D}(h:ds.map (view G)=[x]):∃d,ds=[d]/\view G d=x:=by
 match ds,h with
 |[d],h=>exact ⟨d,rfl,by simpa using h⟩
theorem aaA:bC X (.builtin "len") (iy X.K .len):=by
 intro pins s σ H xs us Q I rs h;obtain ⟨F,G,ds,r,t,h⟩:=h;generalize ea:ds.map (view G)=va at h;simp only[opB,wV]at h;split at h
 ·obtain ⟨d,rfl,ev⟩:=map_one ea;obtain ⟨v,rfl,rv⟩:=bA t;obtain ⟨a,vs,e,q,t'⟩:=Rep.list r rv ev;subst e;exact Df pins s σ H _ us Q I rs ⟨a,vs,rfl,.inl q,by rw[<-t'.length];exact h.now r rfl⟩
 ·obtain ⟨d,rfl,ev⟩:=map_one ea;obtain ⟨v,rfl,rv⟩:=bA t;cases fj ev;obtain ⟨a,vs,e,q,t'⟩:=rv;subst e;exact Df pins s σ H _ us Q I rs ⟨a,vs,rfl,.inr q.sq,by rw[<-t'.length];exact h.now r rfl⟩
 ·obtain ⟨d,rfl,ev⟩:=map_one ea;obtain ⟨v,rfl,rv⟩:=bA t;cases fu ev;obtain ⟨e,hl⟩:=rv;subst e;exact Yu pins s σ H _ us Q I rs ⟨_,rfl,by rw[bN];exact cZ hl,by rw[bN];exact h.now r rfl⟩
 ·exact h.elim
theorem aaB (hc:X.calm=true):bC X (.builtin "all") (iy X.K .all):=by
 intro pins s σ H xs us Q I rs h;obtain ⟨F,G,ds,r,t,h⟩:=h;generalize ea:ds.map (view G)=va at h;simp only[opB,qX]at h;split at h
 ·obtain ⟨d,rfl,ev⟩:=map_one ea;obtain ⟨v,rfl,rv⟩:=bA t;obtain ⟨a,vs,e,q,t'⟩:=Rep.list r rv ev;subst e;split at h
  ·rename_i bs hb;have e2:=uo hb t';subst e2;exact Zg hc pins s σ H _ us Q I rs ⟨a,bs,rfl,q,h.now r rfl⟩
  ·exact h.elim
 ·exact h.elim
theorem aaC:bC X (.type "int") (iy X.K .int):=by
 intro pins s σ H xs us Q I rs h;obtain ⟨F,G,ds,r,t,h⟩:=h;generalize ea:ds.map (view G)=va at h;simp only[opB,qY]at h;split at h
 ·obtain ⟨d,rfl,ev⟩:=map_one ea;obtain ⟨v,rfl,rv⟩:=bA t;cases wU ev;have e:v=.bl _:=rv;subst e;exact Cm pins s σ H _ us Q I rs (.inr ⟨_,rfl,h.now r rfl⟩)
 ·obtain ⟨d,rfl,ev⟩:=map_one ea;obtain ⟨v,rfl,rv⟩:=bA t;cases dz ev;have e:v=.int _:=rv;subst e;exact Cm pins s σ H _ us Q I rs (.inl ⟨_,rfl,h.now r rfl⟩)
 ·obtain ⟨d,rfl,ev⟩:=map_one ea;obtain ⟨v,rfl,rv⟩:=bA t;cases fu ev;obtain ⟨e,hl⟩:=rv;subst e;split at h
  ·rename_i n hn;exact Zi pins s σ H _ us Q I rs ⟨_,n,rfl,hn,by rw[bN];exact h.1,h.2.now r rfl⟩
  ·exact h.elim
 ·exact h.elim
theorem aaD:bC X (.type "tuple") (iy X.K .tuple):=by
 intro pins s σ H xs us Q I rs h;obtain ⟨F,G,ds,r,t,h⟩:=h;generalize ea:ds.map (view G)=va at h;simp only[opB,wW]at h;split at h
 ·obtain ⟨d,rfl,ev⟩:=map_one ea;obtain ⟨v,rfl,rv⟩:=bA t;obtain ⟨a,vs,e,q,t'⟩:=Rep.list r rv ev;subst e;exact Dh pins s σ H _ us Q I rs ⟨a,vs,rfl,.inl ⟨q,lA h r t'⟩⟩
 ·obtain ⟨d,rfl,ev⟩:=map_one ea;obtain ⟨v,rfl,rv⟩:=bA t;cases fj ev;obtain ⟨a,vs,e,q,t'⟩:=id rv;subst e;exact Dh pins s σ H _ us Q I rs ⟨a,vs,rfl,.inr ⟨q.sq,h.now r rv⟩⟩
 ·exact h.elim
noncomputable def Ft(K:PF)(fz:Bool)(f:Lf):List V->Hp->VK->Prop:=λvs H Q=>∃F G ds,R K H F G/\Reps K H F ds vs/\cR f (ds.map (view G)) (λxs=>mk fz xs G (PV K H F Q))
theorem aaE(l:List Nat):∀(us:List Value),us.length=l.length->(∀(j:Nat)(v:Value),us[j]?=some v->∃(c:Nat)(u:Tok),l[j]?=some c/\v=Value.str ⟨#[c]⟩ u)->Vals (l.map λc=>V.str (tx [c])) us:=by
 induction l with
 |nil=>intro us h _;cases us with |nil=>exact .nil |cons _ _=>cases h
 |cons c l ih=>
  intro us h q;cases us with
  |nil=>cases h
  |cons u us=>
   obtain ⟨c',t,e1,e2⟩:=q 0 u (by simp);have e1:c=c':=by simpa using e1
   subst e1;exact .cons ⟨t,e2⟩ (ih us (by simpa using h) λj v hv=>by simpa using q (j+1) v (by simpa using hv))
theorem aaF (hc:X.calm=true):bC X (.type "list") (λxs H Q=>∃l:List Nat,xs=[.str (tx l)]/\l.length<=sizeLine/\∀p,H p=none->Q (.ref p) (upd H p (.lst (l.map λc=>V.str (tx [c]))))):=by
 intro pins s σ H xs us Q I r h;obtain ⟨l,rfl,hz,q⟩:=h;obtain ⟨u,rfl,t,rfl⟩:=vals1 r;have hz':(tx l).cps.size<=sizeLine:=by simpa using hz
 refine call_list_str (hn:=hz') (I.ok.hd hc) (tx l) t λh' tk acc' c' kp e hi=>?_;have hv:Vals (l.map λc=>V.str (tx [c])) acc'.toList:=by
  refine aaE l _ ?_ λj v hv=>?_
  ·rw[dP,hi.1];simp
  ·obtain ⟨c,u,e1,e2⟩:=hi.2 j v (by rw[<-fi];exact hv);exact ⟨c,u,by simpa using e1,e2⟩
 exact ⟨.ref s.heap.objs.size,_,I.laid (t':=tk) kp (ax _) (show ObjOk X.prog X.w _ h' _ (.lst _) from ⟨by rw[ag];exact hz,acc'.toList,c',hv,by rw[Array.toArray_toList];exact e⟩),rfl,q _ (I.hok.fresh (ax _))⟩
theorem ym{K:PF}{H:Hp}{F:FZ}:∀l:List Nat,Reps K H F (l.map λc=>D.str [c]) (l.map λc=>V.str (tx [c]))
 |[]=>rfl
 |c::l=>⟨_,_,rfl,⟨rfl,by show 1<=sz;decide⟩,ym l⟩
theorem aaG (hc:X.calm=true) (fz:Bool):bC X (.type "list") (Ft X.K fz .list):=by
 intro pins s σ H xs us Q I rs h;obtain ⟨F,G,ds,r,t,h⟩:=h;generalize ea:ds.map (view G)=va at h;simp only[cR,wZ]at h;split at h
 ·obtain ⟨d,rfl,ev⟩:=map_one ea;obtain ⟨v,rfl,rv⟩:=bA t;obtain ⟨a,vs,e,q,t'⟩:=Rep.list r rv ev;subst e;exact Dg pins s σ H _ us Q I rs ⟨a,vs,rfl,.inl q,gm h r t'⟩
 ·obtain ⟨d,rfl,ev⟩:=map_one ea;obtain ⟨v,rfl,rv⟩:=bA t;cases fj ev;obtain ⟨a,vs,e,q,t'⟩:=id rv;subst e;exact Dg pins s σ H _ us Q I rs ⟨a,vs,rfl,.inr q.sq,gm h r t'⟩
 ·obtain ⟨d,rfl,ev⟩:=map_one ea;obtain ⟨v,rfl,rv⟩:=bA t;cases fu ev;obtain ⟨e,hl⟩:=rv;subst e;exact aaF hc pins s σ H _ us Q I rs ⟨_,rfl,cZ hl,gm h r (ym _)⟩
 ·exact h.elim
theorem yo{K:PF}{H:Hp}{F:FZ}:∀{ds:List D}{vs:List V}{ls:List (List Nat)},bw ds=some ls->Reps K H F ds vs->vs=(ls.map tx).map V.str
 |[],_,bs,e,h=>by
  simp only[bw,aI]at e;subst e;exact h
 |d::ds,_,bs,e,⟨v,w,e1,h,t⟩=>by
  cases d with
  |str b=>
   simp only[bw]at e;cases q:bw ds with
   |none=>rw[q]at e;cases e
   |some s=>
    rw[q]at e;cases e;obtain ⟨hv,_⟩:=h;rw[e1,hv,yo q t];rfl
  |_=>simp[bw]at e
theorem Fv{K:PF}{H:Hp}{F:FZ}:∀{ds:List D}{vs:List V}{ns:List Int},bZ ds=some ns->Reps K H F ds vs->vs=ns.map V.int
 |[],vs,ns,e,t=>by
  simp only[bZ,aI]at e;subst e;have t:vs=[]:=t;rw[t];rfl
 |d::ds,vs,ns,e,t=>by
  obtain ⟨v,r,e1,h,t⟩:=t;cases d with
  |int b=>
   simp only[bZ]at e;cases q:bZ ds with
   |none=>rw[q]at e;cases e
   |some s=>
    rw[q]at e;cases e;have hv:v=.int b:=h;rw[e1,hv,Fv q t];rfl
  |_=>simp[bZ]at e
theorem Fw:∀{ns:List Int}{its:List Value},Vals (ns.map V.int) its->IntsAre its ns
 |[],its,h=>by cases h;exact .nil
 |n::ns,its,h=>by
  cases h with
  |cons a b=>
   obtain ⟨t,rfl⟩:=a;exact .cons n t (Fw b)
theorem Fx:∀{ls:List (List Nat)}{its:List Value},Vals ((ls.map tx).map V.str) its->StrsAre its (ls.map tx)
 |[],its,h=>by cases h;exact .nil
 |n::ns,its,h=>by
  cases h with
  |cons a b=>
   obtain ⟨t,rfl⟩:=a;exact .cons _ t (Fx b)
theorem Fy{K:PF}{H:Hp}{F:FZ}:∀{ds:List D}{vs:List V}{ls:List (List Nat)},bw ds=some ls->Reps K H F ds vs->∀l∈ls,l.length<=sz
 |[],vs,ls,e,t=>by simp only[bw,aI]at e;subst e;intro l hl;cases hl
 |d::ds,vs,ls,e,t=>by
  obtain ⟨v,r,e1,h,t⟩:=t;cases d with
  |str b=>
   simp only[bw]at e;cases q:bw ds with
   |none=>rw[q]at e;cases e
   |some s=>
    rw[q]at e;cases e;intro l hl;rcases a9.mp hl with e |hl
    ·rw[e];exact h.2
    ·exact Fy q t l hl
  |_=>simp[bw]at e
theorem FJ(val:Nat->List Nat):∀k,argBest (λi j=>decide (val i < val j)) k<=k/\∀j,j<=k->¬val j < val (argBest (λi j=>decide (val i < val j)) k)
 |0=>⟨ax _,λj hj=>by
  have:j=0:=by omega
  subst this;exact List.lt_irrefl _⟩
 |k+1=>by
  obtain ⟨h1,h2⟩:=FJ val k;simp only[argBest];by_cases hc:val (k+1) < val (argBest (λi j=>decide (val i < val j)) k)
  ·rw[if_pos (by simpa using hc)];refine ⟨ax _,λj hj=>?_⟩;rcases Nat.lt_or_ge j (k+1) with hlt |hge
   ·exact λh=>h2 j (by omega) (List.lt_trans h hc)
   ·have:j=k+1:=by omega
    subst this;exact List.lt_irrefl _
  ·rw[if_neg (by simpa using hc)];refine ⟨by omega,λj hj=>?_⟩;rcases Nat.lt_or_ge j (k+1) with hlt |hge
   ·exact h2 j (by omega)
   ·have:j=k+1:=by omega
    subst this;exact hc
section
variable {prog:Program} {w:World} {A:Around} {E:Value->Shared->Prop} {s:Shared} {l:Addr}
theorem uq:∀{its:List Value}{ls:List (List Nat)}{i:Nat}{v:Value},StrsAre its (ls.map tx)->its[i]?=some v->∃t,v=.str (tx (ls.getD i [])) t
 |[],ls,i,v,_,h=>by simp at h
 |x::its,[],i,v,hs,h=>by cases hs
 |x::its,a::ls,0,v,hs,h=>by
  cases hs with
  |cons y t q=>exact ⟨t,by simpa using h.symm⟩
 |x::its,a::ls,i+1,v,hs,h=>by
  cases hs with
  |cons y t q=>
   have:=uq (i:=i) (v:=v) q (by simpa using h);simpa using this
theorem aaH{Q:Value->Shared->Prop}{its:List Value}{ls:List (List Nat)}(hh:A.handled=none)(hl:s.heap.IsList l its.toArray)(hs:StrsAre its (ls.map tx))(hn:its.length=ls.length)(hne:0 < ls.length)
  (h:∀(m:List Nat)(t:Tok)(h':Heap)(tk:Nat),m∈ls->(∀a,a∈ls->¬a < m)->(∀b o,s.heap.get? b=some o->h'.get? b=some o)->Q (.str (tx m) t) { s with heap:=h',toks:=tk }):
  wpAny (model prog w) A (call (.builtin "min") [.ref l]) Q E s:=by
 have hlt:l < s.heap.objs.size:=by obtain ⟨_,e,_⟩:=hl;exact aE e
 refine call_min_walk (wpAny_pyIter_list hl ?_);refine ⟨_,_,_,_,_,_,λi j=>decide (ls.getD i [] < ls.getD j []),rfl,Walks.list (A:=A.in1) hh _ l (cr hlt) its.toArray,⟨⟨_,bb _ rfl,rfl,rfl⟩,hl.push _⟩,?_,?_,?_,?_⟩
 ·intro b hb;show b < (s.heap.push _).objs.size;rw[dL];rcases a9.mp hb with rfl |hb
  ·exact gp _
  ·rcases a9.mp hb with rfl |hb
   ·exact Nat.lt_succ_of_lt hlt
   ·cases hb
 ·simpa [hn] using hne
 ·intro i j vi vj s Q E hi hj h;obtain ⟨t,rfl⟩:=uq hs (by simpa using hi);obtain ⟨u,rfl⟩:=uq hs (by simpa using hj);exact richCompare_gives (op:=.Lt) (typeIs_str s _ t) (typeIs_str s _ u) F.slot_str_lt F.entry_str_lt (F.args_str_lt_2 _ _) (gives_str_lt _ _ t u) (λe=>nomatch e) h
 ·intro v h' tk hP hk;obtain ⟨t,rfl⟩:=uq hs (show its[_]?=some v by rw[<-List.getElem?_toArray];exact hP);obtain ⟨b1,b2⟩:=FJ (λi=>ls.getD i []) (its.toArray.size - 1);have hsz:its.toArray.size=ls.length:=by simpa using hn
  refine h _ t h' tk ?_ (λa ha=>?_) (old_kept hk)
  ·rw[eA,bg (by omega)];exact dn _
  ·obtain ⟨j,hj,rfl⟩:=List.getElem_of_mem ha;have:=b2 j (by omega);rwa [show ls.getD j []=ls[j] by rw[eA,bg hj];rfl]at this
end
theorem aaI (hc:X.calm=true):bC X (.builtin "min") (λxs H Q=>∃(p:Addr) (ns:List Int),xs=[.ref p]/\SqL X.K H p (ns.map V.int)/\ns≠[]/\∀m,m∈ns->(∀a,a∈ns->m<=a)->Q (.int m) H):=by
 intro pins s σ H xs us Q I r h;obtain ⟨p,ns,rfl,hq,hne,q⟩:=h;obtain ⟨u,rfl,ru⟩:=vals1 r;cases ru;obtain ⟨its,rv,pl,hz⟩:=I.list hq;have hi:=Fw rv;obtain ⟨xs,ex⟩:=hi.allInts.items;have hl:=pl.isList;rw[ex]at hl;have e1:xs.toList.map (·.1)=ns:=by rw[<-PySem.nums_intItems,<-ex];exact hi.numsOf
 have hsz:0 < xs.size:=by have:=fF.mpr hne;rw[<-e1,ag,dP]at this;exact this
 refine PySem.min_intList (I.ok.hd hc) hl hsz λv h' tk hv hk=>?_;obtain ⟨t,rfl⟩:=PySem.intItems_at hv;obtain ⟨b1,b2⟩:=PySem.argBest_lt (PySem.numAt xs) (xs.size - 1);refine ⟨.int _,H,I.kept hk,⟨t,rfl⟩,q _ ?_ λa ha=>?_⟩
 ·rw[<-e1,PySem.numAt_eq];exact PySem.getD_mem (by rw[ag,dP];omega)
 ·rw[<-e1]at ha;obtain ⟨j,hj,rfl⟩:=PySem.mem_getD ha;rw[ag,dP]at hj;rw[<-PySem.numAt_eq];exact b2 j (by omega)
theorem aaJ (hc:X.calm=true):bC X (.builtin "min") (λxs H Q=>∃(p:Addr) (ls:List (List Nat)),xs=[.ref p]/\SqL X.K H p ((ls.map tx).map V.str)/\ls≠[]/\∀m,m∈ls->(∀a,a∈ls->¬a < m)->Q (.str (tx m)) H):=by
 intro pins s σ H xs us Q I r h;obtain ⟨p,ls,rfl,hq,hne,q⟩:=h;obtain ⟨u,rfl,ru⟩:=vals1 r;cases ru;obtain ⟨its,rv,pl,hz⟩:=I.list hq;have hlen:its.length=ls.length:=by rw[<-rv.length];simp
 refine aaH (I.ok.hd hc) pl.isList (Fx rv) hlen (fF.mpr hne) λm t h' tk h1 h2 hk=>?_;exact ⟨.str (tx m),H,I.kept hk,⟨t,rfl⟩,q m h1 h2⟩
theorem aaK{ds:List D}{ls:List (List Nat)}(h0:bZ ds=none)(h1:bw ds=some ls):ls≠[]:=by
 rintro rfl;cases ds with
 |nil=>simp[bZ]at h0
 |cons x y=>cases x <;> simp only[bw]at h1 <;> first | (cases h1;done) | (cases hd:bw y <;> rw[hd]at h1 <;> cases h1)
theorem aaL (hc:X.calm=true):bC X (.builtin "min") (iy X.K .min):=by
 intro pins s σ H xs us Q I rs h;obtain ⟨F,G,ds,r,t,h⟩:=h;generalize ea:ds.map (view G)=va at h;simp only[opB,kZ]at h;split at h
 ·obtain ⟨d,rfl,ev⟩:=map_one ea;obtain ⟨v,rfl,rv⟩:=bA t;obtain ⟨a,vs,e,q,t'⟩:=Rep.list r rv ev;subst e;split at h
  ·rename_i ns hb;have e2:=Fv hb t';subst e2;exact aaI hc pins s σ H _ us Q I rs ⟨a,ns,rfl,q,h.1,λm h1 h2=>(h.2 m h1 h2).now r rfl⟩
  ·split at h
   ·rename_i hb0 _ ls hb;have e2:=yo hb t';have hsz:=Fy hb t';subst e2;refine aaJ hc pins s σ H _ us Q I rs ⟨a,ls,rfl,q,?_,λm h1 h2=>(h m h1 h2).now r ⟨rfl,hsz m h1⟩⟩;exact aaK (by assumption) hb
   ·exact h.elim
 ·exact h.elim
theorem aaM:bootBuiltins "min"=some (.builtin "min"):=by ac_rfl
theorem aaN:bC X (.type "str") (iy X.K .str):=by
 intro pins s σ H xs us Q I r h;obtain ⟨F,G,ds,rr,t,h⟩:=h;generalize ea:ds.map (view G)=va at h;simp only[opB,wY]at h;split at h
 ·rename_i i;obtain ⟨d',rfl,ev⟩:=map_one ea;obtain ⟨v',rfl,rv⟩:=bA t;have e1:=dz ev;subst e1;have e2:v'=.int i:=rv;subst e2;obtain ⟨⟨h0,h1⟩,h2⟩:=h;have hm:(i.toNat:Int)=i:=Int.toNat_of_nonneg h0;have hl:(gH i.toNat).length<=3:=by
   have:=digits_le ⟨i.toNat,by omega⟩;unfold gH;rw[dP];exact this
  have hs:=h2.now rr (v:=.str (tx (gH i.toNat))) ⟨rfl,by have hz:sz=1000000:=rfl;omega⟩;have ht:tx (gH i.toNat)=wL i.toNat:=(wC _).symm;rw[ht]at hs;exact ZX pins s σ H _ us Q I r ⟨i.toNat,by rw[hm],by omega,hs⟩
 ·exact h.elim
noncomputable def dJ:D->Option String
 |.non=>some "NoneType"
 |.bl _=>some "bool"
 |.int _=>some "int"
 |.str _=>some "str"
 |.tup _=>some "tuple"
 |.lst _=>some "list"
 |_=>none
theorem aaO{K:PF}{H:Hp}{F:FZ}{G:DH}{d:D}{v:V}{T:String}(r:R K H F G)(h:Rep K H F d v)(e:dJ (view G d)=some T):TyOf K H v (.type T):=by
 have h':=um r h;generalize view G d=w at e h';cases w with
 |non=>have e1:v=.non:=h';subst e1;simp only[dJ,aI]at e;subst e;exact .non
 |bl x=>have e1:v=.bl x:=h';subst e1;simp only[dJ,aI]at e;subst e;exact .bl x
 |int i=>have e1:v=.int i:=h';subst e1;simp only[dJ,aI]at e;subst e;exact .int i
 |str l=>obtain ⟨e1,hl⟩:=h';subst e1;simp only[dJ,aI]at e;subst e;exact .str _
 |tup l=>obtain ⟨a,vs,e1,q,t⟩:=h';subst e1;simp only[dJ,aI]at e;subst e;exact .tup q.it
 |lst l=>obtain ⟨a,vs,e1,q,t⟩:=h';subst e1;simp only[dJ,aI]at e;subst e;exact .lst q.2
 |ref a=>simp[dJ]at e
 |scr a=>simp[dJ]at e
 |exn a=>simp[dJ]at e
 |obj _ _ _=>simp[dJ]at e
def aaP (K:PF):Prop:=∀T t:String,T∈["NoneType","bool","int","str","tuple","list"]->fY t=true->PySem.W.kitOne K (.type T) (.type t)=some (T==t||(T=="bool"&&t=="int"))
theorem aaQ{K:PF}:aaP K:=by intro T t hT ht;simp only[a9,List.not_mem_nil,or_false]at hT;simp only[fY,dc,aw]at ht;rcases hT with rfl |rfl |rfl |rfl |rfl |rfl <;> rcases ht with (((rfl |rfl) |rfl) |rfl) |rfl <;> (with_unfolding_all rfl)
theorem aaR {d:D} {t:String} {b:Bool} (e:isT t d=some b):∃T,dJ d=some T/\T∈["NoneType","bool","int","str","tuple","list"]/\(fY t=true->b=(T==t||(T=="bool"&&t=="int"))):=by
 have comm:∀a b:String,(a==b)=(b==a):=λa b=>by rw[fg,aw,aw];exact ⟨Eq.symm,Eq.symm⟩
 cases d with
 |non=>
  refine ⟨"NoneType",rfl,by simp,λht=>?_⟩;simp only[isT,aI]at e;simp only[fY,dc,aw]at ht;subst e;rcases ht with (((rfl |rfl) |rfl) |rfl) |rfl <;> rfl
 |bl _=>
  refine ⟨"bool",rfl,by simp,λht=>?_⟩;simp only[isT,aI]at e;rw[<-e,comm t "bool"];rfl
 |int _=>
  refine ⟨"int",rfl,by simp,λht=>?_⟩;simp only[isT,aI]at e;rw[<-e,comm t "int"];simp
 |str _=>
  refine ⟨"str",rfl,by simp,λht=>?_⟩;simp only[isT,aI]at e;rw[<-e,comm t "str"];simp
 |tup _=>
  refine ⟨"tuple",rfl,by simp,λht=>?_⟩;simp only[isT,aI]at e;rw[<-e,comm t "tuple"];simp
 |lst _=>
  refine ⟨"list",rfl,by simp,λht=>?_⟩;simp only[isT,aI]at e;rw[<-e,comm t "list"];simp
 |ref a=>simp[isT]at e
 |scr a=>simp[isT]at e
 |exn a=>simp[isT]at e
 |obj _ _ _=>simp[isT]at e
theorem FN(s:List Nat):∀ls:List (List Nat),Str.join (tx s) (ls.map tx)=tx (eF s ls)
 |[]=>rfl
 |[x]=>rfl
 |x::y::r=>by
  have ih:=FN s (y::r);show tx x++tx s++Str.join (tx s) ((y::r).map tx)=_;rw[ih,qP,qP];rfl
theorem FP(s:List Nat):∀ls:List (List Nat),(eF s ls).length<=(ls.map (·.length)).sum+ls.length * s.length
 |[]=>by simp[eF]
 |[x]=>by simp[eF]
 |x::y::r=>by
  have ih:=FP s (y::r);simp only[eF,av,bq,List.sum_cons,ck]at ih ⊢;have:(r.length+1+1) * s.length=(r.length+1) * s.length+s.length:=by rw[Nat.succ_mul]
  omega
noncomputable def iz(K:PF)(m:Mf):V->List V->Hp->VK->Prop:=λx vs H Q=>∃F G d ds,R K H F G/\Rep K H F d x/\Reps K H F ds vs/\opM m d ds G (PV K H F Q)
theorem aaS:MtR X "str.join" (iz X.K .join):=by
 intro pins s σ H x xs v us Q I rx rs h;obtain ⟨F,G,d,ds,r,rd,t,h⟩:=h;simp only[opM]at h;generalize ea:ds.map (view G)=va at h;simp only[q8]at h;split at h
 ·obtain ⟨d',rfl,ev⟩:=map_one ea;obtain ⟨v',rfl,rv⟩:=bA t;obtain ⟨a,vs,e,q,t'⟩:=Rep.list r rv ev;subst e;obtain ⟨e1,hl⟩:=rd;subst e1;split at h
  ·rename_i ls hls;have e2:=yo hls t';subst e2;refine YZ pins s σ H _ _ v us Q I rx rs ⟨_,a,_,rfl,rfl,q,?_,?_⟩
   ·have hz:=h.1;rw[eL,ag,bN,show (λx:Str=>x.length)∘tx=λl=>l.length from funext bN];have:sz=1000000:=rfl;omega
   ·rw[FN];exact h.2.now r ⟨rfl,br (FP _ _) h.1⟩
  ·exact h.elim
 ·exact h.elim
theorem aaT:MtM X "list.append" (iz X.K .append):=by
 intro pins s σ H x xs v us Q I rx rs h;obtain ⟨F,G,d,ds,r,rd,t,h⟩:=h;simp only[opM,q9]at h;split at h
 ·obtain ⟨v',rfl,rv⟩:=bA t;have e1:x=.ref _:=rd;subst e1;split at h
  ·rename_i ds0 hg;obtain ⟨vs,q,t'⟩:=r.lst hg;refine Yz pins s σ H _ _ v us Q I rx rs ⟨_,vs,v',rfl,rfl,q,?_,?_⟩
   ·rw[<-t'.length];exact bP h.1 szl
   ·exact h.2 _ _ _ (fW r hg) (r.write hg (t'.append (Reps.cons rv Reps.nil))) rfl
  ·exact h.elim
 ·exact h.elim
theorem aaU:MtR X "list.count" (iz X.K .count):=by
 intro pins s σ H x xs v us Q I rx rs h;obtain ⟨F,G,d,ds,r,rd,t,h⟩:=h;simp only[opM]at h;generalize ea:view G d=va at h;simp only[rz]at h;split at h
 ·obtain ⟨a,vs,e,q,t'⟩:=Rep.list r rd ea;subst e;obtain ⟨v',rfl,rv⟩:=bA t;have e2:v'=.bl true:=rv;subst e2;split at h
  ·rename_i bs hbs;have e3:=uo hbs t';subst e3;exact ZQ pins s σ H _ _ v us Q I rx rs ⟨a,bs,rfl,rfl,q,h.now r rfl⟩
  ·exact h.elim
 ·exact h.elim
theorem aaV:MtR X "list.index" (iz X.K .index):=by
 intro pins s σ H x xs v us Q I rx rs h;obtain ⟨F,G,d,ds,r,rd,t,h⟩:=h;simp only[opM]at h;generalize ea:view G d=va at h;simp only[rA]at h;split at h
 ·obtain ⟨a,vs,e,q,t'⟩:=Rep.list r rd ea;subst e;obtain ⟨v',rfl,rv⟩:=bA t;have e2:v'=.bl true:=rv;subst e2;split at h
  ·rename_i bs hbs;have e3:=uo hbs t';subst e3;exact ZS pins s σ H _ _ v us Q I rx rs ⟨a,bs,rfl,rfl,q,h.1,h.2.now r rfl⟩
  ·exact h.elim
 ·exact h.elim
noncomputable def aaW:V->List V->Hp->VK->Prop:=λx vs H Q=>∃(l:Addr)(xs:List V)(i:Int)(y:V),x=.ref l/\vs=[.int i,y]/\H l=some (.lst xs)/\xs.length < sizeLine/\0<=i/\i<=1000000/\Q .non (upd H l (.lst (xs.take i.toNat++y::xs.drop i.toNat)))
theorem aaX{its:List Value}{i:Int}{u:Value}(h:0<=i):(its.toArray.extract 0 (if i < 0 then (i+(its.toArray.size:Int)).toNat else min i.toNat its.toArray.size)).push u++its.toArray.extract (if i < 0 then (i+(its.toArray.size:Int)).toNat else min i.toNat its.toArray.size)=(its.take i.toNat++u::its.drop i.toNat).toArray:=by
 rw[if_neg (by omega),PySem.W.kl_ins_eq,am];by_cases hc:i.toNat<=its.length
 ·rw[Nat.min_eq_left hc]
 ·rw[Nat.min_eq_right (by omega),ej (ax _),List.drop_of_length_le (ax _),ej (by omega),List.drop_of_length_le (by omega)]
theorem aaY{i:Int}(h0:0<=i)(h1:i<=1000000):¬(!Builtin.List.listFitsIndex i)=true:=by
 have:Builtin.List.listFitsIndex i=true:=by unfold Builtin.List.listFitsIndex;rw[ae];exact ⟨b9 (by omega),b9 (by omega)⟩
 rw[this];decide
theorem aaZ:MtM X "list.insert" aaW:=by
 intro pins s σ H x vs v us Q I rx rv h;obtain ⟨l,xs,i,y,rfl,rfl,hH,hz,h0,h1,q⟩:=h;cases rx;cases rv with
 |cons r1 rv=>
  obtain ⟨t,rfl⟩:=r1;obtain ⟨u,rfl,ru⟩:=L2.Vals.one rv;obtain ⟨z,its,m,r,hl,e⟩:=I.lstM hH;refine fo PySem.F.slot_list_insert ⟨_,e,rfl⟩ PySem.F.entry_list_insert (PySem.F.args_list_insert_3 _ _ _) (PySem.AutoSeq1.list_insert_list_int_val_1 l its.toArray m i t u (aaY h0 h1) (by rw[am];omega)) ⟨e,?_⟩;refine ⟨.non,_,I.lset (its':=its.take i.toNat++u::its.drop i.toNat) hH e (aaX h0) ((r.take _).append (.cons ru (r.drop _))) ?_,rfl,q⟩;rw[av,ck,bX,cf];omega
theorem aa0:MtM X "list.insert" (iz X.K .insert):=by
 intro pins s σ H x xs v us Q I rx rs h;obtain ⟨F,G,d,ds,r,rd,t,h⟩:=h;simp only[opM,rn]at h;split at h
 ·rename_i i y;obtain ⟨v1,r1,rfl,rv1,t⟩:=t;obtain ⟨v',rfl,rv⟩:=bA t;have e1:x=.ref _:=rd;subst e1;have e2:v1=.int i:=rv1;subst e2;split at h
  ·rename_i ds0 hg;obtain ⟨h1,h2,h3,h4⟩:=h;obtain ⟨vs,q,t'⟩:=r.lst hg;refine aaZ pins s σ H _ _ v us Q I rx rs ⟨_,vs,i,v',rfl,rfl,q,?_,h2,h3,?_⟩
   ·rw[<-t'.length];exact bP h1 szl
   ·exact h4 _ _ _ (fW r hg) (r.write hg ((t'.take _).append (Reps.cons rv (t'.drop _)))) rfl
  ·exact h.elim
 ·exact h.elim
theorem aa1:MtM X "list.pop" (iz X.K .pop):=by
 intro pins s σ H x xs v us Q I rx rs h;obtain ⟨F,G,d,ds,r,rd,t,h⟩:=h;simp only[opM,w5]at h;split at h
 ·rename_i i;obtain ⟨v',rfl,rv⟩:=bA t;have e1:x=.ref _:=rd;subst e1;have e2:v'=.int i:=rv;subst e2;split at h
  ·rename_i ds0 hg;obtain ⟨h1,h2,h3⟩:=h;obtain ⟨vs,q,t'⟩:=r.lst hg;split at h3
   ·rename_i y hy;obtain ⟨u,hu,ru⟩:=t'.get hy;have hlt:i.toNat < vs.length:=(ar.mp hu).1;refine YH pins s σ H _ _ v us Q I rx rs ⟨_,vs,i,i.toNat,u,rfl,rfl,q,by omega,by omega,?_,hu,?_⟩
    ·unfold seqIndex?;have e3:¬i < 0:=by omega
     simp[e3];omega
    ·rw[List.eraseIdx_eq_take_drop_succ];rw[List.eraseIdx_eq_take_drop_succ]at h3;have rw2:=r.write hg ((t'.take i.toNat).append (t'.drop (i.toNat+1)));exact h3 _ _ _ (fW r hg) rw2 (Rep.ext (fW r hg) ru)
   ·exact h3.elim
  ·exact h.elim
 ·exact h.elim
noncomputable def aa2(K:PF):V->List V->Hp->VK->Prop:=λx xs H Q=>∃F G d,R K H F G/\Rep K H F d x/\xs=[]/\fB d G (PV K H F Q)
theorem aa3:MtM X "list.pop" (aa2 X.K):=by
 intro pins s σ H x xs v us Q I rx rs h;obtain ⟨F,G,d,r,rd,rfl,h⟩:=h;unfold fB at h;split at h
 ·have e1:x=.ref _:=rd;subst e1;split at h
  ·rename_i ds0 hg;obtain ⟨vs,q,t'⟩:=r.lst hg;split at h
   ·rename_i y hy;obtain ⟨u,hu,ru⟩:=t'.get hy;refine YF pins s σ H _ _ v us Q I rx rs ⟨_,vs,u,rfl,rfl,q,by rw[<-t'.length];exact hu,?_⟩;rw[List.dropLast_eq_take];rw[List.dropLast_eq_take]at h;have e2:=t'.length;have rw2:=r.write hg (t'.take (ds0.length - 1));rw[<-e2];exact h _ _ _ (fW r hg) rw2 (Rep.ext (fW r hg) ru)
   ·exact h.elim
  ·exact h.elim
 ·exact h.elim
theorem aa4{K:PF}{H:Hp}{F:FZ}{G:DH}{d:D}{v:V}{ds:List D}(r:R K H F G)(h:Rep K H F d v)(e:view G d=.lst ds):∃a vs,v=.ref a/\H a=some (.lst vs)/\Reps K H F ds vs:=by
 cases d with
 |lst xs=>
  have e':D.lst xs=.lst ds:=e;cases e';obtain ⟨a,vs,e1,q,t⟩:=h;exact ⟨a,vs,e1,q.2,t⟩
 |ref p=>
  have hv:v=.ref p:=h;unfold view at e;cases g:G p with
  |none=>simp only[g]at e;cases e
  |some o=>
   cases o with
   |lst xs=>
    simp only[g]at e;cases e;obtain ⟨vs,q,t⟩:=r.lst g;exact ⟨p,vs,hv,q,t⟩
 |_=>cases (show _=D.lst ds from e)
theorem aa5:MtM X "list.extend" (iz X.K .extend):=by
 intro pins s σ H x xs v us Q I rx rs h;obtain ⟨F,G,d,ds,r,rd,t,h⟩:=h;simp only[opM]at h;generalize ea:ds.map (view G)=va at h;simp only[rm]at h;split at h
 ·obtain ⟨d',rfl,ev⟩:=map_one ea;obtain ⟨v',rfl,rv⟩:=bA t;obtain ⟨b,vs2,e2,q2,t2⟩:=aa4 r rv ev;subst e2;have e1:x=.ref _:=rd;subst e1;split at h
  ·rename_i ds0 hg;obtain ⟨vs,q,t'⟩:=r.lst hg;refine YC pins s σ H _ _ v us Q I rx rs ⟨_,b,vs,vs2,rfl,rfl,q,q2,?_,?_⟩
   ·rw[<-t'.length,<-t2.length];exact Nat.le_of_lt (bP h.1 szl)
   ·exact h.2 _ _ _ (fW r hg) (r.write hg (t'.append t2)) rfl
  ·exact h.elim
 ·exact h.elim
theorem aa6:v8 X (λo i x H Q=>∃F G a b c,R X.K H F G/\Rep X.K H F a o/\Rep X.K H F b i/\Rep X.K H F c x/\eG a b c G (λG'=>∀H' F',Ext H F H' F'->R X.K H' F' G'->Q H')):=by
 intro pins s σ H o i v ov iv u Q I ro ri rv h;obtain ⟨F,G,a,b,c,r,ra,rb,rc,h⟩:=h;unfold eG at h;split at h
 ·have e1:o=.ref _:=ra;have e2:i=.int _:=rb;subst e1;subst e2;split at h
  ·rename_i ds hg;obtain ⟨vs,q,t⟩:=r.lst hg;split at h
   ·rename_i j hj;refine set_list pins s σ H _ _ v ov iv u Q I ro ri rv ⟨_,vs,_,j,rfl,rfl,q,by rw[<-t.length];exact hj,?_⟩;exact h _ _ (fW r hg) (r.write hg (t.set rc j))
   ·exact h.elim
  ·exact h.elim
 ·exact h.elim
theorem aa7(op:Operator):PIp X op (λx y H Q=>∃F G a b,R X.K H F G/\Rep X.K H F a x/\Rep X.K H F b y/\dH op a b (λd=>PV X.K H F Q d G)):=by
 intro pins s σ H x y v u Q I rx ry h;obtain ⟨F,G,a,b,r,ra,rb,h⟩:=h;unfold dH at h;split at h
 ·have e1:x=.int _:=ra;have e2:y=.int _:=rb;subst e1;subst e2;exact WY pins s σ H _ _ v u Q I rx ry ⟨_,_,rfl,rfl,h.now r rfl⟩
 ·obtain ⟨e1,l1⟩:=ra;obtain ⟨e2,l2⟩:=rb;subst e1;subst e2;refine Xc pins s σ H _ _ v u Q I rx ry ⟨_,_,rfl,rfl,by rw[bN,bN];exact cZ h.1,?_⟩;rw[qP];exact h.2.now r ⟨rfl,by rw[av];exact h.1⟩
 ·have e1:x=.int _:=ra;have e2:y=.int _:=rb;subst e1;subst e2;exact W0 pins s σ H _ _ v u Q I rx ry ⟨_,_,rfl,rfl,h.now r rfl⟩
 ·exact h.elim
end
inductive SK where
 |lst (a:Addr) |tup (a:Addr) |str (x:Str) (t:Tok)
def SK.val:SK->Value
 |.lst a=>.ref a
 |.tup a=>.ref a
 |.str x t=>.str x t
def SK.cls:SK->String
 |.lst _=>"list_iterator"
 |.tup _=>"tuple_iterator"
 |.str x _=>strIterType x
def SK.obj(k:SK):Obj:={ cls:=.type k.cls,data:=.fields #[k.val,.int 0 0] }
def SK.pos(k:SK)(it:Addr)(i:Nat)(h:Heap):Prop:=∃o,h.get? it=some o/\o.cls=.type k.cls/\o.data=.fields #[k.val,.int i 0]
def SK.Sat(H:Hp)(vs:List V):SK->Prop
 |.lst a=>H a=some (.lst vs)
 |.tup a=>H a=some (.tup vs)
 |.str x _=>vs=x.cps.toList.map λc=>V.str ⟨#[c]⟩
def SK.No(e:Addr):SK->Prop
 |.lst a=>a≠e
 |.tup a=>a≠e
 |.str _ _=>True
theorem SK.Sat.no{H:Hp}{vs:List V}{k:SK}{e:Addr}(h:k.Sat H vs)(he:H e=none):k.No e:=by
 cases k with
 |lst a=>exact bu (show H a=some _ from h) he
 |tup a=>exact bu (show H a=some _ from h) he
 |str x t=>trivial
def SK.On(its:Array Value)(h:Heap):SK->Prop
 |.lst a=>h.IsList a its
 |.tup a=>h.IsTuple a its
 |.str _ _=>True
theorem SK.On.keeps{its:Array Value}{h h':Heap}{k:SK}(x:k.On its h)(kk:∀b o,k.val=.ref b->h.get? b=some o->h'.get? b=some o):k.On its h':=by
 cases k with
 |lst a=>obtain ⟨o,e,r⟩:=x;exact ⟨o,kk a o rfl e,r⟩
 |tup a=>obtain ⟨o,e,r⟩:=x;exact ⟨o,kk a o rfl e,r⟩
 |str _ _=>trivial
section
variable {prog:Program} {w:World} {A:Around} {E:Value->Shared->Prop} {s:Shared}
theorem SK.iter{k:SK}{its:Array Value}{Q:Value->Shared->Prop}(h:k.On its s.heap)(q:Q (.ref s.heap.objs.size) { s with heap:=s.heap.push k.obj }):wpAny (model prog w) A (pyIter k.val) Q E s:=by
 cases k with
 |lst a=>exact wpAny_pyIter_list h q
 |tup a=>exact wpAny_pyIter_tuple h q
 |str x t=>exact wpAny_pyIter_strU q
theorem SK.pos0{k:SK}{h:Heap}:k.pos h.objs.size 0 (h.push k.obj):=⟨_,bb _ rfl,rfl,rfl⟩
theorem SK.pos.keep{k:SK}{it:Addr}{i:Nat}{h h':Heap}(x:k.pos it i h)(kk:∀o,h.get? it=some o->h'.get? it=some o):k.pos it i h':=let ⟨o,e,r⟩:=x;⟨o,kk o e,r⟩
theorem aa8{it t:Addr}{i:Nat}{items}{x:Value}{Q:Value->Shared->Prop}(hit:s.heap.IsTupleIter it t i)
  (ht:s.heap.IsTuple t items) (hx:items[i]?=some x)
  (hQ:∀h',h'.IsTupleIter it t (i+1)->Heap.SameBut it s.heap h'->Q x { s with heap:=h' }):
  wpAny (model prog w) A (Builtin.SmallTypes.nextOf (.ref it)) Q E s:=by
 obtain ⟨o,ho,hc,hd⟩:=id hit;obtain ⟨ol,hol,_,nl,hdl⟩:=ht;unfold Builtin.SmallTypes.nextOf;refine ah (e9 (name:=Str.ofString "__next__") hit.typeIs fI
  (gu fI hit.typeIs F.entry_tuple_iterator_next ?_ (F.args_tuple_iterator_next_1 _)))
 show wpAny _ _ (field (.ref it) 0 >>= _) _ _ s;refine ah (dA ho hd (x:=.ref t) rfl ?_);show wpAny _ _ (if (Value.ref t==Value.none)=true then _ else _) _ _ s;rw[if_neg (show ¬((Value.ref t==Value.none)=true) from bo)];show wpAny _ _ (field (.ref it) 1 >>= _) _ _ s;refine ah (dA ho hd (x:=.int i 0) rfl ?_);show wpAny _ _ (seqItems? (.ref t) >>= _) _ _ s;refine ah (eK hol hdl ?_);simp only[de,hx];refine ah (wpAny_setField ho hd (by simp) (bn ⟨x,rfl,bn (hQ _ ?_ (Heap.SameBut.update ..))⟩));exact ⟨_,Heap.get?_update_self _ ho (Obj.isFreed_of_fields (Obj.data_mapFields hd _)),(Obj.cls_mapFields ..).trans hc,by
  rw[Obj.data_mapFields hd];simp[rawInt]⟩
theorem aa9{it t:Addr}{i:Nat}{items}{Q:Value->Shared->Prop}(hh:A.handled=none)
  (hit:s.heap.IsTupleIter it t i) (ht:s.heap.IsTuple t items) (hx:items[i]?=none)
  (hE:∀h' e,Heap.ExtBut it s.heap h'->(∃o,h'.get? e=some o/\o.cls=.type "StopIteration")->E (.ref e) { s with heap:=h' }):
  wpAny (model prog w) A (Builtin.SmallTypes.nextOf (.ref it)) Q E s:=by
 obtain ⟨o,ho,hc,hd⟩:=id hit;obtain ⟨ol,hol,_,nl,hdl⟩:=ht;unfold Builtin.SmallTypes.nextOf;refine ah (e9 (name:=Str.ofString "__next__") hit.typeIs fI
  (gu fI hit.typeIs F.entry_tuple_iterator_next ?_ (F.args_tuple_iterator_next_1 _)))
 show wpAny _ _ (field (.ref it) 0 >>= _) _ _ s;refine ah (dA ho hd (x:=.ref t) rfl ?_);show wpAny _ _ (if (Value.ref t==Value.none)=true then _ else _) _ _ s;rw[if_neg (show ¬((Value.ref t==Value.none)=true) from bo)];show wpAny _ _ (field (.ref it) 1 >>= _) _ _ s;refine ah (dA ho hd (x:=.int i 0) rfl ?_);show wpAny _ _ (seqItems? (.ref t) >>= _) _ _ s;refine ah (eK hol hdl ?_);simp only[de,hx];refine ah (wpAny_rule (ah (wpAny_setField ho hd (by simp) ?_)));show wpAny _ _ (newExc (.type "StopIteration") [] >>= _) _ _ _;refine ah ?_;simp only[newExc,newTuple];refine ah (wpAny_newObj_type ?_ (by size_fits));refine ah (m:=firstArgMember _ _) (wpAny_of_eq (a:=Value.none) (by first |rfl | (simp only[firstArgMember];rfl)) ?_);refine wpAny_newObj_type ?_ (by size_fits);simp only[raiseNew];refine ah (wpAny_handled ?_);first |rw[show A.in1.handled=none from hh] |rw[hh]
 refine ah (bn (wpAny_throw ?_));exact hE _ _ (((Heap.SameBut.update ..).extBut.push _).push _) ⟨_,bb _ rfl,rfl⟩
theorem aba(hh:A.handled=none)(it l:Addr)(hne:l≠it)(items:Array Value):
  Draws prog w A it [it,l] items.size (λi v=>items[i]?=some v) (λi h=>h.IsTupleIter it l i/\h.IsTuple l items) where
 live:=λ_ _ st=>let ⟨o,ho,_⟩:=st.1;⟨o,ho⟩
 frame:=λ_ _ _ st hk=>⟨let ⟨o,e,r⟩:=st.1;⟨o,hk it (by simp) o e,r⟩,let ⟨o,e,r⟩:=st.2;⟨o,hk l (by simp) o e,r⟩⟩
 item:=λi s Q E hi st hQ=>by
  refine aa8 st.1 st.2 (x:=items[i]) (by simp[hi]) λh' hit' hs'=>?_;exact hQ _ h' s.toks (by simp[hi]) ⟨hit',let ⟨o,e,r⟩:=st.2;⟨o,hs'.extBut l o hne e,r⟩⟩ hs'
 done:=λs Q E st hE=>aa9 hh st.1 st.2 (by simp) hE
end
structure Drawn(P:Program)(w:World)(A:Around)(k:SK)(it:Addr)(i:Nat)(vs:List V)(h:Heap)(fp:List Addr)(Pd:Nat->Value->Prop)(S:Nat->Heap->Prop):Prop where
 D:Draws P w A it fp vs.length Pd S
 st:S i h
 val:∀j v,Pd j v->∃x,vs[j]?=some x/\RelV x v
 pos:∀j h,S j h->k.pos it j h
 fp:∀b∈fp,b=it\/k.val=.ref b
theorem drawn{X:Cx}{pins:List (Addr×Obj)}{σ:L2.St}{H:Hp}{s:Shared}{A:Around}(hh:A.handled=none)(I:Inv X pins σ H s){k:SK}{it:Addr}{i:Nat}{vs:List V}(sat:k.Sat H vs)(hit:H it=none)(p:k.pos it i s.heap):
  ∃fp Pd S,Drawn X.prog X.w A k it i vs s.heap fp Pd S:=by
 cases k with
 |lst a=>
  have sat:H a=some (.lst vs):=sat;obtain ⟨its,r,pl,_⟩:=I.list (SqL.of sat);refine ⟨[it,a],λj v=>its.toArray[j]?=some v,λj h=>h.IsListIter it a j/\h.IsList a its.toArray,?_,⟨p,pl.isList⟩,?_,λj h st=>st.1,?_⟩
  ·have D:=Draws.list (prog:=X.prog) (w:=X.w) hh it a (bu sat hit) its.toArray;rw[am,<-r.length]at D;exact D
  ·intro j v e;have e:its.toArray[j]?=some v:=e;have hj:j < vs.length:=by
    rw[r.length];have:=(fA.mp e).1;simpa using this
   obtain ⟨u,e2,r2⟩:=r.get (show vs[j]?=some vs[j] by simp[hj]);refine ⟨vs[j],by simp[hj],?_⟩;have:its[j]?=some v:=by simpa using e
   rw[this]at e2;cases e2;exact r2
  ·intro b hb;have hb:b=it\/b=a:=by simpa using hb
   rcases hb with e |e
   ·exact .inl e
   ·exact .inr (by rw[e];rfl)
 |tup a=>
  have sat:H a=some (.tup vs):=sat;obtain ⟨its,r,pl,_⟩:=I.tuple (SqT.of sat);refine ⟨[it,a],λj v=>its.toArray[j]?=some v,λj h=>h.IsTupleIter it a j/\h.IsTuple a its.toArray,?_,⟨p,pl⟩,?_,λj h st=>st.1,?_⟩
  ·have D:=aba (prog:=X.prog) (w:=X.w) hh it a (bu sat hit) its.toArray;rw[am,<-r.length]at D;exact D
  ·intro j v e;have e:its.toArray[j]?=some v:=e;have hj:j < vs.length:=by
    rw[r.length];have:=(fA.mp e).1;simpa using this
   obtain ⟨u,e2,r2⟩:=r.get (show vs[j]?=some vs[j] by simp[hj]);refine ⟨vs[j],by simp[hj],?_⟩;have:its[j]?=some v:=by simpa using e
   rw[this]at e2;cases e2;exact r2
  ·intro b hb;have hb:b=it\/b=a:=by simpa using hb
   rcases hb with e |e
   ·exact .inl e
   ·exact .inr (by rw[e];rfl)
 |str x t=>
  have sat:vs=x.cps.toList.map λc=>V.str ⟨#[c]⟩:=sat;refine ⟨[it],λi v=>∃c u,x.cps[i]?=some c/\v=.str ⟨#[c]⟩ u,λi h=>h.IsStrIter it (strIterType x) x t i,?_,p,?_,λj h st=>st,?_⟩
  ·have D:=Zd (prog:=X.prog) (w:=X.w) hh it x t;have e:x.cps.size=vs.length:=by rw[sat,ag,dP]
   rw[e]at D;exact D
  ·rintro j v ⟨c,u,e1,e2⟩;refine ⟨V.str ⟨#[c]⟩,?_,u,e2⟩;rw[sat,bp,fi,e1];rfl
  ·intro b hb;exact .inl (by simpa using hb)
def Jk(k:SK):It:=⟨λi H=>∃vs,k.Sat H vs/\i < vs.length,λi H x H'=>H'=H/\∀vs,k.Sat H vs->vs[i]?=some x,λi H=>∃vs,k.Sat H vs/\vs.length=i⟩
def Je(k:SK):It:=⟨λi H=>∃vs,k.Sat H vs/\i < vs.length,λi H x H'=>∃T y,H T=none/\x=.ref T/\H'=upd H T (.tup [.int i,y])/\∀vs,k.Sat H vs->vs[i]?=some y,λi H=>∃vs,k.Sat H vs/\vs.length=i⟩
theorem yp{H:Hp}{k:SK}{vs ws:List V}(h:k.Sat H vs)(h':k.Sat H ws):vs=ws:=by
 cases k with
 |lst a=>have e:=(show H a=some _ from h).symm.trans h';cases e;rfl
 |tup a=>have e:=(show H a=some _ from h).symm.trans h';cases e;rfl
 |str x t=>exact (show vs=_ from h).trans (show ws=_ from h').symm
theorem abb{P:Program}{w:World}{K:PF}{elts:List Expr}{x1:Nat}{pos:Pos}(k:SK)(e it:Addr)(hne:e≠it):
  Turn P w K (.Tuple elts x1 pos) (Je k) [e,it] e (λi h=>(∃old,IsEnum h e it i old)/\k.pos it i h) where
 mem:=by simp
 obj:=λi h st b hb=>by
  obtain ⟨⟨old,he⟩,o,ho,c,d⟩:=st;have hb:b=e\/b=it:=by simpa using hb
  rcases hb with rfl |rfl
  ·exact ⟨_,he,λv z=>by have z':Data.fields _=Data.cell v:=z;cases z'⟩
  ·exact ⟨o,ho,λv z=>by rw[d]at z;cases z⟩
 keep:=λi h h' st kk=>⟨let ⟨old,he⟩:=st.1;⟨old,kk e (by simp) _ he⟩,st.2.keep λo ho=>kk it (by simp) o ho⟩
 item:=by
  intro X hP hw hK hc i pins s σ H E I hf st hg;subst hP hw hK;obtain ⟨vs,sat,hi⟩:=hg;obtain ⟨⟨old,he⟩,hit⟩:=st;have hfe:=hf e (by simp);have hfi:=hf it (by simp);obtain ⟨fp,Pd,S,Dr⟩:=drawn (A:=X.A.in1) (I.ok.hd hc) I sat hfi.1 hit;have helt:e < s.heap.objs.size:=aE he;have hef:e∉fp:=λhb=>by
   rcases Dr.fp e hb with z |z
   ·exact hne z
   ·have:=sat.no hfe.1;cases k with
    |lst a=>cases z;exact this rfl
    |tup a=>cases z;exact this rfl
    |str _ _=>cases z
  refine wpAny_pyNext_enum_itemD Dr.D he Dr.st hi hne hef λu h1 tk hu heo hit1 ht1 hz1 hk1=>?_;obtain ⟨x,hx,ru⟩:=Dr.val _ _ hu;refine ⟨_,rfl,?_⟩;refine wpAny_letOwnedTupleGo_enum heo λh2 he2 hs2=>?_;have hs2':Heap.SameBut e h1 h2:=hs2;have hn:H s.heap.objs.size=none:=I.hok.fresh (ax _);have k2:∀b o,b∉[e,it]->s.heap.get? b=some o->h2.get? b=some o:=λb o hb q=>by
   have hb':b≠e/\b≠it:=by simpa using hb
   exact hs2'.extBut b o hb'.1 (hk1 b o hb'.1 hb'.2 q)
  have I2:Inv X pins σ H { s with heap:=h2,toks:=tk+1 }:=I.turnedL hf k2;have ht2:h2.get? s.heap.objs.size=some { cls:=.type "tuple",data:=.seq #[.int i tk,u] }:=hs2'.extBut _ _ (fT helt) ht1;have ob:ObjOk X.prog X.w (upd H s.heap.objs.size (.tup [.int i,x])) h2 s.heap.objs.size (.tup [.int i,x]):=
   ⟨by rw[gg];simp,[.int i tk,u],.cons ⟨_,rfl⟩ (.cons ru .nil),⟨_,ht2,rfl,_,rfl⟩⟩
  have I3:=I2.track (I.fpOk (ax _) hn) ob;have nee:s.heap.objs.size≠e:=fT helt;have nei:s.heap.objs.size≠it:=by obtain ⟨o,ho,_⟩:=hit;exact fT (aE ho)
  refine ⟨.ref s.heap.objs.size,_,I3,rfl,⟨s.heap.objs.size,x,hn,rfl,rfl,λys hy=>by rw[yp hy sat];exact hx⟩,⟨⟨u,?_⟩,?_⟩,λb hb=>?_⟩
  ·show IsEnum h2 e it (((i+1:Nat)):Int) u;rw[show (((i+1:Nat):Int))=(i:Int)+1 by omega];exact he2
  ·exact (Dr.pos _ _ hit1).keep λo ho=>hs2'.extBut _ _ (Ne.symm hne) ho
  ·have hb':b=e\/b=it:=by simpa using hb
   rw[aK (by rcases hb' with rfl |rfl;exact Ne.symm nee;exact Ne.symm nei)];exact (hf b hb).1
 done:=by
  intro X hP hw hK hc i pins s σ H E I hf st hg;subst hP hw hK;obtain ⟨vs,sat,hi⟩:=hg;subst hi;obtain ⟨⟨old,he⟩,hit⟩:=st;have hfi:=hf it (by simp);obtain ⟨fp,Pd,S,Dr⟩:=drawn (A:=X.A.in1) (I.ok.hd hc) I sat hfi.1 hit;refine wpAny_pyNext_enum_endD Dr.D he Dr.st λh' eb=>⟨rfl,I.turnedL (t':=s.toks) hf λb o hb q=>?_⟩;have hb':b≠e/\b≠it:=by simpa using hb
  exact eb b o hb'.2 q
 self:=λA i s Q E st h=>by
  obtain ⟨⟨old,he⟩,_⟩:=st;exact wpAny_pyIter_enum he h
theorem abd{P:Program}{w:World}{K:PF}{tg:Expr}(k:SK)(it:Addr):Turn P w K tg (Jk k) [it] it (λi h=>k.pos it i h) where
 mem:=by simp
 obj:=λi h st b hb=>by
  have e:b=it:=by simpa using hb
  subst e;obtain ⟨o,e,c,d⟩:=st;exact ⟨o,e,λv z=>by rw[d]at z;cases z⟩
 keep:=λi h h' st kk=>st.keep λo e=>kk it (by simp) o e
 item:=by
  intro X hP hw hK hc i pins s σ H E I hf st hg;obtain ⟨vs,sat,hi⟩:=hg;have hfi:=hf it (by simp);cases k with
  |lst a=>
   have sat':H a=some (.lst vs):=sat;refine c5 ((Cd (tg:=tg) a it).item X hP hw hK hc i pins s σ H E I hf st ⟨vs,vs[i],SqL.of sat',by simp[hi]⟩) ?_ (λ_ _ e=>e);rintro r s1 ⟨u,hr,h1⟩;refine ⟨u,hr,c5 h1 ?_ (λ_ _ e=>e)⟩;rintro _ s2 ⟨x,H',I',rx,⟨e1,e2⟩,st',fr⟩;exact ⟨x,H',I',rx,⟨e1,λws hw'=>e2 ws (SqL.of (show H a=some (.lst ws) from hw'))⟩,st',fr⟩
  |tup a=>
   have sat':H a=some (.tup vs):=sat;refine c5 ((Ce (tg:=tg) a it).item X hP hw hK hc i pins s σ H E I hf st ⟨vs,vs[i],SqT.of sat',by simp[hi]⟩) ?_ (λ_ _ e=>e);rintro r s1 ⟨u,hr,h1⟩;refine ⟨u,hr,c5 h1 ?_ (λ_ _ e=>e)⟩;rintro _ s2 ⟨x,H',I',rx,⟨e1,e2⟩,st',fr⟩;exact ⟨x,H',I',rx,⟨e1,λws hw'=>e2 ws (SqT.of (show H a=some (.tup ws) from hw'))⟩,st',fr⟩
  |str y t=>
   have sat':vs=y.cps.toList.map λc=>V.str ⟨#[c]⟩:=sat;have hlen:vs.length=y.cps.size:=by rw[sat',ag,dP]
   refine c5 ((wz (tg:=tg) it y t).item X hP hw hK hc i pins s σ H E I hf st (show i < y.cps.size by omega)) ?_ (λ_ _ e=>e);rintro r s1 ⟨u,hr,h1⟩;refine ⟨u,hr,c5 h1 ?_ (λ_ _ e=>e)⟩;rintro _ s2 ⟨x,H',I',rx,⟨e1,c,e2,e3⟩,st',fr⟩;refine ⟨x,H',I',rx,⟨e1,λws hw'=>?_⟩,st',fr⟩;have hw':ws=y.cps.toList.map λc=>V.str ⟨#[c]⟩:=hw';rw[hw',e3,bp,fi,e2];rfl
 done:=by
  intro X hP hw hK hc i pins s σ H E I hf st hg;obtain ⟨vs,sat,hi⟩:=hg;cases k with
  |lst a=>exact (Cd (tg:=tg) a it).done X hP hw hK hc i pins s σ H E I hf st ⟨vs,SqL.of (show H a=some (.lst vs) from sat),by omega⟩
  |tup a=>exact (Ce (tg:=tg) a it).done X hP hw hK hc i pins s σ H E I hf st ⟨vs,SqT.of (show H a=some (.tup vs) from sat),by omega⟩
  |str y t=>
   have sat':vs=y.cps.toList.map λc=>V.str ⟨#[c]⟩:=sat;have hlen:vs.length=y.cps.size:=by rw[sat',ag,dP]
   exact (wz (tg:=tg) it y t).done X hP hw hK hc i pins s σ H E I hf st (show i=y.cps.size by omega)
 self:=λA i s Q E st h=>by
  cases k with
  |lst a=>exact wpAny_pyIter_listiter st h
  |tup a=>exact wpAny_pyIter_tupleiter st h
  |str y t=>exact (wz (K:=K) (tg:=tg) it y t).self A i s Q E st h
open Builtin Builtin.Str
section
variable {prog:Program} {w:World} {A:Around} {E:Value->Shared->Prop} {s:Shared}
theorem abe{z TI TO i1 i2:Addr}{k n1 n2:Nat}{fp1 fp2:List Addr}{P1 P2:Nat->Value->Prop}{S1 S2:Nat->Heap->Prop}{a b:Value}{Q:Value->Shared->Prop}(D:ZApart z TI TO i1 i2)
  (D1:Draws prog w A i1 fp1 n1 P1 S1) (D2:Draws prog w A i2 fp2 n2 P2 S2) (f1:∀c∈fp1,c≠z/\c≠TO/\c≠i2) (f2:∀c∈fp2,c≠z/\c≠TO/\c≠i1)
  (hz:IsZip s.heap z TI TO .none) (hTI:IsPair s.heap TI (.ref i1) (.ref i2)) (hTO:IsPair s.heap TO a b)
  (h1:S1 k s.heap) (h2:S2 k s.heap) (hx:k < n1) (hy:k < n2)
  (hQ:∀h' tk c d,P1 k c->P2 k d->IsZip h' z TI TO (rawInt s.heap.objs.size)->IsPair h' TO c d->S1 (k+1) h'->S2 (k+1) h'->
   IsPair h' s.heap.objs.size c d->h'.objs.size=s.heap.objs.size+1->
   (∀c o,c≠z->c≠TO->c≠i1->c≠i2->s.heap.get? c=some o->h'.get? c=some o)->Q (.ref s.heap.objs.size) { s with heap:=h',toks:=tk }):
  wpAny (model prog w) A (Builtin.«zip.__next__» ⟨[.ref z],[]⟩) (λfin s'=>∃v,fin=.done (.ret v)/\Q v s') E s:=by
 have e1:∀{h h':Heap}{c:Addr}{j:Nat},S1 j h->Heap.ExtBut c h h'->(∀b∈fp1,b≠c)->S1 j h':=λq e n=>D1.frame _ _ _ q λb hb o y=>e b o (n b hb) y;have e2:∀{h h':Heap}{c:Addr}{j:Nat},S2 j h->Heap.ExtBut c h h'->(∀b∈fp2,b≠c)->S2 j h':=λq e n=>D2.frame _ _ _ q λb hb o y=>e b o (n b hb) y;have z1:∀b∈fp1,b≠z:=λb hb=>(f1 b hb).1;have t1:∀b∈fp1,b≠TO:=λb hb=>(f1 b hb).2.1;have j1:∀b∈fp1,b≠i2:=λb hb=>(f1 b hb).2.2;have z2:∀b∈fp2,b≠z:=λb hb=>(f2 b hb).1;have t2:∀b∈fp2,b≠TO:=λb hb=>(f2 b hb).2.1;have j2:∀b∈fp2,b≠i1:=λb hb=>(f2 b hb).2.2;show wpAny _ _ (field (.ref z) 2 >>= _) _ _ _;refine ah (dA hz rfl (x:=.bool false) rfl ?_);show wpAny _ _ (field (.ref z) 3 >>= _) _ _ _;refine ah (dA hz rfl (x:=.ref TI) rfl ?_);refine ah (eK hTI rfl ?_);show wpAny _ _ (Builtin.SmallTypes.ownedTupleIsFree (.ref z) >>= _) _ _ _;refine ah ?_;unfold Builtin.SmallTypes.ownedTupleIsFree;refine ah (dA hz rfl (x:=.none) rfl (bn ?_));simp only[if_true];refine ah (wpAny_rule ?_);refine ah (dA hz rfl (x:=.ref TO) rfl ?_);refine ah (eJ hz (by simp) λh₁ hz₁ hs₁=>?_);replace hz₁:IsZip h₁ z TI TO .ellipsis:=hz₁;replace hs₁:Heap.SameBut z s.heap h₁:=hs₁;refine ah ?_;simp only[List.zipIdx_cons,List.zipIdx_nil,List.forIn_cons,List.forIn_nil];refine ah (ah (wpAny_onRaise ?_));show wpAny _ _ (Builtin.SmallTypes.nextOf (.ref i1) >>= _) _ _ _;refine ah (D1.item k _ _ _ hx (e1 h1 hs₁.extBut z1) λc h₂ tk₂ hc h1₂ hs₂=>bn ?_);replace hs₂:Heap.SameBut i1 h₁ h₂:=hs₂;have hTO₂:IsPair h₂ TO a b:=hs₂.extBut _ _ D.TOi1 (hs₁.extBut _ _ D.TOz hTO);refine ah (eK hTO₂ rfl ?_);refine ah (wpAny_updateSeq_pair hTO₂ λh₃ hTO₃ hs₃=>?_);replace hTO₃:IsPair h₃ TO c b:=hTO₃;replace hs₃:Heap.SameBut TO h₂ h₃:=hs₃;refine ah (wpAny_letGo (bn ?_));refine ah (ah (wpAny_onRaise ?_));show wpAny _ _ (Builtin.SmallTypes.nextOf (.ref i2) >>= _) _ _ _;refine ah (D2.item k _ _ _ hy (e2 (e2 (e2 h2 hs₁.extBut z2) hs₂.extBut j2) hs₃.extBut t2) λd h₄ tk₄ hd h2₄ hs₄=>bn ?_);replace hs₄:Heap.SameBut i2 h₃ h₄:=hs₄;have hTO₄:IsPair h₄ TO c b:=hs₄.extBut _ _ D.TOi2 hTO₃;refine ah (eK hTO₄ rfl ?_);refine ah (wpAny_updateSeq_pair hTO₄ λh₅ hTO₅ hs₅=>?_);replace hTO₅:IsPair h₅ TO c d:=hTO₅;replace hs₅:Heap.SameBut TO h₄ h₅:=hs₅;refine ah (wpAny_letGo (bn (bn ?_)));refine ah (eK hTO₅ rfl ?_);refine ah (wpAny_newTuple ?_);have hsz:h₅.objs.size=s.heap.objs.size:=by rw[hs₅.1,hs₄.1,hs₃.1,hs₂.1,hs₁.1]
 have hz₅:IsZip h₅ z TI TO .ellipsis:=hs₅.extBut _ _ D.TOz.symm (hs₄.extBut _ _ D.i2z.symm (hs₃.extBut _ _ D.TOz.symm (hs₂.extBut _ _ D.i1z.symm hz₁)));have hk₅:∀c o,c≠z->c≠TO->c≠i1->c≠i2->s.heap.get? c=some o->h₅.get? c=some o:=λc o c1 c2 c3 c4 e=>
  hs₅.extBut _ _ c2 (hs₄.extBut _ _ c4 (hs₃.extBut _ _ c2 (hs₂.extBut _ _ c3 (hs₁.extBut _ _ c1 e))))
 have h1₅:S1 (k+1) h₅:=e1 (e1 (e1 h1₂ hs₃.extBut t1) hs₄.extBut j1) hs₅.extBut t1;have h2₅:S2 (k+1) h₅:=e2 h2₄ hs₅.extBut t2;have hzlt:z < h₅.objs.size:=aE hz₅;show wpAny _ _ (Builtin.SmallTypes.ownedTupleHandOut (.ref z) (.ref h₅.objs.size) >>= _) _ _ _;refine ah ?_;unfold Builtin.SmallTypes.ownedTupleHandOut;have hz₆:IsZip (h₅.push { cls:=.type "tuple",data:=.seq #[c,d] }) z TI TO .ellipsis:=al _ hz₅;refine ah (eJ hz₆ (by simp) λh₇ hz₇ hs₇=>?_);replace hz₇:IsZip h₇ z TI TO (rawInt h₅.objs.size):=hz₇;refine eJ hz₇ (by simp) λh₈ hz₈ hs₈=>?_;replace hz₈:IsZip h₈ z TI TO (rawInt h₅.objs.size):=hz₈;have up:∀c o,c≠z->h₅.get? c=some o->h₈.get? c=some o:=λc o c1 e=>hs₈.extBut _ _ c1 (hs₇.extBut _ _ c1 (al _ e));have hT₈:IsPair h₈ h₅.objs.size c d:=hs₈.extBut _ _ (fT hzlt) (hs₇.extBut _ _ (fT hzlt) (bb _ rfl));have hz8:h₈.objs.size=h₅.objs.size+1:=by rw[hs₈.1,hs₇.1,dL]
 rw[hsz]at hz₈ hT₈ hz8;refine bn ⟨_,rfl,?_⟩;show Q (.ref h₅.objs.size) _;rw[hsz];exact hQ h₈ tk₄ c d hc hd hz₈ (up _ _ D.TOz hTO₅) (D1.frame _ _ _ h1₅ λb hb o y=>up b o (z1 b hb) y) (D2.frame _ _ _ h2₅ λb hb o y=>up b o (z2 b hb) y) hT₈ hz8 λc o c1 c2 c3 c4 e=>up c o c1 (hk₅ c o c1 c2 c3 c4 e)
theorem abf{z TI TO i1 i2:Addr}{n1:Nat}{fp1:List Addr}{P1:Nat->Value->Prop}{S1:Nat->Heap->Prop}{a b:Value}{Q:Fin->Shared->Prop}(D:ZApart z TI TO i1 i2)
  (D1:Draws prog w A i1 fp1 n1 P1 S1) (f1:∀c∈fp1,c≠z)
  (hz:IsZip s.heap z TI TO .none) (hTI:IsPair s.heap TI (.ref i1) (.ref i2)) (hTO:IsPair s.heap TO a b) (h1:S1 n1 s.heap)
  (hE:∀h' e,(∀c o,c≠z->c≠TO->c≠i1->c≠i2->s.heap.get? c=some o->h'.get? c=some o)->(∃o,h'.get? e=some o/\o.cls=.type "StopIteration")->E (.ref e) { s with heap:=h' }):
  wpAny (model prog w) A (Builtin.«zip.__next__» ⟨[.ref z],[]⟩) Q E s:=by
 show wpAny _ _ (field (.ref z) 2 >>= _) _ _ _;refine ah (dA hz rfl (x:=.bool false) rfl ?_);show wpAny _ _ (field (.ref z) 3 >>= _) _ _ _;refine ah (dA hz rfl (x:=.ref TI) rfl ?_);refine ah (eK hTI rfl ?_);show wpAny _ _ (Builtin.SmallTypes.ownedTupleIsFree (.ref z) >>= _) _ _ _;refine ah ?_;unfold Builtin.SmallTypes.ownedTupleIsFree;refine ah (dA hz rfl (x:=.none) rfl (bn ?_));simp only[if_true];refine ah (wpAny_rule ?_);refine ah (dA hz rfl (x:=.ref TO) rfl ?_);refine ah (eJ hz (by simp) λh₁ hz₁ hs₁=>?_);replace hz₁:IsZip h₁ z TI TO .ellipsis:=hz₁;replace hs₁:Heap.SameBut z s.heap h₁:=hs₁;refine ah ?_;simp only[List.zipIdx_cons,List.zipIdx_nil,List.forIn_cons,List.forIn_nil];refine ah (ah (wpAny_onRaise ?_));show wpAny _ _ (Builtin.SmallTypes.nextOf (.ref i1) >>= _) _ _ _;refine ah (D1.done _ _ _ (D1.frame _ _ _ h1 λb hb o y=>hs₁.extBut b o (f1 b hb) y) λh₂ e hs₂ he=>?_);obtain ⟨oe,hoe,hce⟩:=he;have hz₂:IsZip h₂ z TI TO .ellipsis:=hs₂ _ _ D.i1z.symm hz₁;have hez:e≠z:=λx=>by subst x;rw[hz₂]at hoe;cases hoe;simp at hce
 refine eJ hz₂ (by simp) λh₃ _ hs₃=>hE h₃ e (λc o c1 _ c3 _ x=>hs₃.extBut _ _ c1 (hs₂ _ _ c3 (hs₁.extBut _ _ c1 x))) ⟨oe,hs₃.extBut _ _ hez hoe,hce⟩
theorem abg{z TI TO i1 i2:Addr}{k n1 n2:Nat}{fp1 fp2:List Addr}{P1 P2:Nat->Value->Prop}{S1 S2:Nat->Heap->Prop}{a b:Value}{Q:Fin->Shared->Prop}(D:ZApart z TI TO i1 i2)
  (D1:Draws prog w A i1 fp1 n1 P1 S1) (D2:Draws prog w A i2 fp2 n2 P2 S2) (f1:∀c∈fp1,c≠z/\c≠TO/\c≠i2) (f2:∀c∈fp2,c≠z/\c≠TO/\c≠i1)
  (hz:IsZip s.heap z TI TO .none) (hTI:IsPair s.heap TI (.ref i1) (.ref i2)) (hTO:IsPair s.heap TO a b) (h1:S1 k s.heap) (h2:S2 k s.heap) (hx:k < n1) (hy:k=n2)
  (hE:∀h' tk e,(∀c o,c≠z->c≠TO->c≠i1->c≠i2->s.heap.get? c=some o->h'.get? c=some o)->(∃o,h'.get? e=some o/\o.cls=.type "StopIteration")->E (.ref e) { s with heap:=h',toks:=tk }):
  wpAny (model prog w) A (Builtin.«zip.__next__» ⟨[.ref z],[]⟩) Q E s:=by
 have e1:∀{h h':Heap}{c:Addr}{j:Nat},S1 j h->Heap.ExtBut c h h'->(∀b∈fp1,b≠c)->S1 j h':=λq e n=>D1.frame _ _ _ q λb hb o y=>e b o (n b hb) y;have e2:∀{h h':Heap}{c:Addr}{j:Nat},S2 j h->Heap.ExtBut c h h'->(∀b∈fp2,b≠c)->S2 j h':=λq e n=>D2.frame _ _ _ q λb hb o y=>e b o (n b hb) y;have z1:∀b∈fp1,b≠z:=λb hb=>(f1 b hb).1;have z2:∀b∈fp2,b≠z:=λb hb=>(f2 b hb).1;have t2:∀b∈fp2,b≠TO:=λb hb=>(f2 b hb).2.1;have j2:∀b∈fp2,b≠i1:=λb hb=>(f2 b hb).2.2;show wpAny _ _ (field (.ref z) 2 >>= _) _ _ _;refine ah (dA hz rfl (x:=.bool false) rfl ?_);show wpAny _ _ (field (.ref z) 3 >>= _) _ _ _;refine ah (dA hz rfl (x:=.ref TI) rfl ?_);refine ah (eK hTI rfl ?_);show wpAny _ _ (Builtin.SmallTypes.ownedTupleIsFree (.ref z) >>= _) _ _ _;refine ah ?_;unfold Builtin.SmallTypes.ownedTupleIsFree;refine ah (dA hz rfl (x:=.none) rfl (bn ?_));simp only[if_true];refine ah (wpAny_rule ?_);refine ah (dA hz rfl (x:=.ref TO) rfl ?_);refine ah (eJ hz (by simp) λh₁ hz₁ hs₁=>?_);replace hz₁:IsZip h₁ z TI TO .ellipsis:=hz₁;replace hs₁:Heap.SameBut z s.heap h₁:=hs₁;refine ah ?_;simp only[List.zipIdx_cons,List.zipIdx_nil,List.forIn_cons,List.forIn_nil];refine ah (ah (wpAny_onRaise ?_));show wpAny _ _ (Builtin.SmallTypes.nextOf (.ref i1) >>= _) _ _ _;refine ah (D1.item k _ _ _ hx (e1 h1 hs₁.extBut z1) λc h₂ tk₂ hc h1₂ hs₂=>bn ?_);replace hs₂:Heap.SameBut i1 h₁ h₂:=hs₂;have hTO₂:IsPair h₂ TO a b:=hs₂.extBut _ _ D.TOi1 (hs₁.extBut _ _ D.TOz hTO);refine ah (eK hTO₂ rfl ?_);refine ah (wpAny_updateSeq_pair hTO₂ λh₃ hTO₃ hs₃=>?_);replace hs₃:Heap.SameBut TO h₂ h₃:=hs₃;refine ah (wpAny_letGo (bn ?_));refine ah (ah (wpAny_onRaise ?_));show wpAny _ _ (Builtin.SmallTypes.nextOf (.ref i2) >>= _) _ _ _;subst hy;refine ah (D2.done _ _ _ (e2 (e2 (e2 h2 hs₁.extBut z2) hs₂.extBut j2) hs₃.extBut t2) λh₄ e hs₄ he=>?_);obtain ⟨oe,hoe,hce⟩:=he;have hz₄:IsZip h₄ z TI TO .ellipsis:=hs₄ _ _ D.i2z.symm (hs₃.extBut _ _ D.TOz.symm (hs₂.extBut _ _ D.i1z.symm hz₁));have hez:e≠z:=λx=>by subst x;rw[hz₄]at hoe;cases hoe;simp at hce
 refine eJ hz₄ (by simp) λh₅ _ hs₅=>hE h₅ tk₂ e (λc o c1 c2 c3 c4 x=>hs₅.extBut _ _ c1 (hs₄ _ _ c4 (hs₃.extBut _ _ c2 (hs₂.extBut _ _ c3 (hs₁.extBut _ _ c1 x))))) ⟨oe,hs₅.extBut _ _ hez hoe,hce⟩
end
def Jz(k l:SK):It:=⟨λi H=>∃vs ws,k.Sat H vs/\l.Sat H ws/\i < vs.length/\i < ws.length,
 λi H x H'=>∃T y z,H T=none/\x=.ref T/\H'=upd H T (.tup [y,z])/\(∀vs,k.Sat H vs->vs[i]?=some y)/\(∀ws,l.Sat H ws->ws[i]?=some z),
 λi H=>∃vs ws,k.Sat H vs/\l.Sat H ws/\(vs.length=i/\i<=ws.length\/i < vs.length/\ws.length=i)⟩
theorem abh{P:Program}{w:World}{K:PF}{elts:List Expr}{x1:Nat}{pos:Pos}(k l:SK)(z TI TO i1 i2:Addr)(D:ZApart z TI TO i1 i2):
  Turn P w K (.Tuple elts x1 pos) (Jz k l) [z,TI,TO,i1,i2] z
   (λi h=>IsZip h z TI TO .none/\IsPair h TI (.ref i1) (.ref i2)/\(∃a b,IsPair h TO a b)/\k.pos i1 i h/\l.pos i2 i h) where
 mem:=by simp
 obj:=λi h st b hb=>by
  obtain ⟨hz,hTI,⟨a,c,hTO⟩,⟨o1,e1,_,d1⟩,⟨o2,e2,_,d2⟩⟩:=st;have hb':b=z\/b=TI\/b=TO\/b=i1\/b=i2:=by simpa using hb
  rcases hb' with rfl |rfl |rfl |rfl |rfl
  ·exact ⟨_,hz,λv q=>by have q':Data.fields _=Data.cell v:=q;cases q'⟩
  ·exact ⟨_,hTI,λv q=>by have q':Data.seq _ _=Data.cell v:=q;cases q'⟩
  ·exact ⟨_,hTO,λv q=>by have q':Data.seq _ _=Data.cell v:=q;cases q'⟩
  ·exact ⟨o1,e1,λv q=>by rw[d1]at q;cases q⟩
  ·exact ⟨o2,e2,λv q=>by rw[d2]at q;cases q⟩
 keep:=λi h h' st kk=>by
  obtain ⟨hz,hTI,⟨a,c,hTO⟩,p1,p2⟩:=st;exact ⟨kk z (by simp) _ hz,kk TI (by simp) _ hTI,⟨a,c,kk TO (by simp) _ hTO⟩,p1.keep λo e=>kk i1 (by simp) o e,p2.keep λo e=>kk i2 (by simp) o e⟩
 item:=by
  intro X hP hw hK hc i pins s σ H E I hf st hg;subst hP hw hK;obtain ⟨vs,ws,sat1,sat2,l1,l2⟩:=hg;obtain ⟨hz,hTI,⟨a,b,hTO⟩,h1,h2⟩:=st;have hT:s.TypeIs (.ref z) "zip":=⟨_,hz,rfl⟩;have fz:=hf z (by simp);have fTO:=hf TO (by simp);have fi1:=hf i1 (by simp);have fi2:=hf i2 (by simp);obtain ⟨fp1,P1,S1,Dr1⟩:=drawn (A:=X.A.in1) (I.ok.hd hc) I sat1 fi1.1 h1;obtain ⟨fp2,P2,S2,Dr2⟩:=drawn (A:=X.A.in1) (I.ok.hd hc) I sat2 fi2.1 h2;have no1:∀e,H e=none->e≠i1->∀c∈fp1,c≠e:=λe he hei c hc z=>by
   rcases Dr1.fp c hc with q |q
   ·exact hei (z.symm.trans q)
   ·have:=sat1.no he;cases k with
    |lst a=>injection q with q;exact this (q.trans z)
    |tup a=>injection q with q;exact this (q.trans z)
    |str _ _=>cases q
  have no2:∀e,H e=none->e≠i2->∀c∈fp2,c≠e:=λe he hei c hc z=>by
   rcases Dr2.fp c hc with q |q
   ·exact hei (z.symm.trans q)
   ·have:=sat2.no he;cases l with
    |lst a=>injection q with q;exact this (q.trans z)
    |tup a=>injection q with q;exact this (q.trans z)
    |str _ _=>cases q
  have f1:∀c∈fp1,c≠z/\c≠TO/\c≠i2:=λc hc=>⟨no1 z fz.1 D.i1z.symm c hc,no1 TO fTO.1 D.TOi1 c hc,no1 i2 fi2.1 D.i12.symm c hc⟩;have f2:∀c∈fp2,c≠z/\c≠TO/\c≠i1:=λc hc=>⟨no2 z fz.1 D.i2z.symm c hc,no2 TO fTO.1 D.TOi2 c hc,no2 i1 fi1.1 D.i12 c hc⟩;have ltz:z < s.heap.objs.size:=aE hz;have ltTI:TI < s.heap.objs.size:=aE hTI;have ltTO:TO < s.heap.objs.size:=aE hTO;have lti1:i1 < s.heap.objs.size:=by obtain ⟨_,e,_⟩:=h1;exact aE e
  have lti2:i2 < s.heap.objs.size:=by obtain ⟨_,e,_⟩:=h2;exact aE e
  unfold pyNext;refine ah (wpAny_attempt (e9 (name:=Str.ofString "__next__") hT F.slot_zip_next
   (gu F.slot_zip_next hT F.entry_zip_next (abe D Dr1.D Dr2.D f1 f2 hz hTI hTO Dr1.st Dr2.st l1 l2 λh' tk c d pc pd a1 a2 a3 a4 a5 a6 hk=>bn ?_) (F.args_zip_next_1 _))))
  obtain ⟨y,hy,ry⟩:=Dr1.val _ _ pc;obtain ⟨y',hy',ry'⟩:=Dr2.val _ _ pd;refine ⟨_,rfl,?_⟩;refine wpAny_letOwnedTupleGo_zip a1 λh2' hz2 hs2=>?_;have hs2':Heap.SameBut z h' h2':=hs2;have hn:H s.heap.objs.size=none:=I.hok.fresh (ax _);have k2:∀b o,b∉[z,TI,TO,i1,i2]->s.heap.get? b=some o->h2'.get? b=some o:=λb o hb q=>by
   have hb':b≠z/\b≠TI/\b≠TO/\b≠i1/\b≠i2:=by simpa using hb
   exact hs2'.extBut b o hb'.1 (hk b o hb'.1 hb'.2.2.1 hb'.2.2.2.1 hb'.2.2.2.2 q)
  have I2:Inv X pins σ H { s with heap:=h2',toks:=tk }:=I.turnedL hf k2;have ht2:h2'.get? s.heap.objs.size=some { cls:=.type "tuple",data:=.seq #[c,d] }:=hs2'.extBut _ _ (fT ltz) a5;have ob:ObjOk X.prog X.w (upd H s.heap.objs.size (.tup [y,y'])) h2' s.heap.objs.size (.tup [y,y']):=
   ⟨by rw[gg];simp,[c,d],.cons ry (.cons ry' .nil),⟨_,ht2,rfl,_,rfl⟩⟩
  have I3:=I2.track (I.fpOk (ax _) hn) ob;refine ⟨.ref s.heap.objs.size,_,I3,rfl,⟨s.heap.objs.size,y,y',hn,rfl,rfl,λus hu=>by rw[yp hu sat1];exact hy,λus hu=>by rw[yp hu sat2];exact hy'⟩,
   ⟨hz2,hs2'.extBut _ _ D.TIz (hk _ _ D.TIz D.TITO D.TIi1 D.TIi2 hTI),⟨_,_,hs2'.extBut _ _ D.TOz a2⟩,(Dr1.pos _ _ a3).keep λo e=>hs2'.extBut _ _ D.i1z e,(Dr2.pos _ _ a4).keep λo e=>hs2'.extBut _ _ D.i2z e⟩,λb hb=>?_⟩
  have hb':b=z\/b=TI\/b=TO\/b=i1\/b=i2:=by simpa using hb
  rw[aK (by rcases hb' with rfl |rfl |rfl |rfl |rfl <;> exact cr ‹_›)];exact (hf b hb).1
 done:=by
  intro X hP hw hK hc i pins s σ H E I hf st hg;subst hP hw hK;obtain ⟨vs,ws,sat1,sat2,hend⟩:=hg;obtain ⟨hz,hTI,⟨a,b,hTO⟩,h1,h2⟩:=st;have hT:s.TypeIs (.ref z) "zip":=⟨_,hz,rfl⟩;have fz:=hf z (by simp);have fTO:=hf TO (by simp);have fi1:=hf i1 (by simp);have fi2:=hf i2 (by simp);obtain ⟨fp1,P1,S1,Dr1⟩:=drawn (A:=X.A.in1) (I.ok.hd hc) I sat1 fi1.1 h1;obtain ⟨fp2,P2,S2,Dr2⟩:=drawn (A:=X.A.in1) (I.ok.hd hc) I sat2 fi2.1 h2;have no1:∀e,H e=none->e≠i1->∀c∈fp1,c≠e:=λe he hei c hc z=>by
   rcases Dr1.fp c hc with q |q
   ·exact hei (z.symm.trans q)
   ·have:=sat1.no he;cases k with
    |lst a=>injection q with q;exact this (q.trans z)
    |tup a=>injection q with q;exact this (q.trans z)
    |str _ _=>cases q
  have no2:∀e,H e=none->e≠i2->∀c∈fp2,c≠e:=λe he hei c hc z=>by
   rcases Dr2.fp c hc with q |q
   ·exact hei (z.symm.trans q)
   ·have:=sat2.no he;cases l with
    |lst a=>injection q with q;exact this (q.trans z)
    |tup a=>injection q with q;exact this (q.trans z)
    |str _ _=>cases q
  have f1:∀c∈fp1,c≠z/\c≠TO/\c≠i2:=λc hc=>⟨no1 z fz.1 D.i1z.symm c hc,no1 TO fTO.1 D.TOi1 c hc,no1 i2 fi2.1 D.i12.symm c hc⟩;have f2:∀c∈fp2,c≠z/\c≠TO/\c≠i1:=λc hc=>⟨no2 z fz.1 D.i2z.symm c hc,no2 TO fTO.1 D.TOi2 c hc,no2 i1 fi1.1 D.i12 c hc⟩;have fin:∀(h':Heap)(tk:Nat)(e:Addr),(∀c o,c≠z->c≠TO->c≠i1->c≠i2->s.heap.get? c=some o->h'.get? c=some o)->Inv X pins σ H { s with heap:=h',toks:=tk }:=λh' tk e hk=>I.turnedL (t':=tk) hf λb o hb q=>by
   have hb':b≠z/\b≠TI/\b≠TO/\b≠i1/\b≠i2:=by simpa using hb
   exact hk b o hb'.1 hb'.2.2.1 hb'.2.2.2.1 hb'.2.2.2.2 q
  unfold pyNext;refine ah (wpAny_attempt (e9 (name:=Str.ofString "__next__") hT F.slot_zip_next
   (gu F.slot_zip_next hT F.entry_zip_next ?_ (F.args_zip_next_1 _))))
  rcases hend with ⟨e1,_⟩ |⟨e1,e2⟩
  ·subst e1;refine abf D Dr1.D (λc hc=>(f1 c hc).1) hz hTI hTO Dr1.st λh' e hk he=>?_;obtain ⟨o,ho,hc'⟩:=he;refine ah (wpAny_isInstance (T:="StopIteration") (b:=true) ⟨o,ho,hc'⟩ isSubtype_stop ?_);exact bn ⟨rfl,fin h' s.toks e hk⟩
  ·refine abg D Dr1.D Dr2.D f1 f2 hz hTI hTO Dr1.st Dr2.st e1 e2.symm λh' tk e hk he=>?_;obtain ⟨o,ho,hc'⟩:=he;refine ah (wpAny_isInstance (T:="StopIteration") (b:=true) ⟨o,ho,hc'⟩ isSubtype_stop ?_);exact bn ⟨rfl,fin h' tk e hk⟩
 self:=λA i s Q E st h=>wpAny_pyIter_zip st.1 h
open Sem (wp)
open AutoSeq1 (wpAny_loadPart')
set_option maxRecDepth 100000
set_option maxHeartbeats 1000000 in
theorem abi(l:Addr)(items:Array Value)(n:Nat)(dct:Option Addr)(sl:Array (Option Value)):
  Meets (Builtin.«enumerate.__new__» ⟨[.type "enumerate",.ref l],[]⟩) (λ_ R s=>s.heap.get? l=some { cls:=.type "tuple",dict:=dct,data:=.seq items n,slots:=sl }/\
   R (.ok (.ret (.ref (s.heap.push { cls:=.type "tuple_iterator",data:=.fields #[.ref l,.int 0 0] }).objs.size)))
    { s with heap:=(s.heap.push { cls:=.type "tuple_iterator",data:=.fields #[.ref l,.int 0 0] }).push { cls:=.type "enumerate",data:=.fields #[.none,.bool false,.ref s.heap.objs.size,rawInt 0,.none,.none] } }):=
 .of_wp λprog w A R s h=>by
  obtain ⟨hp,g,d,tk,os⟩:=s;obtain ⟨hl,h⟩:=h;have hsub:=sub_enumerate;have hL:Heap.IsTuple (Shared.heap ⟨hp,g,d,tk,os⟩) l items:=⟨_,hl,rfl,n,rfl⟩;wp_walk using wpAny_loadPart' hl
  refine wpAny_stack_any λst=>bn ?_;split
  ·rename_i c _ _ _ _ _;cases (c==Value.type "enumerate")
   ·wp_walk using wpAny_loadPart' hl,wpAny_pyIter_tuple hL
    exact ⟨_,rfl,h⟩
   ·wp_walk using wpAny_loadPart' hl,wpAny_pyIter_tuple hL
    exact ⟨_,rfl,h⟩
  ·wp_walk using wpAny_loadPart' hl,wpAny_pyIter_tuple hL
   exact ⟨_,rfl,h⟩
abbrev ur(h:Heap)(k:SK):Heap:=h.push k.obj
abbrev ut(h:Heap)(k l:SK):Heap:=(ur h k).push l.obj
abbrev uv (h:Heap) (k l:SK):Heap:=(ut h k l).push { cls:=.type "tuple",data:=.seq #[.ref h.objs.size,.ref (ur h k).objs.size] }
abbrev uw (h:Heap) (k l:SK):Heap:=(uv h k l).push { cls:=.type "tuple",data:=.seq #[.none,.none] }
abbrev iB (h:Heap) (k l:SK):Heap:=(uw h k l).push { cls:=.type "zip",data:=.fields #[.none,.bool false,.bool false,.ref (ut h k l).objs.size,.ref (uv h k l).objs.size] }
theorem abj(k l:SK)(xs ys:Array Value):
  Meets (Builtin.«zip.__new__» ⟨[.type "zip",k.val,l.val],[]⟩) (λ_ R s=>k.On xs s.heap/\l.On ys s.heap/\R (.ok (.ret (.ref (uw s.heap k l).objs.size))) { s with heap:=iB s.heap k l }):=
 .of_wp λprog w A R s h=>by
  obtain ⟨hp,g,d,tk,os⟩:=s;obtain ⟨h1,h2,h⟩:=h;have hsub:=sub_zip;have h1':k.On xs (Shared.heap ⟨hp,g,d,tk,os⟩):=h1;have h2':l.On ys (Shared.heap ⟨hp.push k.obj,g,d,tk,os⟩):=SK.On.keeps h2 λb o _ e=>al _ e;wp_walk using SK.iter h1',SK.iter h2'
  exact ⟨_,rfl,h⟩
section
variable {prog:Program} {w:World} {A:Around} {E:Value->Shared->Prop} {s:Shared}
theorem abk{k l:SK}{xs ys:Array Value}{Q:Value->Shared->Prop}(h1:k.On xs s.heap)(h2:l.On ys s.heap)
  (h:∀h',IsZip h' (s.heap.objs.size+4) (s.heap.objs.size+2) (s.heap.objs.size+3) .none->IsPair h' (s.heap.objs.size+2) (.ref s.heap.objs.size) (.ref (s.heap.objs.size+1))->
   IsPair h' (s.heap.objs.size+3) .none .none->k.pos s.heap.objs.size 0 h'->l.pos (s.heap.objs.size+1) 0 h'->h'.objs.size=s.heap.objs.size+5->
   (∀c o,s.heap.get? c=some o->h'.get? c=some o)->Q (.ref (s.heap.objs.size+4)) { s with heap:=h' }):
  wpAny (model prog w) A (call (.type "zip") [k.val,l.val]) Q E s:=by
 refine callType_new F.called_zip (by decide) (F.typeCall_zip_2 _ _) (F.newCall_zip_2 _ _) (λobj=>F.args_object_init_3 obj _ _) F.entry_zip_new
  (abj k l xs ys) ⟨h1,h2,?_⟩
 have z1:(ur s.heap k).objs.size=s.heap.objs.size+1:=dL ..;have z2:(ut s.heap k l).objs.size=s.heap.objs.size+2:=by rw[dL,z1]
 have z3:(uv s.heap k l).objs.size=s.heap.objs.size+3:=by rw[dL,z2]
 have z4:(uw s.heap k l).objs.size=s.heap.objs.size+4:=by rw[dL,z3]
 have z5:(iB s.heap k l).objs.size=s.heap.objs.size+5:=by rw[dL,z4]
 have g5:(iB s.heap k l).get? (uw s.heap k l).objs.size=some _:=bb _ rfl;have g4:(iB s.heap k l).get? (uv s.heap k l).objs.size=some _:=al _ (bb _ rfl);have g3:(iB s.heap k l).get? (ut s.heap k l).objs.size=some _:=al _ (al _ (bb _ rfl));have g2:(iB s.heap k l).get? (ur s.heap k).objs.size=some _:=al _ (al _ (al _ (bb _ rfl)));have g1:(iB s.heap k l).get? s.heap.objs.size=some _:=al _ (al _ (al _ (al _ (bb _ rfl))));show _/\_;rw[z2,z3,z4]at g5;rw[z1,z2]at g3;rw[z3]at g4;rw[z1]at g2;rw[z4];exact ⟨⟨_,g5,rfl⟩,h _ g5 g3 g4 ⟨_,g1,rfl,rfl⟩ ⟨_,g2,rfl,rfl⟩ z5 λc o x=>
  al _ (al _ (al _ (al _ (al _ x))))⟩
theorem abl{l:Addr}{items:Array Value}{Q:Value->Shared->Prop}(hL:s.heap.IsTuple l items)
  (h:∀h',IsEnum h' (s.heap.objs.size+1) s.heap.objs.size 0 .none->h'.IsTupleIter s.heap.objs.size l 0->h'.objs.size=s.heap.objs.size+2->
   (∀b o,s.heap.get? b=some o->h'.get? b=some o)->Q (.ref (s.heap.objs.size+1)) { s with heap:=h' }):
  wpAny (model prog w) A (call (.type "enumerate") [.ref l]) Q E s:=by
 obtain ⟨⟨c,dct,dt,sl⟩,hl,hc,n,hd⟩:=hL;replace hc:c=.type "tuple":=hc;replace hd:dt=.seq items n:=hd;subst hc hd;refine callType_new F.called_enumerate (by decide) (F.typeCall_enumerate_1 _) (F.newCall_enumerate_1 _) (λobj=>F.args_object_init_2 obj _) F.entry_enumerate_new
  (abi l items n dct sl) ⟨hl,?_⟩
 have hz:(s.heap.push { cls:=.type "tuple_iterator",data:=.fields #[.ref l,.int 0 0] }).objs.size=s.heap.objs.size+1:=dL ..;show _/\_;rw[hz];have he:IsEnum ((s.heap.push { cls:=.type "tuple_iterator",data:=.fields #[.ref l,.int 0 0] }).push
   { cls:=.type "enumerate",data:=.fields #[.none,.bool false,.ref s.heap.objs.size,rawInt 0,.none,.none] }) (s.heap.objs.size+1) s.heap.objs.size 0 .none:=by
  have:=bb (s.heap.push { cls:=.type "tuple_iterator",data:=.fields #[.ref l,.int 0 0] })
   (o:={ cls:=.type "enumerate",data:=.fields #[.none,.bool false,.ref s.heap.objs.size,rawInt 0,.none,.none] }) rfl
  rw[hz]at this;exact this
 refine ⟨⟨_,he,rfl⟩,h _ he ⟨_,al _ (bb _ rfl),rfl,rfl⟩ (by rw[dL,hz]) λb o x=>al _ (al _ x)⟩
theorem abm{k:SK}{xs:Array Value}{Q:Value->Shared->Prop}(h1:k.On xs s.heap)
  (h:∀h',IsEnum h' (s.heap.objs.size+1) s.heap.objs.size 0 .none->k.pos s.heap.objs.size 0 h'->h'.objs.size=s.heap.objs.size+2->
   (∀b o,s.heap.get? b=some o->h'.get? b=some o)->Q (.ref (s.heap.objs.size+1)) { s with heap:=h' }):
  wpAny (model prog w) A (call (.type "enumerate") [k.val]) Q E s:=by
 cases k with
 |lst a=>exact call_enumerate_list h1 h
 |tup a=>exact abl h1 h
 |str x t=>exact call_enumerate_str h
end
structure OT where
 ms:List (String×String×String×Nat):=[]
 ks:List (String×Nat):=[]
 fl:List (String×String):=[]
structure CT where
 N:List Str
 kd:List (Str×NameKind)
 fn:Bool
 fs:List (String×Nat)
 bt:List String
 cn:List (String×D)
 xs:List (String×Bool):=[]
 ot:OT:={}
def iC:Option NameKind->Bool
 |some .local=>true
 |some .cell=>true
 |some .free=>true
 |_=>false
def CT.sto(c:CT)(x:Str):Bool:=c.kd.lookup x==some .local||(c.fn&&c.kd.lookup x==some .cell)
def okN (x:Str):Bool:=!(x==("__debug__":Str))&&!(x==("__classdict__":Str))&&!(x==("__name__":Str))
def CT.glo(c:CT)(x:Str):Bool:=c.kd.lookup x==some .globalImplicit&&okN x
noncomputable def sEq:D->D->Bool
 |.non,.non=>true
 |.bl a,.bl b=>a==b
 |.int a,.int b=>a==b
 |.str a,.str b=>a==b
 |_,_=>false
theorem abn{a b:D}(h:sEq a b=true):a=b:=by cases a <;> cases b <;> simp_all [sEq]
noncomputable def ux(d:D)(k:Const):Bool:=
 match d,k with
 |.non,.none=>true
 |.bl a,.bool b=>a==b
 |.int a,.int b=>a==b
 |.str a,.str b=>a==b.cps.toList&&decide (a.length<=sz)
 |_,_=>false
noncomputable def Bf.name:Bf->String
 |.len=>"len"
 |.all=>"all"
 |.int=>"int"
 |.tuple=>"tuple"
 |.sum=>"sum"
 |.min=>"min"
 |.max=>"max"
 |.abs=>"abs"
 |.min2=>"min"
 |.str=>"str"
noncomputable def yq:Bf->Bool
 |.sum=>false
 |.min=>true
 |.max=>false
 |.abs=>false
 |.min2=>false
 |.str=>true
 |_=>true
def yr:Lf->Bool
 |.sorted=>false
 |_=>true
def Lf.name:Lf->String
 |.list=>"list"
 |.sorted=>"sorted"
noncomputable def Mf.name:Mf->String
 |.join=>"join"
 |.append=>"append"
 |.extend=>"extend"
 |.insert=>"insert"
 |.pop=>"pop"
 |.count=>"count"
 |.index=>"index"
def fG:Expr->Bool
 |.Call (.Name _ _) [] [] _=>true
 |_=>false
def cU:Expr->Bool
 |.ListComp ..=>true
 |.SetComp ..=>true
 |.DictComp ..=>true
 |_=>false
noncomputable def iD:Expr->Bool
 |.UnaryOp .Not _ _=>false
 |.BoolOp ..=>false
 |.IfExp ..=>false
 |.Compare ..=>false
 |_=>true
noncomputable def gM(N:List Str)(scope:Scope):List Str->List (Option Nat)->Bool
 |[],[]=>true
 |_::N',none::cap=>gM N scope N' cap
 |x::N',some j::cap=>(N[j]?==some x)&&(scope.names.lookup x==some NameKind.free)&&gM N scope N' cap
 |_,_=>false
noncomputable def jE(c:CT)(scope:Scope):Bool:=
 scope.names.all (λy=>y.2 != NameKind.cell)&&scope.names.all (λy=>y.2 != NameKind.local||scope.names.lookup y.1==some NameKind.local) &&
 scope.names.all (λy=>y.2 != NameKind.free||(c.kd.lookup y.1==some NameKind.cell||c.kd.lookup y.1==some NameKind.free))&&decide (scope.kind=.function)&&decide (c.kd=c.kd)
def CT.comp(c:CT)(N:List Str)(scope:Scope):CT:={ N:=N,kd:=scope.names,fn:=false,fs:=c.fs,bt:=c.bt,cn:=c.cn,ot:=c.ot }
def fH:List Str->Bool
 |[]=>true
 |x::r=>!r.contains x&&fH r
noncomputable def asName(e:Expr):Option { t:Str×Pos // e=.Name t.1 t.2 }:=match e with
 |.Name a0 a1=>some ⟨(a0,a1),rfl⟩
 |_=>none
noncomputable def uy(e:Expr):Option { t:Const×Nat×Pos // e=.Constant t.1 t.2.1 t.2.2 }:=match e with
 |.Constant a0 a1 a2=>some ⟨(a0,a1,a2),rfl⟩
 |_=>none
noncomputable def FQ(e:Expr):Option { t:Expr×Operator×Expr×Pos // e=.BinOp t.1 t.2.1 t.2.2.1 t.2.2.2 }:=match e with
 |.BinOp a0 a1 a2 a3=>some ⟨(a0,a1,a2,a3),rfl⟩
 |_=>none
noncomputable def jF(e:Expr):Option { t:UnaryOp×Expr×Pos // e=.UnaryOp t.1 t.2.1 t.2.2 }:=match e with
 |.UnaryOp a0 a1 a2=>some ⟨(a0,a1,a2),rfl⟩
 |_=>none
noncomputable def lD(e:Expr):Option { t:Expr×List CmpOp×List Expr×Pos // e=.Compare t.1 t.2.1 t.2.2.1 t.2.2.2 }:=match e with
 |.Compare a0 a1 a2 a3=>some ⟨(a0,a1,a2,a3),rfl⟩
 |_=>none
noncomputable def uz(e:Expr):Option { t:BoolOp×List Expr×Pos // e=.BoolOp t.1 t.2.1 t.2.2 }:=match e with
 |.BoolOp a0 a1 a2=>some ⟨(a0,a1,a2),rfl⟩
 |_=>none
noncomputable def FT(e:Expr):Option { t:Expr×Expr×Expr×Pos // e=.IfExp t.1 t.2.1 t.2.2.1 t.2.2.2 }:=match e with
 |.IfExp a0 a1 a2 a3=>some ⟨(a0,a1,a2,a3),rfl⟩
 |_=>none
noncomputable def gO(e:Expr):Option { t:List Expr×Nat×Pos // e=.Tuple t.1 t.2.1 t.2.2 }:=match e with
 |.Tuple a0 a1 a2=>some ⟨(a0,a1,a2),rfl⟩
 |_=>none
noncomputable def asList(e:Expr):Option { t:List Expr×Pos // e=.List t.1 t.2 }:=match e with
 |.List a0 a1=>some ⟨(a0,a1),rfl⟩
 |_=>none
noncomputable def jG(e:Expr):Option { t:Expr×Expr×Pos // e=.Subscript t.1 t.2.1 t.2.2 }:=match e with
 |.Subscript a0 a1 a2=>some ⟨(a0,a1,a2),rfl⟩
 |_=>none
noncomputable def FW(e:Expr):Option { t:Option Expr×Option Expr×Option Expr×Pos // e=.Slice t.1 t.2.1 t.2.2.1 t.2.2.2 }:=match e with
 |.Slice a0 a1 a2 a3=>some ⟨(a0,a1,a2,a3),rfl⟩
 |_=>none
noncomputable def iG(e:Expr):Option { t:Expr×List Expr×List Keyword×Pos // e=.Call t.1 t.2.1 t.2.2.1 t.2.2.2 }:=match e with
 |.Call a0 a1 a2 a3=>some ⟨(a0,a1,a2,a3),rfl⟩
 |_=>none
noncomputable def gn(e:Expr):Option { t:Expr×Str×Pos // e=.Attribute t.1 t.2.1 t.2.2 }:=match e with
 |.Attribute a0 a1 a2=>some ⟨(a0,a1,a2),rfl⟩
 |_=>none
noncomputable def Ge(e:Expr):Option { t:Expr×List Comprehension×Scope×Pos // e=.ListComp t.1 t.2.1 t.2.2.1 t.2.2.2 }:=match e with
 |.ListComp a0 a1 a2 a3=>some ⟨(a0,a1,a2,a3),rfl⟩
 |_=>none
noncomputable def uA(e:Stmt):Option { t:Expr×Pos // e=.Expr t.1 t.2 }:=match e with
 |.Expr a0 a1=>some ⟨(a0,a1),rfl⟩
 |_=>none
noncomputable def iH(e:Stmt):Option { t:List Expr×Expr×Pos // e=.Assign t.1 t.2.1 t.2.2 }:=match e with
 |.Assign a0 a1 a2=>some ⟨(a0,a1,a2),rfl⟩
 |_=>none
noncomputable def Gf(e:Stmt):Option { t:Expr×Operator×Expr×Pos // e=.AugAssign t.1 t.2.1 t.2.2.1 t.2.2.2 }:=match e with
 |.AugAssign a0 a1 a2 a3=>some ⟨(a0,a1,a2,a3),rfl⟩
 |_=>none
noncomputable def Gg(e:Stmt):Option { t:Option Expr×Option Expr×Pos // e=.Raise t.1 t.2.1 t.2.2 }:=match e with
 |.Raise a0 a1 a2=>some ⟨(a0,a1,a2),rfl⟩
 |_=>none
noncomputable def Gi(e:Stmt):Option { t:List Stmt×List ExceptHandler×List Stmt×List Stmt×Pos // e=.Try t.1 t.2.1 t.2.2.1 t.2.2.2.1 t.2.2.2.2 }:=match e with
 |.Try a0 a1 a2 a3 a4=>some ⟨(a0,a1,a2,a3,a4),rfl⟩
 |_=>none
noncomputable def Gj(e:ExceptHandler):Option { t:Option Expr×Option Str×List Stmt×Pos // e=.ExceptHandler t.1 t.2.1 t.2.2.1 t.2.2.2 }:=match e with
 |.ExceptHandler a0 a1 a2 a3=>some ⟨(a0,a1,a2,a3),rfl⟩
noncomputable def yt(e:Expr):Option { t:Expr×Int×Option Expr×Pos // e=.FormattedValue t.1 t.2.1 t.2.2.1 t.2.2.2 }:=match e with
 |.FormattedValue a0 a1 a2 a3=>some ⟨(a0,a1,a2,a3),rfl⟩
 |_=>none
noncomputable def abo(e:Expr):Option { t:List Expr×Pos // e=.JoinedStr t.1 t.2 }:=match e with
 |.JoinedStr a0 a1=>some ⟨(a0,a1),rfl⟩
 |_=>none
def abp(k:Const):Option { x:Str // k=.str x }:=match k with
 |.str x=>some ⟨x,rfl⟩
 |_=>none
def aji(b:Bool)(k:Const):Bool:=match k with
 |.bool c=>c==b
 |_=>false
noncomputable def uB(e:Stmt):Option { t:Option Expr×Pos // e=.Return t.1 t.2 }:=match e with
 |.Return a0 a1=>some ⟨(a0,a1),rfl⟩
 |_=>none
noncomputable def Gk(e:Stmt):Option { t:Expr×List Stmt×List Stmt×Pos // e=.If t.1 t.2.1 t.2.2.1 t.2.2.2 }:=match e with
 |.If a0 a1 a2 a3=>some ⟨(a0,a1,a2,a3),rfl⟩
 |_=>none
noncomputable def Gm(e:Stmt):Option { t:Expr×Expr×List Stmt×List Stmt×Pos // e=.For t.1 t.2.1 t.2.2.1 t.2.2.2.1 t.2.2.2.2 }:=match e with
 |.For a0 a1 a2 a3 a4=>some ⟨(a0,a1,a2,a3,a4),rfl⟩
 |_=>none
noncomputable def Gn(e:Stmt):Option { t:Expr×List Stmt×List Stmt×Pos // e=.While t.1 t.2.1 t.2.2.1 t.2.2.2 }:=match e with
 |.While a0 a1 a2 a3=>some ⟨(a0,a1,a2,a3),rfl⟩
 |_=>none
def Gp(e:Stmt):Option { t:Pos // e=.Pass t }:=match e with
 |.Pass a0=>some ⟨a0,rfl⟩
 |_=>none
def Gq(e:Stmt):Option { t:Pos // e=.Break t }:=match e with
 |.Break a0=>some ⟨a0,rfl⟩
 |_=>none
def Gs(e:Stmt):Option { t:Pos // e=.Continue t }:=match e with
 |.Continue a0=>some ⟨a0,rfl⟩
 |_=>none
def one{α:Type}:List α->Option α
 |[a]=>some a
 |_=>none
def three{α:Type}:List α->Option (α×α×α)
 |[x,y,z]=>some (x,y,z)
 |_=>none
theorem ajj{α:Type}{l:List α}{v:α×α×α}(h:three l=some v):l=[v.1,v.2.1,v.2.2]:=by
 unfold three at h;split at h
 ·cases h;rfl
 ·cases h
def two{α:Type}:List α->Option (α×α)
 |[a,b]=>some (a,b)
 |_=>none
def hdT{α:Type}:List α->Option (α×List α)
 |a::r=>some (a,r)
 |[]=>none
theorem c7{α:Type}{l:List α}{a:α}(h:one l=some a):l=[a]:=by
 cases l with
 |nil=>cases h
 |cons x r=>cases r with
  |nil=>cases h;rfl
  |cons _ _=>cases h
theorem lE{α:Type}{l:List α}{a:α×α}(h:two l=some a):l=[a.1,a.2]:=by
 cases l with
 |nil=>cases h
 |cons x r=>cases r with
  |nil=>cases h
  |cons y r=>cases r with
   |nil=>cases h;rfl
   |cons _ _=>cases h
theorem Gu{α:Type}{l:List α}{a:α×List α}(h:hdT l=some a):l=a.1::a.2:=by
 cases l with
 |nil=>cases h
 |cons x r=>cases h;rfl
theorem aU{α:Type}{o:Option α}{p:α->Bool}(h:o.any p=true):∃t,o=some t/\p t=true:=by
 cases o with
 |none=>cases h
 |some t=>exact ⟨t,rfl,h⟩
def yu:UnaryOp->Bool
 |.USub=>true
 |_=>false
def lF:UnaryOp->Bool
 |.Not=>true
 |_=>false
theorem abq{o:UnaryOp}(h:yu o=true):o=.USub:=by cases o <;> first |rfl |cases h
theorem Gv{o:UnaryOp}(h:lF o=true):o=.Not:=by cases o <;> first |rfl |cases h
noncomputable def bQ(e:Expr):Option (Str×Pos×List Expr×Pos):=(iG e).bind λt=>(asName t.1.1).bind λn=>match t.1.2.2.1 with |[]=>some (n.1.1,n.1.2,t.1.2.1,t.1.2.2.2) |_::_=>none
noncomputable def au{α:Type}{q:α->Prop}(o:Option { t:α // q t })(P:α->Bool):Bool:=match o with |some t=>P t.1 |none=>false
theorem aJ{α:Type}{q:α->Prop}{o:Option { t:α // q t }}{P:α->Bool}(h:au o P=true):∃t,q t/\P t=true:=by
 cases o with
 |none=>cases h
 |some t=>exact ⟨t.1,t.2,h⟩
theorem Gw{α β:Type}{o:Option α}{f:α->Option β}{b:β}(h:o.bind f=some b):∃t,o=some t/\f t=some b:=by
 cases o with
 |none=>cases h
 |some t=>exact ⟨t,rfl,h⟩
theorem gq{e:Expr}{t:Str×Pos×List Expr×Pos}(h:bQ e=some t):e=.Call (.Name t.1 t.2.1) t.2.2.1 [] t.2.2.2:=by
 obtain ⟨⟨⟨f,as,ks,p⟩,hu⟩,_,h⟩:=Gw h;obtain ⟨⟨⟨x,p'⟩,hn⟩,_,h⟩:=Gw h;dsimp only at h hn hu;cases ks with
 |nil=>cases h;rw[hu,hn]
 |cons _ _=>cases h
def lG(e:Expr):Bool:=(lD e).isSome
def Gx:Ex->Bool
 |.frz _=>false
 |_=>true
def yw:Tx->Bool
 |.yes=>true
 |_=>false
mutual
noncomputable def cL(c:CT):Tg->Expr->Bool
 |.nm i,e=>au (asName e) λt=>(c.N[i]?==some t.1)&&c.sto t.1
 |.tp ts,e=>au (gO e) λt=>cB c ts t.1
noncomputable def cB(c:CT):Tgs->List Expr->Bool
 |.nil,es=>es.isEmpty
 |.cons t r,es=>match es with
  |e::es=>cL c t e&&cB c r es
  |[]=>false
end
def yx(e:Expr):Bool:=au (uy e) λt=>au (abp t.1) λx=>decide (x.length<=1000)
def unF(e:Expr):Expr:=match yt e with |some t=>t.1.1 |none=>e
def abr:Ex->Bool
 |.cst (.str _)=>true
 |_=>false
noncomputable def abt:Exs->List Expr->Bool
 |.cons x xs,p::ps=>(match yt p with |some t=>decide (t.1.2.1=-1)&&t.1.2.2.1.isNone |none=>abr x)&&abt xs ps
 |.nil,ps=>ps.isEmpty
 |_,[]=>false
mutual
noncomputable def aj(c:CT):Ex->Expr->Bool
 |.var i,e=>au (asName e) λt=>(c.N[i]?==some t.1)&&iC (c.kd.lookup t.1)&&okN t.1
 |.cst d,e=>au (uy e) λt=>ux d t.1
 |.glb x d,e=>au (asName e) λt=>t.1==Str.ofString x&&c.glo t.1&&c.cn.any (λp=>p.1==x&&sEq p.2 d)
 |.bin op _ a b,e=>au (FQ e) λt=>t.2.1==op&&aj c a t.1&&aj c b t.2.2.1
 |.neg a,e=>au (jF e) λt=>yu t.1&&aj c a t.2.1
 |.cmp op a b,e=>au (lD e) λt=>(one t.2.1).any λo=>(one t.2.2.1).any λr=>o==op&&aj c a t.1&&aj c b r
 |.chn op op' a b d,e=>au (lD e) λt=>(two t.2.1).any λo=>(two t.2.2.1).any λr=>o.1==op&&o.2==op'&&aj c a t.1&&aj c b r.1&&aj c d r.2
 |.not a,e=>au (jF e) λt=>lF t.1&&aj c a t.2.1
 |.boo isAnd x es,e=>au (uz e) λt=>(hdT t.2.1).any λv=>t.1==(if isAnd then .And else .Or)&&aj c x v.1&&aL c es v.2
 |.ife t a b,e=>au (FT e) λu=>bx c t u.1&&aj c a u.2.1&&aj c b u.2.2.1
 |.tup es,e=>au (gO e) λt=>aL c es t.1
 |.lst _ es,e=>au (asList e) λt=>aL c es t.1
 |.idx a i,e=>au (jG e) λt=>aj c a t.1&&aj c i t.2.1
 |.slc _ a lo hi,e=>au (jG e) λt=>au (FW t.2.1) λs=>s.2.2.1.isNone&&(aj c a t.1&&gw c lo s.1&&gw c hi s.2.1)
 |.rvs _ _ _,_=>false
 |.call f es,e=>(bQ e).any λt=>t.1==Str.ofString f&&c.glo t.1&&(c.fs.any λp=>p.1==f&&p.2==t.2.2.1.length)&&!t.2.2.1.isEmpty&&aL c es t.2.2.1
 |.bcl f es,e=>(bQ e).any λt=>t.1==Str.ofString f.name&&yq f&&c.glo t.1&&c.bt.contains f.name&&!t.2.2.1.isEmpty&&aL c es t.2.2.1
 |.lcl _ f es,e=>(bQ e).any λt=>t.1==Str.ofString f.name&&yr f&&c.glo t.1&&c.bt.contains f.name&&!t.2.2.1.isEmpty&&aL c es t.2.2.1
 |.isi a t,e=>(bQ e).any λu=>(two u.2.2.1).any λv=>au (asName v.2) λy=>u.1==Str.ofString "isinstance"&&c.glo u.1&&c.bt.contains "isinstance"&&aj c a v.1&&y.1==Str.ofString t&&c.glo y.1&&c.bt.contains t&&fY t
 |.isx _ _ _,_=>false
 |.fst _,_=>false
 |.rgl _ _,_=>false
 |.rgt _,_=>false
 |.rpl _ _ _ _,_=>false
 |.fld C f o,e=>au (gn e) λv=>v.2.1==Str.ofString f&&!fG v.1&&c.ot.fl.contains (C,f)&&aj c o v.1
 |.mcl f C m o es,e=>au (iG e) λt=>au (gn t.1) λv=>au (asName v.1) λy=>t.2.2.1.isEmpty&&(v.2.1==Str.ofString m&&(v.2.2.endLine==t.2.2.2.line)&&decide (t.2.1.length < 29)&&c.ot.ms.contains (f,C,m,t.2.1.length+1)&&aj c o (.Name y.1 y.2)&&aL c es t.2.1)
 |.mko C es,e=>(bQ e).any λt=>t.1==Str.ofString C&&c.glo t.1&&c.ot.ks.contains (C,t.2.2.1.length)&&!t.2.2.1.isEmpty&&aL c es t.2.2.1
 |.pp0 o,e=>au (iG e) λt=>au (gn t.1) λv=>t.2.2.1.isEmpty&&(t.2.1.isEmpty&&(v.2.1==Str.ofString "pop"&&!fG v.1&&(v.2.2.endLine==t.2.2.2.line)&&aj c o v.1))
 |.mth m o es,e=>au (iG e) λt=>au (gn t.1) λv=>t.2.2.1.isEmpty&&(v.2.1==Str.ofString m.name&&aj c o v.1&&!fG v.1&&(v.2.2.endLine==t.2.2.2.line)&&decide (t.2.1.length < 29)&&!t.2.1.isEmpty&&aL c es t.2.1)
 |.comp _ elt tg it cond N cap,e=>au (Ge e) λt=>(one t.2.1).any λg=>decide (g.is_async=0)&&bR c it g.target g.iter&&gM c.N t.2.2.1 (N.map Str.ofString) cap&&jE c t.2.2.1&&fH (N.map Str.ofString) &&
    cL (c.comp (N.map Str.ofString) t.2.2.1) tg g.target&&((yw cond&&g.ifs.isEmpty)||(one g.ifs).any λf=>bx (c.comp (N.map Str.ofString) t.2.2.1) cond f)&&aj (c.comp (N.map Str.ofString) t.2.2.1) elt t.1
 |.frz a,e=>aj c a e
noncomputable def bx(c:CT):Tx->Expr->Bool
 |.val x,e=>(iD e||lG e)&&aj c x e&&Gx x
 |.not t,e=>au (jF e) λu=>lF u.1&&bx c t u.2.1
 |.boo isAnd t ts,e=>au (uz e) λu=>(hdT u.2.1).any λv=>u.1==(if isAnd then .And else .Or)&&bx c t v.1&&iI c ts v.2
 |.yes,_=>false
noncomputable def iI(c:CT):Txs->List Expr->Bool
 |.nil,es=>es.isEmpty
 |.cons t r,es=>match es with
  |e::es=>bx c t e&&iI c r es
  |[]=>false
noncomputable def aL(c:CT):Exs->List Expr->Bool
 |.nil,es=>es.isEmpty
 |.cons t r,es=>match es with
  |e::es=>aj c t e&&aL c r es
  |[]=>false
noncomputable def gw(c:CT):Ox->Option Expr->Bool
 |.no,e=>e.isNone
 |.ob x,e=>match e with
  |some e=>aj c x e
  |none=>false
noncomputable def bR(c:CT):It'->Expr->Expr->Bool
 |.seq x,_,e=>aj c x e
 |.rng a,_,e=>(bQ e).any λt=>(one t.2.2.1).any λv=>t.1==Str.ofString "range"&&c.glo t.1&&c.bt.contains "range"&&aj c a v
 |.rng2 _ _,_,_=>false
 |.rev _,_,_=>false
 |.dwn _ _ _,_,_=>false
 |.enm a,tg,e=>au (gO tg) λ_=>(bQ e).any λt=>(one t.2.2.1).any λv=>t.1==Str.ofString "enumerate"&&c.glo t.1&&c.bt.contains "enumerate"&&aj c a v
 |.zip a b,tg,e=>au (gO tg) λ_=>(bQ e).any λt=>(two t.2.2.1).any λv=>t.1==Str.ofString "zip"&&c.glo t.1&&c.bt.contains "zip"&&aj c a v.1&&aj c b v.2
end
def lH(c:CT)(cond:Tx)(ifs:List Expr):Bool:=(yw cond&&ifs.isEmpty)||(one ifs).any λf=>bx c cond f
def Gy:Ex->Bool
 |.comp ..=>true
 |_=>false
def Gz:Expr->Bool
 |.Tuple ..=>true
 |_=>false
def yz(g:Tg)(x:Ex)(e:Expr):Bool:=match g with |.nm _=>!cU e||Gy x |.tp _=>!Gz e&&!cU e
noncomputable def lJ(c:CT):Exs->List Expr->Bool
 |es,[]=>(match es with |.nil=>true |_=>false)
 |es,p::ps=>match yx p with
  |true=>lJ c es ps
  |false=>(match es with |.cons x r=>(au (yt p) λt=>decide (t.2.1=-1)&&t.2.2.1.isNone&&aj c x t.1)&&lJ c r ps |.nil=>false)
noncomputable def uC(c:CT)(es:Exs)(e:Expr):Bool:=(match es with |.nil=>yx e |_=>false)||au (abo e) λt=>decide (2<=t.1.length)&&decide (t.1.length<=50)&&lJ c es t.1
noncomputable def iJ(c:CT):Tb->List Stmt->Bool
 |.call _ _,_=>false
 |.pick _ _ _ _,_=>false
 |.asg _ _ _,_=>false
 |.ite _ _ _,_=>false
 |.mcl f C m o es,sts=>(one sts).any λs0=>au (uA s0) λe0=>aj c (.mcl f C m o es) e0.1
 |.mko _ _,_=>false
def yC(b:Bool):Const->Bool
 |.bool x=>x==b
 |_=>false
noncomputable def uD(c:CT)(h:Hd)(nm:Option Str)(y:Str)(e:Expr):Bool:=(match h with
 |.flag i b=>nm.isNone&&(c.N[i]?==some y)&&au (uy e) λk=>yC b k.1
 |.bind n i=>false)&&c.sto y&&okN y
mutual
noncomputable def aV(c:CT):Sx->Stmt->Bool
 |.exp x,st=>au (uA st) λt=>!cU t.1&&aj c x t.1
 |.asg g x,st=>au (iH st) λt=>(one t.1).any λtg=>cL c g tg&&aj c x t.2.1&&yz g x t.2.1
 |.set o i x,st=>au (iH st) λt=>(one t.1).any λtg=>au (jG tg) λu=>aj c o u.1&&aj c i u.2.1&&aj c x t.2.1&&!cU t.2.1
 |.aug i op x,st=>au (Gf st) λt=>au (asName t.1) λy=>t.2.1==op&&(c.N[i]?==some y.1)&&c.sto y.1&&okN y.1&&aj c x t.2.2.1
 |.augs _ _ _ _,_=>false
 |.ret x,st=>au (uB st) λt=>t.1.any λe=>aj c x e
 |.rtn,st=>au (uB st) λt=>t.1.isNone
 |.ite t a b,st=>au (Gk st) λu=>bx c t u.1&&aC c a u.2.1&&aC c b u.2.2.1
 |.for_ g it b,st=>au (Gm st) λt=>t.2.2.2.1.isEmpty&&(cL c g t.1&&bR c it t.1 t.2.1&&aC c b t.2.2.1)
 |.whl t b,st=>au (Gn st) λu=>u.2.2.1.isEmpty&&(bx c t u.1&&aC c b u.2.1)
 |.pas,st=>(Gp st).isSome
 |.brk,st=>(Gq st).isSome
 |.cnt,st=>(Gs st).isSome
 |.nev,_=>true
 |.rse C es,st=>au (Gg st) λt=>t.2.1.isNone&&t.1.any λe=>(bQ e).any λu=>u.1==Str.ofString C&&c.glo u.1&&c.xs.contains (C,true)&&(one u.2.2.1).any λm=>uC c es m
 |.tryc _ _ _ _ _,_=>false
 |.tryx b C h xs,st=>au (Gi st) λt=>t.2.2.1.isEmpty&&t.2.2.2.1.isEmpty&&iJ c b t.1&&(xs.all λx=>c.xs.contains (x,true))&&!(C=="ValueError")&&(one t.2.1).any λhd=>au (Gj hd) λw=>w.1.any λte=>au (asName te) λn=>(n.1==Str.ofString C&&c.glo n.1&&c.xs.contains (C,false))&&(one w.2.2.1).any λs1=>au (iH s1) λa=>(one a.1).any λtg=>au (asName tg) λy=>uD c h w.2.1 y.1 a.2.1
noncomputable def aC(c:CT):Sxs->List Stmt->Bool
 |.nil,es=>es.isEmpty
 |.cons t r,es=>match es with
  |e::es=>aV c t e&&aC c r es
  |[]=>false
end
theorem yD{c:CT}{i:Nat}{e:Expr}(h:cL c (.nm i) e=true):∃x p,e=.Name x p/\((c.N[i]?==some x)&&c.sto x)=true:=by have h:(au (asName e) λt=>(c.N[i]?==some t.1)&&c.sto t.1)=true:=h;obtain ⟨t,ht,h⟩:=aJ h;exact ⟨_,_,ht,h⟩
theorem yE{c:CT}{ts:Tgs}{e:Expr}(h:cL c (.tp ts) e=true):∃es k p,e=.Tuple es k p/\(cB c ts es)=true:=by have h:(au (gO e) λt=>cB c ts t.1)=true:=h;obtain ⟨t,ht,h⟩:=aJ h;exact ⟨_,_,_,ht,h⟩
theorem GC{c:CT}{i:Nat}{e:Expr}(h:aj c (.var i) e=true):∃x p,e=.Name x p/\((c.N[i]?==some x)&&iC (c.kd.lookup x)&&okN x)=true:=by have h:(au (asName e) λt=>(c.N[i]?==some t.1)&&iC (c.kd.lookup t.1)&&okN t.1)=true:=h;obtain ⟨t,ht,h⟩:=aJ h;exact ⟨_,_,ht,h⟩
theorem GD{c:CT}{d:D}{e:Expr}(h:aj c (.cst d) e=true):∃k n p,e=.Constant k n p/\(ux d k)=true:=by have h:(au (uy e) λt=>ux d t.1)=true:=h;obtain ⟨t,ht,h⟩:=aJ h;exact ⟨_,_,_,ht,h⟩
theorem GF{c:CT}{x:String}{d:D}{e:Expr}(h:aj c (.glb x d) e=true):∃y p,e=.Name y p/\(y==Str.ofString x&&c.glo y&&c.cn.any (λp=>p.1==x&&sEq p.2 d))=true:=by have h:(au (asName e) λt=>t.1==Str.ofString x&&c.glo t.1&&c.cn.any (λp=>p.1==x&&sEq p.2 d))=true:=h;obtain ⟨t,ht,h⟩:=aJ h;exact ⟨_,_,ht,h⟩
theorem GJ{c:CT}{op:Operator}{fz:Bool}{a b:Ex}{e:Expr}(h:aj c (.bin op fz a b) e=true):∃l o r p,e=.BinOp l o r p/\(o==op&&aj c a l&&aj c b r)=true:=by have h:(au (FQ e) λt=>t.2.1==op&&aj c a t.1&&aj c b t.2.2.1)=true:=h;obtain ⟨t,ht,h⟩:=aJ h;exact ⟨_,_,_,_,ht,h⟩
theorem GK{c:CT}{a:Ex}{e:Expr}(h:aj c (.neg a) e=true):∃x p,e=.UnaryOp .USub x p/\(aj c a x)=true:=by have h:(au (jF e) λt=>yu t.1&&aj c a t.2.1)=true:=h;obtain ⟨t,ht,h⟩:=aJ h;rw[ae]at h;exact ⟨_,_,by rw[ht,abq h.1],h.2⟩
theorem GP{c:CT}{a:Ex}{e:Expr}(h:aj c (.not a) e=true):∃x p,e=.UnaryOp .Not x p/\(aj c a x)=true:=by have h:(au (jF e) λt=>lF t.1&&aj c a t.2.1)=true:=h;obtain ⟨t,ht,h⟩:=aJ h;rw[ae]at h;exact ⟨_,_,by rw[ht,Gv h.1],h.2⟩
theorem GQ{c:CT}{op:CmpOp}{a b:Ex}{e:Expr}(h:aj c (.cmp op a b) e=true):∃l o r p,e=.Compare l [o] [r] p/\(o==op&&aj c a l&&aj c b r)=true:=by have h:(au (lD e) λt=>(one t.2.1).any λo=>(one t.2.2.1).any λr=>o==op&&aj c a t.1&&aj c b r)=true:=h;obtain ⟨t,ht,h⟩:=aJ h;obtain ⟨o,ho,h⟩:=aU h;obtain ⟨r,hr,h⟩:=aU h;exact ⟨_,_,_,_,by rw[ht,c7 ho,c7 hr],h⟩
theorem GR{c:CT}{op op':CmpOp}{a b d:Ex}{e:Expr}(h:aj c (.chn op op' a b d) e=true):∃l o o' m r p,e=.Compare l [o,o'] [m,r] p/\(o==op&&o'==op'&&aj c a l&&aj c b m&&aj c d r)=true:=by have h:(au (lD e) λt=>(two t.2.1).any λo=>(two t.2.2.1).any λr=>o.1==op&&o.2==op'&&aj c a t.1&&aj c b r.1&&aj c d r.2)=true:=h;obtain ⟨t,ht,h⟩:=aJ h;obtain ⟨o,ho,h⟩:=aU h;obtain ⟨r,hr,h⟩:=aU h;exact ⟨_,_,_,_,_,_,by rw[ht,lE ho,lE hr],h⟩
theorem GX{c:CT}{isAnd:Bool}{x:Ex}{es:Exs}{e:Expr}(h:aj c (.boo isAnd x es) e=true):∃op v vs p,e=.BoolOp op (v::vs) p/\(op==(if isAnd then .And else .Or)&&aj c x v&&aL c es vs)=true:=by have h:(au (uz e) λt=>(hdT t.2.1).any λv=>t.1==(if isAnd then .And else .Or)&&aj c x v.1&&aL c es v.2)=true:=h;obtain ⟨t,ht,h⟩:=aJ h;obtain ⟨v,hv,h⟩:=aU h;exact ⟨_,_,_,_,by rw[ht,Gu hv],h⟩
theorem GZ{c:CT}{t:Tx}{a b:Ex}{e:Expr}(h:aj c (.ife t a b) e=true):∃t' a' b' p,e=.IfExp t' a' b' p/\(bx c t t'&&aj c a a'&&aj c b b')=true:=by have h:(au (FT e) λu=>bx c t u.1&&aj c a u.2.1&&aj c b u.2.2.1)=true:=h;obtain ⟨u,ht,h⟩:=aJ h;exact ⟨_,_,_,_,ht,h⟩
theorem Ha{c:CT}{es:Exs}{e:Expr}(h:aj c (.tup es) e=true):∃vs k p,e=.Tuple vs k p/\(aL c es vs)=true:=by have h:(au (gO e) λt=>aL c es t.1)=true:=h;obtain ⟨t,ht,h⟩:=aJ h;exact ⟨_,_,_,ht,h⟩
theorem Hb{c:CT}{fz:Bool}{es:Exs}{e:Expr}(h:aj c (.lst fz es) e=true):∃vs p,e=.List vs p/\(aL c es vs)=true:=by have h:(au (asList e) λt=>aL c es t.1)=true:=h;obtain ⟨t,ht,h⟩:=aJ h;exact ⟨_,_,ht,h⟩
theorem Hc{c:CT}{a i:Ex}{e:Expr}(h:aj c (.idx a i) e=true):∃v s p,e=.Subscript v s p/\(aj c a v&&aj c i s)=true:=by have h:(au (jG e) λt=>aj c a t.1&&aj c i t.2.1)=true:=h;obtain ⟨t,ht,h⟩:=aJ h;exact ⟨_,_,_,ht,h⟩
theorem Hf{c:CT}{fz:Bool}{a:Ex}{lo hi:Ox}{e:Expr}(h:aj c (.slc fz a lo hi) e=true):∃v l u p' p,e=.Subscript v (.Slice l u none p') p/\(aj c a v&&gw c lo l&&gw c hi u)=true:=by have h:(au (jG e) λt=>au (FW t.2.1) λs=>s.2.2.1.isNone&&(aj c a t.1&&gw c lo s.1&&gw c hi s.2.1))=true:=h;obtain ⟨t,ht,h⟩:=aJ h;obtain ⟨s,hs,h⟩:=aJ h;rw[ae,eD]at h;exact ⟨_,_,_,_,_,by rw[ht,hs,h.1],h.2⟩
theorem Hg{c:CT}{f:String}{es:Exs}{e:Expr}(h:aj c (.call f es) e=true):∃x p args pos,e=.Call (.Name x p) args [] pos/\(x==Str.ofString f&&c.glo x&&(c.fs.any λp=>p.1==f&&p.2==args.length)&&!args.isEmpty&&aL c es args)=true:=by have h:((bQ e).any λt=>t.1==Str.ofString f&&c.glo t.1&&(c.fs.any λp=>p.1==f&&p.2==t.2.2.1.length)&&!t.2.2.1.isEmpty&&aL c es t.2.2.1)=true:=h;obtain ⟨t,ht,h⟩:=aU h;exact ⟨_,_,_,_,gq ht,h⟩
theorem Hh{c:CT}{f:Bf}{es:Exs}{e:Expr}(h:aj c (.bcl f es) e=true):∃x p args pos,e=.Call (.Name x p) args [] pos/\(x==Str.ofString f.name&&yq f&&c.glo x&&c.bt.contains f.name&&!args.isEmpty&&aL c es args)=true:=by have h:((bQ e).any λt=>t.1==Str.ofString f.name&&yq f&&c.glo t.1&&c.bt.contains f.name&&!t.2.2.1.isEmpty&&aL c es t.2.2.1)=true:=h;obtain ⟨t,ht,h⟩:=aU h;exact ⟨_,_,_,_,gq ht,h⟩
theorem Hi{c:CT}{fz:Bool}{f:Lf}{es:Exs}{e:Expr}(h:aj c (.lcl fz f es) e=true):∃x p args pos,e=.Call (.Name x p) args [] pos/\(x==Str.ofString f.name&&yr f&&c.glo x&&c.bt.contains f.name&&!args.isEmpty&&aL c es args)=true:=by have h:((bQ e).any λt=>t.1==Str.ofString f.name&&yr f&&c.glo t.1&&c.bt.contains f.name&&!t.2.2.1.isEmpty&&aL c es t.2.2.1)=true:=h;obtain ⟨t,ht,h⟩:=aU h;exact ⟨_,_,_,_,gq ht,h⟩
theorem Hj {c:CT} {a:Ex} {t:String} {e:Expr} (h:aj c (.isi a t) e=true):∃x p v y p' pos,e=.Call (.Name x p) [v,.Name y p'] [] pos/\(x==Str.ofString "isinstance"&&c.glo x&&c.bt.contains "isinstance"&&aj c a v&&y==Str.ofString t&&c.glo y&&c.bt.contains t&&fY t)=true:=by have h:((bQ e).any λu=>(two u.2.2.1).any λv=>au (asName v.2) λy=>u.1==Str.ofString "isinstance"&&c.glo u.1&&c.bt.contains "isinstance"&&aj c a v.1&&y.1==Str.ofString t&&c.glo y.1&&c.bt.contains t&&fY t)=true:=h;obtain ⟨u,hu,h⟩:=aU h;obtain ⟨v,hv,h⟩:=aU h;obtain ⟨y,hy,h⟩:=aJ h;exact ⟨_,_,_,_,_,_,by rw[gq hu,lE hv,hy],h⟩
theorem Hk{c:CT}{C f:String}{o:Ex}{e:Expr}(h:aj c (.fld C f o) e=true):∃v n p,e=.Attribute v n p/\(n==Str.ofString f&&!fG v&&c.ot.fl.contains (C,f)&&aj c o v)=true:=by have h:(au (gn e) λv=>v.2.1==Str.ofString f&&!fG v.1&&c.ot.fl.contains (C,f)&&aj c o v.1)=true:=h;obtain ⟨v,hv,h⟩:=aJ h;exact ⟨_,_,_,hv,h⟩
theorem yF{c:CT}{f C m:String}{o:Ex}{es:Exs}{e:Expr}(h:aj c (.mcl f C m o es) e=true):∃y p n apos args cpos,e=.Call (.Attribute (.Name y p) n apos) args [] cpos/\(n==Str.ofString m&&(apos.endLine==cpos.line)&&decide (args.length < 29)&&c.ot.ms.contains (f,C,m,args.length+1)&&aj c o (.Name y p)&&aL c es args)=true:=by have h:(au (iG e) λt=>au (gn t.1) λv=>au (asName v.1) λy=>t.2.2.1.isEmpty&&(v.2.1==Str.ofString m&&(v.2.2.endLine==t.2.2.2.line)&&decide (t.2.1.length < 29)&&c.ot.ms.contains (f,C,m,t.2.1.length+1)&&aj c o (.Name y.1 y.2)&&aL c es t.2.1))=true:=h;obtain ⟨t,ht,h⟩:=aJ h;obtain ⟨v,hv,h⟩:=aJ h;obtain ⟨y,hy,h⟩:=aJ h;rw[ae,ez]at h;exact ⟨_,_,_,_,_,_,by rw[ht,hv,hy,h.1],h.2⟩
theorem Hl{c:CT}{C:String}{es:Exs}{e:Expr}(h:aj c (.mko C es) e=true):∃x p args pos,e=.Call (.Name x p) args [] pos/\(x==Str.ofString C&&c.glo x&&c.ot.ks.contains (C,args.length)&&!args.isEmpty&&aL c es args)=true:=by have h:((bQ e).any λt=>t.1==Str.ofString C&&c.glo t.1&&c.ot.ks.contains (C,t.2.2.1.length)&&!t.2.2.1.isEmpty&&aL c es t.2.2.1)=true:=h;obtain ⟨t,ht,h⟩:=aU h;exact ⟨_,_,_,_,gq ht,h⟩
theorem Hm {c:CT} {o:Ex} {e:Expr} (h:aj c (.pp0 o) e=true):∃v n apos cpos,e=.Call (.Attribute v n apos) [] [] cpos/\(n==Str.ofString "pop"&&!fG v&&(apos.endLine==cpos.line)&&aj c o v)=true:=by have h:(au (iG e) λt=>au (gn t.1) λv=>t.2.2.1.isEmpty&&(t.2.1.isEmpty&&(v.2.1==Str.ofString "pop"&&!fG v.1&&(v.2.2.endLine==t.2.2.2.line)&&aj c o v.1)))=true:=h;obtain ⟨t,ht,h⟩:=aJ h;obtain ⟨v,hv,h⟩:=aJ h;rw[ae,ez,ae,ez]at h;exact ⟨_,_,_,_,by rw[ht,hv,h.1,h.2.1],h.2.2⟩
theorem Hn{c:CT}{m:Mf}{o:Ex}{es:Exs}{e:Expr}(h:aj c (.mth m o es) e=true):∃v x apos args cpos,e=.Call (.Attribute v x apos) args [] cpos/\(x==Str.ofString m.name&&aj c o v&&!fG v&&(apos.endLine==cpos.line)&&decide (args.length < 29)&&!args.isEmpty&&aL c es args)=true:=by have h:(au (iG e) λt=>au (gn t.1) λv=>t.2.2.1.isEmpty&&(v.2.1==Str.ofString m.name&&aj c o v.1&&!fG v.1&&(v.2.2.endLine==t.2.2.2.line)&&decide (t.2.1.length < 29)&&!t.2.1.isEmpty&&aL c es t.2.1))=true:=h;obtain ⟨t,ht,h⟩:=aJ h;obtain ⟨v,hv,h⟩:=aJ h;rw[ae,ez]at h;exact ⟨_,_,_,_,_,by rw[ht,hv,h.1],h.2⟩
theorem Ho{c:CT}{fz:Bool}{elt:Ex}{tg:Tg}{it:It'}{cond:Tx}{N:List String}{cap:List (Option Nat)}{e:Expr}(h:aj c (.comp fz elt tg it cond N cap) e=true):∃elt' tg' iter ifs as scope pos,e=.ListComp elt' [⟨tg',iter,ifs,as⟩] scope pos/\(decide (as=0)&&bR c it tg' iter&&gM c.N scope (N.map Str.ofString) cap&&jE c scope&&fH (N.map Str.ofString)&&cL (c.comp (N.map Str.ofString) scope) tg tg'&&lH (c.comp (N.map Str.ofString) scope) cond ifs&&aj (c.comp (N.map Str.ofString) scope) elt elt')=true:=by have h:(au (Ge e) λt=>(one t.2.1).any λg=>decide (g.is_async=0)&&bR c it g.target g.iter&&gM c.N t.2.2.1 (N.map Str.ofString) cap&&jE c t.2.2.1&&fH (N.map Str.ofString)&&cL (c.comp (N.map Str.ofString) t.2.2.1) tg g.target&&((yw cond&&g.ifs.isEmpty)||(one g.ifs).any λf=>bx (c.comp (N.map Str.ofString) t.2.2.1) cond f)&&aj (c.comp (N.map Str.ofString) t.2.2.1) elt t.1)=true:=h;obtain ⟨t,ht,h⟩:=aJ h;obtain ⟨⟨tg',iter,ifs,as⟩,hg,h⟩:=aU h;exact ⟨t.1,tg',iter,ifs,as,t.2.2.1,t.2.2.2,(ht).trans (by rw[c7 hg]),h⟩
theorem abu{c:CT}{t:Tx}{e:Expr}(h:bx c (.not t) e=true):∃x p,e=.UnaryOp .Not x p/\(bx c t x)=true:=by have h:(au (jF e) λu=>lF u.1&&bx c t u.2.1)=true:=h;obtain ⟨u,ht,h⟩:=aJ h;rw[ae]at h;exact ⟨_,_,by rw[ht,Gv h.1],h.2⟩
theorem abv{c:CT}{isAnd:Bool}{x:Tx}{es:Txs}{e:Expr}(h:bx c (.boo isAnd x es) e=true):∃op v vs p,e=.BoolOp op (v::vs) p/\(op==(if isAnd then .And else .Or)&&bx c x v&&iI c es vs)=true:=by have h:(au (uz e) λu=>(hdT u.2.1).any λv=>u.1==(if isAnd then .And else .Or)&&bx c x v.1&&iI c es v.2)=true:=h;obtain ⟨t,ht,h⟩:=aJ h;obtain ⟨v,hv,h⟩:=aU h;exact ⟨_,_,_,_,by rw[ht,Gu hv],h⟩
theorem Hq {c:CT} {a:Ex} {tg e:Expr} (h:bR c (.rng a) tg e=true):∃x p v pos,e=.Call (.Name x p) [v] [] pos/\(x==Str.ofString "range"&&c.glo x&&c.bt.contains "range"&&aj c a v)=true:=by have h:((bQ e).any λt=>(one t.2.2.1).any λv=>t.1==Str.ofString "range"&&c.glo t.1&&c.bt.contains "range"&&aj c a v)=true:=h;obtain ⟨t,ht,h⟩:=aU h;obtain ⟨v,hv,h⟩:=aU h;exact ⟨_,_,_,_,by rw[gq ht,c7 hv],h⟩
theorem Hr {c:CT} {a:Ex} {tg e:Expr} (h:bR c (.enm a) tg e=true):∃ts k p0 x p v pos,tg=.Tuple ts k p0/\e=.Call (.Name x p) [v] [] pos/\(x==Str.ofString "enumerate"&&c.glo x&&c.bt.contains "enumerate"&&aj c a v)=true:=by have h:(au (gO tg) λ_=>(bQ e).any λt=>(one t.2.2.1).any λv=>t.1==Str.ofString "enumerate"&&c.glo t.1&&c.bt.contains "enumerate"&&aj c a v)=true:=h;obtain ⟨g,hg,h⟩:=aJ h;obtain ⟨t,ht,h⟩:=aU h;obtain ⟨v,hv,h⟩:=aU h;exact ⟨_,_,_,_,_,_,_,hg,by rw[gq ht,c7 hv],h⟩
theorem Hs {c:CT} {a b:Ex} {tg e:Expr} (h:bR c (.zip a b) tg e=true):∃ts k p0 x p v v' pos,tg=.Tuple ts k p0/\e=.Call (.Name x p) [v,v'] [] pos/\(x==Str.ofString "zip"&&c.glo x&&c.bt.contains "zip"&&aj c a v&&aj c b v')=true:=by have h:(au (gO tg) λ_=>(bQ e).any λt=>(two t.2.2.1).any λv=>t.1==Str.ofString "zip"&&c.glo t.1&&c.bt.contains "zip"&&aj c a v.1&&aj c b v.2)=true:=h;obtain ⟨g,hg,h⟩:=aJ h;obtain ⟨t,ht,h⟩:=aU h;obtain ⟨v,hv,h⟩:=aU h;exact ⟨_,_,_,_,_,_,_,_,hg,by rw[gq ht,lE hv],h⟩
theorem abw{c:CT}{x:Ex}{st:Stmt}(h:aV c (.exp x) st=true):∃e pos,st=.Expr e pos/\(!cU e&&aj c x e)=true:=by have h:(au (uA st) λt=>!cU t.1&&aj c x t.1)=true:=h;obtain ⟨t,ht,h⟩:=aJ h;exact ⟨_,_,ht,h⟩
theorem Ht{c:CT}{g:Tg}{x:Ex}{st:Stmt}(h:aV c (.asg g x) st=true):∃tg e pos,st=.Assign [tg] e pos/\(cL c g tg&&aj c x e&&yz g x e)=true:=by have h:(au (iH st) λt=>(one t.1).any λtg=>cL c g tg&&aj c x t.2.1&&yz g x t.2.1)=true:=h;obtain ⟨t,ht,h⟩:=aJ h;obtain ⟨g,hg,h⟩:=aU h;exact ⟨_,_,_,by rw[ht,c7 hg],h⟩
theorem abx{c:CT}{o i x:Ex}{st:Stmt}(h:aV c (.set o i x) st=true):∃o' i' tpos e pos,st=.Assign [.Subscript o' i' tpos] e pos/\(aj c o o'&&aj c i i'&&aj c x e&&!cU e)=true:=by have h:(au (iH st) λt=>(one t.1).any λtg=>au (jG tg) λu=>aj c o u.1&&aj c i u.2.1&&aj c x t.2.1&&!cU t.2.1)=true:=h;obtain ⟨t,ht,h⟩:=aJ h;obtain ⟨g,hg,h⟩:=aU h;obtain ⟨u,hu,h⟩:=aJ h;exact ⟨_,_,_,_,_,by rw[ht,c7 hg,hu],h⟩
theorem aby{c:CT}{i:Nat}{op:Operator}{x:Ex}{st:Stmt}(h:aV c (.aug i op x) st=true):∃y py o e pos,st=.AugAssign (.Name y py) o e pos/\(o==op&&(c.N[i]?==some y)&&c.sto y&&okN y&&aj c x e)=true:=by have h:(au (Gf st) λt=>au (asName t.1) λy=>t.2.1==op&&(c.N[i]?==some y.1)&&c.sto y.1&&okN y.1&&aj c x t.2.2.1)=true:=h;obtain ⟨t,ht,h⟩:=aJ h;obtain ⟨u,hu,h⟩:=aJ h;exact ⟨_,_,_,_,_,by rw[ht,hu],h⟩
theorem abz{c:CT}{C:String}{es:Exs}{st:Stmt}(h:aV c (.rse C es) st=true):∃x np m cpos pos,st=.Raise (some (.Call (.Name x np) [m] [] cpos)) none pos/\(x==Str.ofString C&&c.glo x&&c.xs.contains (C,true)&&uC c es m)=true:=by have h:(au (Gg st) λt=>t.2.1.isNone&&t.1.any λe=>(bQ e).any λu=>u.1==Str.ofString C&&c.glo u.1&&c.xs.contains (C,true)&&(one u.2.2.1).any λm=>uC c es m)=true:=h;obtain ⟨t,ht,h⟩:=aJ h;rw[ae,eD]at h;obtain ⟨e,he,h2⟩:=aU h.2;obtain ⟨u,hu,h3⟩:=aU h2;rw[ae]at h3;obtain ⟨m,hm,h4⟩:=aU h3.2;exact ⟨_,_,m,_,_,by rw[ht,h.1,he,gq hu,c7 hm],by rw[ae];exact ⟨h3.1,h4⟩⟩
theorem abA{b:Bool}{k:Const}(h:yC b k=true):k=.bool b:=by
 cases k <;> first | (cases h;done) |skip
 rw[show yC b (.bool _)=(_==b) from rfl,aw]at h;rw[h]
theorem abB{c:CT}{b:Tb}{C:String}{h:Hd}{xs:List String}{st:Stmt}(hh:aV c (.tryx b C h xs) st=true):
  ∃body cx p1 nm y p2 e p4 p5 pos,st=.Try body [.ExceptHandler (some (.Name cx p1)) nm [.Assign [.Name y p2] e p4] p5] [] [] pos/\
   iJ c b body=true/\(xs.all λx=>c.xs.contains (x,true))=true/\(C=="ValueError")=false/\(cx==Str.ofString C&&c.glo cx&&c.xs.contains (C,false))=true/\uD c h nm y e=true:=by
 have hh:(au (Gi st) λt=>t.2.2.1.isEmpty&&t.2.2.2.1.isEmpty&&iJ c b t.1&&(xs.all λx=>c.xs.contains (x,true))&&!(C=="ValueError")&&(one t.2.1).any λhd=>au (Gj hd) λw=>w.1.any λte=>au (asName te) λn=>(n.1==Str.ofString C&&c.glo n.1&&c.xs.contains (C,false))&&(one w.2.2.1).any λs1=>au (iH s1) λa=>(one a.1).any λtg=>au (asName tg) λy=>uD c h w.2.1 y.1 a.2.1)=true:=hh;obtain ⟨t,ht,h1⟩:=aJ hh;simp only[ae,ez,dS]at h1;obtain ⟨⟨⟨⟨⟨e1,e2⟩,hx⟩,ha⟩,hv⟩,h2⟩:=h1;obtain ⟨hd,hhd,h3⟩:=aU h2;obtain ⟨w,hw,h3⟩:=aJ h3;obtain ⟨te,hte,h4⟩:=aU h3;obtain ⟨n,hn',h4⟩:=aJ h4;simp only[ae]at h4;obtain ⟨s1,hs1,h5⟩:=aU h4.2;obtain ⟨a,ha',h5⟩:=aJ h5;obtain ⟨tg,htg,h5⟩:=aU h5;obtain ⟨y,hy,h5⟩:=aJ h5;exact ⟨_,_,_,_,_,_,_,_,_,_,by rw[ht,e1,e2,c7 hhd,hw,hte,hn',c7 hs1,ha',c7 htg,hy],hx,ha,hv,by simp only[ae];exact h4.1,h5⟩
theorem abC{c:CT}{f C m:String}{o:Ex}{es:Exs}{sts:List Stmt}(h:iJ c (.mcl f C m o es) sts=true):∃e p0,sts=[.Expr e p0]/\aj c (.mcl f C m o es) e=true:=by have h:((one sts).any λs0=>au (uA s0) λe0=>aj c (.mcl f C m o es) e0.1)=true:=h;obtain ⟨s0,hs0,h⟩:=aU h;obtain ⟨e0,he0,h⟩:=aJ h;exact ⟨_,_,by rw[c7 hs0,he0],h⟩
theorem abD{c:CT}{x:Ex}{st:Stmt}(h:aV c (.ret x) st=true):∃e pos,st=.Return (some e) pos/\(aj c x e)=true:=by have h:(au (uB st) λt=>t.1.any λe=>aj c x e)=true:=h;obtain ⟨t,ht,h⟩:=aJ h;obtain ⟨e,he,h⟩:=aU h;exact ⟨_,_,by rw[ht,he],h⟩
theorem abE{c:CT}{st:Stmt}(h:aV c .rtn st=true):∃pos,st=.Return none pos/\(true)=true:=by have h:(au (uB st) λt=>t.1.isNone)=true:=h;obtain ⟨t,ht,h⟩:=aJ h;rw[eD]at h;exact ⟨_,by rw[ht,h],rfl⟩
theorem abF{c:CT}{t:Tx}{a b:Sxs}{st:Stmt}(h:aV c (.ite t a b) st=true):∃t' a' b' pos,st=.If t' a' b' pos/\(bx c t t'&&aC c a a'&&aC c b b')=true:=by have h:(au (Gk st) λu=>bx c t u.1&&aC c a u.2.1&&aC c b u.2.2.1)=true:=h;obtain ⟨u,ht,h⟩:=aJ h;exact ⟨_,_,_,_,ht,h⟩
theorem abG{c:CT}{g:Tg}{it:It'}{b:Sxs}{st:Stmt}(h:aV c (.for_ g it b) st=true):∃tg iter body pos,st=.For tg iter body [] pos/\(cL c g tg&&bR c it tg iter&&aC c b body)=true:=by have h:(au (Gm st) λt=>t.2.2.2.1.isEmpty&&(cL c g t.1&&bR c it t.1 t.2.1&&aC c b t.2.2.1))=true:=h;obtain ⟨t,ht,h⟩:=aJ h;rw[ae,ez]at h;exact ⟨_,_,_,_,by rw[ht,h.1],h.2⟩
theorem abH{c:CT}{t:Tx}{b:Sxs}{st:Stmt}(h:aV c (.whl t b) st=true):∃t' body pos,st=.While t' body [] pos/\(bx c t t'&&aC c b body)=true:=by have h:(au (Gn st) λu=>u.2.2.1.isEmpty&&(bx c t u.1&&aC c b u.2.1))=true:=h;obtain ⟨u,ht,h⟩:=aJ h;rw[ae,ez]at h;exact ⟨_,_,_,by rw[ht,h.1],h.2⟩
theorem abI{c:CT}{st:Stmt}(h:aV c .pas st=true):∃pos,st=.Pass pos/\(true)=true:=by obtain ⟨⟨t,ht⟩,_⟩:=cS.mp (show (Gp st).isSome=true from h);exact ⟨t,ht,rfl⟩
theorem abJ{c:CT}{st:Stmt}(h:aV c .brk st=true):∃pos,st=.Break pos/\(true)=true:=by obtain ⟨⟨t,ht⟩,_⟩:=cS.mp (show (Gq st).isSome=true from h);exact ⟨t,ht,rfl⟩
theorem abK{c:CT}{st:Stmt}(h:aV c .cnt st=true):∃pos,st=.Continue pos/\(true)=true:=by obtain ⟨⟨t,ht⟩,_⟩:=cS.mp (show (Gs st).isSome=true from h);exact ⟨t,ht,rfl⟩
def lK:Expr->Bool
 |.Starred ..=>false
 |.Set ..=>false
 |.Slice ..=>false
 |_=>true
theorem bH{c:CT}:∀(x:Ex){e:Expr},aj c x e=true->lK e=true
 |.frz a,e,h=>bH a (show aj c a e=true from h)
 |.var _,e,h=>by obtain ⟨_,_,rfl,_⟩:=GC h;rfl
 |.cst _,e,h=>by obtain ⟨_,_,_,rfl,_⟩:=GD h;rfl
 |.glb _ _,e,h=>by obtain ⟨_,_,rfl,_⟩:=GF h;rfl
 |.bin _ _ _ _,e,h=>by obtain ⟨_,_,_,_,rfl,_⟩:=GJ h;rfl
 |.neg _,e,h=>by obtain ⟨_,_,rfl,_⟩:=GK h;rfl
 |.cmp _ _ _,e,h=>by obtain ⟨_,_,_,_,rfl,_⟩:=GQ h;rfl
 |.chn _ _ _ _ _,e,h=>by obtain ⟨_,_,_,_,_,_,rfl,_⟩:=GR h;rfl
 |.not _,e,h=>by obtain ⟨_,_,rfl,_⟩:=GP h;rfl
 |.boo _ _ _,e,h=>by obtain ⟨_,_,_,_,rfl,_⟩:=GX h;rfl
 |.ife _ _ _,e,h=>by obtain ⟨_,_,_,_,rfl,_⟩:=GZ h;rfl
 |.tup _,e,h=>by obtain ⟨_,_,_,rfl,_⟩:=Ha h;rfl
 |.lst _ _,e,h=>by obtain ⟨_,_,rfl,_⟩:=Hb h;rfl
 |.idx _ _,e,h=>by obtain ⟨_,_,_,rfl,_⟩:=Hc h;rfl
 |.slc _ _ _ _,e,h=>by obtain ⟨_,_,_,_,_,rfl,_⟩:=Hf h;rfl
 |.rvs _ _ _,_,h=>nomatch (show false=true from h)
 |.call _ _,e,h=>by obtain ⟨_,_,_,_,rfl,_⟩:=Hg h;rfl
 |.bcl _ _,e,h=>by obtain ⟨_,_,_,_,rfl,_⟩:=Hh h;rfl
 |.lcl _ _ _,e,h=>by obtain ⟨_,_,_,_,rfl,_⟩:=Hi h;rfl
 |.isi _ _,e,h=>by obtain ⟨_,_,_,_,_,_,rfl,_⟩:=Hj h;rfl
 |.rgl _ _,_,h=>nomatch (show false=true from h)
 |.rgt _,_,h=>nomatch (show false=true from h)
 |.fst _,_,h=>nomatch (show false=true from h)
 |.isx _ _ _,_,h=>nomatch (show false=true from h)
 |.rpl _ _ _ _,_,h=>nomatch (show false=true from h)
 |.fld _ _ _,e,h=>by obtain ⟨_,_,_,rfl,_⟩:=Hk h;rfl
 |.mcl _ _ _ _ _,e,h=>by obtain ⟨_,_,_,_,_,_,rfl,_⟩:=yF h;rfl
 |.mko _ _,e,h=>by obtain ⟨_,_,_,_,rfl,_⟩:=Hl h;rfl
 |.pp0 _,e,h=>by obtain ⟨_,_,_,_,rfl,_⟩:=Hm h;rfl
 |.mth _ _ _,e,h=>by obtain ⟨_,_,_,_,_,rfl,_⟩:=Hn h;rfl
 |.comp _ _ _ _ _ _ _,e,h=>by obtain ⟨_,_,_,_,_,_,_,rfl,_⟩:=Ho h;rfl
theorem cV{e:Expr}(h:lK e=true):noStar e=true:=by cases e <;> first |rfl |exact nomatch (show false=true from h)
theorem Hu{e:Expr}(h:lK e=true)(op:CmpOp):behindInMarks op e=false:=by cases e <;> first |rfl |exact nomatch (show false=true from h)
theorem abL{e:Expr}(h:lK e=true)(env:Env)(x:Value):foldedSetIterable e env x=pure x:=by cases e <;> first |rfl |exact nomatch (show false=true from h)
theorem abM{e:Expr}(h:lK e=true):Dc e:=by intro o i;cases e <;> first |rfl |exact nomatch (show false=true from h)
theorem abN{e:Expr}(h:iD e=true)(env:Env)(whole:Sem Value):isTrue e env whole=(do let v <-whole;standAt e.pos;holding [v] (truthy v)):=by
 cases e with
 |UnaryOp op x p=>cases op <;> first |rfl |exact nomatch (show false=true from h)
 |_=>first |rfl |exact nomatch (show false=true from h)
def XV(K:PF)(H:Hp)(F:FZ)(x:Xn)(cv:Value)(od:Option Addr):Prop:=
 ∃C,cv=.ref C/\PySem.W.nsIn K mainGlobals (Str.ofString x.cls)=some (some (.ref C))/\
  match x.fld with
  |.non=>True
  |d=>∃a f v,od=some a/\H a=some (.xd [(f,v)])/\Rep K H F d v
def XR(K:PF)(H:Hp)(F:FZ)(x:Xn)(EX:XK):Prop:=∀cv od,XV K H F x cv od->EX cv od H
def PX(K:PF)(H:Hp)(F:FZ)(EX:XK):EK:=λx G'=>∀H' F',Ext H F H' F'->R K H' F' G'->XR K H' F' x EX
theorem el{α β γ:Type}{p q r s:α->β->γ->Prop}{C:Prop}(h:∃x y z,p x y z/\q x y z/\r x y z/\s x y z)(k:∀x y z,p x y z->q x y z->r x y z->s x y z->C):C:=by obtain ⟨x,y,z,h1,h2,h3,h4⟩:=h;exact k x y z h1 h2 h3 h4
def lift(K:PF)(n:Nat)(S:RF.Spec):Sp:=λvs H Q EX=>vs.length=n/\∃F G ds,R K H F G/\Reps K H F ds vs/\S.t ds G (PV K H F Q) (PX K H F EX)
def CV(K:PF)(mg:Str->Option Value)(C':String)(cv:V):Prop:=
 (∃a,cv=.ref a/\mg (Str.ofString C')=some (.ref a)/\qU K a=true)\/(C'="ValueError"/\cv=.ty "ValueError"/\mg (Str.ofString C')=none)
def XI(K:PF)(C C':String)(cv:V):Prop:=
 ∃c,PySem.W.nsIn K mainGlobals (Str.ofString C)=some (some (.ref c))/\Ef K c=true/\PySem.W.mroIn K c (valOf cv)=some (fZ C C')/\(fZ C C'=false->(Value.ref c==valOf cv)=false)
structure Bs where
 H:Hp
 F:FZ
def yG(K:PF)(C f:String):Prop:=∃c,PySem.W.nsIn K mainGlobals (Str.ofString C)=some (some (.ref c))/\Cls K c/\NoAttr K c (Str.ofString f)
def MthOk(Φ:aa)(P:Program)(w:World)(K:PF)(mg:Str->Option Value)(base:Heap)(CX:CXT)(k:Nat)(f C m:String)(n:Nat):Prop:=
 ∃c fa fd ps,PySem.W.nsIn K mainGlobals (Str.ofString C)=some (some (.ref c))/\Cls K c/\Meth K c (Str.ofString m) fa/\Binds K fd ps []/\FnOk P w K mg base CX k fa fd ps (lift K n (Φ f))
def MkoOk(Φ:aa)(P:Program)(w:World)(K:PF)(mg:Str->Option Value)(base:Heap)(CX:CXT)(k:Nat)(C:String)(n:Nat):Prop:=
 ∃c fa fd ps sp j,j+1<=k/\mg (Str.ofString C)=some (.ref c)/\Mk K c fa/\Binds K fd ps []/\FnOk P w K mg base CX j fa fd ps sp/\
  ∀vs H Q E,lift K n (Φ C) vs H Q E->∀x dx,H x=none->H dx=none->dx≠x->sp (.ref x::vs) (upd (upd H dx (.own x)) x (.ins c dx [])) (λv H2=>v=.non/\Q (.ref x) H2) E
structure Stat(Φ:aa)(CX:CXT)(k:Nat)(c:CT)(E:EK)(B:Bs)(X:Cx):Prop where
 N:X.N=c.N
 nd:X.N.Nodup
 calm:X.calm=true
 own:PassesOwn (model X.prog X.w) X.A X.env X.xe
 kd:X.env.kindOf=λx=>X.env.scope.names.lookup x
 vis:∀x,iC (c.kd.lookup x)=true->Vis X.env.scope x
 cel:∀x,(c.kd.lookup x=some .cell\/c.kd.lookup x=some .free)->(X.env.kindOf x=some .cell\/X.env.kindOf x=some .free)
 glo:∀x,c.kd.lookup x=some .globalImplicit->Gl X x
 sto:∀x,c.sto x=true->Loc X.env.scope x/\(X.fn x=true\/X.env.scope.names.lookup x=some .local)
 room:Room k X.A
 call:∀f n,(f,n)∈c.fs->∃fa fd ps,FnOk X.prog X.w X.K X.mg X.base CX k fa fd ps (lift X.K n (Φ f))/\PySem.W.keepIn X.K (.ref fa)=true/\Binds X.K fd ps []/\X.mg (Str.ofString f)=some (.ref fa)
 blt:∀f,f∈c.bt->X.mg (Str.ofString f)=none
 con:∀x d,(x,d)∈c.cn->∃u v,X.mg (Str.ofString x)=some u/\RelV v u/\∀H F,Rep X.K H F d v
 exc:∃EX,eZ CX X EX/\Throws X EX/\∀x G' H' F',E x G'->Ext B.H B.F H' F'->R X.K H' F' G'->XR X.K H' F' x EX
 nox:∀(Y:Cx),eZ CX Y λ_ _ _=>False
 xcl:∀C,c.xs.contains (C,true)=true->∃a,X.mg (Str.ofString C)=some (.ref a)/\il X.K a=true/\PySem.W.nsIn X.K mainGlobals (Str.ofString C)=some (some (.ref a))
 loc:∀x,c.kd.lookup x=some .local->X.env.scope.names.lookup x=some .local
 xis:∀C',c.xs.contains (C',false)=true->∃cv,CV X.K X.mg C' cv/\∀C,c.xs.contains (C,true)=true->XI X.K C C' cv
 mth:∀f C m n,(f,C,m,n)∈c.ot.ms->MthOk Φ X.prog X.w X.K X.mg X.base CX k f C m n
 mko:∀C n,(C,n)∈c.ot.ks->MkoOk Φ X.prog X.w X.K X.mg X.base CX k C n
 fld:∀C f,(C,f)∈c.ot.fl->yG X.K C f
 trc:c.xs≠[]->CX=CX1 X.prog X.w/\X.stack=X.env::X.outer/\X.ex=[]
def tE(K:PF)(B:Bs)(w:ak->DH->(D->DH->Prop)->Prop):TE:=λσ H Q=>∃ρ F G,Ext B.H B.F H F/\EnvR K H F ρ σ/\R K H F G/\w ρ G (PV K H F Q)
def tB'(K:PF)(B:Bs)(w:ak->DH->(Bool->DH->Prop)->Prop):TT:=λσ H Q=>∃ρ F G,Ext B.H B.F H F/\EnvR K H F ρ σ/\R K H F G/\w ρ G (PB K H F Q)
def tL(K:PF)(B:Bs)(w:ak->DH->(List D->DH->Prop)->Prop):TA:=λσ H Q=>∃ρ F G,Ext B.H B.F H F/\EnvR K H F ρ σ/\R K H F G/\w ρ G (PLs K H F Q)
noncomputable def POp(K:PF)(H:Hp)(F:FZ)(Q:Option Int->Hp->Prop):Option Int->DH->Prop:=λb G'=>∀H' F',Ext H F H' F'->R K H' F' G'->Q b H'
def Hv(K:PF)(B:Bs)(w:ak->DH->(Option Int->DH->Prop)->Prop):TO:=λσ H Q=>∃ρ F G,Ext B.H B.F H F/\EnvR K H F ρ σ/\R K H F G/\w ρ G (POp K H F Q)
theorem peI{X:Cx}{e:Expr}{t t':TE}(h:PE X e t)(i:∀σ H Q,t' σ H Q->t σ H Q):PE X e t':=λpins s σ H Q I q=>h pins s σ H Q I (i σ H Q q)
theorem ptI{X:Cx}{e:Expr}{t t':TT}(h:PT X e t)(i:∀σ H Q,t' σ H Q->t σ H Q):PT X e t':=λpins s σ H Q I q=>h pins s σ H Q I (i σ H Q q)
theorem pwI{X:Cx}{e:Expr}{t t':TT}(h:PW X e t)(i:∀σ H Q,t' σ H Q->t σ H Q):PW X e t':=λwh pins s σ H Q I q=>h wh pins s σ H Q I (i σ H Q q)
theorem paI{X:Cx}{e:List Expr}{t t':TA}(h:PA X e t)(i:∀σ H Q,t' σ H Q->t σ H Q):PA X e t':=λpos pins s σ H Q I q=>h pos pins s σ H Q I (i σ H Q q)
section
variable {Φ:aa} {CX:CXT} {k:Nat} {c:CT} {E:EK} {B:Bs} {X:Cx}
theorem aN{K:PF}{x:Ex}{σ:L2.St}{H:Hp}{F:FZ}{G:DH}{ρ:ak}{W:D->DH->Prop}{Q:VK}(e0:Ext B.H B.F H F)(he:EnvR K H F ρ σ)(r:R K H F G)(hw:wpE Φ x E ρ G W)
  (h:∀d G1 H1 F1 v,W d G1->Ext B.H B.F H1 F1->Ext H F H1 F1->EnvR K H1 F1 ρ σ->R K H1 F1 G1->Rep K H1 F1 d v->Q v H1):tE K B (wpE Φ x E) σ H Q:=
 ⟨ρ,F,G,e0,he,r,aG x (λd G1 q H1 F1 v x1 r1 rv=>h d G1 H1 F1 v q (e0.trans x1) x1 (he.ext x1) r1 rv) hw⟩
theorem b7{K:PF}{x:Exs}{σ:L2.St}{H:Hp}{F:FZ}{G:DH}{ρ:ak}{W:List D->DH->Prop}{Q:List V->Hp->Prop}(e0:Ext B.H B.F H F)(he:EnvR K H F ρ σ)(r:R K H F G)(hw:aM Φ x E ρ G W)
  (h:∀d G1 H1 F1 v,W d G1->Ext B.H B.F H1 F1->Ext H F H1 F1->EnvR K H1 F1 ρ σ->R K H1 F1 G1->Reps K H1 F1 d v->Q v H1):tL K B (aM Φ x E) σ H Q:=
 ⟨ρ,F,G,e0,he,r,cA x (λd G1 q H1 F1 v x1 r1 rv=>h d G1 H1 F1 v q (e0.trans x1) x1 (he.ext x1) r1 rv) hw⟩
theorem iK{K:PF}{x:Tx}{σ:L2.St}{H:Hp}{F:FZ}{G:DH}{ρ:ak}{W:Bool->DH->Prop}{Q:Bool->Hp->Prop}(e0:Ext B.H B.F H F)(he:EnvR K H F ρ σ)(r:R K H F G)(hw:wpT Φ x E ρ G W)
  (h:∀d G1 H1 F1,W d G1->Ext B.H B.F H1 F1->Ext H F H1 F1->EnvR K H1 F1 ρ σ->R K H1 F1 G1->Q d H1):tB' K B (wpT Φ x E) σ H Q:=
 ⟨ρ,F,G,e0,he,r,cT x (λd G1 q H1 F1 x1 r1=>h d G1 H1 F1 q (e0.trans x1) x1 (he.ext x1) r1) hw⟩
theorem Hw{K:PF}{x:Ox}{σ:L2.St}{H:Hp}{F:FZ}{G:DH}{ρ:ak}{W:Option Int->DH->Prop}{Q:Option Int->Hp->Prop}(e0:Ext B.H B.F H F)(he:EnvR K H F ρ σ)(r:R K H F G)(hw:wpO Φ x E ρ G W)
  (h:∀d G1 H1 F1,W d G1->Ext B.H B.F H1 F1->Ext H F H1 F1->EnvR K H1 F1 ρ σ->R K H1 F1 G1->Q d H1):Hv K B (wpO Φ x E) σ H Q:=
 ⟨ρ,F,G,e0,he,r,ye x (λd G1 q H1 F1 x1 r1=>h d G1 H1 F1 q (e0.trans x1) x1 (he.ext x1) r1) hw⟩
theorem PV.later{K:PF}{H H1:Hp}{F F1:FZ}{Q:VK}{d:D}{G:DH}(h:PV K H F Q d G)(x:Ext H F H1 F1):PV K H1 F1 Q d G:=λH' F' v x1=>h H' F' v (x.trans x1)
theorem PB.later{K:PF}{H H1:Hp}{F F1:FZ}{Q:Bool->Hp->Prop}{d:Bool}{G:DH}(h:PB K H F Q d G)(x:Ext H F H1 F1):PB K H1 F1 Q d G:=λH' F' x1=>h H' F' (x.trans x1)
theorem PB.now{K:PF}{H:Hp}{F:FZ}{Q:Bool->Hp->Prop}{d:Bool}{G:DH}(h:PB K H F Q d G)(r:R K H F G):Q d H:=h H F (Ext.refl H F) r
theorem jH(S:Stat Φ CX k c E B X):X.A.units+100 < cLine:=by have:=S.room.un;omega
theorem b8 {x:Str} (h:okN x=true):(x==("__debug__":Str))=false:=by
 unfold okN at h;cases e:x==("__debug__":Str) with
 |false=>rfl
 |true=>rw[e]at h;simp at h
theorem abO {x:Str} (h:okN x=true):(x==("__classdict__":Str))=false:=by
 unfold okN at h;cases e:x==("__classdict__":Str) with
 |false=>rfl
 |true=>rw[e]at h;simp at h
theorem eH {x:Str} (h:okN x=true):x≠"__name__":=by unfold okN at h;intro e;rw[aw.mpr e]at h;simp at h
theorem dM{x:Str}(h:c.glo x=true):c.kd.lookup x=some .globalImplicit/\okN x=true:=by unfold CT.glo at h;rw[ae,aw]at h;exact h
theorem abP(S:Stat Φ CX k c E B X){i:Nat}{e:Expr}(h:aj c (.var i) e=true):PE X e (tE X.K B (wpE Φ (.var i) E)):=by
 replace h:=GC h;obtain ⟨x,pos,rfl,h⟩:=h
 ·rw[ae,ae,aw]at h;refine peI (BL (i:=i) (by rw[S.N];exact h.1.1) (S.vis x h.1.2) (b8 h.2) (abO h.2)) λσ H Q q=>?_;obtain ⟨ρ,F,G,_,he,r,hw⟩:=q;rw[rQ]at hw;split at hw
  ·rename_i d hd;obtain ⟨v,e1,rv⟩:=he.get hd;exact ⟨v,e1,hw.now r rv⟩
  ·exact hw.elim
theorem abQ(S:Stat Φ CX k c E B X){d:D}{e:Expr}(h:aj c (.cst d) e=true):PE X e (tE X.K B (wpE Φ (.cst d) E)):=by
 replace h:=GD h;obtain ⟨kk,_,_,rfl,h⟩:=h
 ·unfold ux at h;split at h
  ·exact peI Vy λσ H Q hq=>el hq λρ F G _ he r hw=>by rw[iu]at hw;exact hw.now r rfl
  ·rw[aw]at h;subst h;exact peI BP λσ H Q hq=>el hq λρ F G _ he r hw=>by rw[iu]at hw;exact hw.now r rfl
  ·rw[aw]at h;subst h;exact peI Vx λσ H Q hq=>el hq λρ F G _ he r hw=>by rw[iu]at hw;exact hw.now r rfl
  ·rename_i l b;rw[ae,aw,bv]at h;refine peI BR λσ H Q hq=>el hq λρ F G _ he r hw=>?_;rw[iu]at hw;refine hw.now r ⟨?_,h.2⟩;rw[h.1,<-wC]
  ·cases h
theorem abR(S:Stat Φ CX k c E B X){x:String}{d:D}{e:Expr}(h:aj c (.glb x d) e=true):PE X e (tE X.K B (wpE Φ (.glb x d) E)):=by
 replace h:=GF h;obtain ⟨y,pos,rfl,h⟩:=h
 ·rw[ae,ae,aw,List.any_eq_true]at h;obtain ⟨⟨e1,h1⟩,⟨x',d'⟩,hm,h2⟩:=h;rw[ae,aw]at h2;obtain ⟨e2,e3⟩:=h2;have e3:=abn e3;simp only at e2 e3;subst e1 e2 e3;obtain ⟨g1,g2⟩:=dM h1;obtain ⟨u,v,hu,ru,hr⟩:=S.con _ _ hm;exact peI (Vz (S.glo _ g1) hu ru (b8 g2)) λσ H Q hq=>el hq λρ F G _ he r hw=>by rw[rR]at hw;exact hw.now r (hr H F)
theorem abS(S:Stat Φ CX k c E B X){op:Operator}{fz:Bool}{a b:Ex}(iha:∀{e},aj c a e=true->PE X e (tE X.K B (wpE Φ a E)))(ihb:∀{e},aj c b e=true->PE X e (tE X.K B (wpE Φ b E))){e:Expr}
  (h:aj c (.bin op fz a b) e=true):PE X e (tE X.K B (wpE Φ (.bin op fz a b) E)):=by
 replace h:=GJ h;obtain ⟨l,o,r,pos,rfl,h⟩:=h
 ·rw[ae,ae,aw]at h;obtain ⟨⟨e1,h1⟩,h2⟩:=h;subst e1;refine peI (WN (aam _ fz) (iha h1) (ihb h2)) λσ H Q hq=>el hq λρ F G e0 he r hw=>?_;rw[rT]at hw;refine aN e0 he r hw λx G1 H1 F1 v q e1 x1 he1 r1 rv=>aN e1 he1 r1 q λy G2 H2 F2 u q e2 x2 he2 r2 ru=>?_;exact ⟨F2,G2,x,y,r2,Rep.ext x2 rv,ru,Ew (λd G' z=>PV.later z (x1.trans x2)) q⟩
theorem abT(S:Stat Φ CX k c E B X){a:Ex}(iha:∀{e},aj c a e=true->PE X e (tE X.K B (wpE Φ a E))){e:Expr}(h:aj c (.neg a) e=true):PE X e (tE X.K B (wpE Φ (.neg a) E)):=by
 replace h:=GK h;obtain ⟨_,_,rfl,h⟩:=h
 ·refine peI (WP W2 (iha h)) λσ H Q hq=>el hq λρ F G e0 he r hw=>?_;rw[rW]at hw;refine aN e0 he r hw λx G1 H1 F1 v q e1 x1 he1 r1 rv=>?_;split at q
  ·have e2:v=.int _:=rv;subst e2;exact ⟨_,rfl,q _ _ _ x1 r1 rfl⟩
  ·exact q.elim
theorem Hx(S:Stat Φ CX k c E B X){op:CmpOp}{a b:Ex}(iha:∀{e},aj c a e=true->PE X e (tE X.K B (wpE Φ a E)))(ihb:∀{e},aj c b e=true->PE X e (tE X.K B (wpE Φ b E))){e:Expr}
  (h:aj c (.cmp op a b) e=true):PE X e (tE X.K B (wpE Φ (.cmp op a b) E))/\PT X e (tB' X.K B (wpT Φ (.val (.cmp op a b)) E)):=by
 replace h:=GQ h;obtain ⟨l,o,r,pos,rfl,h⟩:=h
 ·rw[ae,ae,aw]at h;obtain ⟨⟨e1,h1⟩,h2⟩:=h;subst e1;have hm:=Hu (bH b h2) o;refine ⟨peI (W5 (jD _ (jH S)) (iha h1) (ihb h2) hm) λσ H Q hq=>el hq λρ F G e0 he r hw=>?_,ptI (W6 (jD _ (jH S)) (iha h1) (ihb h2) hm) λσ H Q hq=>el hq λρ F G e0 he r hw=>?_⟩
  ·rw[lr]at hw;refine aN e0 he r hw λx G1 H1 F1 v q e1 x1 he1 r1 rv=>aN e1 he1 r1 q λy G2 H2 F2 u q e2 x2 he2 r2 ru=>?_;exact ⟨F2,G2,x,y,r2,Rep.ext x2 rv,ru,iw (λd z=>PV.later z (x1.trans x2)) q⟩
  ·rw[jz,lr]at hw;refine aN e0 he r hw λx G1 H1 F1 v q e1 x1 he1 r1 rv=>aN e1 he1 r1 q λy G2 H2 F2 u q e2 x2 he2 r2 ru=>?_;refine ⟨F2,G2,x,y,r2,Rep.ext x2 rv,ru,iw (λd z=>?_) q⟩;intro H' F' v' x' r' rv';have e3:v'=.bl d:=rv';exact ⟨d,e3,z H' F' ((x1.trans x2).trans x') r'⟩
theorem Hy(S:Stat Φ CX k c E B X){op op':CmpOp}{a b d:Ex}(iha:∀{e},aj c a e=true->PE X e (tE X.K B (wpE Φ a E)))(ihb:∀{e},aj c b e=true->PE X e (tE X.K B (wpE Φ b E)))(ihd:∀{e},aj c d e=true->PE X e (tE X.K B (wpE Φ d E))){e:Expr}
  (h:aj c (.chn op op' a b d) e=true):PE X e (tE X.K B (wpE Φ (.chn op op' a b d) E))/\PT X e (tB' X.K B (wpT Φ (.val (.chn op op' a b d)) E)):=by
 replace h:=GR h;obtain ⟨l,o,o',m,r,pos,rfl,h⟩:=h
 ·simp only[ae,aw]at h;obtain ⟨⟨⟨⟨e1,e2⟩,h1⟩,h2⟩,h3⟩:=h;subst e1 e2;have hm:lastMarks [o,o'] [m,r]=false:=Hu (bH d h3) o';have go:∀{σ H Q ρ F G}{W:Bool->DH->Prop},Ext B.H B.F H F->EnvR X.K H F ρ σ->R X.K H F G->
    wpE Φ a E ρ G (λx G1=>wpE Φ b E ρ G1 λy G2=>aX o (view G2 x) (view G2 y) λt=>match t with |true=>wpE Φ d E ρ G2 λz G3=>aX o' (view G3 y) (view G3 z) λt'=>W t' G3 |false=>W false G2)->
    (∀t G' H' F',W t G'->Ext H F H' F'->R X.K H' F' G'->Q (.bl t) H')->
    wj (rC2 X.K (aX o)) (rC2 X.K (aX o')) (tE X.K B (wpE Φ a E)) (tE X.K B (wpE Φ b E)) (tE X.K B (wpE Φ d E)) σ H Q:=by
   intro σ H Q ρ F G W e0 he r hw fin;refine aN e0 he r hw λx G1 H1 F1 v q e1 x1 he1 r1 rv=>aN e1 he1 r1 q λy G2 H2 F2 u q e2 x2 he2 r2 ru=>?_;refine ⟨F2,G2,x,y,r2,Rep.ext x2 rv,ru,iw (λt q=>?_) q⟩;intro H3 F3 v3 x3 r3 rv3;have e3:v3=.bl t:=rv3;refine ⟨t,e3,?_⟩;cases t with
   |true=>
    rw[if_pos rfl];refine aN (e2.trans x3) (he2.ext x3) r3 q λz G4 H4 F4 v4 q e4 x4 he4 r4 rv4=>?_;refine ⟨F4,G4,y,z,r4,Rep.ext (x3.trans x4) ru,rv4,iw (λt' q=>?_) q⟩;intro H5 F5 v5 x5 r5 rv5;have e5:v5=.bl t':=rv5;subst e5;exact fin _ _ _ _ q ((((x1.trans x2).trans x3).trans x4).trans x5) r5
   |false=>
    rw[if_neg bo];exact fin _ _ _ _ q ((x1.trans x2).trans x3) r3
  refine ⟨peI (W7 (jD _ (jH S)) (jD _ (jH S)) (iha h1) (ihb h2) (ihd h3) hm) λσ H Q hq=>el hq λρ F G e0 he r hw=>?_,ptI (W8 (jD _ (jH S)) (jD _ (jH S)) (iha h1) (ihb h2) (ihd h3) hm) λσ H Q hq=>el hq λρ F G e0 he r hw=>?_⟩
  ·rw[lu]at hw;exact go (W:=λt G'=>PV X.K H F Q (.bl t) G') e0 he r hw λt G' H' F' z x' r'=>z H' F' _ x' r' rfl
  ·rw[jz,lu]at hw;refine go (W:=λt G'=>PB X.K H F Q t G') e0 he r hw λt G' H' F' z x' r'=>⟨t,rfl,z H' F' x' r'⟩
end
section
variable {Φ:aa} {CX:CXT} {k:Nat} {c:CT} {E:EK} {B:Bs} {X:Cx}
abbrev OkE(Φ:aa)(c:CT)(E:EK)(B:Bs)(X:Cx)(x:Ex):Prop:=∀{e:Expr},aj c x e=true->PE X e (tE X.K B (wpE Φ x E))
abbrev fJ(Φ:aa)(c:CT)(E:EK)(B:Bs)(X:Cx)(x:Exs):Prop:=∀{es:List Expr},aL c x es=true->PA X es (tL X.K B (aM Φ x E))
abbrev OkT(Φ:aa)(c:CT)(E:EK)(B:Bs)(X:Cx)(x:Tx):Prop:=∀{e:Expr},bx c x e=true->PT X e (tB' X.K B (wpT Φ x E))
theorem abU(S:Stat Φ CX k c E B X){a:Ex}(iha:OkE Φ c E B X a){e:Expr}(h:aj c (.not a) e=true):PE X e (tE X.K B (wpE Φ (.not a) E)):=by
 replace h:=GP h;obtain ⟨_,_,rfl,h⟩:=h
 ·intro pins s σ H Q I q;obtain ⟨ρ,F,G,e0,he,r,hw⟩:=q;rw[rY]at hw;have q':tE X.K B (wpE Φ a E) σ H (λx H1=>∃b,qK X.K x H1 b/\Q (.bl (!b)) H1):=aN e0 he r hw λx G1 H1 F1 v q e1 x1 he1 r1 rv=>by
   split at q
   ·rename_i b hb;exact ⟨b,Fq r1 rv hb,q _ _ _ x1 r1 rfl⟩
   ·exact q.elim
  refine UnaryOp_ (thn (iha h pins s σ H _ I q') λv s1 ⟨x,H1,I1,r1,b,tb,q1⟩=>?_);refine not_of (thn (Ck pins s1 σ H1 x v (λb' H'=>Q (.bl (!b')) H') I1 r1 ⟨b,tb,q1⟩) λb' s2 ⟨H2,I2,q2⟩=>?_);exact ⟨.bl (!b'),H2,I2,rfl,q2⟩
theorem yH{es:List Expr}(h:aL c .nil es=true):PA X es (tL X.K B (aM Φ .nil E)):=by
 unfold aL at h;cases es with
 |nil=>exact paI kJ λσ H Q hq=>el hq λρ F G e0 he r hw=>by rw[gj]at hw;exact hw H F [] (Ext.refl _ _) r rfl
 |cons _ _=>cases h
theorem uE{x:Ex}{xs:Exs}(ih:OkE Φ c E B X x)(ihs:fJ Φ c E B X xs){es:List Expr}(h:aL c (.cons x xs) es=true):PA X es (tL X.K B (aM Φ (.cons x xs) E)):=by
 unfold aL at h;split at h
 ·rename_i e es;rw[ae]at h;refine paI (jk (ih h.1) (ihs h.2) (cj e es X.env (cV (bH x h.1)))) λσ H Q hq=>el hq λρ F G e0 he r hw=>?_;rw[gJ]at hw;refine aN e0 he r hw λd G1 H1 F1 v q e1 x1 he1 r1 rv=>b7 e1 he1 r1 q λds G2 H2 F2 vs q e2 x2 he2 r2 rvs=>?_;exact q H2 F2 _ (x1.trans x2) r2 ⟨v,vs,rfl,Rep.ext x2 rv,rvs⟩
 ·cases h
theorem abV(S:Stat Φ CX k c E B X){es:Exs}(ih:fJ Φ c E B X es){e:Expr}(h:aj c (.tup es) e=true):PE X e (tE X.K B (wpE Φ (.tup es) E)):=by
 replace h:=Ha h;obtain ⟨_,_,_,rfl,h⟩:=h
 ·refine peI (Xz (ih h)) λσ H Q hq=>el hq λρ F G e0 he r hw=>?_;rw[su]at hw;refine b7 e0 he r hw λds G1 H1 F1 vs q e1 x1 he1 r1 rvs=>⟨by rw[<-rvs.length];exact cZ q.1,lA (PV.later q.2 x1) r1 rvs⟩
theorem abW(S:Stat Φ CX k c E B X){fz:Bool}{es:Exs}(ih:fJ Φ c E B X es){e:Expr}(h:aj c (.lst fz es) e=true):PE X e (tE X.K B (wpE Φ (.lst fz es) E)):=by
 replace h:=Hb h;obtain ⟨_,_,rfl,h⟩:=h
 ·refine peI (XC (ih h)) λσ H Q hq=>el hq λρ F G e0 he r hw=>?_;rw[sy]at hw;refine b7 e0 he r hw λds G1 H1 F1 vs q e1 x1 he1 r1 rvs=>⟨by rw[<-rvs.length];exact cZ q.1,gm (dI (λd G' z=>PV.later z x1) q.2) r1 rvs⟩
theorem abX(S:Stat Φ CX k c E B X){a i:Ex}(iha:OkE Φ c E B X a)(ihi:OkE Φ c E B X i){e:Expr}(h:aj c (.idx a i) e=true):PE X e (tE X.K B (wpE Φ (.idx a i) E)):=by
 replace h:=Hc h;obtain ⟨_,_,_,rfl,h⟩:=h
 ·rw[ae]at h;refine peI (Yj aat (iha h.1) (ihi h.2) (abM (bH i h.2))) λσ H Q hq=>el hq λρ F G e0 he r hw=>?_;rw[sE]at hw;refine aN e0 he r hw λx G1 H1 F1 v q e1 x1 he1 r1 rv=>aN e1 he1 r1 q λy G2 H2 F2 u q e2 x2 he2 r2 ru=>?_;exact ⟨F2,G2,x,y,r2,Rep.ext x2 rv,ru,tZ (λd z=>PV.later z (x1.trans x2)) q⟩
theorem Hz{lo:Ox}(ih:∀x,lo=.ob x->OkE Φ c E B X x){l:Option Expr}(h:gw c lo l=true):PO X l (Hv X.K B (wpO Φ lo E)):=by
 cases lo with
 |no=>
  unfold gw at h;cases l with
  |none=>
   intro pins s σ H Q I q;refine Yb pins s σ H Q I ?_;obtain ⟨ρ,F,G,e0,he,r,hw⟩:=q;rw[rJ]at hw;exact hw H F (Ext.refl _ _) r
  |some _=>cases h
 |ob x=>
  unfold gw at h;split at h
  ·intro pins s σ H Q I q;refine Yc (ih x rfl h) pins s σ H Q I ?_;obtain ⟨ρ,F,G,e0,he,r,hw⟩:=q;rw[rK]at hw;refine aN e0 he r hw λd G1 H1 F1 v q e1 x1 he1 r1 rv=>?_;split at q
   ·have e2:v=.int _:=rv;exact ⟨_,e2,q H1 F1 x1 r1⟩
   ·exact q.elim
  ·cases h
theorem abY(S:Stat Φ CX k c E B X){fz:Bool}{a:Ex}{lo hi:Ox}(iha:OkE Φ c E B X a)(ihl:∀x,lo=.ob x->OkE Φ c E B X x)(ihh:∀x,hi=.ob x->OkE Φ c E B X x){e:Expr}(h:aj c (.slc fz a lo hi) e=true):
  PE X e (tE X.K B (wpE Φ (.slc fz a lo hi) E)):=by
 replace h:=Hf h;obtain ⟨_,_,_,_,_,rfl,h⟩:=h
 ·rw[ae,ae]at h;refine peI (Yd (aaz fz) (iha h.1.1) (Hz ihl h.1.2) (Hz ihh h.2)) λσ H Q hq=>el hq λρ F G e0 he r hw=>?_;rw[sG]at hw;refine aN e0 he r hw λx G1 H1 F1 v q e1 x1 he1 r1 rv=>Hw e1 he1 r1 q λl G2 H2 F2 q e2 x2 he2 r2=>Hw e2 he2 r2 q λu G3 H3 F3 q e3 x3 he3 r3=>?_;exact ⟨F3,G3,x,r3,Rep.ext (x2.trans x3) rv,Ez (λd G' z=>PV.later z ((x1.trans x2).trans x3)) q⟩
theorem abZ(S:Stat Φ CX k c E B X){fz:Bool}{a s:Ex}(iha:OkE Φ c E B X a)(ihs:OkE Φ c E B X s){e:Expr}(h:aj c (.rvs fz a s) e=true):PE X e (tE X.K B (wpE Φ (.rvs fz a s) E)):=nomatch (show false=true from h)
theorem ab0(S:Stat Φ CX k c E B X){a:Ex}(iha:OkE Φ c E B X a){e:Expr}(h:aj c (.frz a) e=true):PE X e (tE X.K B (wpE Φ (.frz a) E)):=by
 have h:aj c a e=true:=h;refine peI (iha h) λσ H Q hq=>el hq λρ F G e0 he r hw=>?_;rw[sX]at hw;refine aN e0 he r hw λx G1 H1 F1 v q e1 x1 he1 r1 rv=>?_;split at q
 ·rename_i p;have e2:v=.ref p:=rv;subst e2;split at q
  ·rename_i ds hg;exact q _ _ _ (x1.trans wR) (r1.frz hg) (aad r1 hg)
  ·exact q.elim
 ·exact q _ _ _ x1 r1 rv
theorem iM{es:List Expr}{xs:Exs}(h:aL c xs es=true)(env:Env)(pos:Pos):(backTo pos (starEach es env)).any (·.1)=false:=by
 induction es generalizing xs with
 |nil=>rfl
 |cons e es ih=>
  cases xs with
  |nil=>unfold aL at h;cases h
  |cons x xs=>
   unfold aL at h;rw[ae]at h;rw[cj e es env (cV (bH x h.1))];show (false||(backTo pos (starEach es env)).any (·.1))=false;rw[ih h.2];rfl
theorem gP{e:Expr}{es:List Expr}{xs:Exs}(h:aL c xs (e::es)=true):∃x xs',xs=.cons x xs'/\aj c x e=true/\aL c xs' es=true:=by
 cases xs with
 |nil=>unfold aL at h;cases h
 |cons x xs'=>
  unfold aL at h;rw[ae]at h;exact ⟨x,xs',rfl,h.1,h.2⟩
theorem lL{ρ:ak}:∀(xs:Exs){es:List Expr}{G:DH}{Q:List D->DH->Prop},aL c xs es=true->aM Φ xs E ρ G Q->aM Φ xs E ρ G (λds G'=>ds.length=es.length/\Q ds G')
 |.nil,es,G,Q,h,q=>by
  unfold aL at h;rw[gj]at q ⊢;cases es with
  |nil=>exact ⟨rfl,q⟩
  |cons _ _=>cases h
 |.cons x xs,es,G,Q,h,q=>by
  unfold aL at h;split at h
  ·rename_i e es;rw[ae]at h;rw[gJ]at q ⊢;refine aG x (λd G1 q=>cA xs (λds G2 z=>?_) (lL xs h.2 q)) q;exact ⟨by simp[z.1],z.2⟩
  ·cases h
theorem ab1(S:Stat Φ CX k c E B X){f:String}{xs:Exs}(ih:fJ Φ c E B X xs){e:Expr}(h:aj c (.call f xs) e=true):PE X e (tE X.K B (wpE Φ (.call f xs) E)):=by
 replace h:=Hg h;obtain ⟨x,p,args,pos,rfl,h⟩:=h
 ·simp only[ae,aw,List.any_eq_true]at h;obtain ⟨⟨⟨⟨e1,h1⟩,⟨f',n⟩,hm,e2,e3⟩,h2⟩,h3⟩:=h;simp only at e2 e3;subst e1 e2 e3;obtain ⟨g1,g2⟩:=dM h1;obtain ⟨fa,fd,ps,F0,hk,hb,hmg⟩:=S.call _ _ hm;obtain ⟨EX,hpass,_,hEX⟩:=S.exc;cases args with
  |nil=>cases h2
  |cons e es=>
   obtain ⟨x0,xs',rfl,c1,c2⟩:=gP h3;refine peI (XH F0 S.room (S.glo _ g1) hmg hk hb .nil hpass (ih h3) (b8 g2) (cj e es X.env (cV (bH x0 c1))) (iM c2 X.env pos)) λσ H Q hq=>el hq λρ F G e0 he r hw=>?_;rw[sH]at hw;refine b7 e0 he r (lL _ h3 hw) λds G1 H1 F1 vs q e1 x1 he1 r1 rvs=>?_;rw[dy];refine ⟨by rw[<-rvs.length];exact q.1,F1,G1,ds,r1,rvs,Spec.mono q.2 (λd G' z=>PV.later z x1) λx G' z H' F' x' r'=>?_⟩;exact hEX x G' H' F' z (e1.trans x') r'
theorem ab2(S:Stat Φ CX k c E B X){f:Bf}{xs:Exs}(ih:fJ Φ c E B X xs){e:Expr}(h:aj c (.bcl f xs) e=true):PE X e (tE X.K B (wpE Φ (.bcl f xs) E)):=by
 replace h:=Hh h;obtain ⟨x,p,args,pos,rfl,h⟩:=h
 ·simp only[ae,aw]at h;obtain ⟨⟨⟨⟨⟨e1,hok⟩,h1⟩,hm⟩,h2⟩,h3⟩:=h;subst e1;obtain ⟨g1,g2⟩:=dM h1;have hmg:=S.blt _ (aT.mp hm);cases args with
  |nil=>cases h2
  |cons e es=>
   obtain ⟨x0,xs',rfl,c1,c2⟩:=gP h3;have hs:=cj e es X.env (cV (bH x0 c1));have ha:=iM c2 X.env pos;have go:∀σ H Q,tE X.K B (wpE Φ (.bcl f (.cons x0 xs')) E) σ H Q->tCB (iy X.K f) (tL X.K B (aM Φ (.cons x0 xs') E)) σ H Q:=λσ H Q hq=>el hq λρ F G e0 he r hw=>by
    rw[sI]at hw;refine b7 e0 he r hw λds G1 H1 F1 vs q e1 x1 he1 r1 rvs=>?_;exact ⟨F1,G1,ds,r1,rvs,EY (λd z=>PV.later z x1) q⟩
   cases f with
   |len=>exact peI (qN aaA (S.glo _ g1) hmg PySem.boot_len (ih h3) (eH g2) (b8 g2) hs ha) go
   |all=>exact peI (qN (aaB S.calm) (S.glo _ g1) hmg Ze (ih h3) (eH g2) (b8 g2) hs ha) go
   |int=>exact peI (qO aaC (S.glo _ g1) hmg Dv (ih h3) (eH g2) (b8 g2) hs ha) go
   |tuple=>exact peI (qO aaD (S.glo _ g1) hmg (by ac_rfl) (ih h3) (eH g2) (b8 g2) hs ha) go
   |sum=>cases hok
   |min=>exact peI (qN (aaL S.calm) (S.glo _ g1) hmg aaM (ih h3) (eH g2) (b8 g2) hs ha) go
   |max=>cases hok
   |abs=>cases hok
   |min2=>cases hok
   |str=>exact peI (qO aaN (S.glo _ g1) hmg Dw (ih h3) (eH g2) (b8 g2) hs ha) go
theorem ab3(S:Stat Φ CX k c E B X){fz:Bool}{f:Lf}{xs:Exs}(ih:fJ Φ c E B X xs){e:Expr}(h:aj c (.lcl fz f xs) e=true):PE X e (tE X.K B (wpE Φ (.lcl fz f xs) E)):=by
 replace h:=Hi h;obtain ⟨x,p,args,pos,rfl,h⟩:=h
 ·simp only[ae,aw]at h;obtain ⟨⟨⟨⟨⟨e1,hok⟩,h1⟩,hm⟩,h2⟩,h3⟩:=h;subst e1;obtain ⟨g1,g2⟩:=dM h1;have hmg:=S.blt _ (aT.mp hm);cases args with
  |nil=>cases h2
  |cons e es=>
   obtain ⟨x0,xs',rfl,c1,c2⟩:=gP h3;have hs:=cj e es X.env (cV (bH x0 c1));have ha:=iM c2 X.env pos;have go:∀σ H Q,tE X.K B (wpE Φ (.lcl fz f (.cons x0 xs')) E) σ H Q->tCB (Ft X.K fz f) (tL X.K B (aM Φ (.cons x0 xs') E)) σ H Q:=λσ H Q hq=>el hq λρ F G e0 he r hw=>by
    rw[sJ]at hw;refine b7 e0 he r hw λds G1 H1 F1 vs q e1 x1 he1 r1 rvs=>?_;exact ⟨F1,G1,ds,r1,rvs,Fb (λd z=>dI (λd G' z=>PV.later z x1) z) q⟩
   cases f with
   |list=>exact peI (qO (aaG S.calm fz) (S.glo _ g1) hmg Dy (ih h3) (eH g2) (b8 g2) hs ha) go
   |sorted=>cases hok
theorem ab4(S:Stat Φ CX k c E B X){fz:Bool}{a:Ex}(iha:OkE Φ c E B X a){e:Expr}(h:aj c (.rgl fz a) e=true):PE X e (tE X.K B (wpE Φ (.rgl fz a) E)):=nomatch (show false=true from h)
theorem ab5(S:Stat Φ CX k c E B X){a:Ex}(iha:OkE Φ c E B X a){e:Expr}(h:aj c (.rgt a) e=true):PE X e (tE X.K B (wpE Φ (.rgt a) E)):=nomatch (show false=true from h)
theorem ab6{t:String}(h:fY t=true):bootBuiltins (Str.ofString t)=some (.type t):=by
 simp only[fY,dc,aw]at h;rcases h with (((rfl |rfl) |rfl) |rfl) |rfl
 ·exact Y5
 ·exact Dv
 ·exact Dw
 ·ac_rfl
 ·exact Dy
theorem ab7(S:Stat Φ CX k c E B X){a:Ex}{t:String}(iha:OkE Φ c E B X a){e:Expr}(h:aj c (.isi a t) e=true):PE X e (tE X.K B (wpE Φ (.isi a t) E)):=by
 replace h:=Hj h;obtain ⟨x,p,v,y,p2,pos,rfl,h⟩:=h
 ·simp only[ae,aw]at h;obtain ⟨⟨⟨⟨⟨⟨⟨e1,h1⟩,hm1⟩,h2⟩,e2⟩,h3⟩,hm2⟩,h4⟩:=h;subst e1 e2;obtain ⟨g1,g2⟩:=dM h1;obtain ⟨g3,g4⟩:=dM h3;have hmg:=S.blt _ (aT.mp hm1);have hmt:=S.blt _ (aT.mp hm2);have hty:PE X (.Name (Str.ofString t) p2) (tC (.ty t)):=Y7 (S.glo _ g3) hmt (ab6 h4) (eH g4) (b8 g4);have sv:=cV (bH a h2);refine peI (qN Y4 (S.glo _ g1) hmg Y6 (jk (iha h2) (jk hty kJ (cj _ _ _ rfl)) (cj _ _ _ sv)) (eH g2) (b8 g2) (cj _ _ _ sv) rfl) λσ H Q hq=>el hq λρ F G e0 he r hw=>?_;rw[sO]at hw;refine aN e0 he r hw λd G1 H1 F1 v q e1 x1 he1 r1 rv=>?_;split at q
  ·rename_i b hb;obtain ⟨T,hk,hT,hb'⟩:=aaR hb;refine ⟨v,t,.type T,b,rfl,aaO r1 rv hk,?_,q _ _ _ x1 r1 rfl⟩;rw[aaQ T t hT h4,hb' h4]
  ·exact q.elim
theorem ab8(S:Stat Φ CX k c E B X){a:Ex}{C:String}{xs:List String}(iha:OkE Φ c E B X a){e:Expr}(h:aj c (.isx a C xs) e=true):PE X e (tE X.K B (wpE Φ (.isx a C xs) E)):=nomatch (show false=true from h)
theorem yI{v:Expr}(h:(!fG v)=true)(name:Str)(env:Env):attributeBase v name env (eval v env)=eval v env:=by
 cases v with
 |Call f args kw pos=>
  cases f with
  |Name id p=>
   cases args with
   |nil=>
    cases kw with
    |nil=>cases h
    |cons _ _=>rfl
   |cons _ _=>rfl
  |_=>rfl
 |_=>rfl
theorem all_plain{es:List Expr}{xs:Exs}(h:aL c xs es=true)(env:Env)(pos:Pos):(backTo pos (starEach es env)).all (λx=>!x.1)=true:=by
 induction es generalizing xs with
 |nil=>rfl
 |cons e es ih=>
  obtain ⟨x0,xs',rfl,c1,c2⟩:=gP h;rw[cj e es env (cV (bH x0 c1))];show (!false&&(backTo pos (starEach es env)).all (λx=>!x.1))=true;rw[ih c2];rfl
theorem ab9(S:Stat Φ CX k c E B X){f:String}{a b ix:Ex}(iha:OkE Φ c E B X a)(ihb:OkE Φ c E B X b)(ihx:OkE Φ c E B X ix){e:Expr}(h:aj c (.rpl f a b ix) e=true):PE X e (tE X.K B (wpE Φ (.rpl f a b ix) E)):=nomatch (show false=true from h)
theorem aca(S:Stat Φ CX k c E B X){C f:String}{o:Ex}(iho:OkE Φ c E B X o){e:Expr}(h:aj c (.fld C f o) e=true):PE X e (tE X.K B (wpE Φ (.fld C f o) E)):=by
 obtain ⟨v,n,p,rfl,hh⟩:=Hk h;rw[ae,ae,ae,aw]at hh;obtain ⟨⟨⟨en,hb⟩,hf⟩,ho⟩:=hh;subst en;obtain ⟨c0,hn,hcl,hna⟩:=S.fld C f (aT.mp hf);refine peI (Xp (iho ho) (yI hb _ X.env)) λσ H Q hq=>el hq λρ F G e0 he r hw=>?_;rw[sS]at hw;refine aN e0 he r hw λd G1 H1 F1 u q e1 x1 he1 r1 ru=>?_;unfold gf at q;split at q
 ·rename_i C' f' q0;obtain ⟨rfl,rfl,q⟩:=q;obtain ⟨a,c1,dx,e2,⟨_,hH⟩,hn1⟩:=ru;have ec:c1=c0:=by rw[hn]at hn1;cases hn1;rfl
  subst ec e2;refine ⟨a,c1,dx,_,.ref q0,rfl,hH,hcl,hna,?_,q H1 F1 _ x1 r1 rfl⟩;show List.lookup _ [(_,_)]=_;simp[List.lookup]
 ·exact q.elim
theorem uF{o:Expr}{name:Str}{apos pos:Pos}{args:List Expr}{env:Env}(hbase:attributeBase o name env (eval o env)=eval o env)
  (hfew:methodCallForm (args.length+([]:List Keyword).length) (backTo pos (starEach args env)) (backToKw pos (keywordEach [] env))=true) (hline:(apos.endLine==pos.line)=true):
  eval (.Call (.Attribute o name apos) args [] pos) env=(do
   let ov <-eval o env
   standAt apos.atName
   let (f,first) <-holding [ov] (getMethod ov name (do return (<-importBound o env).getD true))
   callWith pos f first (backTo pos (starEach args env)) (backToKw pos (keywordEach [] env))):=by
 have hpos:methodCallPos true o env apos pos=pure pos:=by unfold methodCallPos;simp[hline]
 rw[arm_eval_Call,hbase];unfold methodCall;rw[hfew,hpos];rfl
theorem HB{f m:Str}{v:V}(h:(m==f)=false):List.lookup m [(f,v)]=none:=by simp[List.lookup,h]
theorem acb{K:PF}{x:Ex}{σ:L2.St}{H:Hp}{Q Q':VK}(h:tE K B (wpE Φ x E) σ H Q)(hq:∀v H',Q v H'->Q' v H'):tE K B (wpE Φ x E) σ H Q':=by obtain ⟨ρ,F,G,e0,he,r,hw⟩:=h;exact ⟨ρ,F,G,e0,he,r,aG x (λd G1 q H1 F1 v x1 r1 rv=>hq _ _ (q H1 F1 v x1 r1 rv)) hw⟩
theorem acd(S:Stat Φ CX k c E B X){f C m:String}{o:Ex}{xs:Exs}(iho:OkE Φ c E B X o)(ih:fJ Φ c E B X xs){e:Expr}(h:aj c (.mcl f C m o xs) e=true):PE X e (tE X.K B (wpE Φ (.mcl f C m o xs) E)):=by
 obtain ⟨y,p,n,apos,args,cpos,rfl,hh⟩:=yF h;rw[ae,ae,ae,ae,ae,aw]at hh;obtain ⟨⟨⟨⟨⟨en,hl⟩,hlt⟩,hm⟩,ho⟩,hes⟩:=hh;have hlt:=c8 hlt;subst en;obtain ⟨c0,fa,fd,ps,hn,hcl,hmt,hbn,F0⟩:=S.mth _ _ _ _ (aT.mp hm);obtain ⟨EX,hpass,_,hEX⟩:=S.exc;have key:∀{σ:L2.St}{H:Hp}{Q:VK}{ρ:ak}{F:FZ}{G:DH},Ext B.H B.F H F->EnvR X.K H F ρ σ->R X.K H F G->wpE Φ (.mcl f C m o xs) E ρ G (PV X.K H F Q)->(kO c0 (Str.ofString m) (lift X.K (args.length+1) (Φ f)) [] EX (tE X.K B (wpE Φ o E)) (tL X.K B (aM Φ xs E))) σ H Q:=λ{σ H Q ρ F G} e0 he r hw=>by
  rw[sU]at hw;refine aN e0 he r hw λd G1 H1 F1 u q e1 x1 he1 r1 ru=>?_;obtain ⟨qo,q⟩:=q;unfold cX at qo;split at qo
  ·rename_i C' f' q0;obtain ⟨rfl,hne⟩:=qo;have ru':=ru;obtain ⟨a,c1,dx,e2,⟨_,hH⟩,hn1⟩:=ru;have ec:c1=c0:=by rw[hn]at hn1;cases hn1;rfl
   subst ec;subst e2;refine ⟨a,dx,_,rfl,hH,HB hne,b7 e1 he1 r1 (lL _ hes q) λds G2 H2 F2 vs q e2 x2 he2 r2 rvs=>?_⟩;rw[dy];refine ⟨by rw[ck,<-rvs.length,q.1],F2,G2,_::ds,r2,.cons (Rep.ext x2 ru') rvs,Spec.mono q.2 (λd G' z=>PV.later z (x1.trans x2)) λx G' z H' F' x' r'=>?_⟩;exact hEX x G' H' F' z (e2.trans x') r'
  ·exact qo.elim
 have hline:(apos.endLine==cpos.line)=true:=hl;cases args with
 |nil=>
  cases xs with
  |nil=>
   refine peI (XM (iho ho) hcl hmt F0 S.room hbn .nil hpass (ht:=uF rfl rfl hline)) λσ H Q hq=>el hq λρ F G e0 he r hw=>?_;have kk:=key e0 he r hw;unfold kO at kk ⊢;refine acb kk λx H1 ⟨a,dx,fs,h1,h2,h3,h4⟩=>⟨a,dx,fs,h1,h2,h3,?_⟩;obtain ⟨ρ',F',G',e0',he',r',hw'⟩:=h4;rw[gj]at hw';exact hw' H1 F' [] (Ext.refl _ _) r' rfl
  |cons _ _=>cases hes
 |cons e1 es=>
  obtain ⟨x0,xs',rfl,c1,c2⟩:=gP hes;refine peI (XJ (iho ho) hcl hmt F0 S.room hbn .nil hpass (ih hes) (cj e1 es X.env (cV (bH x0 c1))) (iM c2 X.env cpos) (ht:=uF rfl ?_ hline)) λσ H Q hq=>el hq λρ F G e0 he r hw=>key e0 he r hw;unfold methodCallForm;rw[all_plain hes X.env cpos];have e0:(if (backToKw cpos (keywordEach [] X.env)).isEmpty=true then 0 else 1)=0:=rfl;rw[e0,b9 (show (e1::es).length+([]:List Keyword).length+0 < 30 by show (e1::es).length+0+0 < 30;omega)];rfl
theorem ace(S:Stat Φ CX k c E B X){C:String}{xs:Exs}(ih:fJ Φ c E B X xs){e:Expr}(h:aj c (.mko C xs) e=true):PE X e (tE X.K B (wpE Φ (.mko C xs) E)):=by
 obtain ⟨x,p,args,pos,rfl,hh⟩:=Hl h;rw[ae,ae,ae,ae,aw]at hh;obtain ⟨⟨⟨⟨ex,hg⟩,hk⟩,hne⟩,hes⟩:=hh;subst ex;obtain ⟨c0,fa,fd,ps,sp,j,hj,hmg,M,hbn,F0,hsp⟩:=S.mko _ _ (aT.mp hk);obtain ⟨EX,hpass,_,hEX⟩:=S.exc;obtain ⟨g1,g2⟩:=dM hg;cases args with
 |nil=>cases hne
 |cons e1 es=>
  obtain ⟨x0,xs',rfl,c1,c2⟩:=gP hes;refine peI (XQ M F0 (S.room.mono hj) (S.glo _ g1) hmg hbn .nil hpass (ih hes) (b8 g2) (cj e1 es X.env (cV (bH x0 c1))) (iM c2 X.env pos)) λσ H Q hq=>el hq λρ F G e0 he r hw=>?_;rw[sV]at hw;refine b7 e0 he r (lL _ hes hw) λds G1 H1 F1 vs q e1 x1 he1 r1 rvs=>λx dx hx hdx hne=>?_;rw[dy];refine hsp vs H1 Q EX ⟨by rw[<-rvs.length,q.1],F1,G1,ds,r1,rvs,Spec.mono q.2 (λd G' z=>PV.later z x1) λx G' z H' F' x' r'=>?_⟩ x dx hx hdx hne;exact hEX x G' H' F' z (e1.trans x') r'
theorem acf(S:Stat Φ CX k c E B X){o:Ex}(iho:OkE Φ c E B X o){e:Expr}(h:aj c (.pp0 o) e=true):PE X e (tE X.K B (wpE Φ (.pp0 o) E)):=by
 obtain ⟨v,n,apos,cpos,rfl,hh⟩:=Hm h;rw[ae,ae,ae,aw]at hh;obtain ⟨⟨⟨en,hb⟩,hl⟩,ho⟩:=hh;subst en;refine peI (Yw dE PySem.F.slot_list_pop PySem.F.type_list_pop aa3 (iho ho) (yI hb _ X.env) hl) λσ H Q hq=>el hq λρ F G e0 he r hw=>?_;rw[sW]at hw;refine aN e0 he r hw λd G1 H1 F1 u q e1 x1 he1 r1 ru=>⟨?_,F1,G1,d,r1,ru,rfl,?_⟩
 ·unfold fB at q;split at q
  ·rename_i p;split at q
   ·rename_i ds hg;obtain ⟨vs,hv,_⟩:=r1.lst hg;have e2:u=.ref p:=ru;subst e2;exact .inl ⟨rfl,vs,SqL.of hv⟩
   ·exact q.elim
  ·exact q.elim
 ·unfold fB at q ⊢;split at q
  ·split at q
   ·split at q
    ·exact PV.later q x1
    ·exact q
   ·exact q
  ·exact q
theorem acg(S:Stat Φ CX k c E B X){m:Mf}{o:Ex}{xs:Exs}(iho:OkE Φ c E B X o)(ih:fJ Φ c E B X xs){e:Expr}(h:aj c (.mth m o xs) e=true):PE X e (tE X.K B (wpE Φ (.mth m o xs) E)):=by
 replace h:=Hn h;obtain ⟨v,x,apos,args,cpos,rfl,h⟩:=h
 ·simp only[ae,aw,bv]at h;obtain ⟨⟨⟨⟨⟨⟨e1,h1⟩,hb⟩,hl⟩,hn⟩,h2⟩,h3⟩:=h;subst e1;cases args with
  |nil=>cases h2
  |cons e es=>
   obtain ⟨x0,xs',rfl,c1,c2⟩:=gP h3;have hs:=cj e es X.env (cV (bH x0 c1));have ha:=iM c2 X.env cpos;have hbase:=yI hb (Str.ofString m.name) X.env;have hfew:((backTo cpos (starEach (e::es) X.env)).all (λx=>!x.1)&&(backToKw cpos (keywordEach [] X.env)).all (λx=>x.1.isSome)
    &&decide ((e::es).length+([]:List Keyword).length+(if ([]:List Keyword).isEmpty then 0 else 1) < 30))=true:=by
    rw[all_plain h3 X.env cpos];have:(e::es).length+([]:List Keyword).length+(if ([]:List Keyword).isEmpty then 0 else 1) < 30:=by have e0:(if ([]:List Keyword).isEmpty=true then 0 else 1)=0:=rfl;rw[e0];show (e::es).length+0+0 < 30;omega
    rw[b9 this];rfl
   have hline:(apos.endLine==cpos.line)=true:=by rw[aw];exact hl
   have lst:∀{d:D} {u:V} {G1:DH} {H1:Hp} {F1:FZ},(match d with |.ref p=>(match G1 p with |some (.lst _)=>True |none=>False) |_=>False)->R X.K H1 F1 G1->Rep X.K H1 F1 d u->tyV X.K "list" u H1:=λ{d u G1 H1 F1} q r1 ru=>by
    split at q
    ·rename_i p;split at q
     ·rename_i ds hg;obtain ⟨vs,hv,_⟩:=r1.lst hg;have e2:u=.ref p:=ru;subst e2;exact .inl ⟨rfl,vs,SqL.of hv⟩
     ·exact q.elim
    ·exact q.elim
   have lstV:∀{d:D} {u:V} {G1:DH} {H1:Hp} {F1:FZ},xf (view G1 d)->R X.K H1 F1 G1->Rep X.K H1 F1 d u->tyV X.K "list" u H1:=λ{d u G1 H1 F1} q r1 ru=>by
    generalize hv:view G1 d=w at q;cases w with
    |lst ds=>
     obtain ⟨a,vs,rfl,sq,_⟩:=Rep.list r1 ru hv;exact .inl ⟨rfl,vs,sq⟩
    |_=>exact (show False from q).elim
   cases m with
   |join=>
    refine peI (ik PySem.F.plainAttrs_str PySem.F.slot_str_join PySem.F.type_str_join aaS (iho h1) (ih h3) hbase hfew hline hs ha) λσ H Q hq=>el hq λρ F G e0 he r hw=>?_;rw[fD]at hw;refine aN e0 he r hw λd G1 H1 F1 u q e1 x1 he1 r1 ru=>⟨?_,b7 e1 he1 r1 q.2 λds G2 H2 F2 vs q e2 x2 he2 r2 rvs=>?_⟩
    ·have q1:=q.1;cases d with
     |str l=>obtain ⟨e2,_⟩:=ru;subst e2;exact rfl
     |_=>exact (show False from q1).elim
    ·exact ⟨F2,G2,d,ds,r2,Rep.ext x2 ru,rvs,gK (λd G' z=>PV.later z (x1.trans x2)) q⟩
   |append=>
    refine peI (ik dE PySem.F.slot_list_append PySem.F.type_list_append aaT (iho h1) (ih h3) hbase hfew hline hs ha) λσ H Q hq=>el hq λρ F G e0 he r hw=>?_;rw[fD]at hw;refine aN e0 he r hw λd G1 H1 F1 u q e1 x1 he1 r1 ru=>⟨?_,b7 e1 he1 r1 q.2 λds G2 H2 F2 vs q e2 x2 he2 r2 rvs=>?_⟩
    ·refine lst (d:=d) (G1:=G1) ?_ r1 ru;have q1:=q.1;cases d <;> first |exact q1 |exact (show False from q1).elim
    ·exact ⟨F2,G2,d,ds,r2,Rep.ext x2 ru,rvs,gK (λd G' z=>PV.later z (x1.trans x2)) q⟩
   |extend=>
    refine peI (ik dE PySem.F.slot_list_extend PySem.F.type_list_extend aa5 (iho h1) (ih h3) hbase hfew hline hs ha) λσ H Q hq=>el hq λρ F G e0 he r hw=>?_;rw[fD]at hw;refine aN e0 he r hw λd G1 H1 F1 u q e1 x1 he1 r1 ru=>⟨?_,b7 e1 he1 r1 q.2 λds G2 H2 F2 vs q e2 x2 he2 r2 rvs=>?_⟩
    ·refine lst (d:=d) (G1:=G1) ?_ r1 ru;have q1:=q.1;cases d <;> first |exact q1 |exact (show False from q1).elim
    ·exact ⟨F2,G2,d,ds,r2,Rep.ext x2 ru,rvs,gK (λd G' z=>PV.later z (x1.trans x2)) q⟩
   |insert=>
    refine peI (ik dE PySem.F.slot_list_insert PySem.F.type_list_insert aa0 (iho h1) (ih h3) hbase hfew hline hs ha) λσ H Q hq=>el hq λρ F G e0 he r hw=>?_;rw[fD]at hw;refine aN e0 he r hw λd G1 H1 F1 u q e1 x1 he1 r1 ru=>⟨?_,b7 e1 he1 r1 q.2 λds G2 H2 F2 vs q e2 x2 he2 r2 rvs=>?_⟩
    ·refine lst (d:=d) (G1:=G1) ?_ r1 ru;have q1:=q.1;cases d <;> first |exact q1 |exact (show False from q1).elim
    ·exact ⟨F2,G2,d,ds,r2,Rep.ext x2 ru,rvs,gK (λd G' z=>PV.later z (x1.trans x2)) q⟩
   |pop=>
    refine peI (ik dE PySem.F.slot_list_pop PySem.F.type_list_pop aa1 (iho h1) (ih h3) hbase hfew hline hs ha) λσ H Q hq=>el hq λρ F G e0 he r hw=>?_;rw[fD]at hw;refine aN e0 he r hw λd G1 H1 F1 u q e1 x1 he1 r1 ru=>⟨?_,b7 e1 he1 r1 q.2 λds G2 H2 F2 vs q e2 x2 he2 r2 rvs=>?_⟩
    ·refine lst (d:=d) (G1:=G1) ?_ r1 ru;have q1:=q.1;cases d <;> first |exact q1 |exact (show False from q1).elim
    ·exact ⟨F2,G2,d,ds,r2,Rep.ext x2 ru,rvs,gK (λd G' z=>PV.later z (x1.trans x2)) q⟩
   |count=>
    refine peI (ik dE PySem.F.slot_list_count PySem.F.type_list_count aaU (iho h1) (ih h3) hbase hfew hline hs ha) λσ H Q hq=>el hq λρ F G e0 he r hw=>?_;rw[fD]at hw;refine aN e0 he r hw λd G1 H1 F1 u q e1 x1 he1 r1 ru=>⟨lstV q.1 r1 ru,b7 e1 he1 r1 q.2 λds G2 H2 F2 vs q e2 x2 he2 r2 rvs=>?_⟩;exact ⟨F2,G2,d,ds,r2,Rep.ext x2 ru,rvs,gK (λd G' z=>PV.later z (x1.trans x2)) q⟩
   |index=>
    refine peI (ik dE PySem.F.slot_list_index PySem.F.type_list_index aaV (iho h1) (ih h3) hbase hfew hline hs ha) λσ H Q hq=>el hq λρ F G e0 he r hw=>?_;rw[fD]at hw;refine aN e0 he r hw λd G1 H1 F1 u q e1 x1 he1 r1 ru=>⟨lstV q.1 r1 ru,b7 e1 he1 r1 q.2 λds G2 H2 F2 vs q e2 x2 he2 r2 rvs=>?_⟩;exact ⟨F2,G2,d,ds,r2,Rep.ext x2 ru,rvs,gK (λd G' z=>PV.later z (x1.trans x2)) q⟩
end
section
variable {Φ:aa} {CX:CXT} {k:Nat} {c:CT} {E:EK} {B:Bs} {X:Cx}
def EachE(Φ:aa)(c:CT)(E:EK)(B:Bs)(X:Cx):Exs->Prop
 |.nil=>True
 |.cons e es=>OkE Φ c E B X e/\EachE Φ c E B X es
def uG(Φ:aa)(c:CT)(E:EK)(B:Bs)(X:Cx):Txs->Prop
 |.nil=>True
 |.cons e es=>OkT Φ c E B X e/\uG Φ c E B X es
theorem ach(S:Stat Φ CX k c E B X){es:Exs}(ih:EachE Φ c E B X es){e:Expr}(h:aj c (.fst es) e=true):PE X e (tE X.K B (wpE Φ (.fst es) E)):=nomatch (show false=true from h)
theorem EachE.oks:∀{xs:Exs},EachE Φ c E B X xs->fJ Φ c E B X xs
 |.nil,_=>by intro h;exact yH h
 |.cons x xs,hh=>by intro h;exact uE hh.1 (EachE.oks hh.2) h
def uH(Φ:aa)(E:EK)(isAnd:Bool)(x:Ex)(xs:Exs):ak->DH->(D->DH->Prop)->Prop:=λρ G kk=>wpE Φ x E ρ G λd G1=>match d with |.bl b=>wpB Φ xs isAnd b E ρ G1 (λc G2=>kk (.bl c) G2) |_=>False
theorem HF{isAnd:Bool}{pos:Pos}:∀(xs:Exs){x:Ex},OkE Φ c E B X x->EachE Φ c E B X xs->∀{v:Expr}{vs:List Expr},aj c x v=true->aL c xs vs=true->
  PE X (.BoolOp (if isAnd then .And else .Or) (v::vs) pos) (tE X.K B (uH Φ E isAnd x xs))
 |.nil,x,ih,_,v,vs,h1,h2=>by
  unfold aL at h2;cases vs with
  |nil=>
   refine peI (VR (ih h1)) λσ H Q hq=>el hq λρ F G e0 he r hw=>?_;unfold uH at hw;refine aN e0 he r hw λd G1 H1 F1 u q e1 x1 he1 r1 ru=>?_;split at q
   ·rw[rG]at q;exact q _ _ _ x1 r1 ru
   ·exact q.elim
  |cons _ _=>cases h2
 |.cons y ys,x,ih,hh,v,vs,h1,h2=>by
  unfold aL at h2;split at h2
  ·rename_i w ws;rw[ae]at h2;have rest:=HF (isAnd:=isAnd) (pos:=pos) ys hh.1 hh.2 h2.1 h2.2;cases isAnd with
   |true=>
    refine peI (VV (ih h1) rest) λσ H Q hq=>el hq λρ F G e0 he r hw=>?_;unfold uH at hw;refine aN e0 he r hw λd G1 H1 F1 u q e1 x1 he1 r1 ru=>?_;split at q
    ·rename_i b;refine ⟨b,ru,?_⟩;rw[lg]at q;cases b with
     |true=>
      rw[if_pos rfl];exact ⟨ρ,F1,G1,e1,he1,r1,aG y (λd G' z=>by
       cases d <;> first |exact (show False from z).elim |exact ud ys (λc G2 z=>PV.later z x1) z) q⟩
     |false=>
      rw[if_neg bo];exact q _ _ _ x1 r1 rfl
    ·exact q.elim
   |false=>
    refine peI (V0 (ih h1) rest) λσ H Q hq=>el hq λρ F G e0 he r hw=>?_;unfold uH at hw;refine aN e0 he r hw λd G1 H1 F1 u q e1 x1 he1 r1 ru=>?_;split at q
    ·rename_i b;refine ⟨b,ru,?_⟩;rw[lg]at q;cases b with
     |false=>
      rw[if_neg bo];exact ⟨ρ,F1,G1,e1,he1,r1,aG y (λd G' z=>by
       cases d <;> first |exact (show False from z).elim |exact ud ys (λc G2 z=>PV.later z x1) z) q⟩
     |true=>
      rw[if_pos rfl];exact q _ _ _ x1 r1 rfl
    ·exact q.elim
  ·cases h2
theorem aci{isAnd:Bool}{x:Ex}{xs:Exs}(ih:OkE Φ c E B X x)(hh:EachE Φ c E B X xs){e:Expr}(h:aj c (.boo isAnd x xs) e=true):PE X e (tE X.K B (wpE Φ (.boo isAnd x xs) E)):=by
 replace h:=GX h;obtain ⟨_,_,_,_,rfl,h⟩:=h
 ·simp only[ae,aw]at h;obtain ⟨⟨e1,h1⟩,h2⟩:=h;subst e1;refine peI (HF xs ih hh h1 h2) λσ H Q hq=>el hq λρ F G e0 he r hw=>⟨ρ,F,G,e0,he,r,?_⟩;rw[rZ]at hw;exact hw
theorem acj{t:Tx}{a b:Ex}(iht:OkT Φ c E B X t)(iha:OkE Φ c E B X a)(ihb:OkE Φ c E B X b){e:Expr}(h:aj c (.ife t a b) e=true):PE X e (tE X.K B (wpE Φ (.ife t a b) E)):=by
 replace h:=GZ h;obtain ⟨_,_,_,_,rfl,h⟩:=h
 ·simp only[ae]at h;obtain ⟨⟨h1,h2⟩,h3⟩:=h;refine peI (V1 (iht h1) (iha h2) (ihb h3)) λσ H Q hq=>el hq λρ F G e0 he r hw=>?_;rw[sr]at hw;refine iK e0 he r hw λb' G1 H1 F1 q e1 x1 he1 r1=>?_;cases b' with
  |true=>
   rw[if_pos rfl];exact ⟨ρ,F1,G1,e1,he1,r1,aG a (λd G' z=>PV.later z x1) q⟩
  |false=>
   rw[if_neg bo];exact ⟨ρ,F1,G1,e1,he1,r1,aG b (λd G' z=>PV.later z x1) q⟩
theorem ack{x:Ex}(ih:OkE Φ c E B X x){e:Expr}(hp:iD e=true)(h:aj c x e=true):PT X e (tB' X.K B (wpT Φ (.val x) E)):=by
 refine ptI (Xa (ih h) (abN hp X.env)) λσ H Q hq=>el hq λρ F G e0 he r hw=>?_;rw[jz]at hw;refine aN e0 he r hw λd G1 H1 F1 u q e1 x1 he1 r1 ru=>?_;split at q
 ·rename_i b hb;exact ⟨b,Fq r1 ru hb,q _ _ x1 r1⟩
 ·exact q.elim
theorem acl{t:Tx}(ih:OkT Φ c E B X t){e:Expr}(h:bx c (.not t) e=true):PT X e (tB' X.K B (wpT Φ (.not t) E)):=by
 replace h:=abu h;obtain ⟨_,_,rfl,h⟩:=h
 ·refine ptI (VM (ih h)) λσ H Q hq=>el hq λρ F G e0 he r hw=>?_;rw[rD]at hw;exact iK e0 he r hw λb G1 H1 F1 q e1 x1 he1 r1=>q _ _ x1 r1
def lM(Φ:aa)(E:EK)(isAnd:Bool)(x:Tx)(xs:Txs):ak->DH->(Bool->DH->Prop)->Prop:=λρ G kk=>wpT Φ x E ρ G λb G1=>gh Φ xs isAnd b E ρ G1 kk
theorem HH{isAnd:Bool}{pos:Pos}:∀(xs:Txs){x:Tx},OkT Φ c E B X x->uG Φ c E B X xs->∀{v:Expr}{vs:List Expr},bx c x v=true->iI c xs vs=true->
  PW X (.BoolOp (if isAnd then .And else .Or) (v::vs) pos) (tB' X.K B (lM Φ E isAnd x xs))
 |.nil,x,ih,_,v,vs,h1,h2=>by
  unfold iI at h2;cases vs with
  |nil=>
   have go:∀σ H Q,tB' X.K B (lM Φ E isAnd x .nil) σ H Q->tB' X.K B (wpT Φ x E) σ H Q:=λσ H Q hq=>el hq λρ F G e0 he r hw=>by
    unfold lM at hw;refine ⟨ρ,F,G,e0,he,r,cT x (λb G1 q=>?_) hw⟩;rw[rH]at q;exact q
   cases isAnd with
   |true=>exact pwI (VG (ih h1)) go
   |false=>exact pwI (VH (ih h1)) go
  |cons _ _=>cases h2
 |.cons y ys,x,ih,hh,v,vs,h1,h2=>by
  unfold iI at h2;split at h2
  ·rename_i w ws;rw[ae]at h2;have rest:=HH (isAnd:=isAnd) (pos:=pos) ys hh.1 hh.2 h2.1 h2.2;cases isAnd with
   |true=>
    refine pwI (VJ (ih h1) rest) λσ H Q hq=>el hq λρ F G e0 he r hw=>?_;unfold lM at hw;refine iK e0 he r hw λb G1 H1 F1 q e1 x1 he1 r1=>?_;rw[lq]at q;cases b with
    |true=>
     rw[if_pos rfl];exact ⟨ρ,F1,G1,e1,he1,r1,cT y (λb' G' z=>ue ys (λc G2 z=>PB.later z x1) z) q⟩
    |false=>
     rw[if_neg bo];exact q _ _ x1 r1
   |false=>
    refine pwI (VL (ih h1) rest) λσ H Q hq=>el hq λρ F G e0 he r hw=>?_;unfold lM at hw;refine iK e0 he r hw λb G1 H1 F1 q e1 x1 he1 r1=>?_;rw[lq]at q;cases b with
    |false=>
     rw[if_neg bo];exact ⟨ρ,F1,G1,e1,he1,r1,cT y (λb' G' z=>ue ys (λc G2 z=>PB.later z x1) z) q⟩
    |true=>
     rw[if_pos rfl];exact q _ _ x1 r1
  ·cases h2
theorem acn{isAnd:Bool}{x:Tx}{xs:Txs}(ih:OkT Φ c E B X x)(hh:uG Φ c E B X xs){e:Expr}(h:bx c (.boo isAnd x xs) e=true):PT X e (tB' X.K B (wpT Φ (.boo isAnd x xs) E)):=by
 replace h:=abv h;obtain ⟨_,_,_,_,rfl,h⟩:=h
 ·simp only[ae,aw]at h;obtain ⟨⟨e1,h1⟩,h2⟩:=h;subst e1;refine ptI (PW.pt (HH xs ih hh h1 h2)) λσ H Q hq=>el hq λρ F G e0 he r hw=>⟨ρ,F,G,e0,he,r,?_⟩;rw[rE]at hw;exact hw
def tG(K:PF)(B:Bs)(t:Tg):TG:=λv σ H Q=>∃ρ F G d,Ext B.H B.F H F/\EnvR K H F ρ σ/\R K H F G/\Rep K H F d v/\aZ t d ρ G (λρ'=>∀σ',EnvR K H F ρ' σ'->Q σ' H)
def tGs(K:PF)(B:Bs)(t:Tgs):TGs:=λvs σ H Q=>∃ρ F G ds,Ext B.H B.F H F/\EnvR K H F ρ σ/\R K H F G/\Reps K H F ds vs/\bD t ds ρ G (λρ'=>∀σ',EnvR K H F ρ' σ'->Q σ' H)
theorem uI:∀{ts:Tgs}{es:List Expr}{env:Env},cB c ts es=true->(assignEach es env).length=es.length/\(assignEach es env).findIdx? (·.1)=none/\(assignEach es env).map (·.2)=es.map λe=>assign e env
 |.nil,[],env,_=>⟨rfl,rfl,rfl⟩
 |.nil,_::_,env,h=>by unfold cB at h;cases h
 |.cons t r,[],env,h=>by unfold cB at h;cases h
 |.cons t r,e::es,env,h=>by
  unfold cB at h;rw[ae]at h;obtain ⟨h1,h2,h3⟩:=uI (env:=env) h.2;have hs:assignEach (e::es) env=(false,assign e env)::assignEach es env:=by
   cases t with
   |nm i=>
    have h':=h.1;obtain ⟨_,_,rfl,_⟩:=yD h';rfl
   |tp ts=>
    have h':=h.1;obtain ⟨_,_,_,rfl,_⟩:=yE h';rfl
  rw[hs];refine ⟨by simp[h1],?_,by simp[h3]⟩;rw[eW];simp[h2]
section
variable {prog:Program} {w:World} {A:Around} {E:Value->Shared->Prop} {s:Shared}
theorem HJ{it t:Addr}{items:Array Value}(hne:t≠it):∀(n i:Nat)(s:Shared)(Q:List Value->Shared->Prop),s.heap.IsListIter it t i->s.heap.IsList t items->i+n<=items.size->
  (∀h',h'.IsListIter it t (i+n)->Heap.SameBut it s.heap h'->Q ((items.toList.drop i).take n) { s with heap:=h' })->wpAny (model prog w) A (draw (.ref it) n) Q E s
 |0,i,s,Q,hit,_,_,hQ=>by
  show wpAny _ _ (pure []) Q E s;exact bn (by simpa using hQ s.heap hit (Heap.SameBut.refl ..))
 |n+1,i,s,Q,hit,ht,hle,hQ=>by
  have hlt:i < items.size:=by omega
  show wpAny _ _ (pyNext (.ref it) >>= _) Q E s;refine ah (wpAny_pyNext_list_item hit ht (x:=items[i]) (by simp[hlt]) λh₁ hit₁ hs₁=>?_);refine ah (eT (HJ hne n (i+1) _ _ hit₁ (ht.extBut hs₁.extBut hne) (by omega) λh₂ hit₂ hs₂=>bn ?_));have hd:items.toList.drop i=items[i]::items.toList.drop (i+1):=by simp[ca,hlt]
  have:=hQ h₂ (by rw[show i+(n+1)=i+1+n by omega];exact hit₂) (hs₁.trans hs₂);rw[hd,List.take_succ_cons]at this;exact this
theorem aco{t:Addr}{items:Array Value}{Q:List Value->Shared->Prop}(hh:A.handled=none)(ht:s.heap.IsList t items)
  (hQ:∀h',Heap.ExtBut s.heap.objs.size s.heap h'->Q items.toList { s with heap:=h' }):wpAny (model prog w) A (unpackItems (.ref t) items.size none) Q E s:=by
 have hlt:t≠s.heap.objs.size:=by obtain ⟨o,ho,_⟩:=ht;exact cr (aE ho)
 unfold unpackItems;refine ah ?_;unfold notIterableAtAll;refine ah (wpAny_specialOf ht.typeIs PySem.F.slot_list_iter.lookup ?_);refine bn ?_;simp only[Bool.false_eq_true,if_false];refine ah (eT (wpAny_pyIter_list ht ?_));refine ah (eT (HJ hlt items.size 0 _ _ ⟨_,bb _ rfl,rfl,rfl⟩ (ht.push _) (by omega) λh₁ hit₁ hs₁=>?_));have hall:List.take items.size (List.drop 0 items.toList)=items.toList:=by rw[List.drop_zero];exact ej (by simp)
 rw[hall];rw[if_neg (by simp)];have ht₁:h₁.IsList t items:=(ht.push _).extBut hs₁.extBut hlt;refine ah (eT (wpAny_pyNext_list_end hh hit₁ ht₁ (by simp) λh₂ he₂=>?_));simp only[Option.isSome_none,Bool.false_eq_true,if_false];refine bn (hQ h₂ λb o hb e=>he₂ b o hb (hs₁.extBut b o hb (al _ e)))
theorem acp{env:Env}{elts:List Expr}{x1}{pos:Pos}{t:Addr}{items:Array Value}{Q:Unit->Shared->Prop}(hh:A.handled=none)(ht:s.heap.IsList t items)
  (hn:(assignEach elts env).length=items.size) (hstar:(assignEach elts env).findIdx? (·.1)=none)
  (h:∀h',Heap.ExtBut s.heap.objs.size s.heap h'->wpAny (model prog w) A (assignInOrder ((assignEach elts env).map (·.2)) items.toList) Q E { s with heap:=h' }):
  wpAny (model prog w) A (assign (.Tuple elts x1 pos) env (.ref t)) Q E s:=by
 rw[assign_Tuple];refine ah (wpAny_standAt ?_);unfold unpack;rw[hn,hstar];exact ah (eT (aco hh ht h))
end
section
variable {X:Cx} {pos:Pos}
def acq(K:PF)(n:Nat)(t:TGs):TG:=λv σ H Q=>∃a xs,v=.ref a/\SqL K H a xs/\xs.length=n/\t xs σ H Q
theorem acr{es:List Expr}{k:Nat}{t:TGs}{n:Nat}(hc:X.calm=true)(h:PGs X es t)
  (hn:(assignEach es X.env).length=n:=by rfl) (hst:(assignEach es X.env).findIdx? (·.1)=none:=by rfl):PG X (.Tuple es k pos) (acq X.K n t):=by
 intro pins s σ H v u Q I r hw;obtain ⟨a,xs,e1,hq,hl,hw⟩:=hw;subst e1;cases r;obtain ⟨its,rv,pl,hz⟩:=I.list hq;refine acp (I.ok.hd hc) pl.isList (by simp[hn,<-hl,rv.length]) hst λh' hx=>?_;have I1:Inv X pins σ H { s with heap:=h' }:=I.kept (t':=s.toks) λb o e=>hx b o (cr (aE e)) e;exact h pins _ σ H xs _ Q I1 (by simpa using rv) hw
end
mutual
theorem uJ(S:Stat Φ CX k c E B X):∀(t:Tg){e:Expr},cL c t e=true->PG X e (tG X.K B t)
 |.nm i,e,h=>by
  replace h:=yD h;obtain ⟨x,pos,rfl,h⟩:=h
  ·skip;rw[ae,aw]at h;obtain ⟨l,f⟩:=S.sto x h.2;intro pins s σ H v u Q I rv q;refine Wj (i:=i) S.nd (by rw[S.N];exact h.1) l f pins s σ H v u Q I rv ?_;obtain ⟨ρ,F,G,d,e0,he,r,rd,hw⟩:=q;unfold aZ at hw;exact hw _ (he.set rd i)
 |.tp ts,e,h=>by
  replace h:=yE h;obtain ⟨es,kk,pos,rfl,h⟩:=h
  ·skip;obtain ⟨h1,h2,h3⟩:=uI (env:=X.env) h;intro pins s σ H v u Q I rv q;obtain ⟨ρ,F,G,d,e0,he,r,rd,hw⟩:=q;unfold aZ at hw;split at hw
   ·rename_i ds;refine Wq (n:=es.length) S.calm (yJ S ts h) h1 h2 pins s σ H v u Q I rv ?_;obtain ⟨a,vs,e1,q,t⟩:=rd;refine ⟨a,vs,e1,q.sq,?_,ρ,F,G,ds,e0,he,r,t,hw⟩;rw[<-t.length];exact yK ts h hw
   ·rename_i ds;refine acr (n:=es.length) S.calm (yJ S ts h) h1 h2 pins s σ H v u Q I rv ?_;obtain ⟨a,vs,e1,q,t⟩:=rd;refine ⟨a,vs,e1,q.sq,?_,ρ,F,G,ds,e0,he,r,t,hw⟩;rw[<-t.length];exact yK ts h hw
   ·exact hw.elim
theorem yJ(S:Stat Φ CX k c E B X):∀(ts:Tgs){es:List Expr},cB c ts es=true->PGs X es (tGs X.K B ts)
 |.nil,es,h=>by
  unfold cB at h;cases es with
  |nil=>
   intro pins s σ H vs us Q I rv q;refine Wm pins s σ H vs us Q I rv ?_;obtain ⟨ρ,F,G,ds,e0,he,r,rd,hw⟩:=q;unfold bD at hw;split at hw
   ·exact ⟨rd,hw _ he⟩
   ·exact hw.elim
  |cons _ _=>cases h
 |.cons t r,es,h=>by
  unfold cB at h;split at h
  ·rename_i e es;rw[ae]at h;intro pins s σ H vs us Q I rv q;have hs:(assignEach (e::es) X.env).map (·.2)=assign e X.env::(assignEach es X.env).map (·.2):=by
    have hh:cB c (.cons t r) (e::es)=true:=by unfold cB;show (cL c t e&&cB c r es)=true;rw[h.1,h.2];rfl
    rw[(uI (env:=X.env) hh).2.2,(uI (env:=X.env) h.2).2.2];rfl
   refine Wn (uJ S t h.1) (yJ S r h.2) hs pins s σ H vs us Q I rv ?_;obtain ⟨ρ,F,G,ds,e0,he,rr,rd,hw⟩:=q;unfold bD at hw;split at hw
   ·rename_i d ds;obtain ⟨v,vs',e1,rd1,rds⟩:=rd;refine ⟨v,vs',e1,ρ,F,G,d,e0,he,rr,rd1,gk (λρ' z σ' he'=>?_) t hw⟩;exact ⟨ρ',F,G,ds,e0,he',rr,rds,z⟩
   ·exact hw.elim
  ·cases h
theorem yK{G:DH}:∀(ts:Tgs){es:List Expr}{ds:List D}{ρ:ak}{Q:ak->Prop},cB c ts es=true->bD ts ds ρ G Q->ds.length=es.length
 |.nil,es,ds,ρ,Q,h,q=>by
  unfold cB at h;unfold bD at q;split at q
  ·cases es with
   |nil=>rfl
   |cons _ _=>cases h
  ·exact q.elim
 |.cons t r,es,ds,ρ,Q,h,q=>by
  unfold cB at h;split at h
  ·rw[ae]at h;unfold bD at q;split at q
   ·rename_i d ds;have:∃ρ',bD r ds ρ' G Q:=HN t q;obtain ⟨ρ',q'⟩:=this;have:=yK r h.2 q';simp[this]
   ·exact q.elim
  ·cases h
theorem HN{G:DH}:∀(t:Tg){d:D}{ρ:ak}{Q:ak->Prop},aZ t d ρ G Q->∃ρ',Q ρ'
 |.nm i,d,ρ,Q,q=>⟨_,q⟩
 |.tp ts,d,ρ,Q,q=>by
  unfold aZ at q;split at q
  ·exact yL ts q
  ·exact yL ts q
  ·exact q.elim
theorem yL{G:DH}:∀(ts:Tgs){ds:List D}{ρ:ak}{Q:ak->Prop},bD ts ds ρ G Q->∃ρ',Q ρ'
 |.nil,ds,ρ,Q,q=>by
  unfold bD at q;split at q
  ·exact ⟨_,q⟩
  ·exact q.elim
 |.cons t r,ds,ρ,Q,q=>by
  unfold bD at q;split at q
  ·obtain ⟨ρ',q'⟩:=HN t q;exact yL r q'
  ·exact q.elim
end
end
structure WalkJ(K:PF)(H:Hp)(F:FZ)(items:List D)(g:Hld)(J:It):Prop where
 go:∀H' F' G i,Ext H F H' F'->R K H' F' G->held g G->i < items.length->J.go i H'
 stop:∀H' F' G,Ext H F H' F'->R K H' F' G->held g G->J.stop items.length H'
 yld:∀H' F' i x H'' d G,Ext H F H' F'->R K H' F' G->held g G->items[i]?=some d->J.yld i H' x H''->Ext H' F' H'' F'/\R K H'' F' G/\Rep K H'' F' d x
section
variable {K:PF} {H:Hp} {F:FZ}
structure Src(K:PF)(H:Hp)(F:FZ)(u:Value)(ds:List D)(g:Hld)(k:SK):Prop where
 val:k.val=u
 sat:∀H' F' G,Ext H F H' F'->R K H' F' G->held g G->∃vs,k.Sat H' vs/\Reps K H' F' ds vs
theorem uK{d:D}{v:V}{u:Value}{G:DH}{ds:List D×Hld}(h:Rep K H F d v)(r:RelV v u)(e:itemsOf G d=some ds):∃k,Src K H F u ds.1 ds.2 k:=by
 cases d with
 |lst xs=>
  simp only[itemsOf,aI]at e;subst e;obtain ⟨a,vs,e1,q,t⟩:=h;subst e1;have hu:u=Value.ref a:=r;subst hu;exact ⟨.lst a,rfl,λH' F' G' x _ _=>⟨vs,(FzL.ext x q).2,Reps.ext x t⟩⟩
 |tup xs=>
  simp only[itemsOf,aI]at e;subst e;obtain ⟨a,vs,e1,q,t⟩:=h;subst e1;have hu:u=Value.ref a:=r;subst hu;exact ⟨.tup a,rfl,λH' F' G' x _ _=>⟨vs,(TpT.ext (K:=K) x q).it,Reps.ext x t⟩⟩
 |str l=>
  simp only[itemsOf,aI]at e;subst e;obtain ⟨e1,hl⟩:=h;subst e1;obtain ⟨t,hu⟩:∃t,u=Value.str (tx l) t:=r;subst hu;exact ⟨.str (tx l) t,rfl,λH' F' G' x _ _=>⟨_,rfl,by simpa using ym l⟩⟩
 |ref p=>
  simp only[itemsOf]at e;split at e
  ·rename_i xs hg;simp only[aI]at e;subst e;have e1:v=.ref p:=h;subst e1;have hu:u=Value.ref p:=r;subst hu;exact ⟨.lst p,rfl,λH' F' G' x r' hh=>r'.lst hh.1⟩
  ·cases e
 |_=>cases e
theorem uL{G:DH}{d:D}{ds:List D×Hld}(e:itemsOf G d=some ds):held ds.2 G:=by
 cases d with
 |ref p=>
  simp only[itemsOf]at e;split at e
  ·rename_i xs hg;simp only[aI]at e;subst e;exact ⟨hg,trivial⟩
  ·cases e
 |_=>simp only[itemsOf]at e;first | (cases e;done) | (simp only[aI]at e;subst e;exact trivial)
theorem acs{u:Value}{ds:List D}{g:Hld}{k:SK}(s:Src K H F u ds g k):WalkJ K H F ds g (Jk k) where
 go:=λH' F' G i x r hh hi=>by
  obtain ⟨vs,h1,h2⟩:=s.sat H' F' G x r hh;exact ⟨vs,h1,by rw[<-h2.length];exact hi⟩
 stop:=λH' F' G x r hh=>by
  obtain ⟨vs,h1,h2⟩:=s.sat H' F' G x r hh;exact ⟨vs,h1,h2.length.symm⟩
 yld:=λH' F' i v H'' d G x r hh hd y=>by
  obtain ⟨e,hv⟩:=y;subst e;obtain ⟨vs,h1,h2⟩:=s.sat _ F' G x r hh;obtain ⟨w,e1,rw'⟩:=h2.get hd;have e2:=hv vs h1;rw[e1]at e2;cases e2;exact ⟨Ext.refl _ _,r,rw'⟩
theorem jJ:∀(n:Nat)(ds:List D),(dG n ds).length=ds.length
 |_,[]=>rfl
 |n,d::ds=>by simp[dG,jJ (n+1) ds]
theorem jK:∀(n:Nat)(ds:List D)(i:Nat),(dG n ds)[i]?=(ds[i]?).map λd=>.tup [.int ((n+i:Nat):Int),d]
 |_,[],_=>by simp[dG]
 |n,d::ds,0=>by simp[dG]
 |n,d::ds,i+1=>by
  simp only[dG,List.getElem?_cons_succ];rw[jK (n+1) ds i];congr 1;funext d;rw[show n+1+i=n+(i+1) by omega]
theorem uM:∀(as bs:List D),(bF as bs).length=min as.length bs.length
 |[],bs=>by simp[bF]
 |a::as,[]=>by simp[bF]
 |a::as,b::bs=>by simp[bF,uM as bs]
theorem yM:∀(as bs:List D)(i:Nat)(d:D),(bF as bs)[i]?=some d->∃a b,as[i]?=some a/\bs[i]?=some b/\d=.tup [a,b]
 |[],bs,i,d,h=>by simp[bF]at h
 |a::as,[],i,d,h=>by simp[bF]at h
 |a::as,b::bs,0,d,h=>by simp[bF]at h;exact ⟨a,b,rfl,rfl,h.symm⟩
 |a::as,b::bs,i+1,d,h=>by
  simp only[bF,List.getElem?_cons_succ]at h;obtain ⟨x,y,h1,h2,h3⟩:=yM as bs i d h;exact ⟨x,y,by simpa using h1,by simpa using h2,h3⟩
theorem acu{u:Value}{ds:List D}{g:Hld}{k:SK}(s:Src K H F u ds g k):WalkJ K H F (dG 0 ds) g (Je k) where
 go:=λH' F' G i x r hh hi=>by
  obtain ⟨vs,h1,h2⟩:=s.sat H' F' G x r hh;exact ⟨vs,h1,by rw[<-h2.length,<-jJ 0];exact hi⟩
 stop:=λH' F' G x r hh=>by
  obtain ⟨vs,h1,h2⟩:=s.sat H' F' G x r hh;exact ⟨vs,h1,by rw[jJ];exact h2.length.symm⟩
 yld:=λH' F' i v H'' d G x r hh hd y=>by
  obtain ⟨vs,h1,h2⟩:=s.sat H' F' G x r hh;obtain ⟨T,y,hT,e1,e2,hv⟩:=y;subst e1 e2;rw[jK]at hd;obtain ⟨d',hd',e3⟩:=aS.mp hd;subst e3;obtain ⟨w,e1,rw'⟩:=h2.get hd';have e2:=hv vs h1;rw[e1]at e2;cases e2;refine ⟨dw r hT,r.new hT,?_⟩;rw[Nat.zero_add];exact wQ r hT (Reps.cons rfl (Reps.cons rw' Reps.nil))
theorem jL{g g':Hld}{G:DH}:held (g++g') G->held g G/\held g' G:=by
 induction g with
 |nil=>exact λh=>⟨trivial,h⟩
 |cons p r ih=>
  intro h;obtain ⟨h1,h2⟩:=ih h.2;exact ⟨⟨h.1,h1⟩,h2⟩
theorem acv{u u':Value}{ds es:List D}{g g':Hld}{k l:SK}(s:Src K H F u ds g k)(s':Src K H F u' es g' l):WalkJ K H F (bF ds es) (g++g') (Jz k l) where
 go:=λH' F' G i x r hh hi=>by
  obtain ⟨vs,h1,h2⟩:=s.sat H' F' G x r (jL hh).1;obtain ⟨ws,h3,h4⟩:=s'.sat H' F' G x r (jL hh).2;rw[uM]at hi;exact ⟨vs,ws,h1,h3,by rw[<-h2.length];omega,by rw[<-h4.length];omega⟩
 stop:=λH' F' G x r hh=>by
  obtain ⟨vs,h1,h2⟩:=s.sat H' F' G x r (jL hh).1;obtain ⟨ws,h3,h4⟩:=s'.sat H' F' G x r (jL hh).2;exact ⟨vs,ws,h1,h3,by rw[uM,<-h2.length,<-h4.length];omega⟩
 yld:=λH' F' i v H'' d G x r hh hd y=>by
  obtain ⟨T,y,z,hT,e1,e2,hv,hz⟩:=y;subst e1 e2;obtain ⟨a,b,ha,hb,e3⟩:=yM _ _ _ _ hd;subst e3;obtain ⟨vs,h1,h2⟩:=s.sat H' F' G x r (jL hh).1;obtain ⟨ws,h3,h4⟩:=s'.sat H' F' G x r (jL hh).2;obtain ⟨w,e1,rw'⟩:=h2.get ha;obtain ⟨w2,e3,rw2⟩:=h4.get hb;have e2:=hv vs h1;have e4:=hz ws h3;rw[e1]at e2;cases e2;rw[e3]at e4;cases e4;exact ⟨dw r hT,r.new hT,wQ r hT (Reps.cons rw' (Reps.cons rw2 Reps.nil))⟩
theorem acw(lo:Int)(n:Nat):WalkJ K H F (bc lo n) [] (Itr lo n) where
 go:=λH' F' G i x _ _ hi=>by show i < n;simpa [bc] using hi
 stop:=λH' F' G x _ _=>by show n<=(bc lo n).length;simp[bc]
 yld:=λH' F' i v H'' d G x r _ hd y=>by
  obtain ⟨e1,e2⟩:=y;subst e1 e2;refine ⟨Ext.refl _ _,r,?_⟩;unfold bc at hd;rw[bp]at hd;obtain ⟨j,hj,e3⟩:=aS.mp hd;have:j=i:=by have:=ar.mp hj;obtain ⟨h1,h2⟩:=this;simpa using h2.symm
  subst this;subst e3;rfl
end
def tI(K:PF)(B:Bs)(w:ak->DH->(List D->Hld->DH->Prop)->Prop):TI:=λσ H Rr=>∃ρ F G,Ext B.H B.F H F/\EnvR K H F ρ σ/\R K H F G/\
 w ρ G (λitems g G'=>∀H' F' J,Ext H F H' F'->R K H' F' G'->WalkJ K H' F' items g J->Rr J H')
section
variable {Φ:aa} {CX:CXT} {k:Nat} {c:CT} {E:EK} {B:Bs} {X:Cx}
theorem uN{pins:List (Addr×Obj)}{σ:L2.St}{H:Hp}{s:Shared}(I:Inv X pins σ H s){kk:SK}{vs:List V}(h:kk.Sat H vs):∃its:Array Value,kk.On its s.heap:=by
 cases kk with
 |lst a=>obtain ⟨its,_,pl,_⟩:=I.list (SqL.of (show H a=some _ from h));exact ⟨its.toArray,pl.isList⟩
 |tup a=>obtain ⟨its,_,pl,_⟩:=I.tuple (SqT.of (show H a=some _ from h));exact ⟨its.toArray,pl⟩
 |str x t=>exact ⟨#[],trivial⟩
theorem acx{x:Ex}(ih:OkE Φ c E B X x){tg e:Expr}(h:aj c x e=true):PI X tg e (tI X.K B (wpI Φ (.seq x) E)):=by
 intro pins s σ H Rr I q;obtain ⟨ρ,F,G,e0,he,r,hw⟩:=q;rw[rM]at hw;have q':tE X.K B (wpE Φ x E) σ H (λv H1=>∃F1 G1 d items,R X.K H1 F1 G1/\Rep X.K H1 F1 d v/\itemsOf G1 d=some items/\∀J,WalkJ X.K H1 F1 items.1 items.2 J->Rr J H1):=
  aN e0 he r hw λd G1 H1 F1 u q e1 x1 he1 r1 ru=>by
   split at q
   ·rename_i ds hd;exact ⟨F1,G1,d,ds,r1,ru,hd,λJ w=>q H1 F1 J x1 r1 w⟩
   ·exact q.elim
 refine thn (ih h pins s σ H _ I q') λu s1 ⟨v,H1,I1,rv,F1,G1,d,items,r1,rd,hd,q1⟩=>?_;obtain ⟨kk,src⟩:=uK rd rv hd;obtain ⟨vs,sat,_⟩:=src.sat H1 F1 G1 (Ext.refl _ _) r1 (uL hd);obtain ⟨its,on⟩:=uN I1 sat;rw[<-src.val];refine SK.iter on ?_;refine ⟨s1.heap.objs.size,[s1.heap.objs.size],_,_,H1,rfl,I1.kept (t':=s1.toks) λb o e=>al _ e,abd kk _,SK.pos0,λb hb=>?_,q1 _ (acs src)⟩;have e:b=s1.heap.objs.size:=by simpa using hb
 subst e;exact I1.fpOk (ax _) (I1.hok.fresh (ax _))
theorem acy(S:Stat Φ CX k c E B X){a:Ex}(ih:OkE Φ c E B X a){tg e:Expr}(h:bR c (.rng a) tg e=true):PI X tg e (tI X.K B (wpI Φ (.rng a) E)):=by
 replace h:=Hq h;obtain ⟨_,_,_,_,rfl,h⟩:=h
 ·simp only[ae,aw]at h;obtain ⟨⟨⟨e1,h1⟩,hm⟩,h2⟩:=h;subst e1;obtain ⟨g1,g2⟩:=dM h1;have hmg:=S.blt _ (aT.mp hm);have hs:=cj _ [] X.env (cV (bH a h2));intro pins s σ H Rr I q;refine WD (S.glo _ g1) hmg (jk (ih h2) kJ hs) hs pins s σ H Rr I ?_;obtain ⟨ρ,F,G,e0,he,r,hw⟩:=q;rw[rN]at hw;refine aN e0 he r hw λd G1 H1 F1 u q e1 x1 he1 r1 ru=>?_;split at q
  ·rename_i n;have e2:u=.int n:=ru;subst e2;exact ⟨n,rfl,q.1.1,q.1.2,q.2 H1 F1 _ x1 r1 (acw 0 n.toNat)⟩
  ·exact q.elim
theorem acz(S:Stat Φ CX k c E B X){a:Ex}(ih:OkE Φ c E B X a){tg e:Expr}(h:bR c (.rev a) tg e=true):PI X tg e (tI X.K B (wpI Φ (.rev a) E)):=nomatch (show false=true from h)
theorem acA(S:Stat Φ CX k c E B X){a b d:Ex}(iha:OkE Φ c E B X a)(ihb:OkE Φ c E B X b)(ihd:OkE Φ c E B X d){tg e:Expr}(h:bR c (.dwn a b d) tg e=true):PI X tg e (tI X.K B (wpI Φ (.dwn a b d) E)):=nomatch (show false=true from h)
theorem acB(S:Stat Φ CX k c E B X){a b:Ex}(iha:OkE Φ c E B X a)(ihb:OkE Φ c E B X b){tg e:Expr}(h:bR c (.rng2 a b) tg e=true):PI X tg e (tI X.K B (wpI Φ (.rng2 a b) E)):=nomatch (show false=true from h)
theorem acC(S:Stat Φ CX k c E B X){a:Ex}(ih:OkE Φ c E B X a){tg e:Expr}(h:bR c (.enm a) tg e=true):PI X tg e (tI X.K B (wpI Φ (.enm a) E)):=by
 replace h:=Hr h;obtain ⟨_,_,_,_,_,_,_,rfl,rfl,h⟩:=h
 ·skip
  ·simp only[ae,aw]at h;obtain ⟨⟨⟨e1,h1⟩,hm⟩,h2⟩:=h;subst e1;obtain ⟨g1,g2⟩:=dM h1;have hmg:=S.blt _ (aT.mp hm);have hs:=cj _ [] X.env (cV (bH a h2));intro pins s σ H Rr I q;obtain ⟨ρ,F,G,e0,he,r,hw⟩:=q;rw[rO]at hw;have q':tL X.K B (aM Φ (.cons a .nil) E) σ H (λvs H1=>∃v F1 G1 d items,vs=[v]/\R X.K H1 F1 G1/\Rep X.K H1 F1 d v/\itemsOf G1 d=some items/\∀J,WalkJ X.K H1 F1 (dG 0 items.1) items.2 J->Rr J H1):=by
    refine b7 (W:=λds G1=>∃d items,ds=[d]/\itemsOf G1 d=some items/\∀H' F' J,Ext H F H' F'->R X.K H' F' G1->WalkJ X.K H' F' (dG 0 items.1) items.2 J->Rr J H') e0 he r ?_ λds G1 H1 F1 vs q e1 x1 he1 r1 rvs=>?_
    ·rw[gJ];refine aG a (λd G1 q=>?_) hw;rw[gj];split at q
     ·rename_i items hd;exact ⟨d,items,rfl,hd,q⟩
     ·exact q.elim
    ·obtain ⟨d,items,e2,hd,q⟩:=q;subst e2;obtain ⟨v,e3,rv⟩:=bA rvs;exact ⟨v,F1,G1,d,items,e3,r1,rv,hd,λJ w=>q H1 F1 J x1 r1 w⟩
   refine Call_ (jj I (S.glo _ g1) hmg (u:=.type "enumerate") boot_enumerate (fk (thn (uE ih (λh=>yH h) (c:=c) (es:=[_]) (by unfold aL;show (aj c a _&&true)=true;rw[h2];rfl) _ pins s σ H _ I q') λus s1 ⟨vs,H1,I1,r1v,q1⟩=>?_) hs rfl) (eH g2) (b8 g2));obtain ⟨v,F1,G1,d,items,e1,r1,rd,hd,q1⟩:=q1;subst e1;obtain ⟨u,rfl,ru⟩:=vals1 r1v;obtain ⟨kk,src⟩:=uK rd ru hd;obtain ⟨vs,sat,_⟩:=src.sat H1 F1 G1 (Ext.refl _ _) r1 (uL hd);obtain ⟨its,on⟩:=uN I1 sat;rw[<-src.val];refine abm on λh' hen hit hsz hk=>?_;refine wpAny_pyIter_enum hen ?_;have n1:H1 s1.heap.objs.size=none:=I1.hok.fresh (ax _);have n2:H1 (s1.heap.objs.size+1)=none:=I1.hok.fresh (fN _);refine ⟨s1.heap.objs.size+1,[s1.heap.objs.size+1,s1.heap.objs.size],_,_,H1,rfl,I1.kept (t':=s1.toks) hk,abb kk _ _ (Nat.succ_ne_self _),⟨⟨_,hen⟩,hit⟩,λb hb=>?_,q1 _ (acu src)⟩;have hb':b=s1.heap.objs.size+1\/b=s1.heap.objs.size:=by simpa using hb
   rcases hb' with rfl |rfl
   ·exact I1.fpOk (fN _) n2
   ·exact I1.fpOk (ax _) n1
theorem zap(n:Nat):ZApart (n+4) (n+2) (n+3) n (n+1):=
 ⟨(by omega:(n+2:Nat)≠n+4),(by omega:(n+3:Nat)≠n+4),(by omega:(n:Nat)≠n+4),(by omega:(n+1:Nat)≠n+4),(by omega:(n+2:Nat)≠n+3),(by omega:(n+2:Nat)≠n),(by omega:(n+2:Nat)≠n+1),(by omega:(n+3:Nat)≠n),(by omega:(n+3:Nat)≠n+1),(by omega:(n:Nat)≠n+1)⟩
theorem acD(S:Stat Φ CX k c E B X){a b:Ex}(iha:OkE Φ c E B X a)(ihb:OkE Φ c E B X b){tg e:Expr}(h:bR c (.zip a b) tg e=true):PI X tg e (tI X.K B (wpI Φ (.zip a b) E)):=by
 replace h:=Hs h;obtain ⟨_,_,_,_,_,v,v',pos,rfl,rfl,h⟩:=h
 ·skip
  ·simp only[ae,aw]at h;obtain ⟨⟨⟨⟨e1,h1⟩,hm⟩,h2⟩,h3⟩:=h;subst e1;obtain ⟨g1,g2⟩:=dM h1;have hmg:=S.blt _ (aT.mp hm);have hs2:=cj v' [] X.env (cV (bH b h3));have hs:=cj v [v'] X.env (cV (bH a h2));intro pins s σ H Rr I q;obtain ⟨ρ,F,G,e0,he,r,hw⟩:=q;rw[rP]at hw;have hA:aL c (.cons a (.cons b .nil)) [v,v']=true:=by
    unfold aL aL aL;show (aj c a v&&(aj c b v'&&true))=true;rw[h2,h3];rfl
   have q':tL X.K B (aM Φ (.cons a (.cons b .nil)) E) σ H (λvs H1=>∃v v' F1 G1 d d' items items',vs=[v,v']/\R X.K H1 F1 G1/\Rep X.K H1 F1 d v/\Rep X.K H1 F1 d' v'/\itemsOf G1 d=some items/\itemsOf G1 d'=some items'/\∀J,WalkJ X.K H1 F1 (bF items.1 items'.1) (items.2++items'.2) J->Rr J H1):=by
    refine b7 (W:=λds G1=>∃d d' items items',ds=[d,d']/\itemsOf G1 d=some items/\itemsOf G1 d'=some items'/\∀H' F' J,Ext H F H' F'->R X.K H' F' G1->WalkJ X.K H' F' (bF items.1 items'.1) (items.2++items'.2) J->Rr J H') e0 he r ?_ λds G1 H1 F1 vs q e1 x1 he1 r1 rvs=>?_
    ·rw[gJ];refine aG a (λd G1 q=>?_) hw;rw[gJ];refine aG b (λd' G2 q=>?_) q;rw[gj];split at q
     ·rename_i items items' hd hd';exact ⟨d,d',items,items',rfl,hd,hd',q⟩
     ·exact q.elim
    ·obtain ⟨d,d',items,items',e2,hd,hd',q⟩:=q;subst e2;obtain ⟨w1,r2,e3,rw1,t2⟩:=rvs;obtain ⟨w2,e4,rw2⟩:=bA t2;subst e4;exact ⟨w1,w2,F1,G1,d,d',items,items',e3,r1,rw1,rw2,hd,hd',λJ w=>q H1 F1 J x1 r1 w⟩
   refine Call_ (jj I (S.glo _ g1) hmg (u:=.type "zip") Zf (fk (thn (uE iha (λh=>uE ihb (λh=>yH h) h) (c:=c) (es:=[v,v']) hA _ pins s σ H _ I q') λus s1 ⟨vs,H1,I1,r1v,q1⟩=>?_) hs (by rw[hs2];rfl)) (eH g2) (b8 g2));obtain ⟨w1,w2,F1,G1,d,d',items,items',e1,r1,rd,rd',hd,hd',q1⟩:=q1;subst e1;obtain ⟨u,u',rfl,ru,ru'⟩:=vals2 r1v;obtain ⟨kk,src⟩:=uK rd ru hd;obtain ⟨ll,src'⟩:=uK rd' ru' hd';obtain ⟨vs,sat,_⟩:=src.sat H1 F1 G1 (Ext.refl _ _) r1 (uL hd);obtain ⟨ws,sat',_⟩:=src'.sat H1 F1 G1 (Ext.refl _ _) r1 (uL hd');obtain ⟨its,on⟩:=uN I1 sat;obtain ⟨its',on'⟩:=uN I1 sat';rw[<-src.val,<-src'.val];refine abk on on' λh' hz hTI hTO p1 p2 hsz hk=>?_;refine wpAny_pyIter_zip hz ?_;have fr:∀j,H1 (s1.heap.objs.size+j)=none:=λj=>I1.hok.fresh (cp _ _);refine ⟨s1.heap.objs.size+4,[s1.heap.objs.size+4,s1.heap.objs.size+2,s1.heap.objs.size+3,s1.heap.objs.size,s1.heap.objs.size+1],_,_,H1,rfl,I1.kept (t':=s1.toks) hk,
    abh kk ll (s1.heap.objs.size+4) (s1.heap.objs.size+2) (s1.heap.objs.size+3) s1.heap.objs.size (s1.heap.objs.size+1) (zap s1.heap.objs.size),⟨hz,hTI,⟨_,_,hTO⟩,p1,p2⟩,λb hb=>?_,q1 _ (acv src src')⟩
   have hb':b=s1.heap.objs.size+4\/b=s1.heap.objs.size+2\/b=s1.heap.objs.size+3\/b=s1.heap.objs.size\/b=s1.heap.objs.size+1:=by simpa using hb
   rcases hb' with rfl |rfl |rfl |rfl |rfl
   ·exact I1.fpOk (cp _ _) (fr 4)
   ·exact I1.fpOk (cp _ _) (fr 2)
   ·exact I1.fpOk (cp _ _) (fr 3)
   ·exact I1.fpOk (ax _) (fr 0)
   ·exact I1.fpOk (cp _ _) (fr 1)
end
section
variable {Φ:aa} {CX:CXT} {k:Nat} {c:CT} {E:EK} {B:Bs} {X:Cx}
theorem yN:∀{l:List Str},fH l=true->l.Nodup
 |[],_=>List.nodup_nil
 |x::r,h=>by
  unfold fH at h;rw[ae]at h;refine fe.mpr ⟨λhm=>?_,yN h.2⟩;have:=h.1;rw[aT.mpr hm]at this;cases this
theorem uO{N:List Str}{scope:Scope}:∀{N':List Str}{cap:List (Option Nat)},X.N=N->gM N scope N' cap=true->Caps X scope N' cap
 |[],[],_,_=>trivial
 |_::N',none::cap,e,h=>uO (N':=N') (cap:=cap) e h
 |x::N',some j::cap,e,h=>by
  unfold gM at h;simp only[ae,aw]at h;exact ⟨⟨by rw[e];exact h.1.1,h.1.2⟩,uO (N':=N') (cap:=cap) e h.2⟩
 |[],_::_,_,h=>by cases h
 |_::_,[],_,h=>by cases h
theorem lN{scope:Scope}{env:Env}(x:Str):(relabel scope env).names.lookup x=(scope.names.lookup x).map λkk=>if (kk==NameKind.free&&env.scope.kind==.function&&env.kindOf x==some .cell)=true then NameKind.cell else kk:=wA
theorem Stat.comp(S:Stat Φ CX k c E B X){N':List Str}{scope:Scope}(hn:fH N'=true)(cl:List (Str×Addr))(C:Addr)(s₁:Shared)(H₁:Hp)(fp:List Addr)(pn:List (Addr×Obj)):
  Stat Φ CX k (c.comp N' scope) noE B (X.comp N' scope cl C s₁ H₁ fp pn) where
 N:=rfl
 nd:=yN hn
 calm:=S.calm
 own:=PassesOwn.never
 kd:=rfl
 vis:=λx h=>by
  have h:iC (scope.names.lookup x)=true:=h;show (relabel scope X.env).names.lookup x=_\/(relabel scope X.env).names.lookup x=_\/(relabel scope X.env).names.lookup x=_;rw[lN];cases e:scope.names.lookup x with
  |none=>rw[e]at h;cases h
  |some kk=>
   rw[e]at h;cases kk with
   | «local»=>exact .inl (by simp[show (NameKind.«local»==NameKind.free)=false by decide])
   |cell=>exact .inr (.inl (by simp[show (NameKind.cell==NameKind.free)=false by decide]))
   |free=>
    by_cases q:(NameKind.free==NameKind.free&&X.env.scope.kind==ScopeKind.function&&X.env.kindOf x==some NameKind.cell)=true
    ·exact .inr (.inl (by simp only[Option.map_some,if_pos q]))
    ·exact .inr (.inr (by simp only[Option.map_some,if_neg q]))
   |globalExplicit=>cases h
   |globalImplicit=>cases h
 cel:=λx h=>by
  have h:scope.names.lookup x=some .cell\/scope.names.lookup x=some .free:=h;show (relabel scope X.env).names.lookup x=_\/(relabel scope X.env).names.lookup x=_;rw[lN];rcases h with h |h
  ·exact .inl (by rw[h];simp[show (NameKind.cell==NameKind.free)=false by decide])
  ·rw[h];by_cases q:(NameKind.free==NameKind.free&&X.env.scope.kind==ScopeKind.function&&X.env.kindOf x==some NameKind.cell)=true
   ·exact .inl (by simp only[Option.map_some,if_pos q])
   ·exact .inr (by simp only[Option.map_some,if_neg q])
 glo:=λx h=>by
  have h:scope.names.lookup x=some .globalImplicit:=h;show (relabel scope X.env).names.lookup x=_;rw[lN,h];simp[show (NameKind.globalImplicit==NameKind.free)=false by decide]
 sto:=λx h=>by
  have h:(scope.names.lookup x==some .local||(false&&scope.names.lookup x==some .cell))=true:=h;rw[Bool.false_and,Bool.or_false,aw]at h;have e:(relabel scope X.env).names.lookup x=some .local:=by rw[lN,h];simp[show (NameKind.«local»==NameKind.free)=false by decide]
  exact ⟨.inl e,.inr e⟩
 room:=S.room
 call:=S.call
 blt:=S.blt
 con:=S.con
 exc:=⟨_,S.nox _,λ_ _ _ _ _ _ _ _ _ _ q=>q.elim,λx G' H' F' h=>h.elim⟩
 nox:=S.nox
 xcl:=λC h=>nomatch (show false=true from h)
 loc:=λx h=>by show (relabel scope X.env).names.lookup x=_;rw[lN,show scope.names.lookup x=some .local from h];simp[show (NameKind.«local»==NameKind.free)=false by decide]
 xis:=λC h=>nomatch (show false=true from h)
 mth:=S.mth
 mko:=S.mko
 fld:=S.fld
 trc:=λh=>absurd rfl h
theorem acE(S:Stat Φ CX k c E B X){t:Tx}(ih:OkT Φ c E B X t){ifs:List Expr}(h:lH c t ifs=true):PIf X ifs (tB' X.K B (wpT Φ t E)):=by
 unfold lH at h;rw[dc]at h;rcases h with h |h
 ·rw[ae,ez]at h;obtain ⟨hy,rfl⟩:=h;cases t with
  |yes=>
   intro pins s σ H Q I q;refine YT pins s σ H Q I ?_;obtain ⟨ρ,F,G,e0,he,r,hw⟩:=q;rw[rF]at hw;exact hw.now r
  |_=>cases hy
 ·obtain ⟨e,he,h⟩:=aU h;rw[c7 he];exact YW (ih h)
theorem HQ(S:Stat Φ CX k c E B X){fz:Bool}{elt:Ex}{tg:Tg}{it:It'}{cond:Tx}{N':List Str}{cap:List (Option Nat)}{scope:Scope}{elt' tg':Expr}{ifs:List Expr}(hn:fH N'=true)
  (ihe:∀{X':Cx},Stat Φ CX k (c.comp N' scope) noE B X'->OkE Φ (c.comp N' scope) noE B X' elt) (iht:∀{X':Cx},Stat Φ CX k (c.comp N' scope) noE B X'->OkT Φ (c.comp N' scope) noE B X' cond)
  (hg:cL (c.comp N' scope) tg tg'=true) (hi:lH (c.comp N' scope) cond ifs=true) (he:aj (c.comp N' scope) elt elt'=true)
  {σ:L2.St} {H:Hp} {Q:VK} {ρ:ak} {F:FZ} {G:DH} (e0:Ext B.H B.F H F) (henv:EnvR X.K H F ρ σ) (r:R X.K H F G)
  (hw:wpI Φ it E ρ G λitems g G1=>
   compLoop (λd ρ' G' k'=>aZ tg d ρ' G' λρ1=>wpT Φ cond noE ρ1 G' λb G2=>match b with |true=>wpE Φ elt noE ρ1 G2 λy G3=>k' (some y) ρ1 G3 |false=>k' none ρ1 G2)
    g items [] (cap.map λo=>match o with |none=>none |some j=>(ρ[j]?).join) G1 λds G2=>mk fz ds G2 (PV X.K H F Q)):
  tI X.K B (wpI Φ it E) σ H (λJ H1=>Ds X N' scope tg' ifs elt' J (d9 cap σ) H1 Q):=by
 refine ⟨ρ,F,G,e0,henv,r,lz it (λitems g G1 q H1 F1 J x1 r1 W=>?_) hw⟩;let step:D->ak->DH->(Option D->ak->DH->Prop)->Prop:=λd ρ' G' k'=>aZ tg d ρ' G' λρ1=>wpT Φ cond noE ρ1 G' λb G2=>match b with |true=>wpE Φ elt noE ρ1 G2 λy G3=>k' (some y) ρ1 G3 |false=>k' none ρ1 G2
 let fin:List D->DH->Prop:=λds G2=>mk fz ds G2 (PV X.K H F Q)
 refine ⟨λi m ys σ' H'=>m=items.length - i/\i<=items.length/\∃ρ' F' G' acc,Ext B.H B.F H' F'/\Ext H1 F1 H' F'/\EnvR X.K H' F' ρ' σ'/\R X.K H' F' G'/\Reps X.K H' F' acc ys/\compLoop step g (items.drop i) acc ρ' G' fin,
  ⟨items.length,by simp,eg _,_,F1,G1,[],e0.trans x1,Ext.refl _ _,(henv.ext x1).cap cap,r1,rfl,q⟩,?_⟩
 rintro i m ys σ' H' ⟨rfl,hle,ρ',F',G',acc,eB,e1,he',r',ra,hl⟩;by_cases hlt:i < items.length
 ·have hd:items.drop i=items[i]::items.drop (i+1):=ca hlt;rw[hd]at hl;obtain ⟨hh,hz,hl⟩:=hl;refine .inr ⟨W.go H' F' G' i e1 r' hh hlt,by rw[<-ra.length];exact bP hz szl,λcl C s₁ H₁ fp pn=>?_⟩;have S':=S.comp (scope:=scope) hn cl C s₁ H₁ fp pn;refine ⟨_,_,_,uJ S' tg hg,acE S' (iht S') hi,ihe S' he,λx H2 hy=>?_⟩;obtain ⟨xy,ry,rx⟩:=W.yld H' F' i x H2 items[i] G' e1 r' hh (by simp[hlt]) hy;refine ⟨ρ',F',G',items[i],eB.trans xy,he'.ext xy,ry,rx,gk (λρ1 z σ1 hσ1=>?_) tg hl⟩;refine iK (eB.trans xy) hσ1 ry z λb G2 H3 F3 z e3 x3 he3 r3=>?_;cases b with
  |true=>
   rw[if_pos rfl];refine aN e3 he3 r3 z λy G4 H4 F4 v z e4 x4 he4 r4 rv=>?_;exact ⟨items.length - (i+1),by omega,rfl,hlt,ρ1,F4,G4,acc++[y],e4,e1.trans (xy.trans (x3.trans x4)),he4,r4,(Reps.ext (xy.trans (x3.trans x4)) ra).append (Reps.cons rv Reps.nil),z⟩
  |false=>
   rw[if_neg bo];exact ⟨items.length - (i+1),by omega,rfl,hlt,ρ1,F3,G2,acc,e3,e1.trans (xy.trans x3),he3,r3,Reps.ext (xy.trans x3) ra,z⟩
 ·have hi':i=items.length:=by omega
  subst hi';rw[eS]at hl;obtain ⟨hh,hz,hl⟩:=hl;refine .inl ⟨W.stop H' F' G' e1 r' hh,by rw[<-ra.length];exact cZ hz,λp hp=>?_⟩;exact gm (dI (λd G' z=>PV.later z (x1.trans e1)) hl) r' ra p hp
structure CompC(c:CT)(elt:Ex)(tg:Tg)(it:It')(cond:Tx)(N':List Str)(cap:List (Option Nat))(elt' tg' iter:Expr)(ifs:List Expr)(scope:Scope):Prop where
 it:bR c it tg' iter=true
 cap:gM c.N scope N' cap=true
 sc:jE c scope=true
 nd:fH N'=true
 tg:cL (c.comp N' scope) tg tg'=true
 cd:lH (c.comp N' scope) cond ifs=true
 el:aj (c.comp N' scope) elt elt'=true
theorem HR(S:Stat Φ CX k c E B X){scope:Scope}(h:jE c scope=true):scope.names.all (λy=>y.2 != NameKind.cell)=true/\scope.names.all (λy=>y.2 != NameKind.local||scope.names.lookup y.1==some NameKind.local)=true/\
  scope.names.all (λy=>y.2 != NameKind.free||(X.env.kindOf y.1==some NameKind.cell||X.env.kindOf y.1==some NameKind.free))=true/\scope.kind=.function:=by
 unfold jE at h;simp only[ae,bv]at h;obtain ⟨⟨⟨⟨h1,h2⟩,h3⟩,h4⟩,_⟩:=h;refine ⟨h1,h2,?_,h4⟩;rw[ci]at h3 ⊢;intro y hy;have:=h3 y hy;rw[dc,dc,aw,aw]at this;rw[dc,dc,aw,aw];rcases this with q |q
 ·exact .inl q
 ·exact .inr (S.cel y.1 q)
theorem HS{fz:Bool}{elt:Ex}{tg:Tg}{it:It'}{cond:Tx}{N:List String}{cap:List (Option Nat)}{e:Expr}(h:aj c (.comp fz elt tg it cond N cap) e=true):
  ∃elt' tg' iter ifs scope pos,e=.ListComp elt' [⟨tg',iter,ifs,0⟩] scope pos/\CompC c elt tg it cond (N.map Str.ofString) cap elt' tg' iter ifs scope:=by
 replace h:=Ho h;obtain ⟨_,_,_,_,_,_,_,rfl,h⟩:=h;simp only[ae,bv]at h;obtain ⟨⟨⟨⟨⟨⟨⟨h1,h2⟩,h3⟩,h4⟩,h5⟩,h6⟩,h7⟩,h8⟩:=h;subst h1;exact ⟨_,_,_,_,_,_,rfl,h2,h3,h4,h5,h6,h7,h8⟩
theorem yO{it:It'}{tg' iter:Expr}(h:bR c it tg' iter=true)(env:Env)(x:Value):foldedSetIterable iter env x=pure x:=by
 cases it with
 |seq y=>exact abL (bH y (show aj c y iter=true from h)) env x
 |rng a=>obtain ⟨_,_,_,_,rfl,_⟩:=Hq h;rfl
 |rng2 _ _=>exact nomatch (show false=true from h)
 |rev _=>exact nomatch (show false=true from h)
 |dwn _ _ _=>exact nomatch (show false=true from h)
 |enm a=>obtain ⟨_,_,_,_,_,_,_,_,rfl,_⟩:=Hr h;rfl
 |zip a b=>obtain ⟨_,_,_,_,_,_,_,_,_,rfl,_⟩:=Hs h;rfl
theorem acF(S:Stat Φ CX k c E B X){fz:Bool}{elt:Ex}{tg:Tg}{it:It'}{cond:Tx}{N:List String}{cap:List (Option Nat)}
  (ihe:∀{c':CT}{X':Cx},Stat Φ CX k c' noE B X'->OkE Φ c' noE B X' elt) (iht:∀{c':CT}{X':Cx},Stat Φ CX k c' noE B X'->OkT Φ c' noE B X' cond)
  (ihi:∀{tg' iter:Expr},bR c it tg' iter=true->PI X tg' iter (tI X.K B (wpI Φ it E))) {e:Expr} (h:aj c (.comp fz elt tg it cond N cap) e=true):
  PE X e (tE X.K B (wpE Φ (.comp fz elt tg it cond N cap) E)):=by
 obtain ⟨elt',tg',iter,ifs,scope,pos,rfl,C⟩:=HS h;obtain ⟨s1,s2,s3,s4⟩:=HR S C.sc;refine peI (Zm (N.map Str.ofString) cap S.calm (ihi C.it) (uO S.N C.cap) s1 s2 s3 s4 (yO C.it X.env)) λσ H Q hq=>el hq λρ F G e0 he r hw=>?_;rw[xX]at hw;exact HQ S C.nd (λS'=>ihe S') (λS'=>iht S') C.tg C.cd C.el e0 he r hw
theorem bf{x:Ex}(ih:OkE Φ c E B X x)(hn:∀l os rs pos,aj c x (.Compare l os rs pos)=true->False){e:Expr}(h:bx c (.val x) e=true):PT X e (tB' X.K B (wpT Φ (.val x) E)):=by
 have h:((iD e||lG e)&&aj c x e&&Gx x)=true:=h;simp only[ae,dc]at h;obtain ⟨⟨h1,h2⟩,h3⟩:=h;rcases h1 with h1 |h1
 ·exact ack ih h1 h2
 ·obtain ⟨⟨t,ht⟩,_⟩:=cS.mp h1;rw[ht]at h2;exact (hn _ _ _ _ h2).elim
end
mutual
theorem aA{Φ:aa}{CX:CXT}{k:Nat}{B:Bs}:∀(x:Ex){c:CT}{E:EK}{X:Cx},Stat Φ CX k c E B X->OkE Φ c E B X x
 |.var i,c,E,X,S=>by intro h;exact abP S h
 |.cst d,c,E,X,S=>by intro h;exact abQ S h
 |.glb x d,c,E,X,S=>by intro h;exact abR S h
 |.bin op fz a b,c,E,X,S=>by intro h;exact abS S (aA a S) (aA b S) h
 |.neg a,c,E,X,S=>by intro h;exact abT S (aA a S) h
 |.cmp op a b,c,E,X,S=>by intro h;exact (Hx S (aA a S) (aA b S) h).1
 |.chn op op' a b d,c,E,X,S=>by intro h;exact (Hy S (aA a S) (aA b S) (aA d S) h).1
 |.not a,c,E,X,S=>by intro h;exact abU S (aA a S) h
 |.boo isAnd e es,c,E,X,S=>by intro h;exact aci (aA e S) (dN es S) h
 |.ife t a b,c,E,X,S=>by intro h;exact acj (gQ t S) (aA a S) (aA b S) h
 |.tup es,c,E,X,S=>by intro h;exact abV S (EachE.oks (dN es S)) h
 |.lst fz es,c,E,X,S=>by intro h;exact abW S (EachE.oks (dN es S)) h
 |.idx a i,c,E,X,S=>by intro h;exact abX S (aA a S) (aA i S) h
 |.slc fz a lo hi,c,E,X,S=>by intro h;exact abY S (aA a S) (HX lo S) (HX hi S) h
 |.rvs fz a s,c,E,X,S=>by intro h;exact abZ S (aA a S) (aA s S) h
 |.call f es,c,E,X,S=>by intro h;exact ab1 S (EachE.oks (dN es S)) h
 |.bcl f es,c,E,X,S=>by intro h;exact ab2 S (EachE.oks (dN es S)) h
 |.lcl fz f es,c,E,X,S=>by intro h;exact ab3 S (EachE.oks (dN es S)) h
 |.isi a t,c,E,X,S=>by intro h;exact ab7 S (aA a S) h
 |.isx a C xs,c,E,X,S=>by intro h;exact ab8 S (aA a S) h
 |.fst es,c,E,X,S=>by intro h;exact ach S (dN es S) h
 |.rgl fz a,c,E,X,S=>by intro h;exact ab4 S (aA a S) h
 |.rgt a,c,E,X,S=>by intro h;exact ab5 S (aA a S) h
 |.fld C f o,c,E,X,S=>by intro h;exact aca S (aA o S) h
 |.mcl f C m o es,c,E,X,S=>by intro h;exact acd S (aA o S) (EachE.oks (dN es S)) h
 |.mko C es,c,E,X,S=>by intro h;exact ace S (EachE.oks (dN es S)) h
 |.pp0 o,c,E,X,S=>by intro h;exact acf S (aA o S) h
 |.rpl f a b ix,c,E,X,S=>by intro h;exact ab9 S (aA a S) (aA b S) (aA ix S) h
 |.mth m o es,c,E,X,S=>by intro h;exact acg S (aA o S) (EachE.oks (dN es S)) h
 |.comp fz elt tg it cond N cap,c,E,X,S=>by intro h;exact acF S (λS'=>aA elt S') (λS'=>gQ cond S') (yP it S) h
 |.frz a,c,E,X,S=>by intro h;exact ab0 S (aA a S) h
theorem dN{Φ:aa}{CX:CXT}{k:Nat}{B:Bs}:∀(x:Exs){c:CT}{E:EK}{X:Cx},Stat Φ CX k c E B X->EachE Φ c E B X x
 |.nil,_,_,_,_=>trivial
 |.cons e es,c,E,X,S=>⟨aA e S,dN es S⟩
theorem gQ{Φ:aa}{CX:CXT}{k:Nat}{B:Bs}:∀(x:Tx){c:CT}{E:EK}{X:Cx},Stat Φ CX k c E B X->OkT Φ c E B X x
 |.not t,c,E,X,S=>by intro h;exact acl (gQ t S) h
 |.boo isAnd t ts,c,E,X,S=>by intro h;exact acn (gQ t S) (HW ts S) h
 |.yes,c,E,X,S=>by intro h;exact nomatch (show false=true from h)
 |.val (.cmp op a b),c,E,X,S=>by
  intro h;have h:((iD _||lG _)&&aj c (.cmp op a b) _&&true)=true:=h;simp only[ae]at h;exact (Hx S (aA a S) (aA b S) h.1.2).2
 |.val (.chn op op' a b d),c,E,X,S=>by
  intro h;have h:((iD _||lG _)&&aj c (.chn op op' a b d) _&&true)=true:=h;simp only[ae]at h;exact (Hy S (aA a S) (aA b S) (aA d S) h.1.2).2
 |.val (.frz a),c,E,X,S=>by
  intro h;have h:((iD _||lG _)&&aj c (.frz a) _&&false)=true:=h;rw[Bool.and_false]at h;cases h
 |.val (.var i),c,E,X,S=>by intro h;exact bf (aA (.var i) S) (λ_ _ _ _ h=>nomatch (show false=true from h)) h
 |.val (.cst d),c,E,X,S=>by intro h;exact bf (aA (.cst d) S) (λ_ _ _ _ h=>nomatch (show false=true from h)) h
 |.val (.glb x d),c,E,X,S=>by intro h;exact bf (aA (.glb x d) S) (λ_ _ _ _ h=>nomatch (show false=true from h)) h
 |.val (.bin op fz a b),c,E,X,S=>by intro h;exact bf (aA (.bin op fz a b) S) (λ_ _ _ _ h=>nomatch (show false=true from h)) h
 |.val (.neg a),c,E,X,S=>by intro h;exact bf (aA (.neg a) S) (λ_ _ _ _ h=>nomatch (show false=true from h)) h
 |.val (.not a),c,E,X,S=>by intro h;exact bf (aA (.not a) S) (λ_ _ _ _ h=>nomatch (show false=true from h)) h
 |.val (.boo isAnd e es),c,E,X,S=>by intro h;exact bf (aA (.boo isAnd e es) S) (λ_ _ _ _ h=>nomatch (show false=true from h)) h
 |.val (.ife t a b),c,E,X,S=>by intro h;exact bf (aA (.ife t a b) S) (λ_ _ _ _ h=>nomatch (show false=true from h)) h
 |.val (.tup es),c,E,X,S=>by intro h;exact bf (aA (.tup es) S) (λ_ _ _ _ h=>nomatch (show false=true from h)) h
 |.val (.lst fz es),c,E,X,S=>by intro h;exact bf (aA (.lst fz es) S) (λ_ _ _ _ h=>nomatch (show false=true from h)) h
 |.val (.idx a i),c,E,X,S=>by intro h;exact bf (aA (.idx a i) S) (λ_ _ _ _ h=>nomatch (show false=true from h)) h
 |.val (.slc fz a lo hi),c,E,X,S=>by intro h;exact bf (aA (.slc fz a lo hi) S) (λ_ _ _ _ h=>nomatch (show false=true from h)) h
 |.val (.rvs fz a s),c,E,X,S=>by intro h;exact bf (aA (.rvs fz a s) S) (λ_ _ _ _ h=>nomatch (show false=true from h)) h
 |.val (.call f es),c,E,X,S=>by intro h;exact bf (aA (.call f es) S) (λ_ _ _ _ h=>nomatch (show false=true from h)) h
 |.val (.bcl f es),c,E,X,S=>by intro h;exact bf (aA (.bcl f es) S) (λ_ _ _ _ h=>nomatch (show false=true from h)) h
 |.val (.lcl fz f es),c,E,X,S=>by intro h;exact bf (aA (.lcl fz f es) S) (λ_ _ _ _ h=>nomatch (show false=true from h)) h
 |.val (.isx a C xs),c,E,X,S=>by intro h;exact bf (aA (.isx a C xs) S) (λ_ _ _ _ h=>nomatch (show false=true from h)) h
 |.val (.rgl fz a),c,E,X,S=>by intro h;exact bf (aA (.rgl fz a) S) (λ_ _ _ _ h=>nomatch (show false=true from h)) h
 |.val (.rpl f a b ix),c,E,X,S=>by intro h;exact bf (aA (.rpl f a b ix) S) (λ_ _ _ _ h=>nomatch (show false=true from h)) h
 |.val (.fld C f o),c,E,X,S=>by intro h;exact bf (aA (.fld C f o) S) (λ_ _ _ _ h=>nomatch (show false=true from h)) h
 |.val (.mcl f C m o es),c,E,X,S=>by intro h;exact bf (aA (.mcl f C m o es) S) (λ_ _ _ _ h=>nomatch (show false=true from h)) h
 |.val (.mko C es),c,E,X,S=>by intro h;exact bf (aA (.mko C es) S) (λ_ _ _ _ h=>nomatch (show false=true from h)) h
 |.val (.pp0 o),c,E,X,S=>by intro h;exact bf (aA (.pp0 o) S) (λ_ _ _ _ h=>nomatch (show false=true from h)) h
 |.val (.rgt a),c,E,X,S=>by intro h;exact bf (aA (.rgt a) S) (λ_ _ _ _ h=>nomatch (show false=true from h)) h
 |.val (.fst es),c,E,X,S=>by intro h;exact bf (aA (.fst es) S) (λ_ _ _ _ h=>nomatch (show false=true from h)) h
 |.val (.isi a t),c,E,X,S=>by intro h;exact bf (aA (.isi a t) S) (λ_ _ _ _ h=>nomatch (show false=true from h)) h
 |.val (.mth m o es),c,E,X,S=>by intro h;exact bf (aA (.mth m o es) S) (λ_ _ _ _ h=>nomatch (show false=true from h)) h
 |.val (.comp fz elt tg it cond N cap),c,E,X,S=>by intro h;exact bf (aA (.comp fz elt tg it cond N cap) S) (λ_ _ _ _ h=>nomatch (show false=true from h)) h
theorem HW{Φ:aa}{CX:CXT}{k:Nat}{B:Bs}:∀(x:Txs){c:CT}{E:EK}{X:Cx},Stat Φ CX k c E B X->uG Φ c E B X x
 |.nil,_,_,_,_=>trivial
 |.cons e es,c,E,X,S=>⟨gQ e S,HW es S⟩
theorem HX{Φ:aa}{CX:CXT}{k:Nat}{B:Bs}:∀(x:Ox){c:CT}{E:EK}{X:Cx},Stat Φ CX k c E B X->∀y,x=.ob y->OkE Φ c E B X y
 |.no,c,E,X,S,y,e=>by cases e
 |.ob z,c,E,X,S,y,e=>by injection e with e;subst e;exact aA z S
theorem yP{Φ:aa}{CX:CXT}{k:Nat}{B:Bs}:∀(x:It'){c:CT}{E:EK}{X:Cx},Stat Φ CX k c E B X->∀{tg e:Expr},bR c x tg e=true->PI X tg e (tI X.K B (wpI Φ x E))
 |.seq y,c,E,X,S,tg,e,h=>acx (aA y S) (show aj c y e=true from h)
 |.rng a,c,E,X,S,tg,e,h=>acy S (aA a S) h
 |.rng2 a b,c,E,X,S,tg,e,h=>acB S (aA a S) (aA b S) h
 |.rev a,c,E,X,S,tg,e,h=>acz S (aA a S) h
 |.dwn a b d,c,E,X,S,tg,e,h=>acA S (aA a S) (aA b S) (aA d S) h
 |.enm a,c,E,X,S,tg,e,h=>acC S (aA a S) h
 |.zip a b,c,E,X,S,tg,e,h=>acD S (aA a S) (aA b S) h
end
def EnD(K:PF)(H:Hp)(F:FZ)(D:Ends):En where
 nx:=λρ G'=>∀H' F' σ',Ext H F H' F'->EnvR K H' F' ρ σ'->R K H' F' G'->D.nx σ' H'
 rt:=PV K H F D.rt
 bk:=λρ G'=>∀H' F' σ',Ext H F H' F'->EnvR K H' F' ρ σ'->R K H' F' G'->D.bk σ' H'
 ct:=λρ G'=>∀H' F' σ',Ext H F H' F'->EnvR K H' F' ρ σ'->R K H' F' G'->D.ct σ' H'
theorem EnD.later{K:PF}{H H1:Hp}{F F1:FZ}{D:Ends}(x:Ext H F H1 F1):(EnD K H F D).Le (EnD K H1 F1 D):=
 ⟨λ_ _ h H' F' σ' x1=>h H' F' σ' (x.trans x1),λ_ _ h=>PV.later h x,λ_ _ h H' F' σ' x1=>h H' F' σ' (x.trans x1),λ_ _ h H' F' σ' x1=>h H' F' σ' (x.trans x1)⟩
def tS(K:PF)(B:Bs)(w:ak->DH->En->Prop):TS:=λD σ H=>∃ρ F G,Ext B.H B.F H F/\EnvR K H F ρ σ/\R K H F G/\w ρ G (EnD K H F D)
theorem psI{X:Cx}{st:Stmt}{t t':TS}(h:PS X st t)(i:∀D σ H,t' D σ H->t D σ H):PS X st t':=λpins s σ H D I q=>h pins s σ H D I (i D σ H q)
theorem HY{X:Cx}{st:List Stmt}{t t':TS}(h:PSs X st t)(i:∀D σ H,t' D σ H->t D σ H):PSs X st t':=λpins s σ H D I q=>h pins s σ H D I (i D σ H q)
theorem uP{e:Expr}(h:cU e=false)(t:Option Expr)(n:Nat)(env:Env):swapsWith e t n env=pure false:=by cases e <;> first |rfl |exact nomatch (show true=false from h)
theorem H9{e:Expr}(h:cU e=false)(t:Expr)(n:Nat)(env:Env):swapsWithSole [t] e n env=pure false:=uP h _ _ _
section
variable {Φ:aa} {CX:CXT} {k:Nat} {c:CT} {E:EK} {B:Bs} {X:Cx}
abbrev OkS(Φ:aa)(c:CT)(E:EK)(B:Bs)(X:Cx)(x:Sx):Prop:=∀{st:Stmt},aV c x st=true->PS X st (tS X.K B (wpS Φ x E))
abbrev jM(Φ:aa)(c:CT)(E:EK)(B:Bs)(X:Cx)(x:Sxs):Prop:=∀{st:List Stmt},aC c x st=true->PSs X st (tS X.K B (aq Φ x E))
theorem acG(S:Stat Φ CX k c E B X){x:Ex}{st:Stmt}(h:aV c (.exp x) st=true):PS X st (tS X.K B (wpS Φ (.exp x) E)):=by
 replace h:=abw h;obtain ⟨_,_,rfl,h⟩:=h
 ·rw[ae]at h;refine psI (Wb (aA x S h.2) (uP (by simpa using h.1) _ _ _)) λD σ H hq=>el hq λρ F G e0 he r hw=>?_;rw[sY]at hw;exact aN e0 he r hw λd G1 H1 F1 v q e1 x1 he1 r1 rv=>q _ _ _ x1 he1 r1
theorem acH(S:Stat Φ CX k c E B X){i:Nat}{x:Ex}{st:Stmt}(h:aV c (.asg (.nm i) x) st=true):PS X st (tS X.K B (wpS Φ (.asg (.nm i) x) E)):=by
 replace h:=Ht h;obtain ⟨tg,e,pos,rfl,h⟩:=h
 ·simp only[ae]at h;obtain ⟨⟨h1,h2⟩,h3⟩:=h;have h3:(!cU e||Gy x)=true:=h3;replace h1:=yD h1;obtain ⟨y,py,rfl,h1⟩:=h1
  ·rw[ae,aw]at h1;obtain ⟨l,f⟩:=S.sto y h1.2;have hi:X.N[i]?=some y:=by rw[S.N];exact h1.1
   have go:∀(D:Ends)(σ:L2.St)(H:Hp),tS X.K B (wpS Φ (.asg (.nm i) x) E) D σ H->qF (tE X.K B (wpE Φ x E)) (qD i) D σ H:=λD σ H hq=>el hq λρ F G e0 he r hw=>by
    rw[jC]at hw;refine aN e0 he r hw λd G1 H1 F1 v q e1 x1 he1 r1 rv=>?_;unfold aZ at q;exact q _ _ _ x1 (he1.set rv i) r1
   cases hc:cU e with
   |false=>exact psI (v9 S.nd hi l (aA x S h2) (uP hc _ _ _) f) go
   |true=>
    rw[hc,Bool.not_true,Bool.false_or]at h3;cases x with
    |comp fz elt tg it cond N cap=>
     obtain ⟨elt',tg',iter,ifs,scope,pos',rfl,C⟩:=HS h2;obtain ⟨s1,s2,s3,s4⟩:=HR S C.sc;have hb:∃b:Bool,swapsWith (.ListComp elt' [⟨tg',iter,ifs,0⟩] scope pos') (some (.Name y py)) pos.line X.env=pure b:=⟨_,rfl⟩;obtain ⟨b,hb⟩:=hb;cases b with
     |false=>exact psI (v9 S.nd hi l (aA _ S h2) hb f) go
     |true=>
      refine psI (Zn S.nd hi l (N.map Str.ofString) cap S.calm (yP it S C.it) (uO S.N C.cap) s1 s2 s3 s4 (yO C.it X.env) hb f) λD σ H hq=>el hq λρ F G e0 he r hw=>?_;rw[jC]at hw;rw[xX]at hw;refine HQ (fz:=fz) (Q:=λv H1=>D.nx (σ.set i (some v)) H1) S C.nd (λS'=>aA elt S') (λS'=>gQ cond S') C.tg C.cd C.el e0 he r (lz it (λitems g G1 q=>?_) hw);refine uc (λd ρ' G' k1 k2 hk z=>gk (λρ1 z=>cT cond (λb G2 z=>by
       cases b with
       |true=>exact aG elt (λy G3 z=>hk _ _ _ z) z
       |false=>exact hk _ _ _ z) z) tg z) ?_ _ _ _ _ q
      ·intro ds G2 q;refine dI (λd G3 q=>?_) q;intro H1 F1 v x1 r1 rv;unfold aZ at q;exact q _ _ _ x1 ((he.ext x1).set rv i) r1
    |_=>cases h3
theorem acI(S:Stat Φ CX k c E B X){ts:Tgs}{x:Ex}{st:Stmt}(h:aV c (.asg (.tp ts) x) st=true):PS X st (tS X.K B (wpS Φ (.asg (.tp ts) x) E)):=by
 replace h:=Ht h;obtain ⟨tg,e,pos,rfl,h⟩:=h
 ·rw[ae,ae]at h;have h34:(!Gz e&&!cU e)=true:=h.2;obtain ⟨h1,h2⟩:=h.1;rw[ae,dS,dS]at h34;obtain ⟨h3,h4⟩:=h34;have hg:=uJ S (.tp ts) h1;replace h1:=yE h1;obtain ⟨_,_,_,rfl,h1⟩:=h1
  ·refine psI (Ca (aA x S h2) hg (H9 h4 _ _ _) ?_ rfl) λD σ H hq=>el hq λρ F G e0 he r hw=>?_
   ·cases e <;> first |rfl |exact nomatch (show true=false from h3)
   ·rw[jC]at hw;refine aN e0 he r hw λd G1 H1 F1 v q e1 x1 he1 r1 rv=>?_;exact ⟨ρ,F1,G1,d,e1,he1,r1,rv,gk (λρ' z σ' hσ=>z H1 F1 σ' x1 hσ r1) (.tp ts) q⟩
theorem acJ(S:Stat Φ CX k c E B X){o i x:Ex}{st:Stmt}(h:aV c (.set o i x) st=true):PS X st (tS X.K B (wpS Φ (.set o i x) E)):=by
 replace h:=abx h;obtain ⟨o',i',tpos,e,pos,rfl,h⟩:=h
 ·simp only[ae,dS]at h;obtain ⟨⟨⟨h1,h2⟩,h3⟩,h4⟩:=h;have hi:=bH i h2;refine psI (Ca (aA x S h3) (Ws (aA o S h1) (aA i S h2) aa6 ?_) (H9 h4 _ _ _) ?_ rfl) λD σ H hq=>el hq λρ F G e0 he r hw=>?_
  ·intro v;cases i' <;> first |rfl |exact nomatch (show false=true from hi)
  ·cases e <;> rfl
  ·rw[sZ]at hw;refine aN e0 he r hw λd G1 H1 F1 v q e1 x1 he1 r1 rv=>?_;refine aN e1 he1 r1 q λa G2 H2 F2 w q e2 x2 he2 r2 rw'=>?_;refine aN e2 he2 r2 q λy G3 H3 F3 u q e3 x3 he3 r3 ru=>?_;refine ⟨F3,G3,a,y,d,r3,rw'.ext x3,ru,rv.ext (x2.trans x3),xY (λG4 q=>?_) q⟩;intro H4 F4 x4 r4;exact q _ _ _ (x1.trans (x2.trans (x3.trans x4))) (he3.ext x4) r4
theorem acK(S:Stat Φ CX k c E B X){i:Nat}{op:Operator}{x:Ex}{st:Stmt}(h:aV c (.aug i op x) st=true):PS X st (tS X.K B (wpS Φ (.aug i op x) E)):=by
 replace h:=aby h;obtain ⟨y,py,o,e,pos,rfl,h⟩:=h
 ·simp only[ae,aw]at h;obtain ⟨⟨⟨⟨rfl,h1⟩,h2⟩,h3⟩,h4⟩:=h;obtain ⟨l,f⟩:=S.sto y h2;refine psI (Wu S.nd (by rw[S.N];exact h1) l (aA x S h4) (aa7 o) f) λD σ H hq=>el hq λρ F G e0 he r hw=>?_;rw[tu]at hw;split at hw
  ·rename_i a ha;obtain ⟨v,e1,rv⟩:=he.get ha;refine ⟨v,e1,aN e0 he r hw λb G1 H1 F1 u q e1 x1 he1 r1 ru=>?_⟩;refine ⟨F1,G1,a,b,r1,rv.ext x1,ru,xZ (λd q=>?_) q⟩;intro H2 F2 w x2 r2 rw';exact q _ _ _ (x1.trans x2) ((he1.ext x2).set rw' i) r2
  ·exact hw.elim
theorem acL(S:Stat Φ CX k c E B X){o i:Ex}{op:Operator}{x:Ex}{st:Stmt}(h:aV c (.augs o i op x) st=true):PS X st (tS X.K B (wpS Φ (.augs o i op x) E)):=nomatch (show false=true from h)
theorem acM(S:Stat Φ CX k c E B X){x:Ex}{st:Stmt}(h:aV c (.ret x) st=true):PS X st (tS X.K B (wpS Φ (.ret x) E)):=by
 replace h:=abD h;obtain ⟨_,_,rfl,h⟩:=h
 ·refine psI (Wc (aA x S h)) λD σ H hq=>el hq λρ F G e0 he r hw=>?_;rw[tB]at hw;exact ⟨ρ,F,G,e0,he,r,hw⟩
theorem acN{st:Stmt}(h:aV c .rtn st=true):PS X st (tS X.K B (wpS Φ .rtn E)):=by
 replace h:=abE h;obtain ⟨_,rfl,h⟩:=h
 ·refine psI We λD σ H hq=>el hq λρ F G e0 he r hw=>?_;rw[tD]at hw;exact hw.now r rfl
theorem acO(S:Stat Φ CX k c E B X){t:Tx}{a b:Sxs}(iha:jM Φ c E B X a)(ihb:jM Φ c E B X b){st:Stmt}(h:aV c (.ite t a b) st=true):PS X st (tS X.K B (wpS Φ (.ite t a b) E)):=by
 replace h:=abF h;obtain ⟨_,_,_,_,rfl,h⟩:=h
 ·simp only[ae]at h;obtain ⟨⟨h1,h2⟩,h3⟩:=h;refine psI (Wg (gQ t S h1) (iha h2) (ihb h3)) λD σ H hq=>el hq λρ F G e0 he r hw=>?_;rw[tH]at hw;refine iK e0 he r hw λb' G1 H1 F1 q e1 x1 he1 r1=>?_;cases b' with
  |true=>
   rw[if_pos rfl];exact ⟨ρ,F1,G1,e1,he1,r1,cY a (EnD.later x1) q⟩
  |false=>
   rw[if_neg bo];exact ⟨ρ,F1,G1,e1,he1,r1,cY b (EnD.later x1) q⟩
theorem acP(S:Stat Φ CX k c E B X){t:Tg}{it:It'}{b:Sxs}(ihb:jM Φ c E B X b){st:Stmt}(h:aV c (.for_ t it b) st=true):PS X st (tS X.K B (wpS Φ (.for_ t it b) E)):=by
 replace h:=abG h;obtain ⟨tg,iter,body,pos,rfl,h⟩:=h
 ·simp only[ae]at h;obtain ⟨⟨h1,h2⟩,h3⟩:=h;refine psI (WL S.own S.calm (yP it S h2) (uJ S t h1) (ihb h3) (yO h2 X.env)) λD σ H hq=>el hq λρ F G e0 he r hw=>?_;rw[Es]at hw;refine ⟨ρ,F,G,e0,he,r,lz it (λitems g G1 q H1 F1 J x1 r1 W=>?_) hw⟩;let step:RF.D->ak->DH->(ak->DH->Prop)->Prop:=λd ρ' G' k=>aZ t d ρ' G' λρ1=>aq Φ b E ρ1 G' { EnD X.K H F D with nx:=k,ct:=k,bk:=(EnD X.K H F D).nx }
  let P:Nat->L2.St->Hp->Prop:=λi σ' H'=>∃ρ' F' G',Ext B.H B.F H' F'/\Ext H1 F1 H' F'/\EnvR X.K H' F' ρ' σ'/\R X.K H' F' G'/\forLoop step g (items.drop i) ρ' G' (EnD X.K H F D).nx
  refine ⟨λi m σ' H'=>m=items.length - i/\i<=items.length/\P i σ' H',⟨items.length,by simp,eg _,ρ,F1,G1,e0.trans x1,Ext.refl _ _,he.ext x1,r1,q⟩,?_⟩;rintro i m σ' H' ⟨rfl,hle,ρ',F',G',eB,e1,he',r',hl⟩;by_cases hlt:i < items.length
  ·have hd:items.drop i=items[i]::items.drop (i+1):=ca hlt;rw[hd]at hl;obtain ⟨hh,hl⟩:=hl;refine .inr ⟨W.go H' F' G' i e1 r' hh hlt,P (i+1),λσ2 H2 p=>⟨items.length - (i+1),by omega,rfl,hlt,p⟩,λx H2 hy=>?_⟩;obtain ⟨xy,ry,rx⟩:=W.yld H' F' i x H2 items[i] G' e1 r' hh (by simp[hlt]) hy;refine ⟨ρ',F',G',items[i],eB.trans xy,he'.ext xy,ry,rx,gk (λρ1 z σ1 hσ1=>?_) t hl⟩;refine ⟨ρ1,F',G',eB.trans xy,hσ1,ry,cY b (D:={ EnD X.K H F D with nx:=λρ' G'=>forLoop step g (items.drop (i+1)) ρ' G' (EnD X.K H F D).nx,ct:=λρ' G'=>forLoop step g (items.drop (i+1)) ρ' G' (EnD X.K H F D).nx,bk:=(EnD X.K H F D).nx }) ⟨λρ2 G2 z H3 F3 σ3 x3 he3 r3=>?_,λd G2 z=>PV.later z (x1.trans (e1.trans xy)),λρ2 G2 z H3 F3 σ3 x3=>z H3 F3 σ3 (x1.trans (e1.trans (xy.trans x3))),λρ2 G2 z H3 F3 σ3 x3 he3 r3=>?_⟩ z⟩
   ·exact ⟨ρ2,F3,G2,eB.trans (xy.trans x3),e1.trans (xy.trans x3),he3,r3,z⟩
   ·exact ⟨ρ2,F3,G2,eB.trans (xy.trans x3),e1.trans (xy.trans x3),he3,r3,z⟩
  ·have hi':i=items.length:=by omega
   subst hi';rw[eS]at hl;exact .inl ⟨W.stop H' F' G' e1 r' hl.1,hl.2 _ _ _ (x1.trans e1) he' r'⟩
theorem acQ(S:Stat Φ CX k c E B X){t:Tx}{b:Sxs}(ihb:jM Φ c E B X b){st:Stmt}(h:aV c (.whl t b) st=true):PS X st (tS X.K B (wpS Φ (.whl t b) E)):=by
 replace h:=abH h;obtain ⟨_,_,_,rfl,h⟩:=h
 ·simp only[ae]at h;obtain ⟨h1,h2⟩:=h;refine psI (Ww S.own (gQ t S h1) (ihb h2)) λD σ H hq=>el hq λρ F G e0 he r hw=>?_;rw[Et]at hw;obtain ⟨n,hw⟩:=hw;let test:ak->DH->(Bool->DH->Prop)->Prop:=λρ' G' k=>wpT Φ t E ρ' G' k
  let bd:ak->DH->(ak->DH->Prop)->Prop:=λρ' G' k=>aq Φ b E ρ' G' { EnD X.K H F D with nx:=k,ct:=k,bk:=(EnD X.K H F D).nx }
  let P:Nat->L2.St->Hp->Prop:=λm σ' H'=>∃ρ' F' G',Ext B.H B.F H' F'/\Ext H F H' F'/\EnvR X.K H' F' ρ' σ'/\R X.K H' F' G'/\whileLoop test bd m ρ' G' (EnD X.K H F D).nx
  refine ⟨P,⟨n,ρ,F,G,e0,Ext.refl _ _,he,r,hw⟩,?_⟩;rintro m σ' H' ⟨ρ',F',G',eB,e1,he',r',hl⟩;cases m with
  |zero=>exact hl.elim
  |succ m=>
   refine iK eB he' r' hl λb' G1 H1 F1 q e2 x2 he2 r2=>?_;cases b' with
   |true=>
    rw[if_pos rfl];refine ⟨P m,λσ2 H2 p=>⟨m,gp _,p⟩,ρ',F1,G1,e2,he2,r2,cY b (D:={ EnD X.K H F D with nx:=λρ' G'=>whileLoop test bd m ρ' G' (EnD X.K H F D).nx,ct:=λρ' G'=>whileLoop test bd m ρ' G' (EnD X.K H F D).nx,bk:=(EnD X.K H F D).nx }) ⟨λρ2 G2 z H3 F3 σ3 x3 he3 r3=>?_,λd G2 z=>PV.later z (e1.trans x2),λρ2 G2 z H3 F3 σ3 x3=>z H3 F3 σ3 (e1.trans (x2.trans x3)),λρ2 G2 z H3 F3 σ3 x3 he3 r3=>?_⟩ q⟩
    ·exact ⟨ρ2,F3,G2,e2.trans x3,e1.trans (x2.trans x3),he3,r3,z⟩
    ·exact ⟨ρ2,F3,G2,e2.trans x3,e1.trans (x2.trans x3),he3,r3,z⟩
   |false=>
    rw[if_neg bo];exact q _ _ _ (e1.trans x2) he2 r2
def tJ(K:PF)(B:Bs)(w:ak->DH->(DH->Prop)->Prop):TJ:=λσ H Q=>∃ρ F G,Ext B.H B.F H F/\EnvR K H F ρ σ/\R K H F G/\w ρ G λG'=>∀H' F',Ext H F H' F'->R K H' F' G'->Q H'
theorem pjI{X:Cx}{ps:List Expr}{t t':TJ}{n:Nat}(h:PJ X ps t n)(i:∀σ H Q,t' σ H Q->t σ H Q):PJ X ps t' n:=λpins s σ H Q out I hl q=>h pins s σ H Q out I hl (i σ H Q q)
theorem yQ{E:EK}{ρ:ak}:∀(es:Exs){G:DH}{k k':DH->Prop},(∀G',k G'->k' G')->wpM Φ es E ρ G k->wpM Φ es E ρ G k'
 |.nil,G,k,k',h,q=>h G q
 |.cons e es,G,k,k',h,q=>by
  rw[tU]at q ⊢;exact aG e (λd G1 q=>⟨q.1,yQ es h q.2⟩) q
theorem Ia{p:Expr}(h:yx p=true):∃y k pos,p=.Constant (.str y) k pos/\y.length<=1000:=by obtain ⟨t,ht,h⟩:=aJ h;obtain ⟨x,hx,h⟩:=aJ h;exact ⟨x,_,_,by rw[ht,hx],c8 h⟩
theorem yR(S:Stat Φ CX k c E B X):∀(ps:List Expr){es:Exs},lJ c es ps=true->∃n,n<=1000 * ps.length/\PJ X ps (tJ X.K B (wpM Φ es E)) n
 |[],es,h=>by
  cases es with
  |nil=>exact ⟨0,eg _,pjI Zy λσ H Q hq=>el hq λρ F G e0 he r hw=>hw H F (Ext.refl _ _) r⟩
  |cons _ _=>exact nomatch (show false=true from h)
 |p::ps,es,h=>by
  unfold lJ at h;split at h
  ·rename_i hm;obtain ⟨y,kk,pos,rfl,hy⟩:=Ia hm;obtain ⟨n,hn,hp⟩:=yR S ps h;exact ⟨y.length+n,by rw[ck];omega,Zz hp⟩
  ·split at h
   ·rename_i x rr;rw[ae]at h;obtain ⟨t,ht,h1⟩:=aJ h.1;rw[ae,ae,eD,bv]at h1;obtain ⟨n,hn,hp⟩:=yR S ps h.2;refine ⟨3+n,by rw[ck];omega,?_⟩;rw[ht,h1.1.1,h1.1.2];refine pjI (ZC (aA x S h1.2) hp) λσ H Q hq=>el hq λρ F G e0 he r hw=>?_;rw[tU]at hw;refine aN e0 he r hw λd G1 H1 F1 v q e1 x1 he1 r1 rv=>?_;obtain ⟨q1,q2⟩:=q;unfold xm at q1;split at q1
    ·rename_i i;rw[ae,bv,bv]at q1;have e2:v=.int i:=rv;refine ⟨⟨i.toNat,by rw[e2];congr 1;omega,by omega⟩,ρ,F1,G1,e1,he1,r1,yQ rr (λG' z H' F' x' r'=>z H' F' (x1.trans x') r') q2⟩
    ·cases q1
   ·cases h
theorem acR(S:Stat Φ CX k c E B X){C:String}{es:Exs}{st:Stmt}(h:aV c (.rse C es) st=true):PS X st (tS X.K B (wpS Φ (.rse C es) E)):=by
 replace h:=abz h;obtain ⟨x,np,m,cpos,pos,rfl,h⟩:=h;simp only[ae,aw]at h;obtain ⟨⟨⟨e1,h1⟩,h2⟩,h3⟩:=h;subst e1;obtain ⟨g1,g2⟩:=dM h1;obtain ⟨a,hm,hb,hn⟩:=S.xcl C h2;obtain ⟨EX,_,hth,hEX⟩:=S.exc;unfold uC at h3;rw[dc]at h3;rcases h3 with h3 |h3
 ·cases es with
  |cons _ _=>cases h3
  |nil=>
   obtain ⟨y,kk,p,rfl,hy⟩:=Ia h3;refine psI (Ed S.calm (S.glo _ g1) hm hb hth (jk BR kJ rfl) (b8 g2) rfl rfl) λD σ H hq=>el hq λρ F G e0 he r hw=>?_;rw[lw,xP]at hw;exact ⟨show 1<=sizeLine by decide,hEX ⟨C,.non⟩ G H F hw e0 r (.ref a) none ⟨a,rfl,hn,trivial⟩⟩
 ·obtain ⟨t,ht,h3⟩:=aJ h3;rw[ae,ae,bv,bv]at h3;obtain ⟨n,hn',hp⟩:=yR S t.1 h3.2;rcases hps:t.1 with _ |⟨v1,_ |⟨v2,r⟩⟩
  ·rw[hps]at h3;simp at h3
  ·rw[hps]at h3;simp at h3
  ·rw[hps]at hp;subst ht;rw[hps]at *;refine psI (Ed S.calm (S.glo _ g1) hm hb hth (jk (ZD hp (by omega)) kJ rfl) (b8 g2) rfl rfl) λD σ H hq=>el hq λρ F G e0 he r hw=>?_;rw[lw]at hw;refine ⟨ρ,F,G,e0,he,r,yQ es (λG1 q H1 F1 x1 r1 y=>⟨show 1<=sizeLine by decide,?_⟩) hw⟩;exact hEX ⟨C,.non⟩ G1 H1 F1 q (e0.trans x1) r1 (.ref a) none ⟨a,rfl,hn,trivial⟩
theorem Stat.wish(S:Stat Φ CX k c E B X)(E':Value->Shared->Prop)(ho:PassesOwn (model X.prog X.w) X.A X.env E'):Stat Φ CX k c noE B (X.wish E'):=
 ⟨S.N,S.nd,S.calm,ho,S.kd,S.vis,S.cel,S.glo,S.sto,S.room,S.call,S.blt,S.con,⟨_,S.nox _,λ_ _ _ _ _ _ _ _ _ _ q=>q.elim,λx G' H' F' h=>h.elim⟩,S.nox,S.xcl,S.loc,S.xis,S.mth,S.mko,S.fld,S.trc⟩
theorem acS(S:Stat Φ CX k c E B X){f:String}{es:Exs}{C:String}{i:Nat}{b:Bool}{st:Stmt}(h:aV c (.tryc f es C i b) st=true):PS X st (tS X.K B (wpS Φ (.tryc f es C i b) E)):=nomatch (show false=true from h)
def PNx(K:PF)(H:Hp)(F:FZ)(nx:L2.St->Hp->Prop):ak->DH->Prop:=λρ' G'=>∀H' F' σ',Ext H F H' F'->EnvR K H' F' ρ' σ'->R K H' F' G'->nx σ' H'
def PEx(K:PF)(H:Hp)(F:FZ)(ex:Value->L2.St->Hp->Prop):Xn->ak->DH->Prop:=λx ρ' G'=>∀H' F' σ' cv od,Ext H F H' F'->EnvR K H' F' ρ' σ'->R K H' F' G'->XV K H' F' x cv od->ex cv σ' H'
def tXX(K:PF)(B:Bs)(w:ak->DH->(ak->DH->Prop)->(Xn->ak->DH->Prop)->Prop):TX:=λnx ex σ H=>∃ρ F G,Ext B.H B.F H F/\EnvR K H F ρ σ/\R K H F G/\w ρ G (PNx K H F nx) (PEx K H F ex)
theorem pxI{X:Cx}{sts:List Stmt}{t t':TX}(h:PXs X sts t)(i:∀nx ex σ H,t' nx ex σ H->t nx ex σ H):PXs X sts t':=λpins s σ H nx ex E' I ho hE q=>h pins s σ H nx ex E' I ho hE (i nx ex σ H q)
theorem acT{B:Bs}{c:CT}{E:EK}{X:Cx}(S:Stat Φ (CX1 X.prog X.w) k c E B X){f g:String}{i:Nat}{es:Exs}{sts:List Stmt}(h:iJ c (.pick f g i es) sts=true):PXs X sts (tXX X.K B (wpX Φ (.pick f g i es))):=nomatch (show false=true from h)
theorem Ib{X:Cx}{k:Nat}{f:Addr}{fd:FuncData}{ps:List Str}{sp:Sp}{pins:List (Addr×Obj)}{σ:L2.St}{H:Hp}{s:Shared}{us:List Value}{vs:List V}{nx:L2.St->Hp->Prop}{ex:Value->L2.St->Hp->Prop}{E':Value->Shared->Prop}(F:FnOk X.prog X.w X.K X.mg X.base (CX1 X.prog X.w) k f fd ps sp)(hr:Room k X.A)(hb:Binds X.K fd ps [])(hE:∀e s1,XP X pins ex σ e s1->E' e s1)
  (I:Inv X pins σ H s) (r:Vals vs us) (h:sp (vs++[]) H (λ_ H2=>nx σ H2) λc _ H2=>ex c σ H2):wpAny (model X.prog X.w) X.A (call (.ref f) us) (λ_ s1=>∃H2,Inv X pins σ H2 s1/\nx σ H2) E' s:=by
 rw[dy]at h;have hl:us.length=ps.length:=by rw[<-r.length];exact F.len _ _ _ _ h
 have hb2:=hb s us I.kIn (by rw[dy];exact hl);rw[dy]at hb2;refine wpAny_call (codeAny_mono (F.run X.A X.stack s H ⟨us,[]⟩ us vs _ _ hr I.env0 hb2 r h) λrr s2 hq=>?_);cases rr with
 |error ev=>
  obtain ⟨a,c,H2,rfl,ho,hgn,un,hok,tr,qn⟩:=hq;exact hE _ _ ⟨a,c,H,s,H2,rfl,I,⟨ho,hgn,un,hok,tr⟩,qn⟩
 |ok fl=>
  cases fl with
  |ret u=>
   obtain ⟨v,H2,I2,r2,q2⟩:=I.after hq;exact ⟨H2,I2,q2⟩
  |next=>exact False.elim hq
  |brk=>exact False.elim hq
  |cont=>exact False.elim hq
theorem acU{B:Bs}{c:CT}{E:EK}{X:Cx}(S:Stat Φ (CX1 X.prog X.w) k c E B X){f C m:String}{o:Ex}{xs:Exs}{sts:List Stmt}(h:iJ c (.mcl f C m o xs) sts=true):PXs X sts (tXX X.K B (wpX Φ (.mcl f C m o xs))):=by
 obtain ⟨e,p0,rfl,h⟩:=abC h;obtain ⟨y,p,n,apos,args,cpos,rfl,hh⟩:=yF h;rw[ae,ae,ae,ae,ae,aw]at hh;obtain ⟨⟨⟨⟨⟨en,hl⟩,hlt⟩,hm⟩,ho⟩,hes⟩:=hh;have hlt:=c8 hlt;subst en;obtain ⟨c0,fa,fd,ps,hn,hcl,hmt,hbn,F0⟩:=S.mth _ _ _ _ (aT.mp hm);have hline:(apos.endLine==cpos.line)=true:=hl;intro pins s σ H nx ex E' I hpo hE hq;have key:kO c0 (Str.ofString m) (lift X.K (args.length+1) (Φ f)) [] (λc _ H2=>ex c σ H2) (tE X.K B (wpE Φ o noE)) (tL X.K B (aM Φ xs noE)) σ H λ_ H2=>nx σ H2:=by
  obtain ⟨ρ,F,G,eB,he,r,hw⟩:=hq;rw[tW]at hw;refine aN eB he r hw λd G1 H1 F1 u q e1 x1 he1 r1 ru=>?_;obtain ⟨qo,q⟩:=q;unfold cX at qo;split at qo
  ·rename_i C' f' q0;obtain ⟨rfl,hne⟩:=qo;have ru':=ru;obtain ⟨a,c1,dx,e2,⟨_,hH⟩,hn1⟩:=ru;have ec:c1=c0:=by rw[hn]at hn1;cases hn1;rfl
   subst ec;subst e2;refine ⟨a,dx,_,rfl,hH,HB hne,b7 e1 he1 r1 (lL _ hes q) λds G2 H2 F2 vs q e2 x2 he2 r2 rvs=>?_⟩;rw[dy];exact ⟨by rw[ck,<-rvs.length,q.1],F2,G2,_::ds,r2,.cons (Rep.ext x2 ru') rvs,Spec.mono q.2 (λd G3 z H3 F3 v x3 r3 _=>z H3 F3 σ ((x1.trans x2).trans x3) (he2.ext x3) r3) λxn G3 z H3 F3 x3 r3 cv od hv=>z H3 F3 σ cv od ((x1.trans x2).trans x3) (he2.ext x3) r3 hv⟩
  ·exact qo.elim
 cases args with
 |nil=>
  cases xs with
  |nil=>
   refine gt (wpAny_Expr_any (gi (thn (aA o (S.wish E' hpo) ho pins s σ H _ (I.wish E') key) λu s1 ⟨x,H1,I1,rx,a,dx,fs,ex1,ea,l,q⟩=>?_) (uF rfl rfl hline)) I.quiet rfl);subst ex1;obtain rfl:u=Value.ref a:=rx;refine qM (X:=X.wish E') I1 ea hcl hmt l ?_;obtain ⟨ρ',F',G',e0',he',r',hw'⟩:=q;rw[gj]at hw';exact PySem.W.callWith_K0 (first:=[.ref a]) I1.kIn hmt.kp (thn (Ib (us:=[.ref a]) (vs:=[.ref a]) F0 S.room hbn hE I1.unwish (.cons rfl .nil) (hw' H1 F' [] (Ext.refl _ _) r' rfl)) λv s2 ⟨H2,I2,q2⟩=>ft ⟨rfl,σ,H2,I2,q2⟩)
  |cons _ _=>cases hes
 |cons e1 es=>
  obtain ⟨x0,xs',rfl,c1,c2⟩:=gP hes;refine gt (wpAny_Expr_any (gi (thn (aA o (S.wish E' hpo) ho pins s σ H _ (I.wish E') key) λu s1 ⟨x,H1,I1,rx,a,dx,fs,ex1,ea,l,q⟩=>?_) (uF rfl ?_ hline)) I.quiet rfl)
  ·subst ex1;obtain rfl:u=Value.ref a:=rx;refine qM (X:=X.wish E') I1 ea hcl hmt l ?_;refine PySem.W.callWith_K (first:=[.ref a]) (h₀:=X.base) I.ok.mod.kin hmt.kp (thn (EachE.oks (dN (.cons x0 xs') (S.wish E' hpo)) hes cpos pins s1 σ H1 _ I1 q) λus s2 ⟨vs,H2,I2,r,q2⟩=>⟨I2.kIn,?_⟩) (cj e1 es X.env (cV (bH x0 c1))) (iM c2 X.env cpos);exact thn (Ib (us:=.ref a::us) (vs:=.ref a::vs) F0 S.room hbn hE I2.unwish (.cons rfl r) q2) λv s3 ⟨H3,I3,q3⟩=>ft ⟨rfl,σ,H3,I3,q3⟩
  ·unfold methodCallForm;rw[all_plain hes X.env cpos];have e0:(if (backToKw cpos (keywordEach [] X.env)).isEmpty=true then 0 else 1)=0:=rfl;rw[e0,b9 (show (e1::es).length+([]:List Keyword).length+0 < 30 by show (e1::es).length+0+0 < 30;omega)];rfl
theorem acV{B:Bs}{c:CT}{E:EK}{X:Cx}(S:Stat Φ (CX1 X.prog X.w) k c E B X):∀(b:Tb){sts:List Stmt},iJ c b sts=true->PXs X sts (tXX X.K B (wpX Φ b))
 |.call _ _,_,h=>nomatch (show false=true from h)
 |.pick f g i es,sts,h=>acT S h
 |.mcl f C m o es,sts,h=>acU S h
 |.mko _ _,_,h=>nomatch (show false=true from h)
 |.asg _ _ _,_,h=>nomatch (show false=true from h)
 |.ite _ _ _,_,h=>nomatch (show false=true from h)
theorem acW(S:Stat Φ CX k c E B X){b:Tb}{C:String}{hd:Hd}{xs:List String}{st:Stmt}(h:aV c (.tryx b C hd xs) st=true):PS X st (tS X.K B (wpS Φ (.tryx b C hd xs) E)):=by
 obtain ⟨body,cx,p1,nm,y,p2,e,p4,p5,pos,rfl,h1,h2,h3,h4,h5⟩:=abB h;simp only[ae,aw]at h4;obtain ⟨⟨ec,hc⟩,hcx⟩:=h4;subst ec;obtain ⟨g3,g4⟩:=dM hc;have hne:c.xs≠[]:=λe=>by rw[e]at hcx;cases hcx
 obtain ⟨ecx,hst,hex⟩:=S.trc hne;subst ecx;obtain ⟨cv,hcv,hall⟩:=S.xis C hcx;have hcat:∃a,cv=.ref a/\X.mg (Str.ofString C)=some (.ref a)/\Cat X.K a:=by
  rcases hcv with ⟨a,e,hm,hb⟩ |⟨e,_,_⟩
  ·exact ⟨a,e,hm,ZK hb⟩
  ·rw[e]at h3;cases h3
 obtain ⟨a,rfl,ham,hca⟩:=hcat;unfold uD at h5;rw[ae,ae]at h5;obtain ⟨⟨h5,hsy⟩,hoy⟩:=h5;obtain ⟨hloc,hfn⟩:=S.sto _ hsy;have cls:∀{x:Xn}{H':Hp}{F':FZ}{cv:Value}{od:Option Addr},xs.contains x.cls=true->fZ x.cls C=true->XV X.K H' F' x cv od->∃d,cv=.ref d/\PySem.W.mroIn X.K d (.ref a)=some true/\PySem.W.nsIn X.K mainGlobals (Str.ofString x.cls)=some (some (.ref d)):=by
  intro x H' F' cv od hx hs hv;obtain ⟨d,rfl,hn,_⟩:=hv;obtain ⟨c1,k1,_,k4,_⟩:=hall x.cls (ci.mp h2 _ (aT.mp hx));rw[k1]at hn;have ed:c1=d:=by simpa using hn
  subst ed;rw[hs]at k4;exact ⟨c1,rfl,k4,k1⟩
 cases hd with
 |flag i v=>
  simp only[ae,aw,eD]at h5;obtain ⟨⟨rfl,hi⟩,h6⟩:=h5;obtain ⟨kk,hk,h6⟩:=aJ h6;have ek:=abA h6;subst hk;rw[ek];refine psI (ZL (acV S b h1) hst (S.glo _ g3) ham hca S.nd (by rw[S.N];exact hi) hloc hfn rfl (b8 g4)) λD σ H hq=>el hq λρ F G eB he r hw=>?_;rw[tV]at hw;refine ⟨ρ,F,G,eB,he,r,uf b (λρ' G' z H' F' σ' x' he' r'=>z H' F' σ' x' he' r') (λx ρ' G' z H' F' σ' cv od x' he' r' hv=>?_) hw⟩;obtain ⟨z1,z2,z3,z4⟩:=z;obtain ⟨d,e1,e2,_⟩:=cls z2 z3 hv;exact ⟨d,e1,e2,z4 H' F' _ x' (EnvR.set (d:=.bl v) (v:=.bl v) (show V.bl v=.bl v from rfl) i he') r'⟩
 |bind n i=>cases h5
theorem acX{st:List Stmt}(h:aC c .nil st=true):PSs X st (tS X.K B (aq Φ .nil E)):=by
 unfold aC at h;cases st with
 |nil=>exact HY V4 λD σ H hq=>el hq λρ F G e0 he r hw=>by rw[jA]at hw;exact hw _ _ _ (Ext.refl _ _) he r
 |cons _ _=>cases h
theorem acY{x:Sx}{xs:Sxs}(ih:OkS Φ c E B X x)(ihs:jM Φ c E B X xs){st:List Stmt}(h:aC c (.cons x xs) st=true):PSs X st (tS X.K B (aq Φ (.cons x xs) E)):=by
 unfold aC at h;split at h
 ·rw[ae]at h;refine HY (BW (ih h.1) (ihs h.2)) λD σ H hq=>el hq λρ F G e0 he r hw=>?_;rw[jB]at hw;refine ⟨ρ,F,G,e0,he,r,wpS_mono x (D:={ EnD X.K H F D with nx:=λρ' G'=>aq Φ xs E ρ' G' (EnD X.K H F D) }) ⟨λρ1 G1 q H1 F1 σ1 x1 he1 r1=>?_,λ_ _ z=>z,λ_ _ z=>z,λ_ _ z=>z⟩ hw⟩;exact ⟨ρ1,F1,G1,e0.trans x1,he1,r1,cY xs (EnD.later x1) q⟩
 ·cases h
end
mutual
theorem Ie{Φ:aa}{CX:CXT}{k:Nat}{B:Bs}{c:CT}{E:EK}{X:Cx}(S:Stat Φ CX k c E B X):∀(x:Sx),OkS Φ c E B X x
 |.exp e=>by intro h;exact acG S h
 |.asg (.nm i) e=>by intro h;exact acH S h
 |.asg (.tp ts) e=>by intro h;exact acI S h
 |.set o i e=>by intro h;exact acJ S h
 |.aug i op e=>by intro h;exact acK S h
 |.augs o i op e=>by intro h;exact acL S h
 |.ret e=>by intro h;exact acM S h
 |.rtn=>by intro h;exact acN h
 |.ite t a b=>by intro h;exact acO S (iQ S a) (iQ S b) h
 |.for_ t it b=>by intro h;exact acP S (iQ S b) h
 |.whl t b=>by intro h;exact acQ S (iQ S b) h
 |.pas=>by
  intro h;obtain ⟨_,rfl,_⟩:=abI h;exact psI V7 λD σ H hq=>el hq λρ F G e0 he r hw=>by rw[tM]at hw;exact hw _ _ _ (Ext.refl _ _) he r
 |.brk=>by
  intro h;obtain ⟨_,rfl,_⟩:=abJ h;exact psI V8 λD σ H hq=>el hq λρ F G e0 he r hw=>by rw[tQ]at hw;exact hw _ _ _ (Ext.refl _ _) he r
 |.cnt=>by
  intro h;obtain ⟨_,rfl,_⟩:=abK h;exact psI V9 λD σ H hq=>el hq λρ F G e0 he r hw=>by rw[tR]at hw;exact hw _ _ _ (Ext.refl _ _) he r
 |.rse C es=>by intro h;exact acR S h
 |.tryc f es C i b=>by intro h;exact acS S h
 |.tryx b C h xs=>by intro hh;exact acW S hh
 |.nev=>by
  intro h;exact psI Wi λD σ H hq=>el hq λρ F G e0 he r hw=>by rw[tX]at hw;exact hw.elim
theorem iQ{Φ:aa}{CX:CXT}{k:Nat}{B:Bs}{c:CT}{E:EK}{X:Cx}(S:Stat Φ CX k c E B X):∀(x:Sxs),jM Φ c E B X x
 |.nil=>by intro h;exact acX h
 |.cons s r=>by intro h;exact acY (Ie S s) (iQ S r) h
end
end RF
namespace L2
open PySem PySem.Spec PyProof.Rows
theorem Fun.okX{P:Program}{w:World}{K:PF}{mg:Str->Option Value}{base:Heap}{CX:CXT}{x qual:Str}{st:Stmt}{f:Addr}{fd:FuncData}{N ps:List Str}{k:Nat}{sp:Sp}(F:Fun K x qual st f fd)(S:FnScope N ps (ao st))(len:∀vs H Q E,sp vs H Q E->vs.length=ps.length)
  (hbody:∀(cdv:Value)(A:Around)(outer:List Env)(s:Shared)(H:Hp)(vs:List V)(Q:VK)(E:XK),Room k (A.deeper (envOfC qual (ao st) s.heap.objs.size f cdv))->sp vs H Q E->
   ∃t,PSs (cQ CX P w K mg base N qual (ao st) f cdv A outer s H E) (aF st) t/\t { nx:=λ_ H'=>Q .non H',rt:=Q } (start N vs) H):FnOk P w K mg base CX (k+1) f fd ps sp:=by
 obtain ⟨oc,od,kV,doc,pm,an,cdv,ct,osl,rfl,lk,hcd⟩:=F.ex;exact XS lk hcd S len λA outer s H vs Q E hr hsp=>hbody cdv A outer s H vs Q E hr hsp
theorem FnOk.cx{P:Program}{w:World}{K:PF}{mg:Str->Option Value}{base:Heap}{k:Nat}{CX:CXT}{f:Addr}{fd:FuncData}{ps:List Str}{sp:Sp}(F:FnOk P w K mg base CX0 k f fd ps sp):FnOk P w K mg base CX k f fd ps sp:=
 ⟨F.len,λA outer s H args us vs Q E hr he hb hv hs=>codeAny_mono (F.run A outer s H args us vs Q E hr he hb hv hs) λr s' hq=>by
  cases r with
  |error e=>exact False.elim hq
  |ok fl=>cases fl <;> exact hq⟩
end L2
namespace RF
open PySem PySem.Spec PyProof.Rows L2
noncomputable def fnB(N ps:List Str)(sc:Scope):Bool:=
 decide (sc.kind=.function)&&!sc.isCoroutine&&!sc.isGenerator&&fH N&&(N.take ps.length==ps)&&ps.all (λx=>sc.names.lookup x==some .local||sc.names.lookup x==some .cell)&&sc.names.all (λy=>y.2 != .free)
theorem uQ{N ps:List Str}{sc:Scope}(h:fnB N ps sc=true):FnScope N ps sc:=by unfold fnB at h;simp only[ae,dS,bv,aw,ci,dc,bne_iff_ne]at h;obtain ⟨⟨⟨⟨⟨⟨h1,h2⟩,h3⟩,h4⟩,h5⟩,h6⟩,h7⟩:=h;exact ⟨h1,h2,h3,yN h4,h5,h6,λy hy=>h7 y hy⟩
structure Bse(Φ:aa)(P:Program)(w:World)(K:PF)(mg:Str->Option Value)(base:Heap)(CX:CXT)(k:Nat)(fs:List (String×Nat))(bt:List String)(cn:List (String×D))(xs:List (String×Bool))(ot:OT):Prop where
 call:∀f n,(f,n)∈fs->∃fa fd ps,FnOk P w K mg base CX k fa fd ps (lift K n (Φ f))/\PySem.W.keepIn K (.ref fa)=true/\Binds K fd ps []/\mg (Str.ofString f)=some (.ref fa)
 blt:∀f,f∈bt->mg (Str.ofString f)=none
 con:∀x d,(x,d)∈cn->∃u v,mg (Str.ofString x)=some u/\RelV v u/\∀H F,Rep K H F d v
 xcl:∀C,xs.contains (C,true)=true->∃a,mg (Str.ofString C)=some (.ref a)/\il K a=true/\PySem.W.nsIn K mainGlobals (Str.ofString C)=some (some (.ref a))
 xis:∀C',xs.contains (C',false)=true->∃cv,CV K mg C' cv/\∀C,xs.contains (C,true)=true->XI K C C' cv
 mth:∀f C m n,(f,C,m,n)∈ot.ms->MthOk Φ P w K mg base CX k f C m n
 mko:∀C n,(C,n)∈ot.ks->MkoOk Φ P w K mg base CX k C n
 fld:∀C f,(C,f)∈ot.fl->yG K C f
def aH(N:List Str)(sc:Scope)(fs:List (String×Nat))(bt:List String)(cn:List (String×D))(xs:List (String×Bool))(ot:OT):CT:={ N:=N,kd:=sc.names,fn:=true,fs:=fs,bt:=bt,cn:=cn,xs:=xs,ot:=ot }
section
variable {Φ:aa} {P:Program} {w:World} {K:PF} {mg:Str->Option Value} {base:Heap} {k:Nat} {fs:List (String×Nat)} {bt:List String} {cn:List (String×D)} {xs:List (String×Bool)} {ot:OT}
theorem Ig{N ps:List Str}{sc:Scope}{qual:Str}{f:Addr}{cdv:Value}{A:Around}{outer:List Env}{s:Shared}{H:Hp}{EX:XK}{B:Bs}(T:Bse Φ P w K mg base (CX1 P w) k fs bt cn xs ot)(hs:fnB N ps sc=true)
  (hr:Room k (A.deeper (envOfC qual sc s.heap.objs.size f cdv))):Stat Φ (CX1 P w) k (aH N sc fs bt cn xs ot) noE B (cQ (CX1 P w) P w K mg base N qual sc f cdv A outer s H EX).nox where
 N:=rfl
 nd:=(uQ hs).nd
 calm:=rfl
 own:=PassesOwn.never
 kd:=rfl
 vis:=λx h=>by
  have h:iC (sc.names.lookup x)=true:=h;show sc.names.lookup x=_\/sc.names.lookup x=_\/sc.names.lookup x=_;unfold iC at h;split at h <;> first | (cases h;done) |simp_all
 cel:=λx h=>h
 glo:=λx h=>h
 sto:=λx h=>by
  have h:(sc.names.lookup x==some .local||(true&&sc.names.lookup x==some .cell))=true:=h;rw[Bool.true_and,dc,aw,aw]at h;exact ⟨h,.inl rfl⟩
 room:=hr
 call:=T.call
 blt:=T.blt
 con:=T.con
 exc:=⟨_,DR _,λ_ _ _ _ _ _ _ _ _ _ q=>q.elim,λ_ _ _ _ h=>h.elim⟩
 nox:=λY=>DR Y
 xcl:=T.xcl
 loc:=λx h=>h
 xis:=T.xis
 mth:=T.mth
 mko:=T.mko
 fld:=T.fld
 trc:=λ_=>⟨rfl,rfl,rfl⟩
theorem Ih{N ps:List Str}{sc:Scope}{qual:Str}{f:Addr}{cdv:Value}{A:Around}{outer:List Env}{s:Shared}{H:Hp}{EX:XK}{B:Bs}{E:EK}(T:Bse Φ P w K mg base (CX1 P w) k fs bt cn xs ot)(hs:fnB N ps sc=true)
  (hr:Room k (A.deeper (envOfC qual sc s.heap.objs.size f cdv))) (hE:∀x G' H' F',E x G'->Ext B.H B.F H' F'->R K H' F' G'->XR K H' F' x EX):Stat Φ (CX1 P w) k (aH N sc fs bt cn xs ot) E B (cQ (CX1 P w) P w K mg base N qual sc f cdv A outer s H EX):=
 have S:=Ig (EX:=EX) (B:=B) (qual:=qual) (f:=f) (cdv:=cdv) (A:=A) (outer:=outer) (s:=s) (H:=H) T hs hr
 ⟨S.N,S.nd,S.calm,PassesOwn.leaving,S.kd,S.vis,S.cel,S.glo,S.sto,S.room,S.call,S.blt,S.con,⟨EX,Zt rfl rfl λ_ _ h=>h,ZF rfl rfl λ_ _ h=>h,hE⟩,S.nox,S.xcl,S.loc,S.xis,S.mth,S.mko,S.fld,λ_=>⟨rfl,rfl,rfl⟩⟩
theorem acZ{outer:List Env}{H:Hp}{s s':Shared}{e:Value}(h:CX1 P w outer H s (λ_ _ _=>False) e s'):False:=by obtain ⟨_,_,_,_,_,_,_,_,_,q⟩:=h;exact q
def ends(Q:D->DH->Prop):En:={ nx:=λ_ G=>Q .non G,rt:=Q,bk:=λ_ _=>False,ct:=λ_ _=>False }
def env0(ds:List D)(n:Nat):ak:=ds.map some++List.replicate n none
theorem ac0{x qual:Str}{st:Stmt}{f:Addr}{fd:FuncData}(Fu:Fun K x qual st f fd)(T:Bse Φ P w K mg base (CX1 P w) k fs bt cn xs ot){N ps:List Str}{body:Sxs}(S:RF.Spec)(n m:Nat)(hs:fnB N ps (ao st)=true)
  (hc:aC (aH N (ao st) fs bt cn xs ot) body (aF st)=true) (hn:ps.length=n) (hm:N.length=n+m)
  (hw:∀ds G a,ds.length=n->S.pre ds G a->aq Φ body (S.exc a) (env0 ds m) G (ends (S.post a))):FnOk P w K mg base (CX1 P w) (k+1) f fd ps (lift K n S):=by
 refine Fu.okX (uQ hs) (λvs H Q E h=>by rw[hn];exact h.1) λcdv A outer s H vs Q EX hr hsp=>?_;obtain ⟨hl,F,G,ds,r,rs,a,h1,h2,h3⟩:=hsp;have St:Stat Φ (CX1 P w) k (aH N (ao st) fs bt cn xs ot) (S.exc a) ⟨H,F⟩ (cQ (CX1 P w) P w K mg base N qual (ao st) f cdv A outer s H EX):=Ih T hs hr λx G' H' F' hx e r'=>h3 x G' hx H' F' e r';refine ⟨_,iQ St body hc,?_⟩;refine ⟨env0 ds m,F,G,Ext.refl _ _,?_,r,cY body (D:=ends (S.post a)) ⟨λρ G' q=>?_,λd G' q=>h2 d G' q,λ_ _ q=>False.elim q,λ_ _ q=>False.elim q⟩ (hw ds G a (by rw[rs.length];exact hl) h1)⟩
 ·unfold L2.start;rw[show N.length - vs.length=m by omega];exact EnvR.start m rs
 ·intro H' F' σ' x1 _ r1;exact h2 .non G' q H' F' .non x1 r1 rfl
theorem jN{x qual:Str}{st:Stmt}{f:Addr}{fd:FuncData}(Fu:Fun K x qual st f fd)(T:Bse Φ P w K mg base (CX1 P w) k fs bt cn xs ot){N ps:List Str}{body:Sxs}(S:RF.Spec)(n m:Nat)(hs:fnB N ps (ao st)=true)
  (hc:aC (aH N (ao st) fs bt cn xs ot) body (aF st)=true) (hn:ps.length=n) (hm:N.length=n+m)
  (hw:∀ds G a,ds.length=n->S.pre ds G a->aq Φ body noE (env0 ds m) G (ends (S.post a))):FnOk P w K mg base (CX1 P w) (k+1) f fd ps (lift K n S):=by
 refine Fu.okX (uQ hs) (λvs H Q E h=>by rw[hn];exact h.1) λcdv A outer s H vs Q EX hr hsp=>?_;obtain ⟨hl,F,G,ds,r,rs,a,h1,h2,h3⟩:=hsp;have St:Stat Φ (CX1 P w) k (aH N (ao st) fs bt cn xs ot) noE ⟨H,F⟩ (cQ (CX1 P w) P w K mg base N qual (ao st) f cdv A outer s H EX).nox:=Ig T hs hr;refine ⟨_,(iQ St body hc).nox,?_⟩;refine ⟨env0 ds m,F,G,Ext.refl _ _,?_,r,cY body (D:=ends (S.post a)) ⟨λρ G' q=>?_,λd G' q=>h2 d G' q,λ_ _ q=>False.elim q,λ_ _ q=>False.elim q⟩ (hw ds G a (by rw[rs.length];exact hl) h1)⟩
 ·unfold L2.start;rw[show N.length - vs.length=m by omega];exact EnvR.start m rs
 ·intro H' F' σ' x1 _ r1;exact h2 .non G' q H' F' .non x1 r1 rfl
end
def bB(pre:List D->DH->Prop)(post:List D->DH->D->DH->Prop):RF.Spec where
 A:=List D×DH
 pre:=λds G a=>a=(ds,G)/\pre ds G
 post:=λa d G'=>post a.1 a.2 d G'
 exc:=λ_ _ _=>False
theorem bK{pre:List D->DH->Prop}{post:List D->DH->D->DH->Prop}{ds:List D}{G:DH}{k:D->DH->Prop}{E:EK}(h:pre ds G)(hk:∀d G',post ds G d G'->k d G'):(bB pre post).t ds G k E:=
 ⟨(ds,G),⟨rfl,h⟩,hk,λ_ _ z=>z.elim⟩
theorem bT{Φ:aa}{body:Sxs}{m n:Nat}{pre:List D->DH->Prop}{post:List D->DH->D->DH->Prop}(h:∀ds G,pre ds G->aq Φ body noE (env0 ds m) G (ends (post ds G))):
  ∀ds G a,ds.length=n->(bB pre post).pre ds G a->aq Φ body noE (env0 ds m) G (ends ((bB pre post).post a)):=by
 rintro ds G a _ ⟨rfl,h1⟩;exact h ds G h1
def aP(f:List D->Option D):RF.Spec:=bB (λds _=>(f ds).isSome=true) (λds G d G'=>G'=G/\f ds=some d)
theorem dO{f:List D->Option D}{ds:List D}{d:D}{G:DH}{k:D->DH->Prop}{E:EK}(h:f ds=some d)(hk:k d G):(aP f).t ds G k E:=
 bK (by rw[h];rfl) λd' G' ⟨e1,e2⟩=>by rw[h]at e2;cases e2;rw[e1];exact hk
theorem iR{Φ:aa}{body:Sxs}{m n:Nat}{f:List D->Option D}(h:∀ds G d,f ds=some d->aq Φ body noE (env0 ds m) G (ends λd' G'=>G'=G/\d'=d)):
  ∀ds G a,ds.length=n->(aP f).pre ds G a->aq Φ body noE (env0 ds m) G (ends ((aP f).post a)):=by
 refine bT λds G hf=>?_;obtain ⟨d,e⟩:=cS.mp hf;refine cY body (D:=ends λd' G'=>G'=G/\d'=d) ⟨λρ G' q=>?_,λd' G' q=>?_,λ_ _ q=>q,λ_ _ q=>q⟩ (h ds G d e)
 ·exact ⟨q.1,by rw[e];exact fb some q.2.symm⟩
 ·exact ⟨q.1,by rw[e];exact fb some q.2.symm⟩
theorem ac1{step:D->ak->DH->(ak->DH->Prop)->Prop}{g:Hld}{items:List D}{ρ:ak}{G:DH}{k:ak->DH->Prop}(P:Nat->ak->DH->Prop)(h0:P 0 ρ G)(hh:∀i ρ G,P i ρ G->held g G)
  (hs:∀i d ρ G,items[i]?=some d->P i ρ G->∀kk:ak->DH->Prop,(∀ρ' G',P (i+1) ρ' G'->kk ρ' G')->step d ρ G kk) (he:∀ρ G,P items.length ρ G->k ρ G):forLoop step g items ρ G k:=by
 have go:∀(l:List D)(i:Nat)(ρ:ak)(G:DH),items.drop i=l->i<=items.length->P i ρ G->forLoop step g l ρ G k:=by
  intro l;induction l with
  |nil=>
   intro i ρ G e hi p;have:i=items.length:=by have:=fb List.length e;rw[cf]at this;simp at this;omega
   subst this;exact ⟨hh _ _ _ p,he _ _ p⟩
  |cons d l ih=>
   intro i ρ G e hi p;have hl:i < items.length:=by
    by_cases h:i < items.length
    ·exact h
    ·rw[List.drop_eq_nil_of_le (by omega)]at e;cases e
   rw[ca hl]at e;injection e with e1 e2;refine ⟨hh _ _ _ p,hs i d ρ G (by rw[bg hl,e1]) p _ λρ' G' p'=>ih (i+1) ρ' G' e2 hl p'⟩
 exact go _ 0 ρ G (by simp) (eg _) h0
theorem Ii{step:D->ak->DH->(Option D->ak->DH->Prop)->Prop}{g:Hld}{items acc:List D}{ρ:ak}{G:DH}{k:List D->DH->Prop}(P:Nat->List D->ak->DH->Prop)(h0:P 0 acc ρ G)(hh:∀i acc ρ G,P i acc ρ G->held g G)
  (hl:acc.length+items.length<=sz)
  (hs:∀i d acc ρ G,items[i]?=some d->P i acc ρ G->∀kk:Option D->ak->DH->Prop,(∀o ρ' G',P (i+1) (acc++o.toList) ρ' G'->kk o ρ' G')->step d ρ G kk) (he:∀acc ρ G,P items.length acc ρ G->k acc G):compLoop step g items acc ρ G k:=by
 have go:∀(l:List D)(i:Nat)(acc:List D)(ρ:ak)(G:DH),items.drop i=l->i<=items.length->acc.length+l.length<=sz->P i acc ρ G->compLoop step g l acc ρ G k:=by
  intro l;induction l with
  |nil=>
   intro i acc ρ G e hi ha p;have:i=items.length:=by have:=fb List.length e;rw[cf]at this;simp at this;omega
   subst this;exact ⟨hh _ _ _ _ p,by simpa using ha,he _ _ _ p⟩
  |cons d l ih=>
   intro i acc ρ G e hi ha p;have hl:i < items.length:=by
    by_cases h:i < items.length
    ·exact h
    ·rw[List.drop_eq_nil_of_le (by omega)]at e;cases e
   rw[ca hl]at e;injection e with e1 e2;have ha':acc.length+(l.length+1)<=sz:=ha;refine ⟨hh _ _ _ _ p,by omega,hs i d acc ρ G (by rw[bg hl,e1]) p _ λo ρ' G' p'=>?_⟩;cases o with
   |some y=>exact ih (i+1) (acc++[y]) ρ' G' e2 hl (by rw[av];simp;omega) p'
   |none=>exact ih (i+1) acc ρ' G' e2 hl (by omega) (by simpa using p')
 exact go _ 0 acc ρ G (by simp) (eg _) hl h0
theorem ac2{step:D->ak->DH->(Option D->ak->DH->Prop)->Prop}{items:List D}{ρ:ak}{G:DH}{k:List D->DH->Prop}(g:Hld)(f:D->Option D)(I:ak->Prop)(h0:I ρ)(hg:held g G)(hl:items.length<=sz)
  (hs:∀d ρ,d∈items->I ρ->∀kk:Option D->ak->DH->Prop,(∀ρ',I ρ'->kk (f d) ρ' G)->step d ρ G kk) (he:k (items.filterMap f) G):compLoop step g items [] ρ G k:=by
 refine Ii (λi acc ρ' G'=>I ρ'/\G'=G/\acc=(items.take i).filterMap f) ⟨h0,rfl,rfl⟩ (λi acc ρ' G' p=>by rw[p.2.1];exact hg) (by simpa using hl) ?_ ?_
 ·rintro i d acc ρ' G' hd ⟨p1,rfl,rfl⟩ kk hk;refine hs d ρ' (ce hd) p1 kk λρ2 i2=>hk _ _ _ ⟨i2,rfl,?_⟩;rw[fm,hd,List.filterMap_append];congr 1
 ·rintro acc ρ' G' ⟨_,rfl,rfl⟩;rw[gs];exact he
theorem ac3{step:D->ak->DH->(Option D->ak->DH->Prop)->Prop}{items:List D}{ρ:ak}{G:DH}{k:List D->DH->Prop}(g:Hld)(f:D->D)(I:ak->Prop)(h0:I ρ)(hg:held g G)(hl:items.length<=sz)
  (hs:∀d ρ,d∈items->I ρ->∀kk:Option D->ak->DH->Prop,(∀ρ',I ρ'->kk (some (f d)) ρ' G)->step d ρ G kk) (he:k (items.map f) G):compLoop step g items [] ρ G k:=
 ac2 g (λd=>some (f d)) I h0 hg hl hs (by rw[<-List.filterMap_eq_map]at he;exact he)
theorem yS{α:Type}(f:α->Bool):∀l:List α,bools (l.map λx=>D.bl (f x))=some (l.map f)
 |[]=>rfl
 |x::l=>by simp[bools,yS f l]
theorem strs_map{α:Type}(f:α->List Nat):∀l:List α,bw (l.map λx=>D.str (f x))=some (l.map f)
 |[]=>rfl
 |x::l=>by simp[bw,strs_map f l]
theorem Ij:∀l:List (List Nat),eF [] l=l.flatten
 |[]=>rfl
 |[x]=>by simp[eF]
 |x::y::r=>by simp[eF,Ij (y::r)]
def Sa(G G':DH):Prop:=∀b o,G b=some o->G' b=some o
def Sb(p:Addr)(G G':DH):Prop:=∀b o,G b=some o->b≠p->G' b=some o
theorem Sb.refl(p:Addr)(G:DH):Sb p G G:=λ_ _ h _=>h
theorem Sa.trans{G G1 G2:DH}(a:Sa G G1)(b:Sa G1 G2):Sa G G2:=λc o h=>b c o (a c o h)
theorem Sb.trans{p:Addr}{G G1 G2:DH}(a:Sb p G G1)(b:Sb p G1 G2):Sb p G G2:=λc o h n=>b c o (a c o h n) n
theorem Sa.sb{p:Addr}{G G':DH}(a:Sa G G'):Sb p G G':=λc o h _=>a c o h
theorem Sa.new{G:DH}{p:Addr}{o:DO}(h:G p=none):Sa G (aD G p o):=λb u e=>by rw[bO (Ek e h)];exact e
theorem Sb.upd{G:DH}{p:Addr}{o:DO}:Sb p G (aD G p o):=λb u e n=>by rw[bO n];exact e
theorem yU{α:Type}{a:α}{l:List α}:atI (a::l) 0=some a:=bY (j:=0) rfl
theorem Ik{α:Type}{a b:α}{l:List α}:atI (a::b::l) 1=some b:=bY (j:=1) rfl
theorem Il{α:Type}{a b c:α}{l:List α}:atI (a::b::c::l) 2=some c:=bY (j:=2) rfl
theorem Im{α:Type}{a b c d:α}{l:List α}:atI (a::b::c::d::l) 3=some d:=bY (j:=3) rfl
theorem ac4{n j:Nat}(h:j < n):ixN n (j:Int)=some j:=by unfold ixN;rw[if_pos (by omega),if_pos (by omega)];simp
theorem Io{n:Nat}:ixN (n+1) 0=some 0:=by unfold ixN;rw[if_pos (by omega),if_pos (by omega)];rfl
theorem Ip{n:Nat}:ixN (n+2) 1=some 1:=by unfold ixN;rw[if_pos (by omega),if_pos (by omega)];rfl
theorem Ir{n:Nat}:ixN (n+3) 2=some 2:=by unfold ixN;rw[if_pos (by omega),if_pos (by omega)];rfl
theorem ac5{α:Type}{xs:List α}{i:Int}(h0:0<=i)(h1:i < xs.length):∃a,atI xs i=some a/\a∈xs:=by
 obtain ⟨n,rfl⟩:=c6 h0;have hn:n < xs.length:=by omega
 exact ⟨xs[n],bY (by simp[hn]),dn _⟩
theorem Iu{α:Type}(xs:List α)(lo hi:Option Int):(cut xs lo hi).length<=xs.length:=by unfold cut;rw[bX,cf];omega
theorem lO{l:List D}:bJ l []=l.isEmpty:=by cases l <;> rfl
theorem uR{α:Type}(l:List α)(n:Nat):cut l none (some (n:Int))=l.take n:=by
 unfold cut;rw[show HT.sIx l.length 0 none=0 from rfl,HT.CJ,List.drop_zero,Nat.sub_zero];by_cases h:n<=l.length
 ·rw[Nat.min_eq_left h]
 ·rw[Nat.min_eq_right (by omega),ej (ax _),ej (by omega)]
theorem Iv{α:Type}(l:List α)(n:Nat):cut l (some (n:Int)) none=l.drop n:=by
 unfold cut;rw[show HT.sIx l.length l.length none=l.length from rfl,HT.CJ];by_cases h:n<=l.length
 ·rw[Nat.min_eq_left h,ej (by rw[cf];exact ax _)]
 ·rw[Nat.min_eq_right (by omega),Nat.sub_self,List.take_zero,List.drop_eq_nil_of_le (by omega)]
theorem Iw{α:Type}(l:List α)(n:Nat):cut l (some ((n:Int)+1)) none=l.drop (n+1):=Iv l (n+1)
theorem jO:∀{l:List D},(∀d∈l,nr d=true)->nrs l=true
 |[],_=>rfl
 |a::l,h=>by rw[nrs,h a bS,jO λd hd=>h d (bi _ hd)];rfl
theorem jP{n:Nat}:∀{l:List D},(∀d∈l,dpt d<=n)->aO l<=n
 |[],_=>eg _
 |a::l,h=>by rw[aO];exact Nat.max_le.mpr ⟨h a bS,jP λd hd=>h d (bi _ hd)⟩
theorem ac6{α:Type}{motive:List α->Prop}(l:List α)(nil:motive [])(snoc:∀(l:List α)(a:α),motive l->motive (l++[a])):motive l:=by
 have go:∀(n:Nat)(l:List α),l.length=n->motive l:=by
  intro n;induction n with
  |zero=>intro l h;rw[df.mp h];exact nil
  |succ n ih=>
   intro l h;have hne:l≠[]:=by rintro rfl;simp at h
   rw[<-eh hne];exact snoc _ _ (ih _ (by rw[List.length_dropLast];omega))
 exact go _ l rfl
section
variable {G:DH} {k:D->DH->Prop} {fz:Bool} {kb:Bool->Prop} {kd:D->Prop} {p:Addr}
theorem Iz{i j:Int}:cu .Add fz (.int i) (.int j) G k=k (.int (i+j)) G:=rfl
theorem IK{x y:List Nat}:cu .Add fz (.str x) (.str y) G k=(x.length+y.length<=sz/\k (.str (x++y)) G):=rfl
theorem IV{x y:List D}:cu .Add fz (.lst x) (.lst y) G k=(x.length+y.length<=sz/\mk fz (x++y) G k):=rfl
theorem IW{x y:List D}:cu .Add fz (.tup x) (.tup y) G k=(x.length+y.length<=sz/\k (.tup (x++y)) G):=rfl
theorem Ja{i j:Int}:cu .Sub fz (.int i) (.int j) G k=k (.int (i - j)) G:=rfl
theorem Jb{i j:Int}:cu .Mult fz (.int i) (.int j) G k=(CMul i j/\k (.int (i * j)) G):=rfl
theorem Jc{x:List D}{n:Int}:cu .Mult fz (.tup x) (.int n) G k=(2<=n/\n<=1000/\x≠[]/\x.length * n.toNat<=sz/\k (.tup (reps x n.toNat)) G):=rfl
theorem Jd{x:List D}{n:Int}:cu .Mult fz (.lst x) (.int n) G k=(0<=n/\n<=1000/\x.length * n.toNat<=sz/\mk fz (reps x n.toNat) G k):=rfl
theorem Jf{x:List Nat}{n:Int}:cu .Mult fz (.str x) (.int n) G k=(0<=n/\n<=1000/\x.length * n.toNat<=sz/\k (.str (reps x n.toNat)) G):=rfl
theorem Jg{i j:Int}:cu .FloorDiv fz (.int i) (.int j) G k=((0 < j/\j < 1152921504606846976)/\k (.int (i / j)) G):=rfl
theorem Jh{i j:Int}:cu .Mod fz (.int i) (.int j) G k=(0 < j/\k (.int (i % j)) G):=rfl
theorem Ji{i j:Int}:cu .Pow fz (.int i) (.int j) G k=(qJ i j/\k (.int (i ^ j.toNat)) G):=rfl
def fK:D->Bool
 |.non=>true
 |_=>false
theorem Jj{a b:D}:aX .Eq a b kb=((nr a=true/\nr b=true/\min (dpt a) (dpt b)<=60)/\kb (deq a b)):=rfl
theorem Jl{a b:D}:aX .NotEq a b kb=((nr a=true/\nr b=true/\min (dpt a) (dpt b)<=60)/\kb (!deq a b)):=rfl
theorem Jm{i j:Int}:aX .Lt (.int i) (.int j) kb=kb (decide (i < j)):=rfl
theorem Jo{i j:Int}:aX .LtE (.int i) (.int j) kb=kb (decide (i<=j)):=rfl
theorem Jp{i j:Int}:aX .Gt (.int i) (.int j) kb=kb (decide (j < i)):=rfl
theorem Jq{i j:Int}:aX .GtE (.int i) (.int j) kb=kb (decide (j<=i)):=rfl
theorem Jr{i j:List Nat}:aX .Lt (.str i) (.str j) kb=kb (decide (i < j)):=rfl
theorem Js{i j:List Nat}:aX .LtE (.str i) (.str j) kb=kb (!decide (j < i)):=rfl
theorem Jt{a:D}:aX .Is a .non kb=kb (fK a):=by cases a <;> rfl
theorem Ju{a:D}:aX .IsNot a .non kb=kb (!fK a):=by cases a <;> rfl
theorem Jv{a b:Bool}:aX .Is (.bl a) (.bl b) kb=kb (a==b):=rfl
theorem Jw{a b:Bool}:aX .IsNot (.bl a) (.bl b) kb=kb (a != b):=rfl
theorem Jx{c:Nat}{l:List Nat}:aX .In (.str [c]) (.str l) kb=kb (l.contains c):=rfl
theorem Jy{c:Nat}{l:List Nat}:aX .NotIn (.str [c]) (.str l) kb=kb (!l.contains c):=rfl
theorem JB{a:D}{l:List D}:aX .In a (.lst l) kb=((nr a=true/\nrs l=true/\aO l<=60)/\kb (isIn a l)):=rfl
theorem JC{a:D}{l:List D}:aX .In a (.tup l) kb=((nr a=true/\nrs l=true/\aO l<=60)/\kb (isIn a l)):=rfl
theorem JD{a:D}{l:List D}:aX .NotIn a (.lst l) kb=((nr a=true/\nrs l=true/\aO l<=60)/\kb (!isIn a l)):=rfl
theorem JF{a:D}{l:List D}:aX .NotIn a (.tup l) kb=((nr a=true/\nrs l=true/\aO l<=60)/\kb (!isIn a l)):=rfl
theorem JG{i:Int}:fK (.int i)=false:=rfl
theorem JH{i:Bool}:fK (.bl i)=false:=rfl
theorem JK{i:List Nat}:fK (.str i)=false:=rfl
theorem JL{i:List D}:fK (.tup i)=false:=rfl
theorem JM{i:List D}:fK (.lst i)=false:=rfl
theorem JN{i:Addr}:fK (.ref i)=false:=rfl
theorem JP:fK .non=true:=rfl
def bh{α:Type}(o:Option α)(k:α->Prop):Prop:=match o with |some a=>k a |none=>False
theorem JQ{α:Type}{a:α}{k:α->Prop}:bh (some a) k=k a:=rfl
theorem bL{α:Type}{o:Option α}{a:α}{k:α->Prop}(e:o=some a)(h:k a):bh o k:=by rw[e];exact h
theorem yV{α:Type}{xs:List α}{i:Int}{k:α->Prop}(h0:0<=i)(h1:i < xs.length)(h:∀a,a∈xs->k a):bh (atI xs i) k:=by obtain ⟨a,e,m⟩:=ac5 h0 h1;exact bL e (h a m)
theorem JR{ds:List D}{i:Int}:cz (.lst ds) (.int i) kd=bh (atI ds i) kd:=by unfold cz bh;(try dsimp only) <;> (cases atI ds i <;> rfl)
theorem JS{ds:List D}{i:Int}:cz (.tup ds) (.int i) kd=bh (atI ds i) kd:=by unfold cz bh;(try dsimp only) <;> (cases atI ds i <;> rfl)
theorem JT{l:List Nat}{i:Int}:cz (.str l) (.int i) kd=bh (atI l i) (λc=>kd (.str [c])):=by unfold cz bh;(try dsimp only) <;> (cases atI l i <;> rfl)
theorem JV{ds:List D}{lo hi:Option Int}:eE fz (.lst ds) lo hi G k=mk fz (cut ds lo hi) G k:=rfl
theorem JW{ds:List D}{y:D}:jy fz (.lst ds) y G k=(y=.int (-1)/\mk fz ds.reverse G k):=rfl
theorem JX{ds:List Int}{lo hi:Option Int}:eE fz (.scr ds) lo hi G k=mk fz ((cut ds lo hi).map .int) G k:=rfl
theorem JZ{ds:List D}{lo hi:Option Int}:eE fz (.tup ds) lo hi G k=k (.tup (cut ds lo hi)) G:=rfl
theorem J0{ds:List Nat}{lo hi:Option Int}:eE fz (.str ds) lo hi G k=k (.str (cut ds lo hi)) G:=rfl
theorem J1{ds:List D}:opB .len [.lst ds] kd=kd (.int ds.length):=rfl
theorem J2{ds:List D}:opB .len [.tup ds] kd=kd (.int ds.length):=rfl
theorem J5{ds:List Nat}:opB .len [.str ds] kd=kd (.int ds.length):=rfl
theorem J6{ds:List D}:opB .all [.lst ds] kd=bh (bools ds) (λbs=>kd (.bl (bs.all id))):=by unfold opB qX bh;(try dsimp only) <;> (cases bools ds <;> rfl)
theorem J7{b:Bool}:opB .int [.bl b] kd=kd (.int (if b then 1 else 0)):=rfl
theorem J8{b:Int}:opB .int [.int b] kd=kd (.int b):=rfl
theorem J9{l:List Nat}:opB .int [.str l] kd=bh (PySem.intText? (tx l)) (λn=>l.length<=640/\kd (.int n)):=by unfold opB qY bh;(try dsimp only) <;> (cases PySem.intText? (tx l) <;> rfl)
theorem Ka{ds:List D}:opB .sum [.lst ds] kd=bh (bZ ds) (λns=>kd (.int ns.sum)):=by unfold opB wX bh;(try dsimp only) <;> (cases bZ ds <;> rfl)
theorem Kc{a:Int}:opB .str [.int a] kd=((0<=a/\a < 100)/\kd (.str (gH a.toNat))):=rfl
theorem Kd{a:Int}:opB .abs [.int a] kd=kd (.int (if a < 0 then -a else a)):=rfl
theorem Ke{a b:Int}:opB .min2 [.int a,.int b] kd=kd (.int (if b < a then b else a)):=rfl
theorem Kf{a b:Int}:opB .max [.int a,.int b] kd=kd (.int (if b > a then b else a)):=rfl
theorem Kg{ds:List D}{kl:List D->Prop}:cR .sorted [.tup ds] kl=bh (bZ ds) (λns=>ns.length < 64/\∀ns':List Int,ns'.Perm ns->ns'.Pairwise (·<=·)->kl (ns'.map D.int)):=by unfold cR qZ bh;(try dsimp only) <;> (cases bZ ds <;> rfl)
theorem Kh{ds:List D}{kl:List D->Prop}:cR .sorted [.lst ds] kl=bh (bw ds) (λls=>ls.length < 64/\∀ls':List (List Nat),ls'.Perm ls->PyProof.Rows.sortedS (ls'.map tx)=true->kl (ls'.map D.str)):=by unfold cR qZ bh;(try dsimp only) <;> (cases bw ds <;> rfl)
theorem Kl{ds:List D}:opB .tuple [.lst ds] kd=kd (.tup ds):=rfl
theorem Km{ds:List D}:opB .tuple [.tup ds] kd=kd (.tup ds):=rfl
theorem Ko{ds:List D}{kl:List D->Prop}:cR .list [.lst ds] kl=kl ds:=rfl
theorem Kp{ds:List D}{kl:List D->Prop}:cR .list [.tup ds] kl=kl ds:=rfl
theorem Kq{l:List Nat}{kl:List D->Prop}:cR .list [.str l] kl=kl (l.map λc=>.str [c]):=rfl
theorem Kr{s:List Nat}{ds:List D}:opM .join (.str s) [.lst ds] G k=bh (bw ds) (λls=>((ls.map (·.length)).sum+ls.length * s.length<=sz)/\k (.str (eF s ls)) G):=by unfold opM q8 bh;(simp only[bq,dQ,view]) <;> (cases bw ds <;> rfl)
def trk(G:DH)(p:Addr)(k:List D->Prop):Prop:=match G p with |some (.lst ds)=>k ds |none=>False
theorem dg{ds:List D}{k:List D->Prop}(e:G p=some (.lst ds)):trk G p k=k ds:=by unfold trk;rw[e]
theorem Ks{x:D}:opM .append (.ref p) [x] G k=trk G p (λds=>ds.length < sz/\k .non (aD G p (.lst (ds++[x])))):=by unfold opM q9 trk;(try dsimp only) <;> (cases G p <;> first |rfl | (rename_i o;cases o;rfl))
theorem Ku{x:D}{i:Int}:opM .insert (.ref p) [.int i,x] G k=trk G p (λds=>ds.length < sz/\0<=i/\i<=1000000/\k .non (aD G p (.lst (ds.take i.toNat++x::ds.drop i.toNat)))):=by unfold opM rn trk;(try dsimp only) <;> (cases G p <;> first |rfl | (rename_i o;cases o;rfl))
theorem Kv:recv .insert (.ref p) G=trk G p (λ_=>True):=by unfold recv trk;(try dsimp only) <;> (cases G p <;> first |rfl | (rename_i o;cases o;rfl))
theorem Kw{xs:List D}:opM .extend (.ref p) [.lst xs] G k=trk G p (λds=>ds.length+xs.length < sz/\k .non (aD G p (.lst (ds++xs)))):=by unfold opM rm trk;(simp only[bq,dQ,view]) <;> (cases G p <;> first |rfl | (rename_i o;cases o;rfl))
theorem Ky{ds:List D}:opM .count (.lst ds) [.bl true] G k=bh (bools ds) (λbs=>k (.int (bs.count true:Nat)) G):=by unfold opM rz bh;(try dsimp only[view]) <;> (cases bools ds <;> rfl)
theorem Kz{ds:List D}:opM .index (.lst ds) [.bl true] G k=bh (bools ds) (λbs=>true∈bs/\k (.int (bs.idxOf true:Nat)) G):=by unfold opM rA bh;(try dsimp only[view]) <;> (cases bools ds <;> rfl)
theorem KC{ds:List D}:recv .count (.lst ds) G=True:=rfl
theorem KD{ds:List D}:recv .index (.lst ds) G=True:=rfl
theorem KH{s:List Nat}:recv .join (.str s) G=True:=rfl
theorem KJ:recv .append (.ref p) G=trk G p (λ_=>True):=by unfold recv trk;(try dsimp only) <;> (cases G p <;> first |rfl | (rename_i o;cases o;rfl))
theorem KN:recv .extend (.ref p) G=trk G p (λ_=>True):=by unfold recv trk;(try dsimp only) <;> (cases G p <;> first |rfl | (rename_i o;cases o;rfl))
theorem KQ{i:Int}{x:D}{kg:DH->Prop}:eG (.ref p) (.int i) x G kg=trk G p (λds=>bh (ixN ds.length i) (λj=>kg (aD G p (.lst (ds.set j x))))):=by
 unfold eG trk bh
 (try dsimp only) <;> (cases G p <;> first |rfl | (rename_i o;cases o;(try dsimp only) <;> (rename_i ds;cases ixN ds.length i <;> rfl)))
theorem KR{i j:Int}:dH .Add (.int i) (.int j) kd=kd (.int (i+j)):=rfl
theorem KY{x y:List Nat}:dH .Add (.str x) (.str y) kd=(x.length+y.length<=sz/\kd (.str (x++y))):=rfl
theorem KZ{i j:Int}:dH .Sub (.int i) (.int j) kd=kd (.int (i - j)):=rfl
theorem K1{xs:List D}:mk true xs G k=k (.lst xs) G:=rfl
theorem K5{xs:List D}:mk false xs G k=∀p,G p=none->k (.ref p) (aD G p (.lst xs)):=rfl
theorem K6:view G .non=.non:=rfl
theorem K7{b:Bool}:view G (.bl b)=.bl b:=rfl
theorem K8{b:Int}:view G (.int b)=.int b:=rfl
theorem K9{b:List Nat}:view G (.str b)=.str b:=rfl
theorem La{b:List D}:view G (.tup b)=.tup b:=rfl
theorem Lb{b:List D}:view G (.lst b)=.lst b:=rfl
theorem Ld{C f:String}{q:Addr}:view G (.obj C f q)=.obj C f q:=rfl
theorem Lg{b:String}:view G (.exn b)=.exn b:=rfl
theorem Lh{b:List Int}:view G (.scr b)=.scr b:=rfl
theorem bG{ds:List D}(e:G p=some (.lst ds)):view G (.ref p)=.lst ds:=by unfold view;dsimp only;rw[e]
theorem Li:truth .non=some false:=rfl
theorem Lj{b:Bool}:truth (.bl b)=some b:=rfl
theorem Lk{i:Int}:truth (.int i)=some (i != 0):=rfl
theorem Ln{l:List Nat}:truth (.str l)=some (!l.isEmpty):=rfl
theorem Lp{l:List D}:truth (.tup l)=some (!l.isEmpty):=rfl
theorem Lq{l:List D}:truth (.lst l)=some (!l.isEmpty):=rfl
theorem Lr{l:List D}:itemsOf G (.lst l)=some (l,[]):=rfl
theorem Ls{l:List D}:itemsOf G (.tup l)=some (l,[]):=rfl
theorem Lw{l:List Nat}:itemsOf G (.str l)=some (l.map λc=>.str [c],[]):=rfl
theorem gR{ds:List D}(e:G p=some (.lst ds)):itemsOf G (.ref p)=some (ds,[(p,ds)]):=by unfold itemsOf;dsimp only;rw[e]
theorem Lx{t:String}:isT t .non=some false:=rfl
theorem Ly {t:String} {b:Bool}:isT t (.bl b)=some (t=="bool"||t=="int"):=rfl
theorem Lz {t:String} {b:Int}:isT t (.int b)=some (t=="int"):=rfl
theorem LC {t:String} {b:List Nat}:isT t (.str b)=some (t=="str"):=rfl
theorem is_tup {t:String} {b:List D}:isT t (.tup b)=some (t=="tuple"):=rfl
theorem LK {t:String} {b:List D}:isT t (.lst b)=some (t=="list"):=rfl
theorem LQ{i:Nat}{d:D}{ρ:ak}{kr:ak->Prop}:aZ (.nm i) d ρ G kr=kr (ρ.set i (some d)):=rfl
theorem LR{ts:Tgs}{ds:List D}{ρ:ak}{kr:ak->Prop}:aZ (.tp ts) (.lst ds) ρ G kr=bD ts ds ρ G kr:=rfl
theorem Ma{ts:Tgs}{ds:List D}{ρ:ak}{kr:ak->Prop}:aZ (.tp ts) (.tup ds) ρ G kr=bD ts ds ρ G kr:=rfl
theorem Mg{ρ:ak}{kr:ak->Prop}:bD .nil [] ρ G kr=kr ρ:=rfl
theorem Mh{t:Tg}{r:Tgs}{d:D}{ds:List D}{ρ:ak}{kr:ak->Prop}:bD (.cons t r) (d::ds) ρ G kr=aZ t d ρ G (λρ'=>bD r ds ρ' G kr):=rfl
theorem Mi:deq .non .non=true:=rfl
theorem Mj  {y:Bool}:deq .non (.bl y)=false:=rfl
theorem Ml  {y:Int}:deq .non (.int y)=false:=rfl
theorem Mm  {y:List Nat}:deq .non (.str y)=false:=rfl
theorem Mp  {y:List D}:deq .non (.tup y)=false:=rfl
theorem Mq  {y:List D}:deq .non (.lst y)=false:=rfl
theorem Mr{x:Bool} :deq (.bl x) .non=false:=rfl
theorem Ms{x:Bool}{y:Bool}:deq (.bl x) (.bl y)=(x==y):=by rw[deq]
theorem Mt{x:Bool}{y:List Nat}:deq (.bl x) (.str y)=false:=rfl
theorem Mu{x:Bool}{y:List D}:deq (.bl x) (.tup y)=false:=rfl
theorem Mv{x:Bool}{y:List D}:deq (.bl x) (.lst y)=false:=rfl
theorem Mw{x:Int} :deq (.int x) .non=false:=rfl
theorem Mx{x:Int}{y:Int}:deq (.int x) (.int y)=(x==y):=by rw[deq]
theorem My{x:Int}{y:List Nat}:deq (.int x) (.str y)=false:=rfl
theorem Mz{x:Int}{y:List D}:deq (.int x) (.tup y)=false:=rfl
theorem MF{x:Int}{y:List D}:deq (.int x) (.lst y)=false:=rfl
theorem MJ{x:List Nat} :deq (.str x) .non=false:=rfl
theorem MK{x:List Nat}{y:Bool}:deq (.str x) (.bl y)=false:=rfl
theorem MN{x:List Nat}{y:Int}:deq (.str x) (.int y)=false:=rfl
theorem MP{x:List Nat}{y:List Nat}:deq (.str x) (.str y)=(x==y):=by rw[deq]
theorem MT{x:List Nat}{y:List D}:deq (.str x) (.tup y)=false:=rfl
theorem M3{x:List Nat}{y:List D}:deq (.str x) (.lst y)=false:=rfl
theorem M4{x:List D} :deq (.tup x) .non=false:=rfl
theorem M5{x:List D}{y:Bool}:deq (.tup x) (.bl y)=false:=rfl
theorem M6{x:List D}{y:Int}:deq (.tup x) (.int y)=false:=rfl
theorem M7{x:List D}{y:List Nat}:deq (.tup x) (.str y)=false:=rfl
theorem M8{x:List D}{y:List D}:deq (.tup x) (.tup y)=bJ x y:=by rw[deq]
theorem M9{x:List D}{y:List D}:deq (.tup x) (.lst y)=false:=rfl
theorem Nb{x:List D} :deq (.lst x) .non=false:=rfl
theorem Nf{x:List D}{y:Bool}:deq (.lst x) (.bl y)=false:=rfl
theorem Ng{x:List D}{y:Int}:deq (.lst x) (.int y)=false:=rfl
theorem Nh{x:List D}{y:List Nat}:deq (.lst x) (.str y)=false:=rfl
theorem Ni{x:List D}{y:List D}:deq (.lst x) (.tup y)=false:=rfl
theorem Nj{x:List D}{y:List D}:deq (.lst x) (.lst y)=bJ x y:=by rw[deq]
theorem Nk:bJ [] []=true:=rfl
theorem Nm{a b:D}{as bs:List D}:bJ (a::as) (b::bs)=(deq a b&&bJ as bs):=by rw[bJ]
theorem Np{b:D}{bs:List D}:bJ [] (b::bs)=false:=rfl
theorem Nq{b:D}{bs:List D}:bJ (b::bs) []=false:=rfl
theorem Nr :nr .non=true:=rfl
theorem Nt :dpt .non=0:=rfl
theorem Nu{x:Bool}:nr (.bl x)=true:=rfl
theorem Nv{x:Bool}:dpt (.bl x)=0:=rfl
theorem Nx{x:Int}:nr (.int x)=true:=rfl
theorem Ny{x:Int}:dpt (.int x)=0:=rfl
theorem Nz{x:List Nat}:nr (.str x)=true:=rfl
theorem NB{x:List Nat}:dpt (.str x)=0:=rfl
theorem NK{x:List D}:nr (.tup x)=nrs x:=by rw[nr]
theorem NQ{x:List D}:dpt (.tup x)=aO x+1:=by rw[dpt]
theorem NT{x:List D}:nr (.lst x)=nrs x:=by rw[nr]
theorem NZ{x:List D}:dpt (.lst x)=aO x+1:=by rw[dpt]
theorem N5:nrs []=true:=rfl
theorem N6{a:D}{l:List D}:nrs (a::l)=(nr a&&nrs l):=by rw[nrs]
theorem N7:aO []=0:=rfl
theorem N8{a:D}{l:List D}:aO (a::l)=max (dpt a) (aO l):=by rw[aO]
end
theorem seq{Φ:aa}{s:Sx}{r:Sxs}{E:EK}{ρ:ak}{G:DH}{D:En}(h:∀M:ak->DH->Prop,(∀ρ' G',aq Φ r E ρ' G' D->M ρ' G')->wpS Φ s E ρ G { D with nx:=M }):aq Φ (.cons s r) E ρ G D:=by rw[jB];exact h _ λ_ _ x=>x
theorem last{Φ:aa}{s:Sx}{E:EK}{ρ:ak}{G:DH}{D:En}(h:wpS Φ s E ρ G D):aq Φ (.cons s .nil) E ρ G D:=by rw[jB];exact wpS_mono s (D:=D) (D':={ D with nx:=λρ' G'=>aq Φ .nil E ρ' G' D }) ⟨λρ' G' q=>(show aq Φ .nil E ρ' G' D from by rw[jA];exact q),λ_ _ q=>q,λ_ _ q=>q,λ_ _ q=>q⟩ h
theorem done{Φ:aa}{E:EK}{ρ:ak}{G:DH}{D:En}(h:D.nx ρ G):aq Φ .nil E ρ G D:=by rw[jA];exact h
section
variable {Φ:aa} {E:EK} {ρ:ak} {G:DH}
def ForG(Φ:aa)(t:Tg)(body:Sxs)(E:EK)(D:En)(items:List RF.D)(g:Hld)(ρ:ak)(G:DH):Prop:=
 forLoop (λd ρ' G' k=>aZ t d ρ' G' λρ1=>aq Φ body E ρ1 G' { D with nx:=k,ct:=k,bk:=D.nx }) g items ρ G D.nx
theorem Oa{t:Tg}{it:It'}{body:Sxs}{D:En}:wpS Φ (.for_ t it body) E ρ G D=wpI Φ it E ρ G λitems g G1=>ForG Φ t body E D items g ρ G1:=rfl
theorem ForG.inv{t:Tg}{body:Sxs}{D:En}{items:List RF.D}{g:Hld}(P:Nat->ak->DH->Prop)(h0:P 0 ρ G)(hh:∀i ρ G,P i ρ G->held g G)
  (hs:∀i d ρ G,items[i]?=some d->P i ρ G->∀kk:ak->DH->Prop,(∀ρ' G',P (i+1) ρ' G'->kk ρ' G')->aZ t d ρ G λρ1=>aq Φ body E ρ1 G { D with nx:=kk,ct:=kk,bk:=D.nx })
  (he:∀ρ G,P items.length ρ G->D.nx ρ G):ForG Φ t body E D items g ρ G:=ac1 P h0 hh hs he
def CompG(Φ:aa)(elt:Ex)(tg:Tg)(cond:Tx)(items:List D)(g:Hld)(ρ:ak)(G:DH)(k:List D->DH->Prop):Prop:=
 compLoop (λd ρ' G' k'=>aZ tg d ρ' G' λρ1=>wpT Φ cond noE ρ1 G' λb G2=>match b with |true=>wpE Φ elt noE ρ1 G2 λy G3=>k' (some y) ρ1 G3 |false=>k' none ρ1 G2) g items [] ρ G k
def jQ(cap:List (Option Nat))(ρ:ak):ak:=cap.map λo=>match o with |none=>none |some j=>(ρ[j]?).join
theorem Ob{ρ:ak}:jQ [] ρ=[]:=rfl
theorem Oc{cap:List (Option Nat)}{ρ:ak}:jQ (none::cap) ρ=none::jQ cap ρ:=rfl
theorem Od{cap:List (Option Nat)}{ρ:ak}{j:Nat}:jQ (some j::cap) ρ=(ρ[j]?).join::jQ cap ρ:=rfl
theorem Oe{fz:Bool}{elt:Ex}{tg:Tg}{it:It'}{cond:Tx}{N:List String}{cap:List (Option Nat)}{k:D->DH->Prop}:
  wpE Φ (.comp fz elt tg it cond N cap) E ρ G k=wpI Φ it E ρ G λitems g G1=>CompG Φ elt tg cond items g (jQ cap ρ) G1 λds G2=>mk fz ds G2 k:=rfl
theorem CompG.inv{elt:Ex}{tg:Tg}{cond:Tx}{items:List D}{g:Hld}{k:List D->DH->Prop}(P:Nat->List D->ak->DH->Prop)(h0:P 0 [] ρ G)(hh:∀i acc ρ G,P i acc ρ G->held g G)(hl:items.length<=sz)
  (hs:∀i d acc ρ G,items[i]?=some d->P i acc ρ G->∀kk:Option D->ak->DH->Prop,(∀o ρ' G',P (i+1) (acc++o.toList) ρ' G'->kk o ρ' G')->
   aZ tg d ρ G λρ1=>wpT Φ cond noE ρ1 G λb G2=>match b with |true=>wpE Φ elt noE ρ1 G2 λy G3=>kk (some y) ρ1 G3 |false=>kk none ρ1 G2)
  (he:∀acc ρ G,P items.length acc ρ G->k acc G):CompG Φ elt tg cond items g ρ G k:=Ii P h0 hh (by simpa using hl) hs he
theorem CompG.map{elt:Ex}{tg:Tg}{cond:Tx}{items:List D}{g:Hld}{k:List D->DH->Prop}(f:D->D)(I:ak->Prop)(h0:I ρ)(hg:held g G)(hl:items.length<=sz)
  (hs:∀d ρ,d∈items->I ρ->∀kk:Option D->ak->DH->Prop,(∀ρ',I ρ'->kk (some (f d)) ρ' G)->aZ tg d ρ G λρ1=>wpT Φ cond noE ρ1 G λb G2=>match b with |true=>wpE Φ elt noE ρ1 G2 λy G3=>kk (some y) ρ1 G3 |false=>kk none ρ1 G2)
  (he:k (items.map f) G):CompG Φ elt tg cond items g ρ G k:=ac3 g f I h0 hg hl hs he
def WhlG(Φ:aa)(c:Tx)(body:Sxs)(E:EK)(D:En)(n:Nat)(ρ:ak)(G:DH):Prop:=
 whileLoop (λρ' G' k=>wpT Φ c E ρ' G' k) (λρ' G' k=>aq Φ body E ρ' G' { D with nx:=k,ct:=k,bk:=D.nx }) n ρ G D.nx
theorem yW{c:Tx}{body:Sxs}{D:En}:wpS Φ (.whl c body) E ρ G D=∃n,WhlG Φ c body E D n ρ G:=rfl
theorem WhlG.inv{c:Tx}{body:Sxs}{D:En}(P:Nat->ak->DH->Prop)(hs:∀n ρ G,P n ρ G->wpT Φ c E ρ G λb G1=>match b with |true=>∀kk:ak->DH->Prop,(∀m ρ' G',m < n->P m ρ' G'->kk ρ' G')->aq Φ body E ρ G1 { D with nx:=kk,ct:=kk,bk:=D.nx } |false=>D.nx ρ G1):
  ∀n ρ G,P n ρ G->WhlG Φ c body E D (n+1) ρ G:=by
 intro n;induction n using Nat.strongRecOn with
 |_ n ih=>
  intro ρ G p;refine cT c (λb G1 q=>?_) (hs n ρ G p);cases b with
  |false=>exact q
  |true=>
   refine q _ λm ρ' G' hm p'=>?_;have:=ih m hm ρ' G' p';have up:∀(i j:Nat)(ρ:ak)(G:DH),i<=j->WhlG Φ c body E D i ρ G->WhlG Φ c body E D j ρ G:=by
    intro i;induction i with
    |zero=>intro j ρ G _ h;exact h.elim
    |succ i ihi=>
     intro j ρ G hij h;cases j with
     |zero=>omega
     |succ j=>
      refine cT c (λb G1 q=>?_) h;cases b with
      |false=>exact q
      |true=>exact cY body (D:={ D with nx:=λρ' G'=>WhlG Φ c body E D i ρ' G',ct:=λρ' G'=>WhlG Φ c body E D i ρ' G',bk:=D.nx }) ⟨λρ' G' z=>ihi j ρ' G' (by omega) z,λ_ _ z=>z,λ_ _ z=>z,λρ' G' z=>ihi j ρ' G' (by omega) z⟩ q
   exact up (m+1) n ρ' G' hm this
end
theorem len0{α:Type}{l:List α}(h:l.length=0):l=[]:=df.mp h
theorem uT{α:Type}{n:Nat}{l:List α}(h:l.length=n+1):∃a r,l=a::r/\r.length=n:=by
 cases l with
 |nil=>cases h
 |cons a r=>exact ⟨a,r,rfl,Nat.succ.inj h⟩
theorem cg{α:Type}{l:List α}(h:l.length=1):∃a,l=[a]:=by obtain ⟨a,r,rfl,h2⟩:=uT h;cases len0 h2;exact ⟨a,rfl⟩
theorem aY{α:Type}{l:List α}(h:l.length=2):∃a b,l=[a,b]:=by obtain ⟨a,r,rfl,h2⟩:=uT h;obtain ⟨b,rfl⟩:=cg h2;exact ⟨a,b,rfl⟩
theorem dR{α:Type}{l:List α}(h:l.length=3):∃a b c,l=[a,b,c]:=by obtain ⟨a,r,rfl,h2⟩:=uT h;obtain ⟨b,c,rfl⟩:=aY h2;exact ⟨a,b,c,rfl⟩
theorem Og{α:Type}{l:List α}(h:l.length=4):∃a b c d,l=[a,b,c,d]:=by obtain ⟨a,r,rfl,h2⟩:=uT h;obtain ⟨b,c,d,rfl⟩:=dR h2;exact ⟨a,b,c,d,rfl⟩
structure Fo(Φ:aa)(P:Program)(w:World)(K:PF)(mg:Str->Option Value)(base:Heap)(k:Nat)(f:String)(n:Nat):Prop where
 ex:∃fa fd ps,FnOk P w K mg base (CX1 P w) k fa fd ps (lift K n (Φ f))/\PySem.W.keepIn K (.ref fa)=true/\Binds K fd ps []/\mg (Str.ofString f)=some (.ref fa)
section
variable {Φ:aa} {P:Program} {w:World} {K:PF} {mg:Str->Option Value} {base:Heap} {k:Nat} {xs:List (String×Bool)} {ot:OT}
noncomputable def AllF(Φ:aa)(P:Program)(w:World)(K:PF)(mg:Str->Option Value)(base:Heap)(k:Nat):List (String×Nat)->Prop
 |[]=>True
 | (f,n)::r=>Fo Φ P w K mg base k f n/\AllF Φ P w K mg base k r
noncomputable def AllB(mg:Str->Option Value):List String->Prop
 |[]=>True
 |f::r=>mg (Str.ofString f)=none/\AllB mg r
noncomputable def AllC(K:PF)(mg:Str->Option Value):List (String×D)->Prop
 |[]=>True
 | (x,d)::r=>(∃u v,mg (Str.ofString x)=some u/\RelV v u/\∀H F,Rep K H F d v)/\AllC K mg r
theorem AllF.get:∀{fs:List (String×Nat)}{f:String}{n:Nat},AllF Φ P w K mg base k fs->(f,n)∈fs->Fo Φ P w K mg base k f n
 | (f',n')::r,f,n,h,m=>by
  rcases a9.mp m with e |m
  ·cases e;exact h.1
  ·exact AllF.get h.2 m
theorem AllB.get:∀{fs:List String}{f:String},AllB mg fs->f∈fs->mg (Str.ofString f)=none
 |f'::r,f,h,m=>by
  rcases a9.mp m with e |m
  ·cases e;exact h.1
  ·exact AllB.get h.2 m
theorem AllC.get:∀{fs:List (String×D)}{x:String}{d:D},AllC K mg fs->(x,d)∈fs->∃u v,mg (Str.ofString x)=some u/\RelV v u/\∀H F,Rep K H F d v
 | (f',n')::r,f,n,h,m=>by
  rcases a9.mp m with e |m
  ·cases e;exact h.1
  ·exact AllC.get h.2 m
noncomputable def cvB(K:PF)(C':String):Option V:=match PySem.W.nsIn K mainGlobals (Str.ofString C') with
 |some (some (.ref a))=>if qU K a then some (.ref a) else none
 |some none=>if C'=="ValueError" then some (.ty "ValueError") else none
 |_=>none
noncomputable def xiB(K:PF)(C C':String)(cv:V):Bool:=match PySem.W.nsIn K mainGlobals (Str.ofString C) with
 |some (some (.ref c))=>Ef K c&&PySem.W.mroIn K c (valOf cv)==some (fZ C C')&&(fZ C C'||!(Value.ref c==valOf cv))
 |_=>false
noncomputable def yX(K:PF)(C:String):Bool:=match PySem.W.nsIn K mainGlobals (Str.ofString C) with
 |some (some (.ref c))=>il K c
 |_=>false
noncomputable def xsB(K:PF)(xs:List (String×Bool)):Bool:=xs.all λp=>match p.2 with
 |true=>yX K p.1
 |false=>(cvB K p.1).any λcv=>xs.all λq=>!q.2||xiB K q.1 p.1 cv
theorem ac7{h:Heap}(X:K.In h)(Gh:h.Ns mainGlobals mg){xs:List (String×Bool)}(e:xsB K xs=true)(C:String)(hC:xs.contains (C,true)=true):∃a,mg (Str.ofString C)=some (.ref a)/\il K a=true/\PySem.W.nsIn K mainGlobals (Str.ofString C)=some (some (.ref a)):=by
 have e1:yX K C=true:=ci.mp e _ (aT.mp hC);unfold yX at e1;split at e1
 ·rename_i a hn;exact ⟨a,PySem.W.mg_of X Gh hn,e1,hn⟩
 ·cases e1
theorem ac8{h:Heap}(X:K.In h)(Gh:h.Ns mainGlobals mg){xs:List (String×Bool)}(e:xsB K xs=true)(C':String)(hC:xs.contains (C',false)=true):∃cv,CV K mg C' cv/\∀C,xs.contains (C,true)=true->XI K C C' cv:=by
 have e1:((cvB K C').any λcv=>xs.all λq=>!q.2||xiB K q.1 C' cv)=true:=ci.mp e _ (aT.mp hC);obtain ⟨cv,hcv,h2⟩:=aU e1;refine ⟨cv,?_,λC hC=>?_⟩
 ·unfold cvB at hcv;split at hcv
  ·rename_i a hn;split at hcv
   ·rename_i hb;cases hcv;exact .inl ⟨a,rfl,PySem.W.mg_of X Gh hn,hb⟩
   ·cases hcv
  ·rename_i hn;split at hcv
   ·rename_i hb;cases hcv;exact .inr ⟨aw.mp hb,rfl,PySem.W.mg_none_of X Gh hn⟩
   ·cases hcv
  ·cases hcv
 ·have e3:(!true||xiB K C C' cv)=true:=ci.mp h2 _ (aT.mp hC);have e3:xiB K C C' cv=true:=e3;unfold xiB at e3;split at e3
  ·rename_i c hn;rw[ae,ae,aw]at e3;refine ⟨c,hn,e3.1.1,e3.1.2,λhs=>?_⟩;have:=e3.2;rw[hs,Bool.false_or,dS]at this;exact this
  ·cases e3
theorem bse{h:Heap}{fs:List (String×Nat)}{bt:List String}{cn:List (String×D)}(h1:AllF Φ P w K mg base k fs)(h2:AllB mg bt)(h3:AllC K mg cn)(X:K.In h)(Gh:h.Ns mainGlobals mg)(e:xsB K xs=true):Bse Φ P w K mg base (CX1 P w) k fs bt cn xs {}:=
 ⟨λ_ _ m=>(h1.get m).ex,λ_ m=>h2.get m,λ_ _ m=>h3.get m,ac7 X Gh e,ac8 X Gh e,(λ_ _ _ _ h=>(nomatch h)),(λ_ _ h=>(nomatch h)),(λ_ _ h=>(nomatch h))⟩
theorem yZ{x:String}{i:Int}{t:Tok}(h:mg (Str.ofString x)=some (.int i t)):∃u v,mg (Str.ofString x)=some u/\RelV v u/\∀H F,Rep K H F (.int i) v:=⟨_,.int i,h,⟨t,rfl⟩,λ_ _=>rfl⟩
theorem ac9{x:String}{l:List Nat}{s:Str}{t:Tok}(h:mg (Str.ofString x)=some (.str s t))(e:s=tx l)(hl:l.length<=sz):∃u v,mg (Str.ofString x)=some u/\RelV v u/\∀H F,Rep K H F (.str l) v:=⟨_,.str s,h,⟨t,rfl⟩,λ_ _=>⟨by rw[e],hl⟩⟩
theorem za{n:Nat}{S:RF.Spec}{fa:Addr}{fd:FuncData}{ps:List Str}(h:∀ds G a,¬S.pre ds G a):FnOk P w K mg base (CX1 P w) k fa fd ps (lift K n S):=
 ⟨λ_ _ _ _ ⟨_,_,_,_,_,_,a,hp,_⟩=>absurd hp (h _ _ a),λ_ _ _ _ _ _ _ _ _ _ _ _ _ ⟨_,_,_,_,_,_,a,hp,_⟩=>absurd hp (h _ _ a)⟩
end
section
variable {Φ:aa} {P:Program} {w:World} {K:PF} {mg:Str->Option Value} {base:Heap} {k j n:Nat} {fs:List (String×Nat)} {bt:List String} {cn:List (String×D)} {xs:List (String×Bool)} {ot:OT} {x:String} {S:RF.Spec} {fa:Addr} {fd:FuncData} {ps:List Str}
theorem MthOk.mono{f C m:String}(h:MthOk Φ P w K mg base (CX1 P w) k f C m n)(hk:k<=j):MthOk Φ P w K mg base (CX1 P w) j f C m n:=by obtain ⟨c,fa,fd,ps,h1,h2,h3,h4,h5⟩:=h;exact ⟨c,fa,fd,ps,h1,h2,h3,h4,h5.mono hk⟩
theorem MkoOk.mono{C:String}(h:MkoOk Φ P w K mg base (CX1 P w) k C n)(hk:k<=j):MkoOk Φ P w K mg base (CX1 P w) j C n:=by obtain ⟨c,fa,fd,ps,sp,i,h0,h⟩:=h;exact ⟨c,fa,fd,ps,sp,i,br h0 hk,h⟩
theorem Bse.add(B:Bse Φ P w K mg base (CX1 P w) k fs bt cn xs ot)(e:Φ x=S)(o:FnOk P w K mg base (CX1 P w) (k+j) fa fd ps (lift K n S))(h2:PySem.W.keepIn K (.ref fa)=true)(h3:Binds K fd ps [])(h4:mg (Str.ofString x)=some (.ref fa)):Bse Φ P w K mg base (CX1 P w) (k+j) ((x,n)::fs) bt cn xs ot:=by
 refine ⟨λf m hm=>?_,B.blt,B.con,B.xcl,B.xis,λf C m n h=>(B.mth f C m n h).mono (cp _ _),λC n h=>(B.mko C n h).mono (cp _ _),B.fld⟩;rcases a9.mp hm with e' |hm
 ·cases e';exact ⟨fa,fd,ps,by rw[e];exact o,h2,h3,h4⟩
 ·obtain ⟨fa,fd,ps,h1,h⟩:=B.call f m hm;exact ⟨fa,fd,ps,h1.mono (cp _ _),h⟩
theorem Bse.step{qual:Str}{st:Stmt}{N:List Str}{body:Sxs}(B:Bse Φ P w K mg base (CX1 P w) k fs bt cn xs ot)(F:Fun K (Str.ofString x) qual st fa fd)(h3:Binds K fd ps [])(h4:mg (Str.ofString x)=some (.ref fa))(e:Φ x=S)(m:Nat)
  (hs:fnB N ps (ao st)=true) (hc:aC (aH N (ao st) fs bt cn xs ot) body (aF st)=true) (hn:ps.length=n) (hm:N.length=n+m)
  (hw:∀ds G a,ds.length=n->S.pre ds G a->aq Φ body noE (env0 ds m) G (ends (S.post a))):Bse Φ P w K mg base (CX1 P w) (k+1) ((x,n)::fs) bt cn xs ot:=
 B.add e (jN F B S n m hs hc hn hm hw) F.kp h3 h4
theorem Bse.addM{C m:String}{c:Addr}(B:Bse Φ P w K mg base (CX1 P w) k fs bt cn xs ot)(e:Φ x=S)(o:FnOk P w K mg base (CX1 P w) (k+j) fa fd ps (lift K n S))(h1:PySem.W.nsIn K mainGlobals (Str.ofString C)=some (some (.ref c)))(h2:Cls K c)(h3:Meth K c (Str.ofString m) fa)(h4:Binds K fd ps []):
  Bse Φ P w K mg base (CX1 P w) (k+j) fs bt cn xs { ot with ms:=(x,C,m,n)::ot.ms }:=by
 refine ⟨λf m hm=>?_,B.blt,B.con,B.xcl,B.xis,λf C' m' n' hm=>?_,λC n h=>(B.mko C n h).mono (cp _ _),B.fld⟩
 ·obtain ⟨fa,fd,ps,h1,h⟩:=B.call f m hm;exact ⟨fa,fd,ps,h1.mono (cp _ _),h⟩
 ·rcases a9.mp hm with e' |hm
  ·cases e';exact ⟨c,fa,fd,ps,h1,h2,h3,h4,by rw[e];exact o⟩
  ·exact (B.mth f C' m' n' hm).mono (cp _ _)
theorem Bse.stepM{C m:String}{c:Addr}{nm qual:Str}{st:Stmt}{N:List Str}{body:Sxs}(B:Bse Φ P w K mg base (CX1 P w) k fs bt cn xs ot)(F:Fun K nm qual st fa fd)(h4:Binds K fd ps [])(h1:PySem.W.nsIn K mainGlobals (Str.ofString C)=some (some (.ref c)))(h2:Cls K c)(h3:Meth K c (Str.ofString m) fa)(e:Φ x=S)(mm:Nat)
  (hs:fnB N ps (ao st)=true) (hc:aC (aH N (ao st) fs bt cn xs ot) body (aF st)=true) (hn:ps.length=n) (hm:N.length=n+mm)
  (hw:∀ds G a,ds.length=n->S.pre ds G a->aq Φ body (S.exc a) (env0 ds mm) G (ends (S.post a))):Bse Φ P w K mg base (CX1 P w) (k+1) fs bt cn xs { ot with ms:=(x,C,m,n)::ot.ms }:=
 B.addM e (ac0 F B S n mm hs hc hn hm hw) h1 h2 h3 h4
theorem Bse.stepM0{C m:String}{c:Addr}{nm qual:Str}{st:Stmt}{N:List Str}{body:Sxs}(B:Bse Φ P w K mg base (CX1 P w) k fs bt cn xs ot)(F:Fun K nm qual st fa fd)(h4:Binds K fd ps [])(h1:PySem.W.nsIn K mainGlobals (Str.ofString C)=some (some (.ref c)))(h2:Cls K c)(h3:Meth K c (Str.ofString m) fa)(e:Φ x=S)(mm:Nat)
  (hs:fnB N ps (ao st)=true) (hc:aC (aH N (ao st) fs bt cn xs ot) body (aF st)=true) (hn:ps.length=n) (hm:N.length=n+mm)
  (hw:∀ds G a,ds.length=n->S.pre ds G a->aq Φ body noE (env0 ds mm) G (ends (S.post a))):Bse Φ P w K mg base (CX1 P w) (k+1) fs bt cn xs { ot with ms:=(x,C,m,n)::ot.ms }:=
 B.addM e (jN F B S n mm hs hc hn hm hw) h1 h2 h3 h4
theorem Bse.addK{C:String}(B:Bse Φ P w K mg base (CX1 P w) k fs bt cn xs ot)(o:MkoOk Φ P w K mg base (CX1 P w) (k+j) C n):Bse Φ P w K mg base (CX1 P w) (k+j) fs bt cn xs { ot with ks:=(C,n)::ot.ks }:=by
 refine ⟨λf m hm=>?_,B.blt,B.con,B.xcl,B.xis,λf C m n h=>(B.mth f C m n h).mono (cp _ _),λC' n' hm=>?_,B.fld⟩
 ·obtain ⟨fa,fd,ps,h1,h⟩:=B.call f m hm;exact ⟨fa,fd,ps,h1.mono (cp _ _),h⟩
 ·rcases a9.mp hm with e' |hm
  ·cases e';exact o
  ·exact (B.mko C' n' hm).mono (cp _ _)
theorem Bse.addF{C f:String}(B:Bse Φ P w K mg base (CX1 P w) k fs bt cn xs ot)(o:yG K C f):Bse Φ P w K mg base (CX1 P w) k fs bt cn xs { ot with fl:=(C,f)::ot.fl }:=by
 refine ⟨B.call,B.blt,B.con,B.xcl,B.xis,B.mth,B.mko,λC' f' hm=>?_⟩;rcases a9.mp hm with e' |hm
 ·cases e';exact o
 ·exact B.fld C' f' hm
def gU(Φ:aa)(x:String)(S:RF.Spec):aa:=λf=>if f=x then S else Φ f
theorem jR{y:String}(e:Φ y=S){S':RF.Spec}(h:(y==x)=false):gU Φ x S' y=S:=by unfold gU;rw[if_neg (by simpa using h)];exact e
theorem Bse.self(B:Bse Φ P w K mg base (CX1 P w) k fs bt cn xs {})(hx:(fs.map (·.1)).contains x=false)(o:FnOk P w K mg base (CX1 P w) (k+j) fa fd ps (lift K n S))(h2:PySem.W.keepIn K (.ref fa)=true)(h3:Binds K fd ps [])(h4:mg (Str.ofString x)=some (.ref fa)):Bse (gU Φ x S) P w K mg base (CX1 P w) (k+j) ((x,n)::fs) bt cn xs {}:=by
 refine ⟨λf m hm=>?_,B.blt,B.con,B.xcl,B.xis,(λ_ _ _ _ h=>(nomatch h)),(λ_ _ h=>(nomatch h)),(λ_ _ h=>(nomatch h))⟩;rcases a9.mp hm with e' |hm'
 ·cases e';exact ⟨fa,fd,ps,by unfold gU;rw[if_pos rfl];exact o,h2,h3,h4⟩
 ·obtain ⟨fa,fd,ps,h1,h⟩:=B.call f m hm';have hf:f≠x:=by
   rintro rfl;rw[<-Bool.not_eq_true,aT]at hx;exact hx (ba.mpr ⟨(f,m),hm',rfl⟩)
  exact ⟨fa,fd,ps,by unfold gU;rw[if_neg hf];exact h1.mono (cp _ _),h⟩
end
theorem ada{S:RF.Spec}(hS:∀(ns:List Int)(G:DH),ns.length<=63->∃a,S.pre [.scr ns] G a/\(∀d G',S.post a d G'->d=.bl true)/\∀x G',¬S.exc a x G')(K:PF)(H:Hp)(a:Addr)(ns:List Int)(hl:ns.length<=63)(hO:Only H)(hs:SqL K H a (ns.map V.int)):
  lift K 1 S [.ref a] H (λv _=>v=.bl true) λ_ _ _=>False:=by
 obtain ⟨b,h1,h2,h3⟩:=hS ns (λ_=>none) hl;refine ⟨rfl,λ_=>False,λ_=>none,[.scr ns],⟨λ_ f=>f.elim,λ_ _ e=>by cases e⟩,⟨.ref a,[],rfl,⟨a,rfl,?_⟩,rfl⟩,b,h1,λd G' q H' F' v _ _ rv=>?_,λx G' q=>absurd q (h3 x G')⟩
 ·rcases hs with (h |h) |h
  ·exfalso;rcases hO a with z |⟨o,u,z⟩
   ·rw[z]at h;cases h
   ·rw[z]at h;cases h
  ·exact .inl h
  ·exact .inr h
 ·rw[h2 d G' q]at rv;exact rv
theorem adb{pre:List D->DH->Prop}(h:∀(ns:List Int)(G:DH),ns.length<=63->pre [.scr ns] G):∀(ns:List Int)(G:DH),ns.length<=63->∃a,(bB pre (λ_ _ d _=>d=.bl true)).pre [.scr ns] G a/\(∀d G',(bB pre (λ_ _ d _=>d=.bl true)).post a d G'->d=.bl true)/\∀x G',¬(bB pre (λ_ _ d _=>d=.bl true)).exc a x G':=
 λns G hl=>⟨([.scr ns],G),⟨rfl,h ns G hl⟩,λ_ _ q=>q,λ_ _ z=>z⟩
def ghS{A:Type}(pre:A->List D->DH->Prop)(post:A->DH->D->DH->Prop):RF.Spec where
 A:=A×DH
 pre:=λds G a=>a.2=G/\pre a.1 ds G
 post:=λa d G'=>post a.1 a.2 d G'
 exc:=λ_ _ _=>False
theorem bM{A:Type}{pre:A->List D->DH->Prop}{post:A->DH->D->DH->Prop}{ds:List D}{G:DH}{k:D->DH->Prop}{E:EK}(a:A)(h:pre a ds G)(hk:∀d G',post a G d G'->k d G'):(ghS pre post).t ds G k E:=
 ⟨(a,G),⟨rfl,h⟩,hk,λ_ _ z=>z.elim⟩
theorem cC{A:Type}{Φ:aa}{body:Sxs}{m n:Nat}{pre:A->List D->DH->Prop}{post:A->DH->D->DH->Prop}(h:∀a ds G,pre a ds G->aq Φ body noE (env0 ds m) G (ends (post a G))):
  ∀ds G a,ds.length=n->(ghS pre post).pre ds G a->aq Φ body noE (env0 ds m) G (ends ((ghS pre post).post a)):=by
 rintro ds G ⟨a,G0⟩ _ ⟨rfl,h1⟩;exact h a ds _ h1
def bU{A:Type}(args:A->List D)(ok:A->Prop)(val:A->D):RF.Spec:=ghS (λa ds _=>ds=args a/\ok a) (λa G d G'=>G'=G/\d=val a)
theorem bV{A:Type}{args:A->List D}{ok:A->Prop}{val:A->D}{ds:List D}{G:DH}{k:D->DH->Prop}{E:EK}(a:A)(e:ds=args a)(h:ok a)(hk:k (val a) G):(bU args ok val).t ds G k E:=
 bM a ⟨e,h⟩ λd G' ⟨e1,e2⟩=>by subst e1 e2;exact hk
theorem cM{A:Type}{Φ:aa}{body:Sxs}{m n:Nat}{args:A->List D}{ok:A->Prop}{val:A->D}(h:∀a G,ok a->aq Φ body noE (env0 (args a) m) G (ends λd G'=>G'=G/\d=val a)):
  ∀ds G a,ds.length=n->(bU args ok val).pre ds G a->aq Φ body noE (env0 ds m) G (ends ((bU args ok val).post a)):=
 cC λa ds G ⟨e,h1⟩=>by subst e;exact h a G h1
theorem ai{a b:Prop}(x:a)(y:b):a/\b:=⟨x,y⟩
def Oh:=ai @sY (ai @jC (ai @sZ (ai @tu (ai @xO (ai @tB (ai @tD (ai @tH (ai @tM (ai @tQ (ai @tR (ai (ai @tX (ai @lw (ai @xQ (ai @tV (ai (ai @xU (ai @xR (ai @tW @xT))) (ai @xV (ai @xW (ai (ai @xG (ai (ai (ai @sS (ai @sU (ai @sV @sW))) (ai @xH @xJ)) (ai @xK (ai @xM @xN)))) (ai @xP @tU))))))))) (ai @Oa (ai @yW (ai (ai @rQ (ai @rD (ai @rE (ai @rF (ai @jz (ai @gj (ai @gJ (ai @rG (ai @lg (ai @rH (ai @lq (ai @rJ (ai @rK (ai @rM (ai @rN (ai @xq (ai @xr (ai @xu (ai @rO @rP))))))))))))))))))) (ai @iu (ai @rR (ai @rT (ai @rW (ai @lr (ai @lu (ai @rY (ai @rZ (ai @sr (ai @su (ai @sy (ai @sE (ai (ai @sG @xF) (ai @sH (ai @sI (ai @sJ (ai @sO (ai @fD (ai @sX (ai @Oe (ai @Iz (ai @IK (ai @IV (ai @IW (ai @Ja (ai @Jb (ai (ai @Jf (ai @Jd @Jc)) (ai @Jg (ai @Jh (ai @Ji (ai @Jj (ai @Jl (ai @Jm (ai @Jo (ai @Jp (ai @Jq (ai @Jr (ai @Js (ai @Jt (ai @Ju (ai @Jv (ai @Jw (ai @Jx (ai @Jy (ai @JB (ai @JC (ai @JD (ai @JF (ai @JG (ai @JH (ai @JK (ai @JL (ai @JM (ai @JN (ai @JP (ai @JR (ai @JS (ai @JT (ai @JV (ai (ai @JX @JW) (ai @JZ (ai @J0 (ai @J1 (ai @J2 (ai @J5 (ai @J6 (ai @J7 (ai @J8 (ai @J9 (ai @Ka (ai (ai @Kh @Kg) (ai (ai @Kl (ai (ai @Kf (ai @Kd @Ke)) @Kc)) (ai @Km (ai @Ko (ai @Kp (ai @Kq (ai (ai @Kr (ai @Ky (ai @Kz (ai @KC (ai @KD (ai @Lg @Ld)))))) (ai @Ks (ai (ai @Kw (ai @Ku @Kv)) (ai @KH (ai @KJ (ai @KN (ai @KQ (ai @KR (ai @KY (ai @KZ (ai @K1 (ai @K5 (ai @K6 (ai @K7 (ai @K8 (ai @K9 (ai @La (ai @Lb (ai @Lh (ai @Li (ai @Lj (ai @Lk (ai @Ln (ai @Lp (ai @Lq (ai @Lr (ai @Ls (ai @Lw (ai @Lx (ai @Ly (ai @Lz (ai @LC (ai @is_tup (ai @LK (ai @LQ (ai (ai @Ma @LR) (ai @Mg (ai @Mh (@JQ)))))))))))))))))))))))))))))))))))))))))))))))))))))))))))))))))))))))))))))))))))))))))))))))))))))))))))))))))))))))))))))))))
theorem adc:type_of% (af @jA @jB):=af @jA @jB
theorem Oi:type_of% (af @Ob (af @Oc (af @Od (af @Option.join_some.{0} (af @bq.{0,0} (af @dQ.{0,0} (af @List.cons_append.{0} (af @List.nil_append.{0} (af @cb.{0} (af @List.replicate_zero.{0} (af @List.getElem?_cons_zero.{0} (af @List.getElem?_cons_succ.{0} (af @List.set_cons_zero.{0} (af @List.set_cons_succ.{0} (af @ck.{0} (af @List.length_nil.{0} (af @yU (af @Ik (af @Il (af @Im (af @Io (af @Ip (af @Ir (af @true_and (af @fv (af @Nat.min_self (af @Nat.zero_min (af @Nat.min_zero (af @eg (af @Bool.or_false (af @Bool.or_true (af @Bool.false_or (af @Bool.true_or (af @Bool.not_true (af @Bool.not_false (af @Mi (af @Mj (af @Ml (af @Mm (af @Mp (af @Mq (af @Mr (af @Ms (af @Mt (af @Mu (af @Mv (af @Mw (af @Mx (af @My (af @Mz (af @MF (af @MJ (af @MK (af @MN (af @MP (af @MT (af @M3 (af @M4 (af @M5 (af @M6 (af @M7 (af @M8 (af @M9 (af @Nb (af @Nf (af @Ng (af @Nh (af @Ni (af @Nj (af @Nk (af @Nm (af @Np (af @Nq (af @Nr (af @Nt (af @Nu (af @Nv (af @Nx (af @Ny (af @Nz (af @NB (af @NK (af @NQ (af @NT (af @NZ (af @N5 (af @N6 (af @N7 (@N8))))))))))))))))))))))))))))))))))))))))))))))))))))))))))))))))))))))))))))))))))))))))):=af @Ob (af @Oc (af @Od (af @Option.join_some.{0} (af @bq.{0,0} (af @dQ.{0,0} (af @List.cons_append.{0} (af @List.nil_append.{0} (af @cb.{0} (af @List.replicate_zero.{0} (af @List.getElem?_cons_zero.{0} (af @List.getElem?_cons_succ.{0} (af @List.set_cons_zero.{0} (af @List.set_cons_succ.{0} (af @ck.{0} (af @List.length_nil.{0} (af @yU (af @Ik (af @Il (af @Im (af @Io (af @Ip (af @Ir (af @true_and (af @fv (af @Nat.min_self (af @Nat.zero_min (af @Nat.min_zero (af @eg (af @Bool.or_false (af @Bool.or_true (af @Bool.false_or (af @Bool.true_or (af @Bool.not_true (af @Bool.not_false (af @Mi (af @Mj (af @Ml (af @Mm (af @Mp (af @Mq (af @Mr (af @Ms (af @Mt (af @Mu (af @Mv (af @Mw (af @Mx (af @My (af @Mz (af @MF (af @MJ (af @MK (af @MN (af @MP (af @MT (af @M3 (af @M4 (af @M5 (af @M6 (af @M7 (af @M8 (af @M9 (af @Nb (af @Nf (af @Ng (af @Nh (af @Ni (af @Nj (af @Nk (af @Nm (af @Np (af @Nq (af @Nr (af @Nt (af @Nu (af @Nv (af @Nx (af @Ny (af @Nz (af @NB (af @NK (af @NQ (af @NT (af @NZ (af @N5 (af @N6 (af @N7 (@N8))))))))))))))))))))))))))))))))))))))))))))))))))))))))))))))))))))))))))))))))))))))))
noncomputable def uU(c:CT)(g f:String)(ss:List Stmt):Bool:=(two ss).any λs=>au (iH s.2) λa=>(one a.1).any λtg=>au (gn tg) λv=>aV c (.exp (.call g (.cons (.var 1) .nil))) s.1&&aj c (.var 0) v.1&&v.2.1==Str.ofString f&&!cU a.2.1&&aj c (.lst false (.cons (.var 1) .nil)) a.2.1
theorem ade{c:CT}{g f:String}{ss:List Stmt}(h:uU c g f ss=true):∃s1 o n p e pos,ss=[s1,.Assign [.Attribute o n p] e pos]/\aV c (.exp (.call g (.cons (.var 1) .nil))) s1=true/\aj c (.var 0) o=true/\n=Str.ofString f/\cU e=false/\aj c (.lst false (.cons (.var 1) .nil)) e=true:=by unfold uU at h;obtain ⟨s,hs,h⟩:=aU h;obtain ⟨a,ha,h⟩:=aJ h;obtain ⟨tg,ht,h⟩:=aU h;obtain ⟨v,hv,h⟩:=aJ h;rw[ae,ae,ae,ae,aw,dS]at h;obtain ⟨⟨⟨⟨h1,h2⟩,h3⟩,h4⟩,h5⟩:=h;exact ⟨_,_,_,_,_,_,by rw[lE hs,ha,c7 ht,hv],h1,h2,h3,h4,h5⟩
section
variable {Φ:aa} {P:Program} {w:World} {K:PF} {mg:Str->Option Value} {base:Heap} {k:Nat} {fs:List (String×Nat)} {bt:List String} {cn:List (String×D)} {xs:List (String×Bool)} {ot:OT}
def adf(Φ:aa)(K:PF)(c:Addr)(g f:String):Sp:=λvs H Q EX=>∃x b dx d F G,vs=[.ref x,b]/\H x=some (.ins c dx [])/\F x/\R K H F G/\Rep K H F d b/\
 (Φ g).t [d] G (λ_ G1=>∀q,G1 q=none->∀H2 F2,Ext H F H2 F2->R K H2 F2 (aD G1 q (.lst [d]))->Q .non (upd H2 x (.ins c dx [(Str.ofString f,.ref q)]))) (PX K H F EX)
theorem adg{C f g:String}{nm qual:Str}{st:Stmt}{fa c:Addr}{fd:FuncData}{N ps:List Str}(B:Bse Φ P w K mg base (CX1 P w) k fs bt cn xs ot)(Fu:Fun K nm qual st fa fd)(hb:Binds K fd ps [])
  (hmg:mg (Str.ofString C)=some (.ref c)) (hns:PySem.W.nsIn K mainGlobals (Str.ofString C)=some (some (.ref c))) (hcl:Cls K c) (hna:NoAttr K c (Str.ofString f)) (M:Mk K c fa)
  (hs:fnB N ps (ao st)=true) (hc:uU (aH N (ao st) fs bt cn xs ot) g f (aF st)=true) (hn:ps.length=2) (hm:N.length=2)
  (hS:∀d G kk E,(Φ C).t [d] G kk E->(Φ g).t [d] G (λ_ G1=>∀q,G1 q=none->kk (.obj C f q) (aD G1 q (.lst [d]))) E):MkoOk Φ P w K mg base (CX1 P w) (k+2) C 1:=by
 refine ⟨c,fa,fd,ps,adf Φ K c g f,k+1,ax _,hmg,M,hb,?_,?_⟩
 ·obtain ⟨s1,o,n,p,e,pos,eb,c1,c2,en,c3,c4⟩:=ade hc;subst en;refine Fu.okX (uQ hs) (λvs H Q E h=>by obtain ⟨x,b,dx,d,F,G,rfl,_⟩:=h;rw[hn];rfl) λcdv A outer s H vs Q EX hr hsp=>?_;obtain ⟨x,b,dx,d,F,G,rfl,hx,fx,r,rb,ht⟩:=hsp;have St:Stat Φ (CX1 P w) k (aH N (ao st) fs bt cn xs ot) (PX K H F EX) ⟨H,F⟩ (cQ (CX1 P w) P w K mg base N qual (ao st) fa cdv A outer s H EX):=Ih B hs hr λx G' H' F' hx e r'=>hx H' F' e r';rw[eb];refine ⟨_,BW (Ie St _ c1) (BX (Xq (aA _ St c2) (aA _ St c4) (uP c3 _ _ _))),?_⟩;refine ⟨[some (.ref x),some d],F,G,Ext.refl _ _,?_,r,?_⟩
  ·have e2:L2.start N [V.ref x,b]=[some (V.ref x),some b]:=by
    unfold L2.start;rw[show N.length - [V.ref x,b].length=0 by rw[hm];rfl];rfl
   rw[e2];exact ⟨_,_,rfl,λd' hd=>⟨_,rfl,by cases hd;rfl⟩,_,_,rfl,λd' hd=>⟨_,rfl,by cases hd;exact rb⟩,rfl⟩
  ·show (Φ g).t [d] G _ _;refine Spec.mono ht (λd' G1 q=>?_) λ_ _ z=>z;intro H1 F1 σ1 x1 he1 r1;refine aN (x:=.lst false (.cons (.var 1) .nil)) (E:=PX K H F EX) (ρ:=[some (.ref x),some d]) (G:=G1) (W:=λy G2=>∃q',y=.ref q'/\G1 q'=none/\G2=aD G1 q' (.lst [d])) x1 he1 r1 ?_ ?_
   ·show _/\mk false [d] G1 _;exact ⟨show 1<=sz by decide,λq' hq'=>⟨q',rfl,hq',rfl⟩⟩
   ·rintro y G2 H2 F2 v ⟨q',rfl,hq',rfl⟩ e2 x2 he2 r2 rv;refine aN (x:=.var 0) (E:=PX K H F EX) (ρ:=[some (.ref x),some d]) (W:=λy G3=>y=.ref x/\G3=aD G1 q' (.lst [d])) e2 he2 r2 ⟨rfl,rfl⟩ ?_;rintro y G3 H3 F3 v3 ⟨rfl,rfl⟩ e3 x3 he3 r3 rv3;have ev:v=.ref q':=rv;have ev3:v3=.ref x:=rv3;subst ev ev3;have hx3:H3 x=some (.ins c dx []):=(e3.keep x fx).trans hx;refine ⟨x,c,dx,[],rfl,hx3,hcl,hna,by decide,?_⟩;exact q q' hq' H3 F3 e3 r3
 ·intro vs H Q E hl x dx hx hdx hne;obtain ⟨hlen,F,G,ds,r,rs,ht⟩:=hl;obtain ⟨d,rfl⟩:=cg (rs.length.trans hlen);obtain ⟨b,rfl,rb⟩:=bA rs;have hx1:(upd H dx (.own x)) x=none:=by rw[aK (Ne.symm hne)];exact hx
  have r1:=r.newO (o:=.own x) hdx;have e1:=wO (o:=.own x) r hdx;have r2:=r1.newO (o:=.ins c dx []) hx1;have e2:=wO (o:=.ins c dx []) r1 hx1;have e12:=e1.trans e2;refine ⟨x,b,dx,d,_,G,rfl,cP,.inr rfl,r2,Rep.ext e12 rb,?_⟩;refine Spec.mono (hS d G _ _ ht) (λd' G1 q=>λq' hq' H2 F2 x2 r2'=>⟨rfl,?_⟩) λxn G' z H2 F2 x2 r2'=>z H2 F2 (e12.trans x2) r2';have hx2:H2 x=some (.ins c dx []):=(x2.keep x (.inr rfl)).trans cP;have e3:=e12.trans x2;refine q q' hq' (upd H2 x (.ins c dx [(Str.ofString f,.ref q')])) F2 (.ref x) ⟨e3.sub,λa ha=>?_,λa ys ha=>?_,λa o u ha=>?_⟩ (r2'.setO hx2) ⟨x,c,dx,rfl,⟨x2.sub x (.inr rfl),cP⟩,hns⟩
  ·rw[aK λe=>r.notF hx (by rw[<-e];exact ha)];exact e3.keep a ha
  ·rw[aK (bu ha hx)];exact e3.tups a ys ha
  ·rw[aK (bu ha hx)];exact e3.frzs a o u ha
theorem Bse.alias{x y:String}{n:Nat}(B:Bse Φ P w K mg base (CX1 P w) k fs bt cn xs ot)(hm:fs.contains (x,n)=true)(e:Φ y=Φ x)(h:mg (Str.ofString y)=mg (Str.ofString x)):Bse Φ P w K mg base (CX1 P w) (k+1) ((y,n)::fs) bt cn xs ot:=by obtain ⟨fa,fd,ps,F0,hk,hb,hmg⟩:=B.call x n (aT.mp hm);exact B.add e (F0.mono (fN _)) hk hb (h.trans hmg)
end
section
local macro_rules|`(#[])=>`(.nil)|`(#[$x])=>`(.cons $x .nil)|`(#[$x,$y,*])=>`(.cons $x #[$y,*])
local macro_rules|`(-$x)=>`(.var $x)
local macro_rules|`(¬$x)=>`(.cst (.int $x))
local macro_rules|`(!$x)=>`(.cst (.str $x))
local macro_rules|`($x<|$y)=>`(.call $x $y)
noncomputable def lQ:Sxs:=#[.ite (.boo false (.not (.val (.isi (-0) "str"))) #[.not (.val (.chn .LtE .LtE (¬1) (.bcl .len #[-0]) (.glb "LONGEST_DEED" (.int 8))))]) #[.ret (.cst (.bl false))] #[],.ret (.bcl .all #[.comp true (.cmp .In (-0) (.glb "LETTERS" (.str [97,98,99,100,101,102,103,104,105,106,107,108,109,110,111,112,113,114,115,116,117,118,119,120,121,122]))) (.nm 0) (.seq (-0)) .yes ["sign"] [none]])]
noncomputable def lU:Sxs:=#[.ite (.boo false (.not (.val (.isi (-2) "str"))) #[.val (.cmp .NotEq (.bcl .len #[-2]) (-1))]) #[.ret (.cst (.bl false))] #[],.ret (.bcl .all #[.comp true (.cmp .In (-0) (-1)) (.nm 0) (.seq (-2)) .yes ["sign","signs"] [none,some 0]])]
noncomputable def lV:Sxs:=#[.ret ("is_text_of"<|#[![48,49,42],-0,-1])]
noncomputable def lW:Sxs:=#[.ite (.boo false (.not (.val (.isi (-1) "tuple"))) #[.val (.cmp .NotEq (.bcl .len #[-1]) (¬2))]) #[.ret (.cst (.bl false))] #[],.ret (.boo true ("is_form"<|#[-0,.idx (-1) (¬0)]) #["is_deed"<|#[.idx (-1) (¬1)]])]
noncomputable def lX:Sxs:=#[.ret (.boo true (.isi (-0) "int") #[.not (.isi (-0) "bool")])]
noncomputable def lY:Sxs:=#[.ret (.boo true ("is_whole"<|#[-0]) #[.chn .LtE .LtE (¬1) (-0) (.glb "WIDEST" (.int 6))])]
noncomputable def lZ:Sxs:=#[.ite (.boo false (.not (.val (.isi (-0) "tuple"))) #[.val (.cmp .NotEq (.bcl .len #[-0]) (¬2))]) #[.ret (.cst (.bl false))] #[],.asg (.tp #[.nm 1,.nm 2]) (-0),.ite (.boo false (.not (.val ("is_width"<|#[-1]))) #[.not (.val (.isi (-2) "tuple")),.val (.cmp .Gt (.bcl .len #[-2]) (.glb "MOST_ROWS" (.int 12)))]) #[.ret (.cst (.bl false))] #[],.ret (.bcl .all #[.comp true ("is_row"<|#[-1,-0]) (.nm 0) (.seq (-2)) .yes ["row","width"] [none,some 1]])]
noncomputable def mj:Sxs:=#[.ite (.not (.val ("is_book"<|#[-0]))) #[.rse "NoBook" #[]] #[]]
noncomputable def mq:Sxs:=#[.asg (.nm 2) (![]),.for_ (.tp #[.nm 3,.nm 4]) (.zip (-0) (-1)) #[.ite (.val (.cmp .Eq (-3) (![42]))) #[.aug 2 .Add (-4)] #[.ite (.boo false (.val (.cmp .Eq (-4) (![42]))) #[.val (.cmp .Eq (-4) (-3))]) #[.aug 2 .Add (-3)] #[.ret (.cst .non)]]],.ret (-2)]
noncomputable def my:Sxs:=#[.for_ (.tp #[.nm 2,.nm 3]) (.enm (-0)) #[.ite (.val (.cmp .IsNot ("both"<|#[.idx (-3) (¬0),-1]) (.cst .non))) #[.ret (-2)] #[]],.ret (.cst .non)]
noncomputable def mz:Sxs:=#[.asg (.nm 2) ("first_touching"<|#[-0,-1]),.ite (.val (.cmp .Is (-2) (.cst .non))) #[.ret (.cst .non)] #[],.for_ (.tp #[.nm 3,.nm 4]) (.enm (.idx (.idx (-0) (-2)) (¬0))) #[.ite (.boo true (.val (.cmp .Eq (.idx (-1) (-3)) (![42]))) #[.val (.cmp .NotEq (-4) (![42]))]) #[.ret (-3)] #[]],.ret (.cst .non)]
noncomputable def mC:Sxs:=#[.ret (.bin .Add true (.bin .Add true (.slc true (-0) .no (.ob (-1))) (-2)) (.slc true (-0) (.ob (.bin .Add true (-1) (¬1))) .no))]
noncomputable def jT:Sxs:=#[.for_ (.nm 3) (.seq (-1)) #[.asg (.nm 4) ("splitting_place"<|#[-3,-2]),.ite (.val (.cmp .IsNot (-4) (.cst .non))) #[.asg (.nm 5) ("grown"<|#[-0,-1,"with_sign"<|#[-2,-4,![48]]]),.asg (.nm 6) ("grown"<|#[-0,-1,"with_sign"<|#[-2,-4,![49]]]),.ret (.tup #[![115,112,108,105,116],-4,-5,-6])] #[]],.ret (.bin .Add true (.tup #[-0]) (.bcl .tuple #[.comp true ("first_touching"<|#[-0,-1]) (.nm 0) (.seq (-1)) .yes ["rows","box"] [none,some 2]]))]
noncomputable def mD:Sxs:=#[.ret (.boo true (.isi (-2) "tuple") #[.cmp .Eq (.bcl .len #[-2]) (.bin .Add true (-1) (¬1)),.cmp .Eq (.idx (-2) (¬0)) (-0)])]
noncomputable def mF:Sxs:=#[.ret (.boo true ("is_whole"<|#[-1]) #[.chn .LtE .Lt (¬0) (-1) (-0)])]
noncomputable def iT:Sxs:=#[.ite (.not (.val ("is_named"<|#[![115,112,108,105,116],¬3,-1]))) #[.ret (.lst true #[.tup #[-0,-1]])] #[],.asg (.nm 2) (.idx (-1) (¬1)),.ite (.boo false (.not (.val ("is_place"<|#[.bcl .len #[-0],-2]))) #[.val (.cmp .NotEq (.idx (-0) (-2)) (![42]))]) #[.ret (.cst .non)] #[],.asg (.nm 3) ("leaves"<|#["with_sign"<|#[-0,-2,![48]],.idx (-1) (¬2)]),.asg (.nm 4) ("leaves"<|#["with_sign"<|#[-0,-2,![49]],.idx (-1) (¬3)]),.ite (.boo false (.val (.cmp .Is (-3) (.cst .non))) #[.val (.cmp .Is (-4) (.cst .non))]) #[.ret (.cst .non)] #[],.ret (.bin .Add true (-3) (-4))]
noncomputable def mG:Sxs:=#[.exp ("need_book"<|#[-0]),.exp ("need_book"<|#[-1]),.ite (.val (.cmp .NotEq (.idx (-0) (¬0)) (.idx (-1) (¬0)))) #[.rse "NoMatch" #[.idx (-0) (¬0),.idx (-1) (¬0)]] #[]]
noncomputable def jU:Sxs:=#[.ite (.val (.cmp .Is (-1) (.cst .non))) #[.ret (.cst .non)] #[],.ret (.idx (.idx (.idx (-0) (¬1)) (-1)) (¬1))]
noncomputable def mH:Sxs:=#[.ret (.cmp .Eq ("deed_of"<|#[-0,.idx (-2) (¬1)]) ("deed_of"<|#[-1,.idx (-2) (¬2)]))]
def mJ:Sxs:=#[.ret (.bin .Mult true (![42]) (-0))]
noncomputable def mK:Sxs:=#[.exp ("need_two_books"<|#[-0,-1]),.asg (.nm 2) ("stars"<|#[.idx (-0) (¬0)]),.asg (.nm 3) ("grown"<|#[![115,97,109,101],.lst true #[.idx (-0) (¬1),.idx (-1) (¬1)],-2]),.asg (.nm 4) (.comp true ("least"<|#[-0]) (.tp #[.nm 0,.nm 1]) (.seq ("leaves"<|#[-2,-3])) (.not (.val ("same_deeds"<|#[-2,-3,-1]))) ["part","leaf","one","other"] [none,none,some 0,some 1]),.ite (.val (-4)) #[.ret (.tup #[![112,97,114,116,101,100],.bcl .min #[-4]])] #[],.ret (.tup #[![97,108,105,107,101],-3])]
noncomputable def mL:Sxs:=#[.asg (.tp #[.nm 2,.nm 3]) ("alike"<|#[-0,-1]),.ret (.ife (.val (.cmp .Eq (-2) (![112,97,114,116,101,100]))) (-3) (.cst .non))]
def zb:Sxs:=#[.set (-0) (¬2) (¬0),.ret (-0)]
noncomputable def zc:Sxs:=#[.ite (.val (.cmp .GtE (-0) (.bin .Pow true (¬10) (¬18)))) #[.ret (-0)] #[],.asg (.nm 2) (.bin .Mod true (.bin .Add true (.bin .Add true (.bin .Mult true (.bin .Mod true (-0) (¬1000000007)) (¬69069)) (.bin .Mult true (-1) (¬40503))) (¬977)) (¬2147483629)),.asg (.nm 3) (.bin .Mod true (.bin .Add true (.bin .Add true (.bin .Mult true (-2) (-2)) (.bin .Mult true (-1) (¬7919))) (.bin .Mod true (-0) (¬65537))) (¬2147483587)),.asg (.nm 4) (.bin .Mod true (.bin .Add true (.bin .Add true (.bin .Mult true (-3) (-3)) (.bin .Mult true (-2) (¬31))) (¬5)) (¬2147483563)),.ret (.bin .Add true (.bin .Mult true (.bin .Add true (.bin .Mult true (-2) (¬2147483659)) (-3)) (¬2147483693)) (-4))]
noncomputable def zf:Sxs:=#[.ite (.val (.cmp .Lt (.idx (-0) (¬2)) (-1))) #[.asg (.nm 2) (.idx (-0) (¬1)),.asg (.nm 3) (¬0),.ite (.val (.cmp .Lt (-2) (.bcl .len #[.idx (-0) (¬0)]))) #[.asg (.nm 3) (.idx (.idx (-0) (¬0)) (-2))] #[.ite (.val (.cmp .Gt (.bcl .len #[.idx (-0) (¬0)]) (¬0))) #[.asg (.nm 3) (.bin .Mod true (.idx (.idx (-0) (¬0)) (.bin .Mod true (.bin .Add true (.bin .Mult true (-2) (¬5)) (¬3)) (.bcl .len #[.idx (-0) (¬0)]))) (.bin .Add true (.bin .Pow true (¬10) (¬17)) (-2)))] #[]],.set (-0) (¬1) (.bin .Add true (-2) (¬1)),.set (-0) (¬2) ("_law_spread"<|#[-3,-2])] #[],.asg (.nm 4) (.bin .Mod true (.idx (-0) (¬2)) (-1)),.set (-0) (¬2) (.bin .FloorDiv true (.idx (-0) (¬2)) (-1)),.ret (-4)]
noncomputable def zg:Sxs:=#[.ret (.mth .join (![]) #[.comp true (.idx (-1) ("_law_take"<|#[-2,.bcl .len #[-1]])) (.nm 0) (.rng (-1)) .yes ["at","signs","pen"] [none,some 2,some 0]])]
noncomputable def zj:Sxs:=#[.asg (.nm 2) (.lst true #[![97],![103,111],![115,116,97,121],![97,98,99,100,101,102,103,104],![110,111,110,101],![121,101,115],![105,110],![111,117,116],![107,101,101,112],![119,111,114,100],![122,122]]),.asg (.nm 3) ("_law_take"<|#[-0,¬11]),.asg (.nm 4) (.comp true (.idx (-1) (.bin .Mod true (.bin .Add true (-2) (.bin .Mult true (¬3) (-0))) (¬11))) (.nm 0) (.rng (.bin .Add true (¬1) ("_law_take"<|#[-0,-1]))) .yes ["k","some","turn"] [none,some 2,some 3]),.ite (.val (.cmp .Eq ("_law_take"<|#[-0,¬3]) (¬0))) #[.asg (.nm 5) (![97,98,99,100,101,102,103,104,105,106,107,108,109,110,111,112,113,114,115,116,117,118,119,120,121,122]),.asg (.nm 4) (.comp true ("_law_signs"<|#[-1,.bin .Add true (¬1) ("_law_take"<|#[-1,¬8]),-2]) (.nm 0) (.seq (-4)) .yes ["one","pen","letters"] [none,some 0,some 5])] #[],.ret (-4)]
noncomputable def zm:Sxs:=#[.ret ("_law_signs"<|#[-0,-1,.idx (.lst true #[![48,49,42],![48,49,42,42],![48,49,42,42,42,42],![48,42],![48,49]]) ("_law_take"<|#[-0,¬5])])]
noncomputable def zp:Sxs:=#[.asg (.nm 2) (![]),.for_ (.nm 3) (.seq (-1)) #[.ite (.val (.cmp .Eq ("_law_take"<|#[-0,¬3]) (¬0))) #[.asg (.nm 3) (![42])] #[],.asg (.nm 2) (.bin .Add true (-2) (-3))],.ret (-2)]
noncomputable def zq:Sxs:=#[.asg (.nm 2) (![]),.for_ (.nm 3) (.seq (-1)) #[.ite (.boo true (.val (.cmp .Eq (-3) (![42]))) #[.val (.cmp .Eq ("_law_take"<|#[-0,¬2]) (¬0))]) #[.asg (.nm 3) (.idx (![48,49]) ("_law_take"<|#[-0,¬2]))] #[],.asg (.nm 2) (.bin .Add true (-2) (-3))],.ret (-2)]
noncomputable def zr:Sxs:=#[.asg (.nm 3) ("_law_take"<|#[-0,¬7]),.ite (.boo false (.val (.cmp .Eq (-2) (.lst true #[]))) #[.val (.cmp .Lt (-3) (¬2))]) #[.ret ("_law_form"<|#[-0,-1])] #[],.asg (.nm 4) (.idx (-2) ("_law_take"<|#[-0,.bcl .len #[-2]])),.ite (.val (.cmp .Eq (-3) (¬2))) #[.ret (-4)] #[],.ite (.val (.cmp .Lt (-3) (¬5))) #[.asg (.nm 5) ("_law_take"<|#[-0,-1]),.ret (.bin .Add true (.bin .Add true (.slc true (-4) .no (.ob (-5))) (.idx (![48,49,42]) ("_law_take"<|#[-0,¬3]))) (.slc true (-4) (.ob (.bin .Add true (-5) (¬1))) .no))] #[],.ite (.val (.cmp .Eq (-3) (¬5))) #[.ret ("_law_within"<|#[-0,-4])] #[],.ret ("_law_wider"<|#[-0,-4])]
noncomputable def zu:Sxs:=#[.asg (.nm 3) (.bin .Add true (¬1) ("_law_take"<|#[-0,-1])),.asg (.nm 4) ("_law_deeds_of"<|#[-0,¬3]),.asg (.nm 5) (.lst false #[]),.asg (.nm 6) (.lst false #[]),.for_ (.nm 7) (.rng ("_law_take"<|#[-0,.bin .Add true (-2) (¬1)])) #[.exp (.mth .append (-5) #["_law_form_like"<|#[-0,-3,-5]]),.exp (.mth .append (-6) #[.tup #[.idx (-5) (.neg (¬1)),.idx (-4) ("_law_take"<|#[-0,.bcl .len #[-4]])]])],.ret (.tup #[-3,.bcl .tuple #[-6]])]
noncomputable def mO:Sxs:=#[.exp ("need_book"<|#[-0]),.ite (.not (.val ("is_place"<|#[.bcl .len #[.idx (-0) (¬1)],-1]))) #[.rse "NoRow" #[.bcl .len #[.idx (-0) (¬1)]]] #[]]
noncomputable def mQ:Sxs:=#[.exp ("need_row"<|#[-0,-1]),.asg (.tp #[.nm 2,.nm 3]) (-0),.ret (.tup #[-2,.bin .Add true (.slc true (-3) .no (.ob (-1))) (.slc true (-3) (.ob (.bin .Add true (-1) (¬1))) .no)])]
noncomputable def zx:Sxs:=#[.ret (.comp true (.idx (-0) (¬0)) (.nm 0) (.seq (-0)) .yes ["row"] [none])]
noncomputable def zy:Sxs:=#[.asg (.nm 4) ("_law_take"<|#[-0,¬9]),.asg (.nm 5) ("_law_take"<|#[-0,.bin .Add true (.bcl .len #[-2]) (¬1)]),.ite (.boo false (.boo true (.val (.cmp .Lt (-4) (¬4))) #[.val (.cmp .Lt (.bcl .len #[-2]) (¬12))]) #[.boo true (.val (.cmp .Eq (-2) (.lst true #[]))) #[.val (.cmp .Eq (-3) (.lst true #[]))]]) #[.asg (.nm 6) ("_law_form_like"<|#[-0,-1,"_law_forms"<|#[-2]]),.asg (.nm 7) (.idx ("_law_deeds_of"<|#[-0,¬1]) (¬0)),.ret (.tup #[![112,117,116],.tup #[-5,-6,-7],.bin .Add true (.bin .Add true (.slc true (-2) .no (.ob (-5))) (.lst true #[.tup #[-6,-7]])) (.slc true (-2) (.ob (-5)) .no)])] #[],.ite (.boo false (.boo true (.val (.cmp .Eq (-4) (¬4))) #[.val (.cmp .NotEq (-3) (.lst true #[]))]) #[.val (.cmp .Eq (-2) (.lst true #[]))]) #[.ret (.tup #[![98,97,99,107],.tup #[],.idx (-3) (.neg (¬1))])] #[],.asg (.nm 5) (.bin .Mod true (-5) (.bcl .len #[-2])),.ite (.val (.cmp .Lt (-4) (¬7))) #[.ret (.tup #[![111,117,116],.tup #[-5],.bin .Add true (.slc true (-2) .no (.ob (-5))) (.slc true (-2) (.ob (.bin .Add true (-5) (¬1))) .no)])] #[],.asg (.nm 8) ("_law_take"<|#[-0,.bcl .len #[-2]]),.asg (.nm 9) (.bin .Add true (.slc true (-2) .no (.ob (-5))) (.slc true (-2) (.ob (.bin .Add true (-5) (¬1))) .no)),.ret (.tup #[![109,111,118,101],.tup #[-5,-8],.bin .Add true (.bin .Add true (.slc true (-9) .no (.ob (-8))) (.lst true #[.idx (-2) (-5)])) (.slc true (-9) (.ob (-8)) .no)])]
noncomputable def zz:Sxs:=#[.asg (.nm 1) (.comp true (.idx (-0) (¬1)) (.nm 0) (.seq (-0)) .yes ["row"] [none]),.ret (.idx (.comp true (-0) (.nm 0) (.seq (![97,98,99,100,101,102,103,104,105,106,107,108,109,110,111,112,113,114,115,116,117,118,119,120,121,122])) (.val (.cmp .NotIn (-0) (-1))) ["one","known"] [none,some 1]) (¬0))]
noncomputable def mR:Sxs:=#[.ite (.val (.cmp .NotEq (.bcl .len #[-0]) (.bcl .len #[-1]))) #[.ret (.cst (.bl false))] #[],.ret (.bcl .all #[.comp true (.boo false (.cmp .Eq (-0) (![42])) #[.cmp .Eq (-0) (-1)]) (.tp #[.nm 0,.nm 1]) (.zip (-0) (-1)) .yes ["sign","given"] [none,none]])]
noncomputable def mU:Sxs:=#[.ret ("is_text_of"<|#[![48,49],-0,-1])]
noncomputable def mV:Sxs:=#[.exp ("need_book"<|#[-0]),.asg (.tp #[.nm 2,.nm 3]) (-0),.ite (.not (.val ("is_word"<|#[-2,-1]))) #[.rse "NoWord" #[-2]] #[],.for_ (.tp #[.nm 4,.nm 5]) (.enm (-3)) #[.ite (.val ("fits"<|#[.idx (-5) (¬0),-1])) #[.ret (-4)] #[]],.ret (.cst .non)]
noncomputable def mW:Sxs:=#[.exp ("need_row"<|#[-0,-1]),.asg (.nm 2) (.idx (-0) (¬1)),.asg (.nm 3) (.idx (.idx (-2) (-1)) (¬0)),.asg (.nm 4) ("grown"<|#[![117,110,100,101,114],.lst true #[.slc true (-2) .no (.ob (-1))],-3]),.asg (.nm 5) (.comp true ("least"<|#[-0]) (.tp #[.nm 0,.nm 1]) (.seq ("leaves"<|#[-3,-4])) (.val (.cmp .Is (.idx (-1) (¬1)) (.cst .non))) ["box","leaf"] [none,none]),.ite (.val (-5)) #[.ret (.tup #[![119,111,114,100],.bcl .min #[-5]])] #[],.ret (.tup #[![104,105,100,100,101,110],-4])]
noncomputable def zA:Sxs:=#[.exp ("need_book"<|#[-0]),.ret (.comp true (-0) (.nm 0) (.rng (.bcl .len #[.idx (-0) (¬1)])) (.val (.cmp .Eq (.idx ("reach"<|#[-1,-0]) (¬0)) (![104,105,100,100,101,110]))) ["number","book"] [none,some 0])]
noncomputable def eN:Sxs:=#[.ite (.val (.cmp .Is (-1) (.cst .non))) #[.ret (.cmp .Is (-0) (.cst .non))] #[],.ite (.boo false (.val (.isi (-1) "bool")) #[.val (.isi (-0) "bool")]) #[.ret (.boo true (.isi (-1) "bool") #[.isi (-0) "bool",.cmp .Eq (-0) (-1)])] #[],.ite (.val (.isi (-1) "int")) #[.ret (.boo true (.isi (-0) "int") #[.cmp .Eq (-0) (-1)])] #[],.ite (.val (.isi (-1) "str")) #[.ret (.boo true (.isi (-0) "str") #[.cmp .Eq (-0) (-1)])] #[],.ite (.boo false (.val (.cmp .NotEq (.isi (-1) "tuple") (.isi (-0) "tuple"))) #[.val (.cmp .NotEq (.isi (-1) "list") (.isi (-0) "list"))]) #[.ret (.cst (.bl false))] #[],.ite (.val (.cmp .NotEq (.bcl .len #[-0]) (.bcl .len #[-1]))) #[.ret (.cst (.bl false))] #[],.ret (.cmp .NotIn (.cst (.bl false)) (.comp true ("_law_same"<|#[-0,-1]) (.tp #[.nm 0,.nm 1]) (.zip (-0) (-1)) .yes ["one","other"] [none,none]))]
noncomputable def zB:Sxs:=#[.asg (.nm 1) (.lcl false .list #[.slc true (-0) .no (.ob (¬12))]),.for_ (.tp #[.nm 2,.nm 3]) (.enm (.slc true (-0) (.ob (¬12)) (.ob (¬63)))) #[.set (-1) (.bin .Mod true (-2) (¬12)) (.bin .Add true (.idx (-1) (.bin .Mod true (-2) (¬12))) (-3))],.ret (.lst false #[.frz (-1),¬0,¬0])]
def mX:Sxs:=#[.ret (.idx (.fld "Sieve" "books" (-0)) (.neg (¬1)))]
noncomputable def iU:Sxs:=#[.ite (.val (.cmp .Eq (.bcl .len #[.fld "Sieve" "books" (-0)]) (¬1))) #[.rse "Nothing" #[]] #[],.asg (.nm 1) (.pp0 (.fld "Sieve" "books" (-0))),.ret ("parting_word"<|#[-1,.mcl "Sieve.book" "Sieve" "book" (-0) #[]])]
noncomputable def mY:Sxs:=#[.asg (.nm 2) (.mcl "Sieve.book" "Sieve" "book" (-0) #[]),.exp (.mth .append (.fld "Sieve" "books" (-0)) #[.tup #[.idx (-2) (¬0),-1]]),.ret ("parting_word"<|#[-2,.mcl "Sieve.book" "Sieve" "book" (-0) #[]])]
noncomputable def mZ:Sxs:=#[.asg (.tp #[.nm 4,.nm 5]) (.mcl "Sieve.book" "Sieve" "book" (-0) #[]),.ite (.not (.val ("is_place"<|#[.bin .Add true (.bcl .len #[-5]) (¬1),-1]))) #[.rse "NoRow" #[.bcl .len #[-5]]] #[],.ite (.boo false (.not (.val ("is_form"<|#[-4,-2]))) #[.not (.val ("is_deed"<|#[-3]))]) #[.rse "NoForm" #[-4]] #[],.ite (.val (.cmp .GtE (.bcl .len #[-5]) (.glb "MOST_ROWS" (.int 12)))) #[.rse "Full" #[.glb "MOST_ROWS" (.int 12)]] #[],.ret (.mcl "Sieve.turn" "Sieve" "turn" (-0) #[.bin .Add true (.bin .Add true (.slc true (-5) .no (.ob (-1))) (.tup #[.tup #[-2,-3]])) (.slc true (-5) (.ob (-1)) .no)])]
noncomputable def m5:Sxs:=#[.exp ("need_row"<|#[.mcl "Sieve.book" "Sieve" "book" (-0) #[],-1]),.exp ("need_row"<|#[.mcl "Sieve.book" "Sieve" "book" (-0) #[],-2]),.asg (.nm 3) (.idx (.idx (.mcl "Sieve.book" "Sieve" "book" (-0) #[]) (¬1)) (-1)),.asg (.nm 4) (.idx ("without"<|#[.mcl "Sieve.book" "Sieve" "book" (-0) #[],-1]) (¬1)),.ret (.mcl "Sieve.turn" "Sieve" "turn" (-0) #[.bin .Add true (.bin .Add true (.slc true (-4) .no (.ob (-2))) (.tup #[-3])) (.slc true (-4) (.ob (-2)) .no)])]
noncomputable def m6:Sxs:=#[.ret (.mcl "Sieve.turn" "Sieve" "turn" (-0) #[.idx ("without"<|#[.mcl "Sieve.book" "Sieve" "book" (-0) #[],-1]) (¬1)])]
noncomputable def jV:Sxs:=#[.ite (.val (.cmp .Eq (-1) (![112,117,116]))) #[.ret (.mcl "Sieve.put" "Sieve" "put" (-0) #[.idx (-2) (¬0),.idx (-2) (¬1),.idx (-2) (¬2)])] #[],.ite (.val (.cmp .Eq (-1) (![111,117,116]))) #[.ret (.mcl "Sieve.out" "Sieve" "out" (-0) #[.idx (-2) (¬0)])] #[],.ite (.val (.cmp .Eq (-1) (![109,111,118,101]))) #[.ret (.mcl "Sieve.move" "Sieve" "move" (-0) #[.idx (-2) (¬0),.idx (-2) (¬1)])] #[],.ret (.mcl "Sieve.back" "Sieve" "back" (-0) #[])]
noncomputable def m7:Sxs:=#[.ret ("deed_of"<|#[.mcl "Sieve.book" "Sieve" "book" (-0) #[],"met"<|#[.mcl "Sieve.book" "Sieve" "book" (-0) #[],-1]])]
noncomputable def zE:Sxs:=#[.ret ("hidden_reached"<|#[.mcl "Sieve.book" "Sieve" "book" (-0) #[]])]
noncomputable def zF:Sxs:=#[.ret (.lst true #[.mcl "Sieve.book" "Sieve" "book" (-0) #[],.mcl "Sieve.hidden" "Sieve" "hidden" (-0) #[],.comp true (.mcl "Sieve.deed" "Sieve" "deed" (-1) #[-0]) (.nm 0) (.seq (-1)) .yes ["word","sieve"] [none,some 0]])]
noncomputable def zG:Sxs:=#[.asg (.tp #[.nm 3,.nm 4]) (-1),.ret (.boo true ("_law_same"<|#[.mcl "Sieve.back" "Sieve" "back" (-0) #[],-4]) #["_law_same"<|#["_law_look"<|#[-0,-2],-3]])]
noncomputable def zH:Sxs:=#[.asg (.nm 1) (.cst (.bl false)),.tryx (.mcl "Sieve.back" "Sieve" "back" (-0) #[]) "Nothing" (.flag 1 true) ["NoBook","NoMatch","NoWord","NoRow","NoForm","Full","Nothing"],.ret (-1)]
noncomputable def zJ:Sxs:=#[.asg (.nm 1) ("_law_open"<|#[-0]),.for_ (.nm 2) (.rng (¬2)) #[.asg (.nm 3) ("_law_book"<|#["_law_anew"<|#[-1],.idx (.lst true #[¬3,¬5]) (-2),.idx (.lst true #[¬12,¬8]) (-2)]),.asg (.nm 4) (.mko "Sieve" #[-3]),.asg (.nm 5) (.comp true ("_law_signs"<|#[-1,.idx (-2) (¬0),![48,49]]) (.nm 0) (.rng (¬4)) .yes ["k","pen","book"] [none,some 1,some 3]),.asg (.nm 6) (.lcl true .list #[.idx (-3) (¬1)]),.asg (.nm 7) (.lst false #[]),.for_ (.nm 8) (.rng (.bin .Add true (.idx (.lst true #[¬30,¬5]) (-2)) ("_law_take"<|#[-1,¬12]))) #[.ite (.boo true (.val (.cmp .NotEq (-7) (.lst true #[]))) #[.val (.cmp .Eq ("_law_take"<|#[-1,¬6]) (¬0))]) #[.asg (.nm 6) (.lcl true .list #[.idx (.idx (.idx (.idx (-7) (.neg (¬1))) (¬0)) (¬0)) (¬1)]),.ite (.not (.val ("_law_gone_back"<|#[-4,.pp0 (-7),-5]))) #[.ret (.cst (.bl false))] #[]] #[],.asg (.tp #[.nm 9,.nm 10,.nm 11]) ("_law_drawn_change"<|#[-1,.idx (-3) (¬0),-6,.lst true #[]]),.asg (.nm 12) ("_law_look"<|#[-4,-5]),.exp (.mth .append (-7) #[.tup #[-12,"_law_do"<|#[-4,-9,-10]]]),.asg (.nm 6) (-11)],.whl (.val (.cmp .NotEq (-7) (.lst true #[]))) #[.ite (.not (.val ("_law_gone_back"<|#[-4,.pp0 (-7),-5]))) #[.ret (.cst (.bl false))] #[]],.ite (.boo false (.not (.val ("_law_no_more"<|#[-4]))) #[.not (.val ("_law_same"<|#[.mcl "Sieve.book" "Sieve" "book" (-4) #[],-3]))]) #[.ret (.cst (.bl false))] #[],.ite (.val (.cmp .Lt (.bcl .len #[.idx (-3) (¬1)]) (¬12))) #[.asg (.nm 13) (.mcl "Sieve.put" "Sieve" "put" (-4) #[¬0,.bin .Mult true (![42]) (.idx (-3) (¬0)),"_law_fresh"<|#[.idx (-3) (¬1)]]),.ite (.boo false (.val (.cmp .NotEq (-13) (.bin .Mult true (![48]) (.idx (-3) (¬0))))) #[.val (.cmp .NotEq (.mcl "Sieve.back" "Sieve" "back" (-4) #[]) (-13)),.not (.val ("_law_no_more"<|#[-4]))]) #[.ret (.cst (.bl false))] #[]] #[]],.ret (.cst (.bl true))]
end
end RF
local macro_rules | `(tactic| simp_arith [$l,*] $[$c:location]?) => `(tactic| simp -implicitDefEqProofs only [↓RF.adc, ↓RF.Oh, RF.Oi, RF.env0, RF.ends, String.reduceBEq, $l,*] $[$c:location]?)
local macro_rules | `(tactic| simp_arith! [$l,*] $[$c:location]?) => `(tactic| simp -implicitDefEqProofs only [↓RF.Oh, RF.Oi, RF.env0, RF.ends, String.reduceBEq, $l,*] $[$c:location]?)
local macro_rules | `(tactic| simp_all_arith [$l,*]) => `(tactic| simp -implicitDefEqProofs only [RF.env0, RF.ends, List.map_cons, List.map_nil, List.cons_append, List.nil_append, List.replicate_succ, List.replicate_zero, $l,*])
namespace RF
open PySem L2
theorem iV{i j:Int}(h:-(2 ^ 64) < j/\j < 2 ^ 64):CMul i j:=.inr h
theorem zK{i j:Int}(h:-(2 ^ 64) < i/\i < 2 ^ 64):CMul i j:=.inl h
theorem Oj{j:Int}(h:0<=j/\j<=1000):qJ 10 j:=⟨h.1,by omega,by decide⟩
def uV:RF.Spec:=bB (λds _=>∃c k:Int,ds=[.int c,.int k]/\0<=k) (λ_ G d G'=>G'=G/\∃r:Int,d=.int r/\0<=r)
theorem adh(Φ:aa)(ds:List D)(G:DH)(h:∃c k:Int,ds=[.int c,.int k]/\0<=k):aq Φ zc noE (env0 ds 3) G (ends λd G'=>G'=G/\∃r:Int,d=.int r/\0<=r):=by
 obtain ⟨c,k,rfl,hk⟩:=h;simp_arith[zc];refine ⟨Oj (by decide),?_⟩;cases hc:decide (10 ^ Int.toNat 18<=c) with
 |true=>
  refine ⟨c,rfl,?_⟩;have:=c8 hc;have h2:(0:Int)<=(10:Int) ^ (18:Int).toNat:=by decide
  exact Int.le_trans h2 this
 |false=>
  generalize hone:(c % 1000000007 * 69069+k * 40503+977) % 2147483629=one;have o1:0<=one:=by rw[<-hone];exact ff _ (by decide)
  have o2:one < 2147483629:=by rw[<-hone];exact e8 _ (by decide)
  generalize htwo:(one * one+k * 7919+c % 65537) % 2147483587=two;have t1:0<=two:=by rw[<-htwo];exact ff _ (by decide)
  have t2:two < 2147483587:=by rw[<-htwo];exact e8 _ (by decide)
  generalize hthree:(two * two+one * 31+5) % 2147483563=three;have h1:0<=three:=by rw[<-hthree];exact ff _ (by decide)
  clear hone htwo hthree;refine ⟨by decide,iV (by decide),iV (by decide),by decide,zK (by omega),iV (by decide),by decide,by decide,zK (by omega),iV (by decide),by decide,iV (by decide),iV (by decide),_,rfl,?_⟩;omega
def Pen(G:DH)(p:Addr):Prop:=∃(ns:List Int)(k st:Int),G p=some (.lst [.lst (ns.map D.int),.int k,.int st])/\0<=k/\0<=st
theorem Pen.sa{G G':DH}{p:Addr}(h:Pen G p)(s:Sa G G'):Pen G' p:=by obtain ⟨ns,k,st,e,h1⟩:=h;exact ⟨ns,k,st,s _ _ e,h1⟩
theorem Pen.ne{G:DH}{p q:Addr}(h:Pen G p)(e:G q=none):p≠q:=by obtain ⟨ns,k,st,e1,h1⟩:=h;exact Ek e1 e
theorem Pen.sb{G G':DH}{p q:Addr}(h:Pen G p)(s:Sb q G G')(n:p≠q):Pen G' p:=by obtain ⟨ns,k,st,e,h1⟩:=h;exact ⟨ns,k,st,s _ _ e n,h1⟩
def uW:RF.Spec:=bB (λds G=>∃p,ds=[.ref p]/\Pen G p) (λds G d G'=>∃p,ds=[.ref p]/\d=.ref p/\Pen G' p/\Sb p G G')
theorem adi(Φ:aa)(ds:List D)(G:DH)(h:∃p,ds=[.ref p]/\Pen G p):aq Φ zb noE (env0 ds 0) G (ends λd G'=>∃p,ds=[.ref p]/\d=.ref p/\Pen G' p/\Sb p G G'):=by obtain ⟨p,rfl,ns,k,st,e,h1,h2⟩:=h;simp_arith[zb,dg e];exact ⟨p,rfl,rfl,⟨ns,k,0,aW,h1,by decide⟩,Sb.upd⟩
def dU:RF.Spec:=bB (λds G=>∃p,∃m:Int,ds=[.ref p,.int m]/\Pen G p/\0 < m/\m < 1152921504606846976) (λds G d G'=>∃p,∃m r:Int,ds=[.ref p,.int m]/\d=.int r/\0<=r/\r < m/\Pen G' p/\Sb p G G')
theorem adk (Φ:aa) (hΦ:Φ "_law_spread"=uV) (ds:List D) (G:DH) (h:∃p,∃m:Int,ds=[.ref p,.int m]/\Pen G p/\0 < m/\m < 1152921504606846976):
  aq Φ zf noE (env0 ds 3) G (ends λd G'=>∃p,∃m r:Int,ds=[.ref p,.int m]/\d=.int r/\0<=r/\r < m/\Pen G' p/\Sb p G G'):=by
 obtain ⟨p,m,rfl,⟨ns,k,st,e,h1,h2⟩,h3,h4⟩:=h;simp_all_arith[zf];refine seq λM hM=>?_;have fin:∀(ρ2 ρ3 ρ4:Option D)(G1:DH)(k1 s1:Int),0<=k1->0<=s1->G1 p=some (.lst [.lst (ns.map D.int),.int k1,.int s1])->Sb p G G1->M [some (.ref p),some (.int m),ρ2,ρ3,ρ4] G1:=by intro ρ2 ρ3 ρ4 G1 k1 s1 q1 q2 e1 sb;refine hM _ _ ?_;simp_arith[bG e1,dg e1];refine ⟨h3,⟨h3,h4⟩,p,m,_,rfl,rfl,ff _ (by omega),e8 _ h3,⟨ns,k1,_,aW,q1,?_⟩,sb.trans Sb.upd⟩;exact Int.ediv_nonneg q2 (by omega)
 simp_arith[bG e,dg e,hΦ];have draw:∀c:Int,uV.t [.int c,.int k] (aD G p (.lst [.lst (ns.map D.int),.int (k+1),.int st])) (λx G1=>trk G1 p λds=>bh (ixN ds.length 2) λj=>M [some (.ref p),some (.int m),some (.int k),some (.int c),none] (aD G1 p (.lst (ds.set j x)))) noE:=by intro c;refine bK ⟨c,k,rfl,h1⟩ λd G' hx=>?_;obtain ⟨e1,r,e2,hr⟩:=hx;subst e1 e2;simp_arith[dg aW];refine fin _ _ _ _ (k+1) r (by omega) hr aW (Sb.trans Sb.upd Sb.upd)
 cases hc:decide (st < m) with
 |false=>exact fin _ _ _ _ k st h1 h2 e (Sb.refl _ _)
 |true=>
  cases hk:decide (k < ((ns.map D.int).length:Int)) with
  |true=>
   have hk:=c8 hk;rw[ag]at hk;refine bL (a:=.int ns[k.toNat]) ?_ ?_
   ·obtain ⟨n,rfl⟩:=c6 h1;exact bY (by simp at hk ⊢)
   ·exact draw _
  |false=>
   cases hz:decide (0 < ((ns.map D.int).length:Int)) with
   |false=>exact draw 0
   |true=>
    have hz:=c8 hz;have j1:0<=(k * 5+3) % ((ns.map D.int).length:Int):=ff _ (by omega);have j2:(k * 5+3) % ((ns.map D.int).length:Int) < ((ns.map D.int).length:Int):=e8 _ hz;obtain ⟨j,hj⟩:=c6 j1;rw[hj]at j2;have j3:j < ns.length:=by rw[ag]at j2;omega
    refine ⟨iV (by decide),hz,bL (a:=.int ns[j]) ?_ ⟨Oj (by decide),?_⟩⟩
    ·rw[hj];exact bY (by simp[j3])
    ·simp_arith[dg e];refine ⟨?_,draw _⟩;have:(0:Int) < 10 ^ Int.toNat 17:=by decide
     omega
def jW:RF.Spec:=bB (λds G=>∃p,∃n:Nat,∃cs:List Nat,ds=[.ref p,.int n,.str cs]/\Pen G p/\n<=1000/\cs≠[]/\cs.length<=1000)
 (λds G d G'=>∃p,∃n:Nat,∃cs l:List Nat,ds=[.ref p,.int n,.str cs]/\d=.str l/\l.length=n/\(∀c∈l,c∈cs)/\Pen G' p/\Sb p G G')
theorem adl(l:List Nat):((l.map λc=>[c]).map (·.length)).sum=l.length:=by
 induction l with
 |nil=>rfl
 |cons a l ih=>simp at ih ⊢;omega
theorem adm(l:List Nat):(l.map λc=>[c]).flatten=l:=by
 induction l with
 |nil=>rfl
 |cons a l ih=>simp at ih ⊢;exact ih
theorem adn (Φ:aa) (hΦ:Φ "_law_take"=dU) (ds:List D) (G:DH) (h:∃p,∃n:Nat,∃cs:List Nat,ds=[.ref p,.int n,.str cs]/\Pen G p/\n<=1000/\cs≠[]/\cs.length<=1000):
  aq Φ zg noE (env0 ds 0) G (ends λd G'=>∃p,∃n:Nat,∃cs l:List Nat,ds=[.ref p,.int n,.str cs]/\d=.str l/\l.length=n/\(∀c∈l,c∈cs)/\Pen G' p/\Sb p G G'):=by
 obtain ⟨p,n,cs,rfl,hp,hn,hc,hl⟩:=h;have hc1:0 < cs.length:=fF.mpr hc;simp_arith[zg,hΦ];refine ⟨by omega,CompG.inv (P:=λi acc ρ G'=>(∃o,ρ=[o,some (.str cs),some (.ref p)])/\Pen G' p/\Sb p G G'/\∃l:List Nat,acc=l.map (λc=>D.str [c])/\l.length=i/\∀c∈l,c∈cs) (h0:=⟨⟨_,rfl⟩,hp,Sb.refl _ _,[],rfl,rfl,by simp⟩) (hh:=λ_ _ _ _ _=>trivial) (hl:=by simp[bc];have hsz:sz=1000000:=rfl;omega) (hs:=?_) (he:=?_)⟩
 ·rintro i d acc ρ G' hd ⟨⟨o,rfl⟩,hp',sb,l,rfl,hl',hm⟩ kk hk;simp_arith[hΦ];refine bK ⟨p,_,rfl,hp',by omega,by omega⟩ λd' G2 hx=>?_;obtain ⟨p2,m2,r,e1,e2,r0,r1,pp2,sb2⟩:=hx;cases e1;subst e2;obtain ⟨j,rfl⟩:=c6 r0;have hj:j < cs.length:=by omega
  simp_arith[ends];refine bL (a:=cs[j]) (bY (by simp[hj])) (hk _ _ _ ⟨⟨_,rfl⟩,pp2,sb.trans sb2,l++[cs[j]],by simp,by simp[hl'],?_⟩);intro c hc;rcases a7.mp hc with h |h
  ·exact hm c h
  ·rw[ay.mp h];exact dn _
 ·rintro acc ρ G' ⟨_,hp',sb,l,rfl,hl',hm⟩;simp_arith[strs_map];have hl2:l.length=n:=by rw[hl'];simp[bc]
  refine ⟨?_,p,n,cs,l,rfl,?_,hl2,hm,hp',sb⟩
  ·rw[adl];simp;have hsz:sz=1000000:=rfl;omega
  ·rw[Ij,adm]
def isF(c:Nat):Prop:=c=48\/c=49\/c=42
def zL:RF.Spec:=bB (λds G=>∃p,∃n:Nat,ds=[.ref p,.int n]/\Pen G p/\n<=1000) (λds G d G'=>∃p,∃n:Nat,∃l:List Nat,ds=[.ref p,.int n]/\d=.str l/\l.length=n/\(∀c∈l,isF c)/\Pen G' p/\Sb p G G')
theorem ado (Φ:aa) (h1:Φ "_law_take"=dU) (h2:Φ "_law_signs"=jW) (ds:List D) (G:DH) (h:∃p,∃n:Nat,ds=[.ref p,.int n]/\Pen G p/\n<=1000):
  aq Φ zm noE (env0 ds 0) G (ends λd G'=>∃p,∃n:Nat,∃l:List Nat,ds=[.ref p,.int n]/\d=.str l/\l.length=n/\(∀c∈l,isF c)/\Pen G' p/\Sb p G G'):=by
 obtain ⟨p,n,rfl,hp,hn⟩:=h;simp_arith[zm,h1,h2];refine ⟨by decide,bK ⟨p,_,rfl,hp,by decide,by decide⟩ λd' G2 ⟨p2,m2,r,e1,e2,r0,r1,pp2,sb2⟩=>?_⟩;cases e1;subst e2;obtain ⟨j,rfl⟩:=c6 r0;simp_arith[ends];have:∃cs:List Nat,atI [D.str [48,49,42],D.str [48,49,42,42],D.str [48,49,42,42,42,42],D.str [48,42],D.str [48,49]] ((j:Nat):Int)=some (.str cs)/\cs≠[]/\cs.length<=1000/\∀c∈cs,isF c:=by
  have hj:j=0\/j=1\/j=2\/j=3\/j=4:=by omega
  rcases hj with rfl |rfl |rfl |rfl |rfl <;> exact ⟨_,rfl,by decide,by decide,by simp[isF]⟩
 obtain ⟨cs,e,c1,c2,c3⟩:=this;refine bL e (bK ⟨p,n,cs,rfl,pp2,hn,c1,c2⟩ λd G3 ⟨p3,n3,cs3,l,e1,e2,q1,q2,q3,q4⟩=>?_);cases e1;exact ⟨p,n,l,rfl,e2,q1,λc hc=>c3 c (q2 c hc),q3,sb2.trans q4⟩
def zM:RF.Spec:=bB (λds _=>∃ns:List Int,ds=[.scr ns]/\ns.length<=63) (λ_ G d G'=>∃p,d=.ref p/\G p=none/\Pen G' p/\Sa G G')
theorem adp(Φ:aa)(ds:List D)(G:DH)(h:∃ns:List Int,ds=[.scr ns]/\ns.length<=63):aq Φ zB noE (env0 ds 3) G (ends λd G'=>∃p,d=.ref p/\G p=none/\Pen G' p/\Sa G G'):=by
 obtain ⟨ns,rfl,hl⟩:=h;simp_all_arith[zB];refine seq λM hM=>?_;simp_arith[ends];intro c hc;refine hM _ _ ?_;refine seq λM hM=>?_;simp_arith[ends];refine ForG.inv (λi ρ G'=>∃(o2 o3:Option D)(xs:List Int),ρ=[some (.scr ns),some (.ref c),o2,o3]/\G'=aD G c (.lst (xs.map D.int))/\(12<=xs.length\/cut ns (some 12) (some 63)=[])) ⟨_,_,cut ns none (some 12),rfl,rfl,?_⟩ (λ_ _ _ _=>trivial) ?_ ?_
 ·by_cases h12:12<=ns.length
  ·left;simp[cut,HT.sIx];omega
  ·right;simp[cut,HT.sIx];omega
 ·rintro i d ρ G' hd ⟨o2,o3,xs,rfl,rfl,hx⟩ kk hk;rw[jK]at hd;obtain ⟨d',hd',e3⟩:=aS.mp hd;subst e3;rw[bp]at hd';obtain ⟨x,hx',e4⟩:=aS.mp hd';subst e4;have h12:12<=xs.length:=by
   rcases hx with h |h
   ·exact h
   ·rw[h]at hx';simp at hx'
  obtain ⟨j,hj⟩:=c6 (ff ((0+i:Nat):Int) (by decide:(12:Int)≠0));have hj12:j < 12:=by have:=e8 ((0+i:Nat):Int) (by decide:(0:Int) < 12);omega
  have hjx:j < xs.length:=by omega
  simp_arith[hj,bG aW,dg aW];refine ⟨by decide,bL (a:=.int xs[j]) (bY (by simp[hjx])) ?_⟩;simp_arith[hj,bG aW,dg aW,ag,ac4 hjx];refine ⟨by decide,hk _ _ ⟨_,_,xs.set j (xs[j]+x),rfl,?_,by simp[h12]⟩⟩;rw[aaa,List.map_set]
 ·rintro ρ G' ⟨o2,o3,xs,rfl,rfl,hx⟩;refine hM _ _ ?_;simp_arith[aW];refine ⟨by have hsz:sz=1000000:=rfl;omega,λp hp=>⟨p,rfl,?_,⟨xs,0,0,aW,by decide,by decide⟩,?_⟩⟩
  ·rw[Ej hc]at hp;exact hp
  ·rw[Ej hc]at hp ⊢;exact Sa.new hp
def m8:RF.Spec:=bB (λds _=>∃ns:List Int,ds=[.scr ns]/\ns.length<=63) (λ_ _ d _=>d=.bl true)
def whole:D->Bool
 |.int _=>true
 |_=>false
def iW:List D->Option D
 |[x]=>if nr x then some (.bl (whole x)) else none
 |_=>none
theorem adq(Φ:aa)(ds:List D)(G:DH)(d:D)(h:iW ds=some d):aq Φ lX noE (env0 ds 0) G (ends λd' G'=>G'=G/\d'=d):=by
 unfold iW at h;split at h
 ·rename_i x;split at h
  ·rename_i hx;cases h;cases x <;> first | (simp[nr]at hx;done) | (simp_arith[lX,whole];try simp)
  ·cases h
 ·cases h
mutual
/-- no list within that is too long -/
noncomputable def cN:D->Bool
 |.tup l=>decide (l.length<=100000)&&dh l
 |.lst l=>decide (l.length<=100000)&&dh l
 |_=>true
noncomputable def dh:List D->Bool
 |[]=>true
 |a::as=>cN a&&dh as
end
theorem Ol:∀{l:List D}{d:D},nrs l=true->d∈l->nr d=true
 |a::as,d,h,m=>by
  rw[nrs,ae]at h;rcases a9.mp m with e |m
  ·rw[e];exact h.1
  ·exact Ol h.2 m
theorem Om:∀{l:List D}{d:D},dh l=true->d∈l->cN d=true
 |a::as,d,h,m=>by
  rw[dh,ae]at h;rcases a9.mp m with e |m
  ·rw[e];exact h.1
  ·exact Om h.2 m
theorem Oo:∀{l:List D}{d:D},d∈l->dpt d<=aO l
 |a::as,d,m=>by
  rw[aO];rcases a9.mp m with e |m
  ·rw[e];exact Nat.le_max_left _ _
  ·exact br (Oo m) (Nat.le_max_right _ _)
theorem m9{n:Nat}:isIn (.bl false) (List.replicate n (.bl true))=false:=by
 induction n with
 |zero=>rfl
 |succ n ih=>simp only[isIn,cb,List.any_cons,deq]at ih ⊢;rw[ih];rfl
theorem ni{n:Nat}{b:Bool}:nrs (List.replicate n (.bl b))=true:=by
 induction n with
 |zero=>rfl
 |succ n ih=>rw[cb,nrs,ih];rfl
theorem nq{n:Nat}{b:Bool}:aO (List.replicate n (.bl b))=0:=by
 induction n with
 |zero=>rfl
 |succ n ih=>rw[cb,aO,ih];rfl
theorem adt:∀(l:List D)(i:Nat)(d:D),(bF l l)[i]?=some d->∃a,a∈l/\d=.tup [a,a]
 |l,i,d,h=>by
  obtain ⟨a,b,h1,h2,rfl⟩:=yM l l i d h;rw[h1]at h2;cases h2;exact ⟨a,ce h1,rfl⟩
def Oq(n:Nat)(ds:List D)(G:DH):Prop:=∃x y v,ds=[x,y]/\view G x=v/\view G y=v/\nr v=true/\dpt v < n/\cN v=true
def dB(n:Nat):RF.Spec:=bB (Oq n) (λ_ G d G'=>G'=G/\d=.bl true)
theorem adu{n:Nat}{x y v:D}{G:DH}{k:D->DH->Prop}{E:EK}(hx:view G x=v)(hy:view G y=v)(h1:nr v=true)(h2:dpt v < n)(h3:cN v=true)(hk:k (.bl true) G):(dB n).t [x,y] G k E:=
 bK ⟨x,y,v,rfl,hx,hy,h1,h2,h3⟩ λd G' ⟨e1,e2⟩=>by subst e1 e2;exact hk
theorem Ot{x:D}{G:DH}(h1:nr x=true):view G x=x:=by cases x <;> first |rfl | (simp[nr]at h1)
theorem uX{n:Nat}{x:D}{G:DH}{k:D->DH->Prop}{E:EK}(h1:nr x=true)(h2:dpt x < n)(h3:cN x=true)(hk:k (.bl true) G):(dB n).t [x,x] G k E:=
 adu (Ot h1) (Ot h1) h1 h2 h3 hk
theorem nu (Φ:aa) (n:Nat) (h1:Φ "_law_same"=dB n) {l:List D} {G:DH} {g:Hld} {k:List D->DH->Prop} (hg:held g G) (hn:nrs l=true) (hd:aO l < n) (hs:dh l=true) (hl:l.length<=100000)
  (he:k (List.replicate (bF l l).length (.bl true)) G):
  CompG Φ (Ex.call "_law_same" (Exs.cons (Ex.var 0) (Exs.cons (Ex.var 1) Exs.nil))) (Tg.tp (Tgs.cons (Tg.nm 0) (Tgs.cons (Tg.nm 1) Tgs.nil))) Tx.yes (bF l l) g [none,none] G k:=by
 refine CompG.inv (P:=λi acc ρ G'=>(∃o1 o2,ρ=[o1,o2])/\G'=G/\acc=List.replicate i (.bl true)) ⟨⟨_,_,rfl⟩,rfl,rfl⟩ (λ_ _ _ _ p=>by rw[p.2.1];exact hg) (by rw[uM];have hsz:sz=1000000:=rfl;omega) ?_ ?_
 ·rintro i d acc ρ G' hd' ⟨⟨o1,o2,rfl⟩,rfl,rfl⟩ kk hk;obtain ⟨a,ha,rfl⟩:=adt l i d hd';simp_arith[h1];refine uX (Ol hn ha) (Nat.lt_of_le_of_lt (Oo ha) hd) (Om hs ha) (hk _ _ _ ⟨⟨_,_,rfl⟩,rfl,?_⟩);simp[List.replicate_succ']
 ·rintro acc ρ G' ⟨_,rfl,rfl⟩;exact he
theorem zN{G:DH}{x:D}{l:List D}(hv:view G x=.lst l):x=.lst l\/∃p,x=.ref p/\G p=some (.lst l):=by
 cases x with
 |lst l'=>cases hv;exact .inl rfl
 |ref p=>
  refine .inr ⟨p,rfl,?_⟩;unfold view at hv;cases g:G p with
  |none=>simp only[g]at hv;cases hv
  |some o=>cases o;simp only[g]at hv;cases hv;rfl
 |_=>cases hv
theorem adv (Φ:aa) (n:Nat) (h1:Φ "_law_same"=dB n) (ds:List D) (G:DH) (h:Oq (n+1) ds G):aq Φ eN noE (env0 ds 0) G (ends λd G'=>G'=G/\d=.bl true):=by
 obtain ⟨x,y,v,rfl,hx,hy,hn,hd,hs⟩:=h;cases v with
 |non=>cases El hx;cases El hy;simp_arith[eN]
 |bl b=>cases wU hx;cases wU hy;simp_arith[eN];simp
 |int i=>cases dz hx;cases dz hy;simp_arith[eN];simp
 |str l=>cases fu hx;cases fu hy;simp_arith[eN];simp
 |ref p=>simp[nr]at hn
 |scr p=>simp[nr]at hn
 |exn p=>simp[nr]at hn
 |obj _ _ _=>simp[nr]at hn
 |tup l=>
  cases fj hx;cases fj hy;rw[nr]at hn;rw[dpt]at hd;rw[cN,ae,bv]at hs;simp_arith[eN];simp_arith[fS,BEq.rfl];refine nu Φ n h1 (by first |trivial | (unfold held;simp)) hn (by omega) hs.2 hs.1 ?_;rw[m9,ni,nq];simp
 |lst l=>
  rw[nr]at hn;rw[dpt]at hd;rw[cN,ae,bv]at hs;rcases zN hx with rfl |⟨p,rfl,ex⟩
  ·rcases zN hy with rfl |⟨q,rfl,ey⟩
   ·simp_arith[eN];simp_arith[fS,BEq.rfl];refine nu Φ n h1 (by trivial) hn (by omega) hs.2 hs.1 ?_;rw[m9,ni,nq];simp
   ·simp_arith[eN,bG ey,gR ey];simp_arith[fS,BEq.rfl,bG ey,gR ey];refine nu Φ n h1 (by exact ⟨ey,trivial⟩) hn (by omega) hs.2 hs.1 ?_;rw[m9,ni,nq];simp
  ·rcases zN hy with rfl |⟨q,rfl,ey⟩
   ·simp_arith[eN,bG ex,gR ex];simp_arith[fS,BEq.rfl,bG ex,gR ex];refine nu Φ n h1 (by exact ⟨ex,trivial⟩) hn (by omega) hs.2 hs.1 ?_;rw[m9,ni,nq];simp
   ·simp_arith[eN,bG ex,gR ex,bG ey,gR ey];simp_arith[fS,BEq.rfl,bG ex,gR ex,bG ey,gR ey];refine nu Φ n h1 (by exact ⟨ex,ey,trivial⟩) hn (by omega) hs.2 hs.1 ?_;rw[m9,ni,nq];simp
theorem adw(ds:List D)(G:DH)(a:(dB 0).A):¬(dB 0).pre ds G a:=λ⟨_,_,_,_,_,_,_,_,h,_⟩=>by omega
def okF(w:Nat)(l:List Nat):Prop:=l.length=w/\∀c∈l,isF c
theorem okF.app{w v:Nat}{l m:List Nat}(h:okF w l)(h':okF v m):okF (w+v) (l++m):=⟨by rw[av,h.1,h'.1],λc hc=>(a7.mp hc).elim (h.2 c) (h'.2 c)⟩
theorem okF.one{c:Nat}(h:isF c):okF 1 [c]:=⟨rfl,λd hd=>by rw[ay.mp hd];exact h⟩
theorem bW{p:Addr}{m:Int}{G:DH}{k:D->DH->Prop}{E:EK}(hp:Pen G p)(h1:0 < m)(h2:m < 1152921504606846976)(hk:∀(r:Nat)(G':DH),(r:Int) < m->Pen G' p->Sb p G G'->k (.int r) G'):dU.t [.ref p,.int m] G k E:=by refine bK ⟨p,m,rfl,hp,h1,h2⟩ λd G' hx=>?_;obtain ⟨p2,m2,r,e1,e2,r0,r1,hp',sb⟩:=hx;cases e1;subst e2;obtain ⟨n,rfl⟩:=c6 r0;exact hk n G' r1 hp' sb
theorem adx{n:Nat}(h:(n:Int) < 2):∃c,atI [48,49] (n:Int)=some c/\isF c:=by
 have:n=0\/n=1:=by omega
 rcases this with rfl |rfl
 ·exact ⟨48,rfl,.inl rfl⟩
 ·exact ⟨49,rfl,.inr (.inl rfl)⟩
theorem ady{n:Nat}(h:(n:Int) < 3):∃c,atI [48,49,42] (n:Int)=some c/\isF c:=by
 have:n=0\/n=1\/n=2:=by omega
 rcases this with rfl |rfl |rfl
 ·exact ⟨48,rfl,.inl rfl⟩
 ·exact ⟨49,rfl,.inr (.inl rfl)⟩
 ·exact ⟨42,rfl,.inr (.inr rfl)⟩
def zO(ds:List D)(G:DH):Prop:=∃p l,ds=[.ref p,.str l]/\Pen G p/\(∀c∈l,isF c)/\l.length<=1000
def zP(ds:List D)(G:DH)(d:D)(G':DH):Prop:=∃p l m,ds=[.ref p,.str l]/\d=.str m/\okF l.length m/\Pen G' p/\Sb p G G'
def iY:RF.Spec:=bB zO zP
theorem Ou{p:Addr}{l:List Nat}{G:DH}{k:D->DH->Prop}{E:EK}(hp:Pen G p)(hl:∀c∈l,isF c)(h2:l.length<=1000)(hk:∀(m:List Nat)(G':DH),okF l.length m->Pen G' p->Sb p G G'->k (.str m) G'):iY.t [.ref p,.str l] G k E:=by refine bK ⟨p,l,rfl,hp,hl,h2⟩ λd G' hx=>?_;obtain ⟨p2,l2,m,e1,e2,h,hp',sb⟩:=hx;cases e1;subst e2;exact hk m G' h hp' sb
theorem adz (Φ:aa) (h1:Φ "_law_take"=dU) (ds:List D) (G:DH) (h:zO ds G):aq Φ zq noE (env0 ds 2) G (ends (zP ds G)):=by
 obtain ⟨p,l,rfl,hp,hl,hl2⟩:=h;simp_all_arith[zq];refine seq λM hM=>?_;simp_arith[ends];refine hM _ _ (seq λM hM=>?_);simp_arith![ends];refine ForG.inv (P:=λi ρ G'=>(∃o m,ρ=[some (.ref p),some (.str l),some (.str m),o]/\okF i m)/\Pen G' p/\Sb p G G') ⟨⟨_,_,rfl,rfl,by simp⟩,hp,Sb.refl _ _⟩ (λ_ _ _ _=>trivial) ?_ ?_
 ·rintro i d ρ G2 hd ⟨⟨o,m,rfl,hm⟩,hp2,sb2⟩ kk hk;rw[bp]at hd;obtain ⟨c,hc,rfl⟩:=aS.mp hd;have hi:i < l.length:=(ar.mp hc).1;have fc:=hl c (ce hc);have l1:=hm.1;simp_arith![ends];refine seq λM hM=>?_;have fin:∀(c:Nat)(G3:DH),isF c->Pen G3 p->Sb p G2 G3->M [some (.ref p),some (.str l),some (.str m),some (.str [c])] G3:=by
   intro c G3 fc hp3 sb3;refine hM _ _ (last ?_);simp_arith[ends];exact ⟨by have hsz:sz=1000000:=rfl;omega,hk _ _ ⟨⟨_,_,rfl,hm.app (okF.one fc)⟩,hp3,sb2.trans sb3⟩⟩
  simp_arith[h1];cases ht:([c]==[42]) with
  |false=>exact fin c G2 fc hp2 (Sb.refl _ _)
  |true=>
   refine bW hp2 (by decide) (by decide) λr G3 hr hp3 sb3=>?_;simp_arith[ends];cases hr0:((r:Int)==0) with
   |false=>exact fin c G3 fc hp3 sb3
   |true=>
    refine bW hp3 (by decide) (by decide) λr' G4 hr' hp4 sb4=>?_;obtain ⟨c',e,fc'⟩:=adx hr';simp_arith[e];exact fin c' G4 fc' hp4 (sb3.trans sb4)
 ·rintro ρ G2 ⟨⟨o,m,rfl,hm⟩,hp2,sb2⟩;refine hM _ _ ?_;simp_arith[ends];exact ⟨p,l,m,rfl,rfl,by simpa using hm,hp2,sb2⟩
theorem adA (Φ:aa) (h1:Φ "_law_take"=dU) (ds:List D) (G:DH) (h:zO ds G):aq Φ zp noE (env0 ds 2) G (ends (zP ds G)):=by
 obtain ⟨p,l,rfl,hp,hl,hl2⟩:=h;simp_all_arith[zp];refine seq λM hM=>?_;simp_arith[ends];refine hM _ _ (seq λM hM=>?_);simp_arith![ends];refine ForG.inv (P:=λi ρ G'=>(∃o m,ρ=[some (.ref p),some (.str l),some (.str m),o]/\okF i m)/\Pen G' p/\Sb p G G') ⟨⟨_,_,rfl,rfl,by simp⟩,hp,Sb.refl _ _⟩ (λ_ _ _ _=>trivial) ?_ ?_
 ·rintro i d ρ G2 hd ⟨⟨o,m,rfl,hm⟩,hp2,sb2⟩ kk hk;rw[bp]at hd;obtain ⟨c,hc,rfl⟩:=aS.mp hd;have hi:i < l.length:=(ar.mp hc).1;have fc:=hl c (ce hc);have l1:=hm.1;simp_arith![ends];refine seq λM hM=>?_;have fin:∀(c:Nat)(G3:DH),isF c->Pen G3 p->Sb p G2 G3->M [some (.ref p),some (.str l),some (.str m),some (.str [c])] G3:=by
   intro c G3 fc hp3 sb3;refine hM _ _ (last ?_);simp_arith[ends];exact ⟨by have hsz:sz=1000000:=rfl;omega,hk _ _ ⟨⟨_,_,rfl,hm.app (okF.one fc)⟩,hp3,sb2.trans sb3⟩⟩
  simp_arith[h1];refine bW hp2 (by decide) (by decide) λr G3 hr hp3 sb3=>?_;simp_arith[ends];cases hr0:((r:Int)==0) with
  |false=>exact fin c G3 fc hp3 sb3
  |true=>exact fin 42 G3 (.inr (.inr rfl)) hp3 sb3
 ·rintro ρ G2 ⟨⟨o,m,rfl,hm⟩,hp2,sb2⟩;refine hM _ _ ?_;simp_arith[ends];exact ⟨p,l,m,rfl,rfl,by simpa using hm,hp2,sb2⟩
theorem Ov{G G':DH}{p:Addr}{x:D}{fs:List (List Nat)}(hv:view G x=.lst (fs.map D.str))(hp:Pen G p)(sb:Sb p G G'):view G' x=.lst (fs.map D.str):=by
 cases x with
 |ref q=>
  unfold view at hv;dsimp only at hv;cases g:G q with
  |none=>rw[g]at hv;cases hv
  |some o=>
   cases o with
   |lst ds=>
    rw[g]at hv;have e:ds=fs.map D.str:=by simpa using hv
    have hn:q≠p:=by
     rintro rfl;obtain ⟨ns,k,st,e1,_⟩:=hp;rw[g,e]at e1;cases fs with
     |nil=>simp at e1
     |cons a r=>simp at e1
    rw[bG (sb q _ g hn),e]
 |lst l=>exact hv
 |_=>cases hv
def Ow(ds:List D)(G:DH):Prop:=∃p,∃w:Nat,∃x,∃fs:List (List Nat),ds=[.ref p,.int w,x]/\Pen G p/\0 < w/\w<=1000/\view G x=.lst (fs.map D.str)/\fs.length<=1000/\∀f∈fs,okF w f
def zQ(ds:List D)(G:DH)(d:D)(G':DH):Prop:=∃p,∃w:Nat,∃x m,ds=[.ref p,.int w,x]/\d=.str m/\okF w m/\Pen G' p/\Sb p G G'
def nA:RF.Spec:=bB Ow zQ
theorem Oz{p:Addr}{w:Nat}{x:D}{fs:List (List Nat)}{G:DH}{k:D->DH->Prop}{E:EK}(hp:Pen G p)(h1:0 < w)(h2:w<=1000)(hv:view G x=.lst (fs.map D.str))(h3:fs.length<=1000)(h4:∀f∈fs,okF w f)
  (hk:∀(m:List Nat)(G':DH),okF w m->Pen G' p->Sb p G G'->k (.str m) G'):nA.t [.ref p,.int w,x] G k E:=by
 refine bK ⟨p,w,x,fs,rfl,hp,h1,h2,hv,h3,h4⟩ λd G' hx=>?_;obtain ⟨p2,w2,x2,m,e1,e2,h,hp',sb⟩:=hx;simp only[c9,D.ref.injEq,D.int.injEq,Int.ofNat_inj,fv]at e1;obtain ⟨rfl,rfl,rfl⟩:=e1;subst e2;exact hk m G' h hp' sb
theorem OD(fs:List (List Nat)):nrs (fs.map D.str)=true:=by
 induction fs with
 |nil=>rfl
 |cons a l ih=>rw[bq,nrs,ih];rfl
theorem adB(fs:List (List Nat)):aO (fs.map D.str)=0:=by
 induction fs with
 |nil=>rfl
 |cons a l ih=>rw[bq,aO,ih];rfl
theorem adC{w n:Nat}{l:List Nat}{c:Nat}(h:okF w l)(hn:n < w)(fc:isF c):okF w (cut l none (some (n:Int))++[c]++cut l (some ((n:Int)+1)) none):=by
 have h1:=h.1;rw[uR,Iw];refine ⟨?_,λd hd=>?_⟩
 ·simp;omega
 ·rcases a7.mp hd with hd |hd
  ·rcases a7.mp hd with hd |hd
   ·exact h.2 d (List.mem_of_mem_take hd)
   ·rw[ay.mp hd];exact fc
  ·exact h.2 d (List.mem_of_mem_drop hd)
theorem adD (Φ:aa) (h1:Φ "_law_take"=dU) (h2:Φ "_law_form"=zL) (h3:Φ "_law_within"=iY) (h4:Φ "_law_wider"=iY) (ds:List D) (G:DH) (h:Ow ds G):aq Φ zr noE (env0 ds 3) G (ends (zQ ds G)):=by
 obtain ⟨p,w,x,fs,rfl,hp,w1,w2,hv,hf,hfs⟩:=h;simp_all_arith[zr];refine seq λM hM=>?_;simp_arith[h1];refine bW hp (by decide) (by decide) λkd G2 hkd hp2 sb2=>?_;have hv2:=Ov hv hp sb2;refine hM _ _ (seq λM hM=>?_);have drawn:∀(ρ:ak) (G3:DH),Pen G3 p->Sb p G G3->aq Φ (.cons (.ret (.call "_law_form" (.cons (.var 0) (.cons (.var 1) .nil)))) .nil) noE (some (.ref p)::some (.int w)::ρ) G3 { nx:=M,rt:=zQ [.ref p,.int w,x] G,bk:=λ_ _=>False,ct:=λ_ _=>False }:=by intro ρ G3 hp3 sb3;simp_arith[h2];refine bK ⟨p,w,rfl,hp3,w2⟩ λd G4 hx=>?_;obtain ⟨p4,n4,l,e1,e2,l1,l2,hp4,sb4⟩:=hx;simp only[c9,D.ref.injEq,D.int.injEq,Int.ofNat_inj,fv]at e1;obtain ⟨rfl,rfl⟩:=e1;exact ⟨p,w,x,l,rfl,e2,⟨l1,l2⟩,hp4,sb3.trans sb4⟩
 simp_arith![hv2,lO,adB,OD];refine ⟨by decide,?_⟩;cases he:(fs.map D.str).isEmpty with
 |true=>exact drawn _ _ hp2 sb2
 |false=>
  have hlen:0 < fs.length:=by
   cases fs with
   |nil=>simp at he
   |cons a r=>simp
  simp_arith![ends];cases hk2:decide ((kd:Int) < 2) with
  |true=>exact drawn _ _ hp2 sb2
  |false=>
   simp_arith[ends];refine hM _ _ (seq λM hM=>?_);simp_arith[h1,hv2,ag];refine bW hp2 (by omega) (by omega) λr G3 hr hp3 sb3=>?_;have hv3:=Ov hv2 hp2 sb3;simp_arith[hv3];have hr':r < fs.length:=by omega
   refine bL (a:=.str fs[r]) (bY (by simp[hr'])) ?_;have fok:=hfs fs[r] (dn _);generalize fs[r]=f at fok;refine hM _ _ (seq λM hM=>?_);have sb':=sb2.trans sb3;simp_arith[ends];cases hk3:((kd:Int)==2) with
   |true=>exact ⟨p,w,x,f,rfl,rfl,fok,hp3,sb'⟩
   |false=>
    refine hM _ _ (seq λM hM=>?_);simp_arith![ends];cases hk5:decide ((kd:Int) < 5) with
    |true=>
     simp_arith[h1];refine bW hp3 (by omega) (by omega) λat' G4 hat hp4 sb4=>?_;refine bW hp4 (by decide) (by decide) λs G5 hs hp5 sb5=>?_;obtain ⟨c,e,fc⟩:=ady hs;have c1:=Iu f none (some (at':Int));have c2:=Iu f (some ((at':Int)+1)) none;have f1:=fok.1;simp_arith[e,av];exact ⟨by have hsz:sz=1000000:=rfl;omega,by have hsz:sz=1000000:=rfl;omega,p,w,x,_,rfl,rfl,adC fok (by omega) fc,hp5,sb'.trans (sb4.trans sb5)⟩
    |false=>
     simp_arith[ends];refine hM _ _ (seq λM hM=>?_);have f1:=fok.1;simp_arith[h3];cases hk6:((kd:Int)==5) with
     |true=>
      refine Ou hp3 fok.2 (by omega) λm G4 hm hp4 sb4=>?_;rw[f1]at hm;exact ⟨p,w,x,m,rfl,rfl,hm,hp4,sb'.trans sb4⟩
     |false=>
      refine hM _ _ ?_;simp_arith[h4];refine Ou hp3 fok.2 (by omega) λm G4 hm hp4 sb4=>?_;rw[f1]at hm;exact ⟨p,w,x,m,rfl,rfl,hm,hp4,sb'.trans sb4⟩
def okD(l:List Nat):Prop:=1<=l.length/\l.length<=8/\∀c∈l,97<=c/\c<=122
theorem OJ{p:Addr}{n:Nat}{cs:List Nat}{G:DH}{k:D->DH->Prop}{E:EK}(hp:Pen G p)(hn:n<=1000)(h1:cs≠[])(h2:cs.length<=1000)(hk:∀(l:List Nat)(G':DH),l.length=n->(∀c∈l,c∈cs)->Pen G' p->Sb p G G'->k (.str l) G'):jW.t [.ref p,.int n,.str cs] G k E:=by refine bK ⟨p,n,cs,rfl,hp,hn,h1,h2⟩ λd G' hx=>?_;obtain ⟨p2,n2,cs2,l,e1,e2,l1,l2,hp',sb⟩:=hx;simp only[c9,D.ref.injEq,D.int.injEq,D.str.injEq,Int.ofNat_inj,fv]at e1;obtain ⟨rfl,rfl,rfl⟩:=e1;subst e2;exact hk l G' l1 l2 hp' sb
def O1(ds:List D)(G:DH):Prop:=∃p,∃m:Int,ds=[.ref p,.int m]/\Pen G p/\0 < m/\m<=100
def O2(ds:List D)(G:DH)(d:D)(G':DH):Prop:=∃p,∃m:Int,∃xs:List (List Nat),ds=[.ref p,.int m]/\d=.lst (xs.map D.str)/\0 < xs.length/\xs.length<=100/\(∀x∈xs,okD x)/\Pen G' p/\Sb p G G'
def nF:RF.Spec:=bB O1 O2
noncomputable def zR:List (List Nat):=[[97],[103,111],[115,116,97,121],[97,98,99,100,101,102,103,104],[110,111,110,101],[121,101,115],[105,110],[111,117,116],[107,101,101,112],[119,111,114,100],[122,122]]
theorem adE:∀x∈zR,okD x:=by
 have h:∀x∈zR,1<=x.length/\x.length<=8/\∀c∈x,97<=c/\c<=122:=by decide
 exact h
theorem O3{c:Nat}(h:c∈[97,98,99,100,101,102,103,104,105,106,107,108,109,110,111,112,113,114,115,116,117,118,119,120,121,122]):97<=c/\c<=122:=by
 have:∀c∈[97,98,99,100,101,102,103,104,105,106,107,108,109,110,111,112,113,114,115,116,117,118,119,120,121,122],97<=c/\c<=122:=by decide
 exact this c h
theorem adF (Φ:aa) (h1:Φ "_law_take"=dU) (h2:Φ "_law_signs"=jW) (ds:List D) (G:DH) (h:O1 ds G):aq Φ zj noE (env0 ds 4) G (ends (O2 ds G)):=by
 obtain ⟨p,m,rfl,hp,m1,m2⟩:=h;simp_all_arith[zj];refine seq λM hM=>?_;simp_arith[ends];refine ⟨by decide,hM _ _ ?_⟩;refine (λtail=>tail zR rfl adE) (?_:∀xs:List (List Nat),xs.length=11->(∀x∈xs,okD x)->aq Φ _ noE [some (.ref p),some (.int m),some (.lst (xs.map D.str)),none,none,none] G _);intro xs x1 x2;refine seq λM hM=>?_;simp_arith[h1];refine bW hp (by decide) (by decide) λt G2 ht hp2 sb2=>?_;refine hM _ _ (seq λM hM=>?_);simp_arith[h1];refine bW hp2 (by omega) (by omega) λr G3 hr hp3 sb3=>?_;simp_arith[ends];refine ⟨by omega,?_⟩;refine CompG.inv (P:=λi acc ρ G'=>(∃o,ρ=[o,some (.lst (xs.map D.str)),some (.int t)])/\G'=G3/\∃ys:List (List Nat),acc=ys.map D.str/\ys.length=i/\∀y∈ys,okD y) ⟨⟨_,rfl⟩,rfl,[],rfl,rfl,by simp⟩ (λ_ _ _ _ _=>trivial) (by simp[bc];have hsz:sz=1000000:=rfl;omega) ?_ ?_
 ·rintro i d acc ρ G' hd ⟨⟨o,rfl⟩,rfl,ys,rfl,y1,y2⟩ kk hk;unfold bc at hd;rw[bp]at hd;obtain ⟨j,hj,rfl⟩:=aS.mp hd;simp_arith[ends];have q0:0<=((t:Int)+3 * (0+(j:Int))) % 11:=ff _ (by decide);have q1:((t:Int)+3 * (0+(j:Int))) % 11 < 11:=e8 _ (by decide);refine ⟨zK (by decide),by decide,yV q0 (by rw[ag,x1];exact q1) λa ha=>?_⟩;obtain ⟨x,hx,rfl⟩:=ba.mp ha;refine hk _ _ _ ⟨⟨_,rfl⟩,rfl,ys++[x],by simp,by simp[y1],λy hy=>?_⟩;rcases a7.mp hy with h |h
  ·exact y2 y h
  ·rw[ay.mp h];exact x2 x hx
 ·rintro acc ρ G' ⟨_,rfl,ys,rfl,y1,y2⟩;have hy:ys.length=r+1:=by rw[y1];simp[bc];omega
  refine hM _ _ (seq λM hM=>?_);simp_arith[h1];refine bW hp3 (by decide) (by decide) λq G4 hq hp4 sb4=>?_;have sb':=sb2.trans (sb3.trans sb4);simp_arith[ends];cases hq0:((q:Int)==0) with
  |false=>
   refine hM _ _ ?_;simp_arith[ends];exact ⟨p,m,ys,rfl,rfl,by omega,by omega,y2,hp4,sb'⟩
  |true=>
   simp_arith[ends];refine CompG.inv (P:=λi acc ρ G'=>(∃o,ρ=[o,some (.ref p),some (.str [97,98,99,100,101,102,103,104,105,106,107,108,109,110,111,112,113,114,115,116,117,118,119,120,121,122])])/\Pen G' p/\Sb p G G'/\∃zs:List (List Nat),acc=zs.map D.str/\zs.length=i/\∀z∈zs,okD z) ⟨⟨_,rfl⟩,hp4,sb',[],rfl,rfl,by simp⟩ (λ_ _ _ _ _=>trivial) (by simp;have hsz:sz=1000000:=rfl;omega) ?_ ?_
   ·rintro i d acc ρ G' hd ⟨⟨o,rfl⟩,hp5,sb5,zs,rfl,z1,z2⟩ kk hk;simp_arith[h1,h2];refine bW hp5 (by decide) (by decide) λn G6 hn hp6 sb6=>?_;simp_arith[ends];rw[show (1:Int)+(n:Int)=((n+1:Nat):Int) by omega];refine OJ hp6 (by omega) (by simp) (by simp) λl G7 l1 l2 hp7 sb7=>?_;refine hk _ _ _ ⟨⟨_,rfl⟩,hp7,sb5.trans (sb6.trans sb7),zs++[l],by simp,by simp[z1],λz hz=>?_⟩;rcases a7.mp hz with h |h
    ·exact z2 z h
    ·rw[ay.mp h];exact ⟨by omega,by omega,λc hc=>O3 (l2 c hc)⟩
   ·rintro acc ρ G' ⟨_,hp5,sb5,zs,rfl,z1,z2⟩;rw[ag]at z1;refine hM _ _ ?_;simp_arith[ends];exact ⟨p,m,zs,rfl,rfl,by omega,by omega,z2,hp5,sb5⟩
abbrev Row:=List Nat×List Nat
def aB(r:Row):D:=.tup [.str r.1,.str r.2]
def az(w:Nat)(rs:List Row):D:=.tup [.int w,.tup (rs.map aB)]
structure okB(w:Nat)(rs:List Row):Prop where
 w1:1<=w
 w6:w<=6
 len:rs.length<=12
 form:∀r∈rs,okF w r.1
 deed:∀r∈rs,okD r.2
def O4(ds:List D)(G:DH):Prop:=∃p,∃w m:Nat,ds=[.ref p,.int w,.int m]/\Pen G p/\1<=w/\w<=6/\m<=12
def O5(ds:List D)(G:DH)(d:D)(G':DH):Prop:=∃p,∃w m v:Nat,∃rs:List Row,ds=[.ref p,.int w,.int m]/\d=az v rs/\okB v rs/\v<=w/\rs.length<=m/\Pen G' p/\Sb p G G'
def uY:RF.Spec:=bB O4 O5
theorem adG{p:Addr}{w m:Nat}{G:DH}{k:D->DH->Prop}{E:EK}(hp:Pen G p)(h1:1<=w)(h2:w<=6)(h3:m<=12)(hk:∀(v:Nat)(rs:List Row)(G':DH),okB v rs->v<=w->rs.length<=m->Pen G' p->Sb p G G'->k (az v rs) G'):uY.t [.ref p,.int w,.int m] G k E:=by refine bK ⟨p,w,m,rfl,hp,h1,h2,h3⟩ λd G' hx=>?_;obtain ⟨p2,w2,m2,v,rs,e1,e2,o,q1,q2,hp',sb⟩:=hx;simp only[c9,D.ref.injEq,D.int.injEq,Int.ofNat_inj,fv]at e1;obtain ⟨rfl,rfl,rfl⟩:=e1;subst e2;exact hk v rs G' o q1 q2 hp' sb
theorem O6{p:Addr}{m:Int}{G:DH}{k:D->DH->Prop}{E:EK}(hp:Pen G p)(h1:0 < m)(h2:m<=100)(hk:∀(xs:List (List Nat))(G':DH),0 < xs.length->xs.length<=100->(∀x∈xs,okD x)->Pen G' p->Sb p G G'->k (.lst (xs.map D.str)) G'):nF.t [.ref p,.int m] G k E:=by refine bK ⟨p,m,rfl,hp,h1,h2⟩ λd G' hx=>?_;obtain ⟨p2,m2,xs,e1,e2,q1,q2,q3,hp',sb⟩:=hx;cases e1;subst e2;exact hk xs G' q1 q2 q3 hp' sb
theorem kW{α:Type}{l:List α}{a:α}:atI (l++[a]) (-1)=some a:=by unfold atI ixN;rw[if_neg (by decide),if_pos (by simp;omega),av,b6,show (-1+((l.length+1:Nat):Int)).toNat=l.length by omega];simp
theorem adH (Φ:aa) (h1:Φ "_law_take"=dU) (h2:Φ "_law_deeds_of"=nF) (h3:Φ "_law_form_like"=nA) (ds:List D) (G:DH) (h:O4 ds G):aq Φ zu noE (env0 ds 5) G (ends (O5 ds G)):=by
 obtain ⟨p,w,m,rfl,hp,w1,w2,m1⟩:=h;simp_all_arith[zu];refine seq λM hM=>?_;simp_arith[h1];refine bW hp (by omega) (by omega) λn G2 hn hp2 sb2=>?_;simp_arith[ends];rw[show (1:Int)+(n:Int)=((n+1:Nat):Int) by omega];refine hM _ _ (seq λM hM=>?_);simp_arith[h2];refine O6 hp2 (by decide) (by decide) λxs G3 x1 x2 x3 hp3 sb3=>?_;refine hM _ _ (seq λM hM=>?_);simp_arith[ends];refine λq hq=>hM _ _ (seq λM hM=>?_);simp_arith[ends];refine λs hs=>hM _ _ (seq λM hM=>?_);have hqs:q≠s:=by rintro rfl;rw[aW]at hs;cases hs
 have hs3:G3 s=none:=by rw[bO (Ne.symm hqs)]at hs;exact hs
 have npq:p≠q:=hp3.ne hq;have nps:p≠s:=hp3.ne hs3;have sa4:Sa G3 (aD (aD G3 q (.lst [])) s (.lst [])):=(Sa.new hq).trans (Sa.new hs);have hp4:=hp3.sa sa4;simp_arith![h1];refine bW hp4 (by omega) (by omega) λr G5 hr hp5 sb5=>?_;simp_arith![ends];refine ⟨by omega,?_⟩;refine ForG.inv (P:=λi ρ G'=>(∃o,ρ=[some (.ref p),some (.int w),some (.int m),some (.int ((n+1:Nat):Int)),some (.lst (xs.map D.str)),some (.ref q),some (.ref s),o])/\Pen G' p/\Sb p G G'/\
   ∃rs:List Row,G' q=some (.lst ((rs.map (·.1)).map D.str))/\G' s=some (.lst (rs.map aB))/\rs.length=i/\(∀r∈rs,okF (n+1) r.1)/\∀r∈rs,okD r.2) ⟨⟨_,rfl⟩,hp5,sb2.trans (sb3.trans (sa4.sb.trans sb5)),[],?_,?_,rfl,by simp,by simp⟩ (λ_ _ _ _=>trivial) ?_ ?_
 ·exact sb5 q _ (by rw[bO hqs];exact aW) (Ne.symm npq)
 ·exact sb5 s _ aW (Ne.symm nps)
 ·rintro i d ρ G' hd ⟨⟨o,rfl⟩,hp6,sb6,rs,g1,g2,r1,r2,r3⟩ kk hk;have hi:i < r:=by
   have:=(ar.mp hd).1;simpa [bc] using this
  simp_arith![ends];refine seq λM hM=>?_;simp_arith[h3,dg g1];refine Oz (fs:=rs.map (·.1)) hp6 (by omega) (by omega) (bG g1) (by simp;omega) (λf hf=>?_) λf G7 hf hp7 sb7=>?_
  ·obtain ⟨r',hr',rfl⟩:=ba.mp hf;exact r2 r' hr'
  have g1':=sb7 q _ g1 (Ne.symm npq);have g2':=sb7 s _ g2 (Ne.symm nps);simp_arith[dg g1'];refine ⟨by simp;have hsz:sz=1000000:=rfl;omega,hM _ _ (last ?_)⟩;have e2:aD G7 q (.lst ((rs.map (·.1)).map D.str++[.str f])) s=some (.lst (rs.map aB)):=by rw[bO (Ne.symm hqs)];exact g2'
  have hp8:Pen (aD G7 q (.lst ((rs.map (·.1)).map D.str++[.str f]))) p:=hp7.sb Sb.upd npq;simp_arith[h1,dg e2,bG aW,kW,ag];refine bW hp8 (by omega) (by omega) λt G9 ht hp9 sb9=>?_;have e1':=sb9 q _ aW (Ne.symm npq);have e2':=sb9 s _ e2 (Ne.symm nps);simp_arith[dg e2'];refine yV (by omega) (by simp;omega) λx hx=>?_;obtain ⟨dd,hdd,rfl⟩:=ba.mp hx;refine ⟨by decide,by simp;have hsz:sz=1000000:=rfl;omega,hk _ _ ⟨⟨_,rfl⟩,hp9.sb Sb.upd nps,?_,rs++[(f,dd)],?_,?_,by simp[r1],?_,?_⟩⟩
  ·intro b ob hb nb;by_cases hbs:b=s
   ·subst hbs;exfalso;have z:=sb2 b _ hb nb;have z:=sb3 b _ z nb;rw[hs3]at z;cases z
   ·by_cases hbq:b=q
    ·subst hbq;exfalso;have z:=sb2 b _ hb nb;have z:=sb3 b _ z nb;rw[hq]at z;cases z
    ·rw[bO hbs];exact sb9 b _ (by rw[bO hbq];exact sb7 b _ (sb6 b _ hb nb) nb) nb
  ·rw[bO hqs,e1'];simp
  ·rw[aW];simp[aB]
  ·intro r' hr';rcases a7.mp hr' with h |h
   ·exact r2 r' h
   ·rw[ay.mp h];exact hf
  ·intro r' hr';rcases a7.mp hr' with h |h
   ·exact r3 r' h
   ·rw[ay.mp h];exact x3 dd hdd
 ·rintro ρ G' ⟨⟨o,rfl⟩,hp6,sb6,rs,g1,g2,r1,r2,r3⟩;have hl:rs.length=r:=by rw[r1];simp[bc]
  refine hM _ _ ?_;simp_arith[bG g2];exact ⟨by decide,p,w,m,n+1,rs,rfl,rfl,⟨by omega,by omega,by omega,r2,r3⟩,by omega,by omega,hp6,sb6⟩
def alt(c:Nat):List Nat:=if c=42 then [48,49] else [c]
def step1(acc:List (List Nat))(c:Nat):List (List Nat):=acc.flatMap λt=>(alt c).map λs=>t++[s]
def fL(f:List Nat):List (List Nat):=f.foldl step1 [[]]
def Fits(f w:List Nat):Prop:=f.length=w.length/\∀(i c s:Nat),f[i]?=some c->w[i]?=some s->s∈alt c
theorem O7(f:List Nat)(c:Nat):fL (f++[c])=step1 (fL f) c:=by unfold fL;rw[List.foldl_append];rfl
theorem adI{acc:List (List Nat)}{c:Nat}{w:List Nat}:w∈step1 acc c↔∃t s,t∈acc/\s∈alt c/\w=t++[s]:=by
 unfold step1;rw[List.mem_flatMap];constructor
 ·rintro ⟨t,ht,h⟩;obtain ⟨s,hs,rfl⟩:=ba.mp h;exact ⟨t,s,ht,hs,rfl⟩
 ·rintro ⟨t,s,ht,hs,rfl⟩;exact ⟨t,ht,ba.mpr ⟨s,hs,rfl⟩⟩
theorem zT{f w:List Nat}{c s:Nat}:Fits (f++[c]) (w++[s])↔Fits f w/\s∈alt c:=by
 constructor
 ·rintro ⟨h1,h2⟩;have hl:f.length=w.length:=by simpa using h1
  refine ⟨⟨hl,λi c' s' hc hs=>?_⟩,?_⟩
  ·have i1:=(ar.mp hc).1;exact h2 i c' s' (by rw[eI i1];exact hc) (by rw[eI (by omega)];exact hs)
  ·exact h2 f.length c s (by simp) (by rw[hl];simp)
 ·rintro ⟨⟨h1,h2⟩,h3⟩;refine ⟨by simp[h1],λi c' s' hc hs=>?_⟩;by_cases hi:i < f.length
  ·rw[eI hi]at hc;rw[eI (by omega)]at hs;exact h2 i c' s' hc hs
  ·have i2:=(ar.mp hc).1;simp at i2;have e:i=f.length:=by omega
   subst e;simp at hc;rw[h1]at hs;simp at hs;subst hc hs;exact h3
theorem iZ{f w:List Nat}:w∈fL f↔Fits f w:=by
 induction f using ac6 generalizing w with
 |nil=>
  simp[fL,Fits];constructor
  ·rintro rfl;simp
  ·intro h;exact df.mp h.symm
 |snoc f c ih=>
  rw[O7,adI];constructor
  ·rintro ⟨t,s,ht,hs,rfl⟩;exact zT.mpr ⟨ih.mp ht,hs⟩
  ·intro h;have hl:=h.1;simp at hl;have hne:w≠[]:=by rintro rfl;simp at hl
   refine ⟨w.dropLast,w.getLast hne,?_,?_,(eh hne).symm⟩
   ·rw[<-eh hne]at h;exact ih.mpr (zT.mp h).1
   ·rw[<-eh hne]at h;exact (zT.mp h).2
noncomputable def letters:List Nat:=[97,98,99,100,101,102,103,104,105,106,107,108,109,110,111,112,113,114,115,116,117,118,119,120,121,122]
theorem adJ:∀c:Fin 123,97<=c.1->letters.contains c.1=true:=by decide
theorem adK{c:Nat}:letters.contains c=true↔97<=c/\c<=122:=
 ⟨λh=>O3 (aT.mp h),λ⟨h1,h2⟩=>adJ ⟨c,Nat.lt_succ_of_le h2⟩ h1⟩
def okW(w:Nat)(l:List Nat):Prop:=l.length=w/\∀c∈l,c=48\/c=49
theorem zU{α:Type}(l:List α):bools (l.map λ_=>D.bl true)=some (l.map λ_=>true):=yS _ l
theorem zV{α:Type}(l:List α):(l.map λ_=>true).all id=true:=ci.mpr λx hx=>by obtain ⟨_,_,rfl⟩:=ba.mp hx;rfl
def uZ:RF.Spec:=bU (λa:List Nat×List Nat=>[.str a.1,.int a.2.length,.str a.2]) (λa=>a.2.length<=1000/\∀c∈a.2,a.1.contains c=true) (λ_=>.bl true)
theorem adL(Φ:aa)(a:List Nat×List Nat)(G:DH)(h:a.2.length<=1000/\∀c∈a.2,a.1.contains c=true):aq Φ lU noE (env0 [.str a.1,.int a.2.length,.str a.2] 0) G (ends λd G'=>G'=G/\d=.bl true):=by
 obtain ⟨s,l⟩:=a;obtain ⟨h1,h2⟩:=h;dsimp only at h1 h2;simp_arith[lU,BEq.rfl];refine CompG.map (f:=λ_=>.bl true) (I:=λρ=>∃o,ρ=[o,some (.str s)]) ⟨_,rfl⟩ trivial (by simp;have hsz:sz=1000000:=rfl;omega) ?_ ?_
 ·rintro d ρ hd ⟨o,rfl⟩ kk hk;obtain ⟨c,hc,rfl⟩:=ba.mp hd;simp_arith[h2 c hc];exact hk _ ⟨_,rfl⟩
 ·simp_arith[zU,zV]
def u5:RF.Spec:=bU (λl:List Nat=>[.int l.length,.str l]) (λl=>l.length<=1000/\∀c∈l,c=48\/c=49) (λ_=>.bl true)
theorem adM (Φ:aa) (h1:Φ "is_text_of"=uZ) (l:List Nat) (G:DH) (h:l.length<=1000/\∀c∈l,c=48\/c=49):aq Φ mU noE (env0 [.int l.length,.str l] 0) G (ends λd G'=>G'=G/\d=.bl true):=by simp_arith[mU,h1];exact bV ([48,49],l) rfl ⟨h.1,λc hc=>by rcases h.2 c hc with rfl |rfl <;> rfl⟩ ⟨rfl,rfl⟩
theorem adN{w:Nat}{l:List Nat}{G:DH}{k:D->DH->Prop}{E:EK}(h:okW w l)(hw:w<=1000)(hk:k (.bl true) G):u5.t [.int w,.str l] G k E:=
 bV l (by rw[h.1]) ⟨by rw[h.1];exact hw,h.2⟩ hk
def u6:RF.Spec:=bU (λl:List Nat=>[.int l.length,.str l]) (λl=>l.length<=1000/\∀c∈l,isF c) (λ_=>.bl true)
theorem adO (Φ:aa) (h1:Φ "is_text_of"=uZ) (l:List Nat) (G:DH) (h:l.length<=1000/\∀c∈l,isF c):aq Φ lV noE (env0 [.int l.length,.str l] 0) G (ends λd G'=>G'=G/\d=.bl true):=by simp_arith[lV,h1];exact bV ([48,49,42],l) rfl ⟨h.1,λc hc=>by rcases h.2 c hc with rfl |rfl |rfl <;> rfl⟩ ⟨rfl,rfl⟩
def u9:RF.Spec:=bU (λl:List Nat=>[.str l]) okD (λ_=>.bl true)
theorem adP(Φ:aa)(l:List Nat)(G:DH)(h:okD l):aq Φ lQ noE (env0 [.str l] 0) G (ends λd G'=>G'=G/\d=.bl true):=by
 obtain ⟨h1,h2,h3⟩:=h;have b1:decide ((1:Int)<=(l.length:Int))=true:=b9 (by omega);have b2:decide ((l.length:Int)<=8)=true:=b9 (by omega);simp_arith[lQ,b1,b2];refine CompG.map (f:=λ_=>.bl true) (I:=λρ=>∃o,ρ=[o]) ⟨_,rfl⟩ trivial (by simp;have hsz:sz=1000000:=rfl;omega) ?_ ?_
 ·rintro d ρ hd ⟨o,rfl⟩ kk hk;obtain ⟨c,hc,rfl⟩:=ba.mp hd;have hcl:[97,98,99,100,101,102,103,104,105,106,107,108,109,110,111,112,113,114,115,116,117,118,119,120,121,122].contains c=true:=adK.mpr (h3 c hc);simp_arith[hcl];exact hk _ ⟨_,rfl⟩
 ·simp_arith[zU,zV]
def zW:RF.Spec:=bU (λa:Nat×Row=>[.int a.1,aB a.2]) (λa=>a.1<=6/\okF a.1 a.2.1/\okD a.2.2) (λ_=>.bl true)
theorem adQ (Φ:aa) (h1:Φ "is_form"=u6) (h2:Φ "is_deed"=u9) (a:Nat×Row) (G:DH) (h:a.1<=6/\okF a.1 a.2.1/\okD a.2.2):aq Φ lW noE (env0 [.int a.1,aB a.2] 0) G (ends λd G'=>G'=G/\d=.bl true):=by obtain ⟨w,f,d⟩:=a;obtain ⟨hw,hf,hd⟩:=h;dsimp only at hw hf hd;simp_arith[lW,aB,h1,h2];simp_arith[show ((0+1+1:Nat):Int)=2 from rfl,BEq.rfl];refine bV f (by rw[hf.1]) ⟨by rw[hf.1];omega,hf.2⟩ ?_;simp_arith[ends];exact bV d rfl hd ⟨rfl,rfl⟩
def zX:RF.Spec:=bU (λw:Nat=>[.int w]) (λw=>1<=w/\w<=6) (λ_=>.bl true)
theorem adR (Φ:aa) (h1:Φ "is_whole"=aP iW) (w:Nat) (G:DH) (h:1<=w/\w<=6):aq Φ lY noE (env0 [.int w] 0) G (ends λd G'=>G'=G/\d=.bl true):=by have b1:decide ((1:Int)<=(w:Int))=true:=b9 (by omega);have b2:decide ((w:Int)<=6)=true:=b9 (by omega);simp_arith[lY,h1];refine dO (d:=.bl true) rfl ?_;simp_arith[b1,b2]
def zY:RF.Spec:=bU (λa:Nat×List Row=>[az a.1 a.2]) (λa=>okB a.1 a.2) (λ_=>.bl true)
theorem adS (Φ:aa) (h1:Φ "is_width"=zX) (h2:Φ "is_row"=zW) (a:Nat×List Row) (G:DH) (h:okB a.1 a.2):aq Φ lZ noE (env0 [az a.1 a.2] 2) G (ends λd G'=>G'=G/\d=.bl true):=by
 obtain ⟨w,rs⟩:=a;dsimp only at h ⊢;have hlen:=h.len;simp_all_arith[lZ,az];refine seq λM hM=>?_;simp_arith[ends];simp_arith[show ((0+1+1:Nat):Int)=2 from rfl,BEq.rfl];refine hM _ _ (seq λM hM=>?_);simp_arith[ends];refine hM _ _ (seq λM hM=>?_);simp_arith[h1];refine bV w rfl ⟨h.w1,h.w6⟩ ?_;have hd:decide ((12:Int) < ((rs.map aB).length:Int))=false:=cq (by rw[ag];omega);simp_arith[hd];refine hM _ _ ?_;simp_arith[ends];refine CompG.map (f:=λ_=>.bl true) (I:=λρ=>∃o,ρ=[o,some (.int w)]) ⟨_,rfl⟩ trivial (by rw[ag];have hsz:sz=1000000:=rfl;omega) ?_ ?_
 ·rintro d ρ hd ⟨o,rfl⟩ kk hk;obtain ⟨r,hr,rfl⟩:=ba.mp hd;simp_arith[h2];exact bV (w,r) rfl ⟨h.w6,h.form r hr,h.deed r hr⟩ (hk _ ⟨_,rfl⟩)
 ·simp_arith[zU,zV]
def gW:RF.Spec:=bU (λa:Nat×List Row=>[az a.1 a.2]) (λa=>okB a.1 a.2) (λ_=>.non)
theorem jX{w:Nat}{rs:List Row}{G:DH}{k:D->DH->Prop}{E:EK}(h:okB w rs)(hk:k .non G):gW.t [az w rs] G k E:=bV (w,rs) rfl h hk
theorem adT (Φ:aa) (h1:Φ "is_book"=zY) (a:Nat×List Row) (G:DH) (h:okB a.1 a.2):aq Φ mj noE (env0 [az a.1 a.2] 0) G (ends λd G'=>G'=G/\d=.non):=by simp_arith[mj,h1];refine bV a rfl h ?_;simp_arith[ends]
def jY(c s:Nat):Bool:=c==42||c==s
def dC:List Nat->List Nat->Bool
 |c::f,s::w=>jY c s&&dC f w
 |_,_=>true
def dW(f w:List Nat):Bool:=decide (f.length=w.length)&&dC f w
noncomputable def nG:List D->Option D
 |[.str f,.str w]=>if decide (f.length<=100000) then some (.bl (dW f w)) else none
 |_=>none
theorem zZ:∀(f w:List Nat),bF (f.map λc=>D.str [c]) (w.map λc=>D.str [c])=(f.zip w).map λp=>D.tup [.str [p.1],.str [p.2]]
 |[],w=>by simp[bF]
 |c::f,[]=>by simp[bF]
 |c::f,s::w=>by simp[bF,zZ f w]
theorem O8:∀(f w:List Nat),((f.zip w).map λp=>jY p.1 p.2).all id=dC f w
 |[],w=>by simp[dC]
 |c::f,[]=>by simp[dC]
 |c::f,s::w=>by simp[dC,O8 f w]
theorem jb{c s:Nat}:(([c]==[s]):Bool)=(c==s):=by
 by_cases h:c=s
 ·subst h;simp
 ·rw[cy.mpr h,cy.mpr (by simp[h])]
theorem adU{a b:Nat}:((((a:Nat):Int)==((b:Nat):Int)):Bool)=decide (a=b):=by
 by_cases h:a=b
 ·subst h;simp
 ·rw[cq h,cy];omega
theorem adV(Φ:aa)(ds:List D)(G:DH)(d:D)(h:nG ds=some d):aq Φ mR noE (env0 ds 0) G (ends λd' G'=>G'=G/\d'=d):=by
 unfold nG at h;split at h
 ·rename_i f w;split at h
  ·rename_i hl;have hl:=c8 hl;cases h;simp_arith[mR,adU,dW];cases he:decide (f.length=w.length) with
   |false=>simp_arith[Bool.false_and]
   |true=>
    simp_arith[zZ,Bool.true_and];refine CompG.map (f:=λd=>match d with |.tup [.str [c],.str [s]]=>.bl (jY c s) |_=>.non) (I:=λρ=>∃o o',ρ=[o,o']) ⟨_,_,rfl⟩ trivial (by simp;have hsz:sz=1000000:=rfl;omega) ?_ ?_
    ·rintro d ρ hd ⟨o,o',rfl⟩ kk hk;obtain ⟨⟨c,s⟩,_,rfl⟩:=ba.mp hd;simp_arith[jb];have:=hk [some (.str [c]),some (.str [s])] ⟨_,_,rfl⟩;unfold jY at this;cases hc:(c==42) with
     |true=>simp_arith[hc]at this ⊢;exact this
     |false=>simp_arith[hc]at this ⊢;exact this
    ·rw[eL];simp_arith[Function.comp_def,yS,O8,and_self]
  ·cases h
 ·cases h
theorem z6{c s:Nat}(hs:s=48\/s=49):jY c s=true↔s∈alt c:=by
 unfold jY alt;by_cases h:c=42
 ·subst h;simp;rcases hs with rfl |rfl <;> simp
 ·simp[h];exact eq_comm
theorem z7:∀{f w:List Nat},f.length=w.length->(∀s∈w,s=48\/s=49)->(dC f w=true↔∀(i c s:Nat),f[i]?=some c->w[i]?=some s->s∈alt c)
 |[],[],_,_=>by simp[dC]
 |[],s::w,h,_=>by simp at h
 |c::f,[],h,_=>by simp at h
 |c::f,s::w,h,hw=>by
  rw[dC,ae,z7 (by simpa using h) λs hs=>hw s (bi _ hs),z6 (hw s bS)];constructor
  ·rintro ⟨h1,h2⟩ i c' s' hc hs;cases i with
   |zero=>simp at hc hs;subst hc hs;exact h1
   |succ i=>exact h2 i c' s' (by simpa using hc) (by simpa using hs)
  ·intro h;exact ⟨h 0 c s rfl rfl,λi c' s' hc hs=>h (i+1) c' s' (by simpa using hc) (by simpa using hs)⟩
theorem adW{f w:List Nat}(hw:∀s∈w,s=48\/s=49):dW f w=true↔Fits f w:=by
 unfold dW Fits;rw[ae,bv];constructor
 ·rintro ⟨h1,h2⟩;exact ⟨h1,(z7 h1 hw).mp h2⟩
 ·rintro ⟨h1,h2⟩;exact ⟨h1,(z7 h1 hw).mpr h2⟩
def bj(rs:List Row)(w:List Nat):Option Nat:=rs.findIdx? λr=>dW r.1 w
def aQ:Option Nat->D
 |some n=>.int n
 |none=>.non
def vd:RF.Spec:=bB (λds _=>∃w rs l,ds=[az w rs,.str l]/\okB w rs/\okW w l) (λds G d G'=>G'=G/\∃w rs l,ds=[az w rs,.str l]/\d=aQ (bj rs l))
theorem z8{w v:Nat}{rs ss:List Row}(h:az w rs=az v ss):w=v/\rs=ss:=by
 unfold az at h;simp only[D.tup.injEq,c9,D.int.injEq,Int.ofNat_inj,fv]at h;refine ⟨h.1,?_⟩;have h2:=h.2;clear h;induction rs generalizing ss with
 |nil=>cases ss with
  |nil=>rfl
  |cons _ _=>simp at h2
 |cons r rs ih=>cases ss with
  |nil=>simp at h2
  |cons s ss=>
   simp only[bq,c9]at h2;have e:r=s:=by have:=h2.1;unfold aB at this;simp only[D.tup.injEq,c9,D.str.injEq,fv]at this;exact Prod.ext this.1 this.2
   rw[e,ih h2.2]
theorem adX{w:Nat}{rs:List Row}{l:List Nat}{G:DH}{k:D->DH->Prop}{E:EK}(h:okB w rs)(hl:okW w l)(hk:k (aQ (bj rs l)) G):vd.t [az w rs,.str l] G k E:=by refine bK ⟨w,rs,l,rfl,h,hl⟩ λd G' hx=>?_;obtain ⟨e1,w2,rs2,l2,e2,e3⟩:=hx;simp only[c9,D.str.injEq,fv]at e2;obtain ⟨e2,rfl⟩:=e2;obtain ⟨rfl,rfl⟩:=z8 e2;subst e1 e3;exact hk
theorem adY{rs:List Row}{l:List Nat}{i:Nat}{r:Row}(h:rs[i]?=some r):bj (rs.drop i) l=if dW r.1 l then some 0 else (bj (rs.drop (i+1)) l).map (·+1):=by
 have hi:=(ar.mp h).1;have e:rs.drop i=r::rs.drop (i+1):=by rw[ca hi];rw[(ar.mp h).2]
 rw[e];unfold bj;rw[eW]
theorem adZ (Φ:aa) (h1:Φ "need_book"=gW) (h2:Φ "is_word"=u5) (h3:Φ "fits"=aP nG) (ds:List D) (G:DH) (h:∃w rs l,ds=[az w rs,.str l]/\okB w rs/\okW w l):
  aq Φ mV noE (env0 ds 4) G (ends λd G'=>G'=G/\∃w rs l,ds=[az w rs,.str l]/\d=aQ (bj rs l)):=by
 obtain ⟨w,rs,l,rfl,hb,hl⟩:=h;have hl1:=hl.1;have hw6:=hb.w6;simp_all_arith[mV];refine seq λM hM=>?_;simp_arith[h1];refine jX hb (hM _ _ (seq λM hM=>?_));conv=>enter [4,1,1];rw[az]
 simp_arith[ends];refine hM _ _ (seq λM hM=>?_);simp_arith[h2];refine adN hl (by omega) ?_;simp_arith[ends];refine hM _ _ (seq λM hM=>?_);simp_arith![ends];refine ForG.inv (P:=λi ρ G'=>(∃o4 o5,ρ=[some (.tup [.int w,.tup (rs.map aB)]),some (.str l),some (.int w),some (.tup (rs.map aB)),o4,o5])/\G'=G/\bj rs l=(bj (rs.drop i) l).map (·+i)) ⟨⟨_,_,rfl⟩,rfl,by simp⟩ (λ_ _ _ _=>trivial) ?_ ?_
 ·rintro i d ρ G' hd ⟨⟨o4,o5,rfl⟩,rfl,hmet⟩ kk hk;rw[jK]at hd;obtain ⟨d',hd',rfl⟩:=aS.mp hd;rw[bp]at hd';obtain ⟨r,hr,rfl⟩:=aS.mp hd';have hrf:=(hb.form r (ce hr)).1;rw[adY hr]at hmet;simp_arith![ends];refine last ?_;simp_arith[h3,aB];refine dO (d:=.bl (dW r.1 l)) (if_pos (b9 (by omega))) ?_;simp_arith[ends];cases hf:dW r.1 l with
  |true=>
   rw[hf,if_pos rfl]at hmet;exact ⟨w,rs,l,rfl,by rw[hmet];simp[aQ]⟩
  |false=>
   rw[hf,if_neg bo]at hmet;refine hk _ _ ⟨⟨_,_,rfl⟩,rfl,?_⟩;rw[hmet,Option.map_map];congr 1;funext n;simp;omega
 ·rintro ρ G' ⟨⟨o4,o5,rfl⟩,rfl,hmet⟩;rw[jJ,ag,eS]at hmet;refine hM _ _ ?_;simp_arith[ends];exact ⟨w,rs,l,rfl,by rw[hmet];rfl⟩
noncomputable def di(rs:List Row):Option Nat->D
 |some n=>match rs[n]? with |some r=>.str r.2 |none=>.non
 |none=>.non
theorem ad0{rs:List Row}{l:List Nat}{n:Nat}(h:bj rs l=some n):n < rs.length:=by unfold bj at h;exact (List.findIdx?_eq_some_iff_findIdx_eq.mp h).1
def nH:RF.Spec:=bB (λds _=>∃w rs o,ds=[az w rs,aQ o]/\∀n,o=some n->n < rs.length) (λds G d G'=>G'=G/\∃w rs o,ds=[az w rs,aQ o]/\d=di rs o)
theorem ad1{a b:Option Nat}(h:aQ a=aQ b):a=b:=by cases a <;> cases b <;> simp[aQ]at h ⊢ <;> omega
theorem z9{w:Nat}{rs:List Row}{o:Option Nat}{G:DH}{k:D->DH->Prop}{E:EK}(h:∀n,o=some n->n < rs.length)(hk:k (di rs o) G):nH.t [az w rs,aQ o] G k E:=by refine bK ⟨w,rs,o,rfl,h⟩ λd G' hx=>?_;obtain ⟨e1,w2,rs2,o2,e2,e3⟩:=hx;simp only[c9,fv]at e2;obtain ⟨e2,e4⟩:=e2;obtain ⟨rfl,rfl⟩:=z8 e2;cases ad1 e4;subst e1 e3;exact hk
theorem ad2(Φ:aa)(ds:List D)(G:DH)(h:∃w rs o,ds=[az w rs,aQ o]/\∀n,o=some n->n < rs.length):aq Φ jU noE (env0 ds 0) G (ends λd G'=>G'=G/\∃w rs o,ds=[az w rs,aQ o]/\d=di rs o):=by
 obtain ⟨w,rs,o,rfl,ho⟩:=h;cases o with
 |none=>
  simp_arith[jU,aQ];exact ⟨w,rs,none,rfl,rfl⟩
 |some n=>
  have hn:=ho n rfl;simp_arith[jU,aQ,az];refine bL (a:=aB rs[n]) (bY (by simp[hn])) ?_;simp_arith[aB];exact ⟨w,rs,some n,rfl,by simp[di,hn]⟩
theorem jc{α β:Type}(f:α->β)(l:List α)(n:Nat):cut (l.map f) none (some (n:Int))=(l.take n).map f:=by rw[uR,List.map_take]
theorem nJ{α β:Type}(f:α->β)(l:List α)(n:Nat):cut (l.map f) (some (n:Int)) none=(l.drop n).map f:=by rw[Iv,List.map_drop]
theorem okB.sub{w:Nat}{rs ss:List Row}(h:okB w rs)(hl:ss.length<=rs.length)(hs:∀r∈ss,r∈rs):okB w ss:=
 ⟨h.w1,h.w6,br hl h.len,λr hr=>h.form r (hs r hr),λr hr=>h.deed r (hs r hr)⟩
theorem O9(c:Nat)(n:Nat):reps [c] n=List.replicate n c:=by
 unfold reps;induction n with
 |zero=>rfl
 |succ n ih=>rw[cb,eM,ih,cb];rfl
theorem ad3(w:Nat):okF w (List.replicate w 42):=⟨cw,λc hc=>.inr (.inr (List.eq_of_mem_replicate hc))⟩
theorem Pa{w:Nat}{l:List Nat}:Fits (List.replicate w 42) l↔okW w l:=by
 constructor
 ·rintro ⟨h1,h2⟩;rw[cw]at h1;refine ⟨h1.symm,λc hc=>?_⟩;obtain ⟨i,hi,rfl⟩:=List.getElem_of_mem hc;have:=h2 i 42 l[i] (by rw[List.getElem?_replicate];rw[if_pos (by omega)]) (by simp[hi]);simpa [alt] using this
 ·rintro ⟨h1,h2⟩;refine ⟨by rw[cw,h1],λi c s hc hs=>?_⟩;rw[List.getElem?_replicate]at hc;split at hc
  ·cases hc;have:=h2 s (ce hs);simpa [alt] using this
  ·cases hc
theorem ad4{p:Addr}{G:DH}{k:D->DH->Prop}{E:EK}(hp:Pen G p)(hk:∀G',Pen G' p->Sb p G G'->k (.ref p) G'):uW.t [.ref p] G k E:=
 bK ⟨p,rfl,hp⟩ λd G' hx=>by obtain ⟨p2,e1,e2,hp',sb⟩:=hx;cases e1;subst e2;exact hk G' hp' sb
def eO(a b:Nat):Option Nat:=if a=42 then some b else if b=42\/b=a then some a else none
noncomputable def cD:List Nat->List Nat->Option (List Nat)
 |a::f,b::g=>match eO a b with |some c=>(cD f g).map (c::·) |none=>none
 |_,_=>some []
def dj:Option (List Nat)->D
 |some l=>.str l
 |none=>.non
noncomputable def nM:List D->Option D
 |[.str f,.str g]=>if decide (f.length<=100000) then some (dj (cD f g)) else none
 |_=>none
theorem ad5{f g:List Nat}{i a b:Nat}(h:(f.zip g)[i]?=some (a,b)):cD (f.drop i) (g.drop i)=match eO a b with |some c=>(cD (f.drop (i+1)) (g.drop (i+1))).map (c::·) |none=>none:=by
 have hz:=ar.mp h;obtain ⟨hl,he⟩:=hz;rw[List.length_zip]at hl;have h1:i < f.length:=by omega
 have h2:i < g.length:=by omega
 rw[List.getElem_zip]at he;rw[ca h1,ca h2];simp only[Prod.mk.injEq]at he;rw[he.1,he.2];rfl
theorem ad6{f g:List Nat}:cD (f.drop (f.zip g).length) (g.drop (f.zip g).length)=some []:=by
 rw[List.length_zip];by_cases h:f.length<=g.length
 ·rw[Nat.min_eq_left h,eS];cases g.drop f.length <;> rfl
 ·rw[Nat.min_eq_right (by omega),eS];cases f.drop g.length <;> rfl
theorem ad7(Φ:aa)(ds:List D)(G:DH)(d:D)(h:nM ds=some d):aq Φ mq noE (env0 ds 3) G (ends λd' G'=>G'=G/\d'=d):=by
 unfold nM at h;split at h
 ·rename_i f g;split at h
  ·rename_i hl;have hl:=c8 hl;cases h;simp_all_arith[mq];refine seq λM hM=>?_;simp_arith[ends];refine hM _ _ (seq λM hM=>?_);simp_arith![zZ];refine ForG.inv (P:=λi ρ G'=>(∃o3 o4 m,ρ=[some (.str f),some (.str g),some (.str m),o3,o4]/\m.length=i/\cD f g=(cD (f.drop i) (g.drop i)).map (m ++ ·))/\G'=G) ⟨⟨_,_,[],rfl,rfl,by simp⟩,rfl⟩ (λ_ _ _ _=>trivial) ?_ ?_
   ·rintro i d ρ G' hd ⟨⟨o3,o4,m,rfl,hm,hb⟩,rfl⟩ kk hk;rw[bp]at hd;obtain ⟨⟨a,b⟩,hab,rfl⟩:=aS.mp hd;have hi:=(ar.mp hab).1;rw[List.length_zip]at hi;rw[ad5 hab]at hb;simp_arith![ends];refine last ?_;have put:∀(c:Nat)(o3 o4:Option D),eO a b=some c->m.length+1<=sz/\kk [some (.str f),some (.str g),some (.str (m++[c])),o3,o4] G':=by
     intro c o3 o4 hc;rw[hc]at hb;refine ⟨by have hsz:sz=1000000:=rfl;omega,hk _ _ ⟨⟨_,_,_,rfl,by simp[hm],?_⟩,rfl⟩⟩;rw[hb,Option.map_map];congr 1;funext x;simp
    simp_arith[jb];by_cases h42:a=42
    ·have:((a==42):Bool)=true:=by simp[h42]
     simp_arith[this];exact put b _ _ (if_pos h42)
    ·have h0:((a==42):Bool)=false:=by simp[h42]
     simp_arith[h0,jb];by_cases hb42:b=42
     ·have:((b==42):Bool)=true:=by simp[hb42]
      simp_arith[this];exact put a _ _ (by unfold eO;rw[if_neg h42,if_pos (.inl hb42)])
     ·have h1:((b==42):Bool)=false:=by simp[hb42]
      simp_arith[h1,jb];by_cases hba:b=a
      ·have:((b==a):Bool)=true:=by simp[hba]
       simp_arith[this];exact put a _ _ (by unfold eO;rw[if_neg h42,if_pos (.inr hba)])
      ·have:((b==a):Bool)=false:=by simp[hba]
       simp_arith[this];have hn:eO a b=none:=by unfold eO;rw[if_neg h42,if_neg (by rintro (h |h);exact hb42 h;exact hba h)]
       rw[hn]at hb;rw[hb];rfl
   ·rintro ρ G' ⟨⟨o3,o4,m,rfl,hm,hb⟩,rfl⟩;rw[ag,ad6]at hb;refine hM _ _ ?_;simp_arith[ends];rw[hb];simp[dj]
  ·cases h
 ·cases h
noncomputable def gY:List D->Option D
 |[.str f,.int n,.str [c]]=>if decide (0<=n)&&decide (n < f.length)&&decide (f.length<=1000) then some (.str (f.set n.toNat c)) else none
 |_=>none
theorem ad8{l:List Nat}{n c:Nat}(h:n < l.length):l.take n++[c]++l.drop (n+1)=l.set n c:=by rw[List.set_eq_take_append_cons_drop,if_pos h];simp
theorem ad9(Φ:aa)(ds:List D)(G:DH)(d:D)(h:gY ds=some d):aq Φ mC noE (env0 ds 0) G (ends λd' G'=>G'=G/\d'=d):=by
 unfold gY at h;split at h
 ·rename_i f n c;split at h
  ·rename_i hl;simp only[ae,bv]at hl;obtain ⟨⟨h0,h1⟩,h2⟩:=hl;cases h;obtain ⟨k,rfl⟩:=c6 h0;simp_arith[mC,uR,Iw,av,bX,cf,de,ad8 (show k < f.length by omega)];exact ⟨by have hsz:sz=1000000:=rfl;omega,by have hsz:sz=1000000:=rfl;omega⟩
  ·cases h
 ·cases h
noncomputable def jd:List D->Option D
 |[.int n]=>if decide (0<=n)&&decide (n<=1000) then some (.str (List.replicate n.toNat 42)) else none
 |_=>none
theorem aea(Φ:aa)(ds:List D)(G:DH)(d:D)(h:jd ds=some d):aq Φ mJ noE (env0 ds 0) G (ends λd' G'=>G'=G/\d'=d):=by
 unfold jd at h;split at h
 ·rename_i n;split at h
  ·rename_i hl;simp only[ae,bv]at hl;cases h;simp_arith[mJ,O9];exact ⟨hl.1,hl.2,by have hsz:sz=1000000:=rfl;omega⟩
  ·cases h
 ·cases h
def aR(rs:List Row)(b:List Nat):Option Nat:=rs.findIdx? λr=>(cD r.1 b).isSome
def Pb(ds:List D)(_:DH):Prop:=∃(rs:List Row)(b:List Nat),ds=[.tup (rs.map aB),.str b]/\∀r∈rs,r.1.length<=1000
def Pg(ds:List D)(G:DH)(d:D)(G':DH):Prop:=G'=G/\∃(rs:List Row)(b:List Nat),ds=[.tup (rs.map aB),.str b]/\d=aQ (aR rs b)
def nO:RF.Spec:=bB Pb Pg
theorem Aa{rs ss:List Row}(h:rs.map aB=ss.map aB):rs=ss:=(z8 (w:=0) (v:=0) (by unfold az;rw[h])).2
theorem Ph{rs:List Row}{b:List Nat}{G:DH}{k:D->DH->Prop}{E:EK}(h:∀r∈rs,r.1.length<=1000)(hk:k (aQ (aR rs b)) G):nO.t [.tup (rs.map aB),.str b] G k E:=by refine bK ⟨rs,b,rfl,h⟩ λd G' hx=>?_;obtain ⟨e1,rs2,b2,e2,e3⟩:=hx;simp only[c9,D.str.injEq,D.tup.injEq,fv]at e2;obtain ⟨e2,rfl⟩:=e2;cases Aa e2;subst e1 e3;exact hk
theorem aeb{o:Option (List Nat)}:fK (dj o)=!o.isSome:=by cases o <;> rfl
theorem aec{G:DH}{o:Option (List Nat)}:view G (dj o)=dj o:=by cases o <;> rfl
theorem aed{rs:List Row}{b:List Nat}{i:Nat}{r:Row}(h:rs[i]?=some r):aR (rs.drop i) b=if (cD r.1 b).isSome then some 0 else (aR (rs.drop (i+1)) b).map (·+1):=by
 have hi:=(ar.mp h).1;have e:rs.drop i=r::rs.drop (i+1):=by rw[ca hi];rw[(ar.mp h).2]
 rw[e];unfold aR;rw[eW]
theorem aee (Φ:aa) (h1:Φ "both"=aP nM) (ds:List D) (G:DH) (h:Pb ds G):aq Φ my noE (env0 ds 2) G (ends (Pg ds G)):=by
 obtain ⟨rs,b,rfl,hb⟩:=h;simp_all_arith[my];refine seq λM hM=>?_;simp_arith![ends];refine ForG.inv (P:=λi ρ G'=>(∃o2 o3,ρ=[some (.tup (rs.map aB)),some (.str b),o2,o3])/\G'=G/\aR rs b=(aR (rs.drop i) b).map (·+i)) ⟨⟨_,_,rfl⟩,rfl,by simp⟩ (λ_ _ _ _=>trivial) ?_ ?_
 ·rintro i d ρ G' hd ⟨⟨o2,o3,rfl⟩,rfl,hmet⟩ kk hk;rw[jK]at hd;obtain ⟨d',hd',rfl⟩:=aS.mp hd;rw[bp]at hd';obtain ⟨r,hr,rfl⟩:=aS.mp hd';have hrl:=hb r (ce hr);rw[aed hr]at hmet;simp_arith![ends];refine last ?_;simp_arith[h1,aB];refine dO (d:=dj (cD r.1 b)) (if_pos (b9 (by omega))) ?_;simp_arith[aec,aeb];cases hf:(cD r.1 b).isSome with
  |true=>
   rw[hf,if_pos rfl]at hmet;exact ⟨rfl,rs,b,rfl,by rw[hmet];simp[aQ]⟩
  |false=>
   rw[hf,if_neg bo]at hmet;refine hk _ _ ⟨⟨_,_,rfl⟩,rfl,?_⟩;rw[hmet,Option.map_map];congr 1;funext n;simp;omega
 ·rintro ρ G' ⟨⟨o2,o3,rfl⟩,rfl,hmet⟩;rw[jJ,ag,eS]at hmet;refine hM _ _ ?_;simp_arith[ends];exact ⟨rfl,rs,b,rfl,by rw[hmet];rfl⟩
def cW(f b:List Nat):Option Nat:=(f.zip b).findIdx? λp=>p.2==42&&!(p.1==42)
noncomputable def dm(rs:List Row)(b:List Nat):Option Nat:=match aR rs b with |some n=>(match rs[n]? with |some r=>cW r.1 b |none=>none) |none=>none
def Pj(ds:List D)(_:DH):Prop:=∃(rs:List Row)(b:List Nat),ds=[.tup (rs.map aB),.str b]/\(∀r∈rs,r.1.length=b.length)/\b.length<=1000
def Pk(ds:List D)(G:DH)(d:D)(G':DH):Prop:=G'=G/\∃(rs:List Row)(b:List Nat),ds=[.tup (rs.map aB),.str b]/\d=aQ (dm rs b)
def vf:RF.Spec:=bB Pj Pk
theorem aef{rs:List Row}{b:List Nat}{G:DH}{k:D->DH->Prop}{E:EK}(h:∀r∈rs,r.1.length=b.length)(hl:b.length<=1000)(hk:k (aQ (dm rs b)) G):vf.t [.tup (rs.map aB),.str b] G k E:=by refine bK ⟨rs,b,rfl,h,hl⟩ λd G' hx=>?_;obtain ⟨e1,rs2,b2,e2,e3⟩:=hx;simp only[c9,D.str.injEq,D.tup.injEq,fv]at e2;obtain ⟨e2,rfl⟩:=e2;cases Aa e2;subst e1 e3;exact hk
theorem vg{rs:List Row}{b:List Nat}{n:Nat}(h:aR rs b=some n):n < rs.length:=(List.findIdx?_eq_some_iff_findIdx_eq.mp h).1
theorem aeg{f b:List Nat}{i s c:Nat}(hs:f[i]?=some s)(hc:b[i]?=some c):cW (f.drop i) (b.drop i)=if (c==42&&!(s==42))=true then some 0 else (cW (f.drop (i+1)) (b.drop (i+1))).map (·+1):=by have h1:=ar.mp hs;have h2:=ar.mp hc;rw[ca h1.1,ca h2.1,h1.2,h2.2];unfold cW;rw[List.zip_cons_cons,eW]
theorem aeh (Φ:aa) (h1:Φ "first_touching"=nO) (ds:List D) (G:DH) (h:Pj ds G):aq Φ mz noE (env0 ds 3) G (ends (Pk ds G)):=by
 obtain ⟨rs,b,rfl,hb,hbl⟩:=h;simp_all_arith[mz];refine seq λM hM=>?_;simp_arith[h1];refine Ph (λr hr=>by rw[hb r hr];exact hbl) (hM _ _ (seq λM hM=>?_));cases ht:aR rs b with
 |none=>
  simp_arith[aQ];exact ⟨rfl,rs,b,rfl,by unfold dm;rw[ht];rfl⟩
 |some n=>
  have hn:=vg ht;have hlen:=hb rs[n] (dn _);have hsp:dm rs b=cW rs[n].1 b:=by unfold dm;rw[ht];simp[hn]
  simp_arith[aQ];refine hM _ _ (seq λM hM=>?_);simp_arith![ends];refine bL (a:=aB rs[n]) (bY (by simp[hn])) ?_;simp_arith![aB];generalize rs[n].1=f at hlen hsp;refine ForG.inv (P:=λi ρ G'=>(∃o3 o4,ρ=[some (.tup (rs.map aB)),some (.str b),some (.int (n:Int)),o3,o4])/\G'=G/\cW f b=(cW (f.drop i) (b.drop i)).map (·+i)) ⟨⟨_,_,rfl⟩,rfl,by simp⟩ (λ_ _ _ _=>trivial) ?_ ?_
  ·rintro i d ρ G' hd ⟨⟨o3,o4,rfl⟩,rfl,hs⟩ kk hk;rw[jK]at hd;obtain ⟨d',hd',rfl⟩:=aS.mp hd;rw[bp]at hd';obtain ⟨s,hsi,rfl⟩:=aS.mp hd';have hi:=(ar.mp hsi).1;have hib:i < b.length:=by omega
   have hbi:b[i]?=some b[i]:=by simp[hib]
   rw[aeg hsi hbi]at hs;simp_arith![ends];refine last ?_;simp_arith[ends];refine bL (a:=b[i]) (by rw[Nat.zero_add];exact bY hbi) ?_;simp_arith[jb];cases h42:(b[i]==42) with
   |false=>
    simp only[h42,Bool.false_and,if_neg bo]at hs;simp_arith[ends];refine hk _ _ ⟨⟨_,_,rfl⟩,rfl,?_⟩;rw[hs,Option.map_map];congr 1;funext n;simp;omega
   |true=>
    simp_arith[jb];cases hs42:(s==42) with
    |true=>
     simp only[h42,hs42,Bool.not_true,Bool.and_false,if_neg bo]at hs;simp_arith[ends];refine hk _ _ ⟨⟨_,_,rfl⟩,rfl,?_⟩;rw[hs,Option.map_map];congr 1;funext n;simp;omega
    |false=>
     simp only[h42,hs42,Bool.not_false,fh,if_pos]at hs;simp_arith[ends];exact ⟨rfl,rs,b,rfl,by rw[hsp,hs];simp[aQ]⟩
  ·rintro ρ G' ⟨⟨o3,o4,rfl⟩,rfl,hs⟩;rw[jJ,ag,eS]at hs;refine hM _ _ ?_;simp_arith[ends];exact ⟨rfl,rs,b,rfl,by rw[hsp,hs];simp[cW,aQ]⟩
def jZ:List Nat:=[115,112,108,105,116]
def stc(b:List Nat):Nat:=b.countP (·==42)
theorem j0{b:List Nat}{n c:Nat}(h:b[n]?=some 42)(hc:c≠42):stc (b.set n c)+1=stc b:=by
 obtain ⟨hl,he⟩:=ar.mp h;have e1:b=b.take n++42::b.drop (n+1):=by rw[<-he,<-ca hl,List.take_append_drop]
 have e2:b.set n c=b.take n++c::b.drop (n+1):=by rw[List.set_eq_take_append_cons_drop,if_pos hl]
 unfold stc;rw[e2];conv=>rhs;rw[e1]
 rw[List.countP_append,List.countP_append,List.countP_cons_of_neg (by simp[hc]),List.countP_cons_of_pos (by simp)];omega
theorem Pn{w n c:Nat}{b:List Nat}(h:okF w b)(hc:isF c):okF w (b.set n c):=⟨by rw[d4];exact h.1,λd hd=>by
 rcases List.mem_or_eq_of_mem_set hd with h' |h'
 ·exact h.2 d h'
 ·rw[h'];exact hc⟩
theorem aei:isF 48:=.inl rfl
theorem aej:isF 49:=.inr (.inl rfl)
inductive Gr (name:List Nat) (rss:List (List Row)):List Nat->D->Prop
 |leaf (b:List Nat) (h:∀rs∈rss,dm rs b=none):Gr name rss b (.tup (.str name::rss.map λrs=>aQ (aR rs b)))
 |node (b:List Nat) (n:Nat) (z o:D) (h:b[n]?=some 42) (hz:Gr name rss (b.set n 48) z) (ho:Gr name rss (b.set n 49) o):Gr name rss b (.tup [.str jZ,.int n,z,o])
def dX(rss:List (List Row)):List D:=rss.map λrs=>.tup (rs.map aB)
structure okG(w:Nat)(name:List Nat)(rss:List (List Row)):Prop where
 len:rss.length<=100
 nl:name.length<=100
 form:∀rs∈rss,∀r∈rs,r.1.length=w
 w1000:w<=1000
def Pq(n:Nat)(ds:List D)(_:DH):Prop:=∃(w:Nat)(name:List Nat)(rss:List (List Row))(b:List Nat),ds=[.str name,.lst (dX rss),.str b]/\okG w name rss/\b.length=w/\stc b < n
def Pr(ds:List D)(G:DH)(d:D)(G':DH):Prop:=G'=G/\∃(name:List Nat)(rss:List (List Row))(b:List Nat),ds=[.str name,.lst (dX rss),.str b]/\Gr name rss b d
def eQ(n:Nat):RF.Spec:=bB (Pq n) Pr
theorem aek{a b:List (List Row)}(h:dX a=dX b):a=b:=by
 unfold dX at h;induction a generalizing b with
 |nil=>cases b with
  |nil=>rfl
  |cons _ _=>simp at h
 |cons x a ih=>cases b with
  |nil=>simp at h
  |cons y b=>
   simp only[bq,c9,D.tup.injEq]at h;rw[Aa h.1,ih h.2]
theorem vh{n w:Nat}{name:List Nat}{rss:List (List Row)}{b:List Nat}{G:DH}{k:D->DH->Prop}{E:EK}(h:okG w name rss)(hb:b.length=w)(hs:stc b < n)(hk:∀d,Gr name rss b d->k d G):(eQ n).t [.str name,.lst (dX rss),.str b] G k E:=by refine bK ⟨w,name,rss,b,rfl,h,hb,hs⟩ λd G' hx=>?_;obtain ⟨e1,name2,rss2,b2,e2,e3⟩:=hx;simp only[c9,D.str.injEq,D.lst.injEq,fv]at e2;obtain ⟨rfl,e2,rfl⟩:=e2;cases aek e2;subst e1;exact hk d e3
theorem ael{f b:List Nat}{n:Nat}(h:cW f b=some n):b[n]?=some 42:=by unfold cW at h;have h2:=fR.mp h;obtain ⟨hl,hp,_⟩:=h2;rw[List.length_zip]at hl;rw[List.getElem_zip]at hp;simp only[ae,aw]at hp;rw[bg (by omega),hp.1]
theorem aem{rs:List Row}{b:List Nat}{n:Nat}(h:dm rs b=some n):b[n]?=some 42:=by
 unfold dm at h;split at h
 ·split at h
  ·exact ael h
  ·cases h
 ·cases h
theorem vm{b:List Nat}{n c:Nat}{G:DH}{k:D->DH->Prop}{E:EK}(h:n < b.length)(hl:b.length<=1000)(hk:k (.str (b.set n c)) G):(aP gY).t [.str b,.int n,.str [c]] G k E:=
 dO (by
  unfold gY;dsimp only;rw[if_pos (by simp only[ae,bv];omega),de]) hk
theorem aen (Φ:aa) (n:Nat) (h0:Φ "grown"=eQ n) (h1:Φ "first_touching"=nO) (h2:Φ "splitting_place"=vf) (h3:Φ "with_sign"=aP gY) (ds:List D) (G:DH) (h:Pq (n+1) ds G):aq Φ jT noE (env0 ds 4) G (ends (Pr ds G)):=by
 obtain ⟨w,name,rss,b,rfl,hg,hb,hs⟩:=h;have hw:=hg.w1000;simp_all_arith[jT];refine seq λM hM=>?_;simp_arith![ends];refine ForG.inv (P:=λi ρ G'=>(∃o3 o4 o5 o6,ρ=[some (.str name),some (.lst (dX rss)),some (.str b),o3,o4,o5,o6])/\G'=G/\∀rs∈rss.take i,dm rs b=none) ⟨⟨_,_,_,_,rfl⟩,rfl,by simp⟩ (λ_ _ _ _=>trivial) ?_ ?_
 ·rintro i d ρ G' hd ⟨⟨o3,o4,o5,o6,rfl⟩,rfl,hall⟩ kk hk;unfold dX at hd;rw[bp]at hd;obtain ⟨rs,hrs,rfl⟩:=aS.mp hd;simp_arith![ends];refine seq λM hM=>?_;simp_arith[h2];refine aef (λr hr=>by rw[hg.form rs (ce hrs) r hr,hb]) (by omega) (hM _ _ (last ?_));cases hsp:dm rs b with
  |none=>
   simp_arith[aQ];refine hk _ _ ⟨⟨_,_,_,_,rfl⟩,rfl,λrs' hrs'=>?_⟩;rw[fm,hrs]at hrs';rcases a7.mp hrs' with h |h
   ·exact hall rs' h
   ·have:rs'=rs:=by simpa using h
    rw[this];exact hsp
  |some at'=>
   have hst:=aem hsp;have hat:=(ar.mp hst).1;simp_arith![aQ];refine seq λM hM=>?_;simp_arith[h0,h3];refine vm hat (by omega) (vh hg (by rw[d4];exact hb) (by have:=j0 hst (show 48≠42 by decide);omega) λz hz=>hM _ _ (seq λM hM=>?_));simp_arith[h0,h3];refine vm hat (by omega) (vh hg (by rw[d4];exact hb) (by have:=j0 hst (show 49≠42 by decide);omega) λo ho=>hM _ _ (last ?_));simp_arith[ends];exact ⟨by decide,rfl,name,rss,b,rfl,.node b at' z o hst hz ho⟩
 ·rintro ρ G' ⟨⟨o3,o4,o5,o6,rfl⟩,rfl,hall⟩;have hlen:(dX rss).length=rss.length:=ag _;rw[hlen,gs]at hall;have hrl:=hg.len;refine hM _ _ ?_;simp_arith[h1];refine ⟨by decide,CompG.inv (P:=λi acc ρ G''=>(∃o,ρ=[o,some (.str b)])/\G''=G'/\acc=(rss.take i).map λrs=>aQ (aR rs b)) ⟨⟨_,rfl⟩,rfl,rfl⟩ (λ_ _ _ _ _=>trivial) (by rw[hlen];have hsz:sz=1000000:=rfl;omega) ?_ ?_⟩
  ·rintro i d acc ρ G'' hd ⟨⟨o,rfl⟩,rfl,rfl⟩ kk hk;unfold dX at hd;rw[bp]at hd;obtain ⟨rs,hrs,rfl⟩:=aS.mp hd;simp_arith[h1];refine Ph (λr hr=>by rw[hg.form rs (ce hrs) r hr];omega) (hk _ _ _ ⟨⟨_,rfl⟩,rfl,?_⟩);rw[fm,hrs];simp
  ·rintro acc ρ G'' ⟨_,rfl,rfl⟩;rw[hlen,gs];simp_arith[ag];exact ⟨by have hsz:sz=1000000:=rfl;omega,rfl,name,rss,b,rfl,.leaf b hall⟩
theorem aeo(ds:List D)(G:DH)(a:(eQ 0).A):¬(eQ 0).pre ds G a:=λ⟨_,_,_,_,_,_,_,_,h⟩=>by omega
theorem aep(w:Nat):stc (List.replicate w 42)<=w:=by have:=List.countP_le_length (p:=(·==42)) (l:=List.replicate w 42);rw[cw]at this;exact this
theorem Pu:∀{f b w:List Nat},cD f b=none->(∀s∈w,s=48\/s=49)->Fits b w->dC f w=true->False
 |[],b,w,h,_,_,_=>by cases b <;> cases h
 |a::f,[],w,h,_,_,_=>by cases h
 |a::f,c::b,[],h,_,hf,_=>by have:=hf.1;simp at this
 |a::f,c::b,s::w,h,hw,hf,hz=>by
  rw[dC,ae]at hz;have hs:=hf.2 0 c s rfl rfl;have hf':Fits b w:=⟨by have:=hf.1;simpa using this,λi c' s' h1 h2=>hf.2 (i+1) c' s' (by simpa using h1) (by simpa using h2)⟩;unfold cD at h;cases h1:eO a c with
  |some x=>
   rw[h1]at h;simp only[Option.map_eq_none_iff]at h;exact Pu h (λs hs=>hw s (bi _ hs)) hf' hz.2
  |none=>
   unfold eO at h1;split at h1
   ·cases h1
   ·split at h1
    ·cases h1
    ·rename_i ha hc;have h2:=(z6 (hw s bS)).mp hz.1;unfold alt at hs h2;rw[if_neg ha]at h2;have es:s=a:=by simpa using h2
     split at hs
     ·rename_i e;exact hc (.inl e)
     ·have:s=c:=by simpa using hs
      exact hc (.inr (by omega))
theorem Px:∀{f b w:List Nat},f.length=b.length->(cD f b).isSome=true->cW f b=none->(∀s∈w,s=48\/s=49)->Fits b w->dC f w=true
 |[],b,w,_,_,_,_,_=>rfl
 |a::f,[],w,h,_,_,_,_=>by simp at h
 |a::f,c::b,[],_,_,_,_,hf=>rfl
 |a::f,c::b,s::w,hl,hb,hs,hw,hf=>by
  have hs0:=hf.2 0 c s rfl rfl;have hf':Fits b w:=⟨by have:=hf.1;simpa using this,λi c' s' h1 h2=>hf.2 (i+1) c' s' (by simpa using h1) (by simpa using h2)⟩;unfold cW at hs;rw[List.zip_cons_cons,eW]at hs;split at hs
  ·cases hs
  ·rename_i hne;have hs':cW f b=none:=by unfold cW;simpa using hs
   unfold cD at hb;cases h1:eO a c with
   |none=>rw[h1]at hb;cases hb
   |some x=>
    rw[h1]at hb;have hb':(cD f b).isSome=true:=by simpa using hb
    rw[dC,ae];refine ⟨?_,Px (by simpa using hl) hb' hs' (λs hs=>hw s (bi _ hs)) hf'⟩;rw[z6 (hw s bS)];by_cases ha:a=42
    ·unfold alt;rw[if_pos ha];rcases hw s bS with e |e <;> simp[e]
    ·have hc:c≠42:=by
      rintro rfl;exact hne (by simp[ha])
     unfold alt at hs0 ⊢;rw[if_neg hc]at hs0;rw[if_neg ha];unfold eO at h1;rw[if_neg ha]at h1;split at h1
     ·rename_i h2;rcases h2 with h2 |h2
      ·exact absurd h2 hc
      ·rw[<-h2];exact hs0
     ·cases h1
theorem Py{rs:List Row}{b l:List Nat}(hf:∀r∈rs,r.1.length=b.length)(hs:dm rs b=none)(hl:∀s∈l,s=48\/s=49)(hb:Fits b l):bj rs l=aR rs b:=by
 have no:∀r∈rs,(cD r.1 b).isSome=false->dW r.1 l=false:=by
  intro r hr h;cases e:dW r.1 l with
  |false=>rfl
  |true=>
   unfold dW at e;rw[ae]at e;exact (Pu (by simpa using h) hl hb e.2).elim
 cases ht:aR rs b with
 |none=>
  unfold aR at ht;unfold bj;rw[List.findIdx?_eq_none_iff]at ht ⊢;exact λr hr=>no r hr (by simpa using ht r hr)
 |some n=>
  have hn:=vg ht;have ht':=fR.mp ht;obtain ⟨_,t1,t2⟩:=ht';unfold bj;rw[fR];refine ⟨hn,?_,λj hj=>?_⟩
  ·have hsf:cW rs[n].1 b=none:=by
    unfold dm at hs;rw[ht]at hs;simpa [hn] using hs
   have hlen:=hf rs[n] (dn _);unfold dW;rw[ae];exact ⟨b9 (by rw[hlen,hb.1]),Px hlen t1 hsf hl hb⟩
  ·have:=no rs[j] (dn _) (by simpa using t2 j hj);simp[this]
noncomputable def nP(name:List Nat)(rss:List (List Row))(b:List Nat):D:=.tup (.str name::rss.map λrs=>aQ (aR rs b))
def j4(name:List Nat)(rss:List (List Row))(b:List Nat):D:=.tup [.str b,nP name rss b]
inductive Lv (name:List Nat) (rss:List (List Row)):List Nat->D->List (List Nat)->Prop
 |leaf (b:List Nat) (h:∀rs∈rss,dm rs b=none):Lv name rss b (nP name rss b) [b]
 |node (b:List Nat) (n:Nat) (z o:D) (l m:List (List Nat)) (h:b[n]?=some 42) (hz:Lv name rss (b.set n 48) z l) (ho:Lv name rss (b.set n 49) o m):Lv name rss b (.tup [.str jZ,.int n,z,o]) (l++m)
theorem Gr.lv{name:List Nat}{rss:List (List Row)}{b:List Nat}{d:D}(h:Gr name rss b d):∃bs,Lv name rss b d bs:=by
 induction h with
 |leaf b h=>exact ⟨_,.leaf b h⟩
 |node b n z o h _ _ hz ho=>
  obtain ⟨l,hl⟩:=hz;obtain ⟨m,hm⟩:=ho;exact ⟨_,.node b n z o l m h hl hm⟩
theorem Lv.len{name:List Nat}{rss:List (List Row)}{b:List Nat}{d:D}{bs:List (List Nat)}(h:Lv name rss b d bs):bs.length<=2 ^ stc b:=by
 induction h with
 |leaf b h=>exact Nat.one_le_two_pow
 |node b n z o l m h _ _ hz ho=>
  have e1:=j0 h (show 48≠42 by decide);have e2:=j0 h (show 49≠42 by decide);rw[<-e1,Nat.pow_succ,av];have e3:stc (b.set n 49)=stc (b.set n 48):=by omega
  rw[e3]at ho;omega
theorem Lv.len'{name:List Nat}{rss:List (List Row)}{b:List Nat}{d:D}{bs:List (List Nat)}(h:Lv name rss b d bs)(hb:b.length<=12):bs.length<=4096:=by
 have h1:=h.len;have h2:stc b<=12:=br (List.countP_le_length) hb;have h3:=Nat.pow_le_pow_right (show 0 < 2 by decide) h2;have h4:2 ^ 12=4096:=by decide
 omega
theorem Lv.box{name:List Nat}{rss:List (List Row)}{b:List Nat}{d:D}{bs:List (List Nat)}(h:Lv name rss b d bs):∀c∈bs,c.length=b.length/\∀rs∈rss,dm rs c=none:=by
 induction h with
 |leaf b h=>intro c hc;rw[ay.mp hc];exact ⟨rfl,h⟩
 |node b n z o l m h _ _ hz ho=>
  intro c hc;rcases a7.mp hc with hc |hc
  ·have:=hz c hc;rw[d4]at this;exact this
  ·have:=ho c hc;rw[d4]at this;exact this
theorem Lv.okf{w:Nat}{name:List Nat}{rss:List (List Row)}{b:List Nat}{d:D}{bs:List (List Nat)}(h:Lv name rss b d bs):okF w b->∀c∈bs,okF w c:=by
 induction h with
 |leaf b h=>intro hb c hc;rw[ay.mp hc];exact hb
 |node b n z o l m h _ _ hz ho=>
  intro hb c hc;rcases a7.mp hc with hc |hc
  ·exact hz (Pn hb aei) c hc
  ·exact ho (Pn hb aej) c hc
theorem Pz{w:Nat}{f l:List Nat}(h:okF w f)(hf:Fits f l):∀s∈l,s=48\/s=49:=by
 intro s hs;obtain ⟨i,hi,rfl⟩:=List.getElem_of_mem hs;have hif:i < f.length:=by rw[hf.1];exact hi
 have:=hf.2 i f[i] l[i] (by simp[hif]) (by simp[hi]);rcases h.2 f[i] (dn _) with e |e |e <;> rw[e]at this <;> simp[alt]at this <;> omega
def isPlace(m:Int):D->Bool
 |.int i=>decide (0<=i)&&decide (i < m)
 |_=>false
def fM:List D->Option D
 |[.int m,x]=>if nr x then some (.bl (isPlace m x)) else none
 |_=>none
theorem aeq (Φ:aa) (h1:Φ "is_whole"=aP iW) (ds:List D) (G:DH) (d:D) (h:fM ds=some d):aq Φ mF noE (env0 ds 0) G (ends λd' G'=>G'=G/\d'=d):=by
 unfold fM at h;split at h
 ·rename_i m x;split at h
  ·rename_i hx;cases h;have hf:iW [x]=some (.bl (whole x)):=if_pos hx;simp_arith[mF,h1];refine dO hf ?_;cases x <;> first | (simp[nr]at hx;done) | (simp_arith[whole,isPlace];first | (simp;done) |skip)
   rename_i i;cases hi:decide (0<=i) with
   |true=>simp
   |false=>simp
  ·cases h
 ·cases h
theorem aer{m i:Nat}{G:DH}{k:D->DH->Prop}{E:EK}(h:i < m)(hk:k (.bl true) G):(aP fM).t [.int m,.int i] G k E:=
 dO (by unfold fM;simp only[nr,if_true,isPlace];rw[b9 (by omega),b9 (by omega)];rfl) hk
noncomputable def gA:List D->Option D
 |[.str name,.int many,.tup (.str s::r)]=>some (.bl ((((r.length+1:Nat):Int)==many+1)&&(s==name)))
 |_=>none
theorem aes(Φ:aa)(ds:List D)(G:DH)(d:D)(h:gA ds=some d):aq Φ mD noE (env0 ds 0) G (ends λd' G'=>G'=G/\d'=d):=by
 unfold gA at h;split at h
 ·rename_i name many s r;cases h;simp_arith[mD];cases he:(((r.length+1:Nat):Int)==many+1) with
  |false=>simp_arith[Bool.false_and]
  |true=>simp_arith[Bool.true_and]
 ·cases h
theorem aet{name s:List Nat}{m:Int}{r:List D}{G:DH}{k:D->DH->Prop}{E:EK}(h:s≠name)(hk:k (.bl false) G):(aP gA).t [.str name,.int m,.tup (.str s::r)] G k E:=
 dO (by unfold gA;dsimp only;rw[cy.mpr h,Bool.and_false]) hk
theorem aeu{name:List Nat}{m:Int}{r:List D}{G:DH}{k:D->DH->Prop}{E:EK}(h:(r.length:Int)=m)(hk:k (.bl true) G):(aP gA).t [.str name,.int m,.tup (.str name::r)] G k E:=
 dO (by unfold gA;dsimp only;rw[BEq.rfl,fh,aw.mpr (by omega)]) hk
def oI:Option Int->D
 |some i=>.int i
 |none=>.non
inductive T where
 |lf (r:List (Option Int))
 |sp (i:Int) (z o:T)
noncomputable def T.d(name:List Nat):T->D
 |.lf r=>.tup (.str name::r.map oI)
 |.sp i z o=>.tup [.str jZ,.int i,z.d name,o.d name]
def T.dep:T->Nat
 |.lf _=>0
 |.sp _ z o=>max z.dep o.dep+1
def je(b:List Nat)(i:Int):Bool:=decide (0<=i)&&b[i.toNat]?==some 42
noncomputable def T.lvs:T->List Nat->Option (List (List Nat×List (Option Int)))
 |.lf r,b=>some [(b,r)]
 |.sp i z o,b=>match je b i with
  |true=>(match z.lvs (b.set i.toNat 48),o.lvs (b.set i.toNat 49) with |some l,some m=>some (l++m) |_,_=>none)
  |false=>none
def nQ(name:List Nat)(x:List Nat×List (Option Int)):D:=.tup [.str x.1,.tup (.str name::x.2.map oI)]
noncomputable def eU(name:List Nat):Option (List (List Nat×List (Option Int)))->D
 |none=>.non
 |some l=>.lst (l.map (nQ name))
theorem T.lvs_len:∀(t:T){b:List Nat}{l:List (List Nat×List (Option Int))},t.lvs b=some l->l.length<=2 ^ t.dep
 |.lf r,b,l,h=>by cases h;exact Nat.one_le_two_pow
 |.sp i z o,b,l,h=>by
  rw[T.lvs]at h;split at h
  ·split at h
   ·rename_i l1 l2 h1 h2;cases h;have e1:=z.lvs_len h1;have e2:=o.lvs_len h2;have e3:=Nat.pow_le_pow_right (show 0 < 2 by decide) (Nat.le_max_left z.dep o.dep);have e4:=Nat.pow_le_pow_right (show 0 < 2 by decide) (Nat.le_max_right z.dep o.dep);rw[av,T.dep,Nat.pow_succ];omega
   ·cases h
  ·cases h
theorem T.lvs_len'{n:Nat}{t:T}{b:List Nat}{l:List (List Nat×List (Option Int))}(h:t.lvs b=some l)(hn:t.dep < n)(hn':n<=12):l.length<=4096:=by
 have h1:=t.lvs_len h;have h3:=Nat.pow_le_pow_right (show 0 < 2 by decide) (show t.dep<=12 by omega);have h4:2 ^ 12=4096:=by decide
 omega
structure TA where
 name:List Nat
 b:List Nat
 t:T
def PK(n:Nat)(a:TA):Prop:=a.name≠jZ/\a.b.length<=12/\a.t.dep < n/\n<=12
def dY(n:Nat):RF.Spec:=bU (λa:TA=>[.str a.b,a.t.d a.name]) (PK n) (λa=>eU a.name (a.t.lvs a.b))
theorem Ab{n:Nat}{name b:List Nat}{t:T}{G:DH}{k:D->DH->Prop}{E:EK}(h1:name≠jZ)(h2:b.length<=12)(h3:t.dep < n)(h4:n<=12)(hk:k (eU name (t.lvs b)) G):(dY n).t [.str b,t.d name] G k E:=bV ⟨name,b,t⟩ rfl ⟨h1,h2,h3,h4⟩ hk
theorem aev(ds:List D)(G:DH)(a:(dY 0).A):¬(dY 0).pre ds G a:=λ⟨_,_,_,_,h,_⟩=>by omega
theorem aew{b:List Nat}{i:Int}(h:je b i=true):0<=i/\∃n:Nat,i=n/\n < b.length/\b[n]?=some 42:=by
 unfold je at h;rw[ae]at h;have h1:=c8 h.1;have h2:b[i.toNat]?=some 42:=by simpa using h.2
 exact ⟨h1,i.toNat,by omega,(ar.mp h2).1,h2⟩
theorem aex (Φ:aa) (n:Nat) (h0:Φ "leaves"=dY n) (h1:Φ "is_named"=aP gA) (h2:Φ "is_place"=aP fM) (h3:Φ "with_sign"=aP gY) (a:TA) (G:DH) (h:PK (n+1) a):aq Φ iT noE (env0 [.str a.b,a.t.d a.name] 3) G (ends λd G'=>G'=G/\d=eU a.name (a.t.lvs a.b)):=by
 obtain ⟨name,b,t⟩:=a;obtain ⟨hne,hbl,hd,hn⟩:=h;dsimp only at hne hbl hd ⊢;cases t with
 |lf r=>
  simp_all_arith[iT];refine seq λM hM=>?_;simp_arith[h1,T.d];refine aet hne ?_;simp_arith[T.lvs,eU,bq,dQ,nQ];exact ⟨by decide,by decide⟩
 |sp i z o=>
  rw[T.dep]at hd;simp_all_arith[iT];refine seq λM hM=>?_;simp_arith[h1,T.d];refine aeu rfl ?_;simp_arith[ends];refine hM _ _ (seq λM hM=>?_);simp_arith[ends];refine hM _ _ (seq λM hM=>?_);simp_arith[h2];refine dO (d:=.bl (isPlace b.length (.int i))) rfl ?_;cases hst:je b i with
  |false=>
   rw[T.lvs,hst];cases hp:isPlace b.length (.int i) with
   |false=>simp_arith[eU]
   |true=>
    unfold isPlace at hp;rw[ae]at hp;have p1:=c8 hp.1;have p2:=c8 hp.2;obtain ⟨m,rfl⟩:∃m:Nat,i=m:=⟨i.toNat,by omega⟩;have hm:m < b.length:=by omega
    have hc:b[m]?=some b[m]:=bg hm;have hne42:((b[m]==42):Bool)=false:=by unfold je at hst;rw[b9 (by omega),Bool.true_and,de,hc]at hst;simpa using hst
    simp_arith[ends];refine bL (a:=b[m]) (bY hc) ?_;simp_arith[jb,hne42,eU]
  |true=>
   obtain ⟨_,m,rfl,hm,hc⟩:=aew hst;have hp:isPlace b.length (.int (m:Int))=true:=by show (decide (0<=(m:Int))&&decide ((m:Int) < b.length))=true;rw[b9 (by omega),b9 (by omega)];rfl
   have hl:(T.sp (m:Int) z o).lvs b=match z.lvs (b.set m 48),o.lvs (b.set m 49) with |some l,some m=>some (l++m) |_,_=>none:=by rw[T.lvs,hst,de]
   rw[hp];simp_arith[ends];refine bL (a:=42) (bY hc) ?_;simp_arith[BEq.rfl];refine hM _ _ (seq λM hM=>?_);simp_arith[h0,h3];refine vm hm (by omega) (Ab hne (by rw[d4];exact hbl) (by omega) (by omega) (hM _ _ (seq λM hM=>?_)));simp_arith[h0,h3];refine vm hm (by omega) (Ab hne (by rw[d4];exact hbl) (by omega) (by omega) (hM _ _ (seq λM hM=>?_)));cases e1:z.lvs (b.set m 48) with
   |none=>
    rw[e1]at hl;simp_arith[hl,eU]
   |some l1=>
    cases e2:o.lvs (b.set m 49) with
    |none=>
     rw[e1,e2]at hl;simp_arith[hl,eU]
    |some l2=>
     rw[e1,e2]at hl;have q1:=T.lvs_len' e1 (n:=n) (by omega) (by omega);have q2:=T.lvs_len' e2 (n:=n) (by omega) (by omega);simp_arith[eU];refine hM _ _ (last ?_);simp_arith[ag,cm,hl,eU];have hsz:sz=1000000:=rfl;omega
theorem aey(o:Option Nat):aQ o=oI (o.map λn=>(n:Int)):=by cases o <;> rfl
def j5(rss:List (List Row))(c:List Nat):List (Option Int):=rss.map λrs=>(aR rs c).map λn=>(n:Int)
theorem PL{rss:List (List Row)}{c:List Nat}:(j5 rss c).map oI=rss.map λrs=>aQ (aR rs c):=by unfold j5;rw[eL];exact List.map_congr_left λrs _=>(aey _).symm
theorem Lv.tree{name:List Nat}{rss:List (List Row)}{b:List Nat}{d:D}{bs:List (List Nat)}(h:Lv name rss b d bs):∃t:T,d=t.d name/\t.dep<=stc b/\t.lvs b=some (bs.map λc=>(c,j5 rss c)):=by
 induction h with
 |leaf b h=>exact ⟨.lf (j5 rss b),by rw[T.d,PL];rfl,eg _,rfl⟩
 |node b n z o l m h _ _ hz ho=>
  obtain ⟨tz,rfl,d1,e1⟩:=hz;obtain ⟨tO,rfl,d2,e2⟩:=ho;have s1:=j0 h (show 48≠42 by decide);have s2:=j0 h (show 49≠42 by decide);refine ⟨.sp n tz tO,rfl,?_,?_⟩
  ·rw[T.dep];have:=Nat.max_le.mpr ⟨show tz.dep<=stc (b.set n 48) from d1,show tO.dep<=stc (b.set n 48) by omega⟩;omega
  ·have hs:je b (n:Int)=true:=by unfold je;rw[b9 (by omega),de,h];rfl
   rw[T.lvs,hs,de,e1,e2];simp
theorem aez{name:List Nat}{rss:List (List Row)}{c:List Nat}:nQ name (c,j5 rss c)=j4 name rss c:=by unfold nQ j4 nP;rw[PL]
theorem PN{n:Nat}{name:List Nat}{rss:List (List Row)}{b:List Nat}{d:D}{bs:List (List Nat)}{G:DH}{k:D->DH->Prop}{E:EK}(h:Lv name rss b d bs)(h1:name≠jZ)(h2:b.length<=12)(h3:stc b < n)(hk:k (.lst (bs.map (j4 name rss))) G)(h4:n<=12:=by decide):(dY n).t [.str b,d] G k E:=by
 obtain ⟨t,rfl,e1,e2⟩:=h.tree;refine Ab h1 h2 (by omega) h4 ?_;rw[e2,eU,eL];have:(nQ name∘λc=>(c,j5 rss c))=j4 name rss:=by funext c;exact aez
 rw[this];exact hk
def gB:List Nat->List (List Nat)
 |[]=>[[]]
 |c::f=>(alt c).flatMap λs=>(gB f).map (s::·)
theorem PP:∀(f:List Nat)(acc:List (List Nat)),f.foldl step1 acc=acc.flatMap λt=>(gB f).map (t ++ ·)
 |[],acc=>by simp[gB]
 |c::f,acc=>by
  rw[List.foldl_cons,PP f,step1,List.flatMap_assoc];congr 1;funext t;rw[gB,List.flatMap_map,List.map_flatMap];congr 1;funext s;rw[eL];congr 1;funext x;simp
theorem PQ(f:List Nat):fL f=gB f:=by unfold fL;rw[PP];simp
def bz(l:List Nat):List Nat:=l.map λa=>if a=42 then 48 else a
noncomputable def jf:List D->Option D
 |[.str l]=>if decide (l.length<=1000) then some (.str (bz l)) else none
 |_=>none
theorem P0{l:List Nat}{G:DH}{k:D->DH->Prop}{E:EK}(h:l.length<=1000)(hk:k (.str (bz l)) G):(aP jf).t [.str l] G k E:=dO (if_pos (b9 h)) hk
theorem aeA{b l:List Nat}{n:Nat}(h:Fits b l)(hn:b[n]?=some 42):Fits (b.set n 48) l\/Fits (b.set n 49) l:=by
 obtain ⟨hl,he⟩:=ar.mp hn;have hnl:n < l.length:=by rw[<-h.1];exact hl
 have hs:=h.2 n 42 l[n] hn (bg hnl);have put:∀c,l[n]=c->c≠42->Fits (b.set n c) l:=by
  intro c hc hc42;refine ⟨by rw[d4];exact h.1,λi x y hx hy=>?_⟩;rw[List.getElem?_set]at hx;by_cases hi:n=i
  ·subst hi;rw[if_pos rfl,if_pos hl]at hx;rw[bg hnl]at hy;cases hx;cases hy;unfold alt;rw[if_neg hc42,hc];simp
  ·rw[if_neg hi]at hx;exact h.2 i x y hx hy
 unfold alt at hs;rw[if_pos rfl]at hs;have:l[n]=48\/l[n]=49:=by simpa using hs
 rcases this with e |e
 ·exact .inl (put 48 e (by decide))
 ·exact .inr (put 49 e (by decide))
theorem Qa{b l:List Nat}{n c:Nat}(h:Fits (b.set n c) l)(hn:b[n]?=some 42)(hc:c=48\/c=49):Fits b l:=by
 have hl:=(ar.mp hn).1;refine ⟨by have:=h.1;rwa [d4]at this,λi x y hx hy=>?_⟩;by_cases hi:n=i
 ·subst hi;rw[hn]at hx;cases hx;have:=h.2 n c y (by rw[List.getElem?_set,if_pos rfl,if_pos hl]) hy;unfold alt at this ⊢;rw[if_neg (by omega)]at this;rw[if_pos rfl];have e:y=c:=by simpa using this
  rw[e];simpa using hc
 ·exact h.2 i x y (by rw[List.getElem?_set,if_neg hi];exact hx) hy
theorem Lv.cover{name:List Nat}{rss:List (List Row)}{b:List Nat}{d:D}{bs:List (List Nat)}(h:Lv name rss b d bs):∀l,Fits b l->∃c∈bs,Fits c l:=by
 induction h with
 |leaf b h=>exact λl hl=>⟨b,by simp,hl⟩
 |node b n z o l m h _ _ hz ho=>
  intro w hw;rcases aeA hw h with e |e
  ·obtain ⟨c,hc,hf⟩:=hz w e;exact ⟨c,a7.mpr (.inl hc),hf⟩
  ·obtain ⟨c,hc,hf⟩:=ho w e;exact ⟨c,a7.mpr (.inr hc),hf⟩
theorem Lv.within{name:List Nat}{rss:List (List Row)}{b:List Nat}{d:D}{bs:List (List Nat)}(h:Lv name rss b d bs):∀c∈bs,∀l,Fits c l->Fits b l:=by
 induction h with
 |leaf b h=>intro c hc l hl;rw[ay.mp hc]at hl;exact hl
 |node b n z o l m h _ _ hz ho=>
  intro c hc w hw;rcases a7.mp hc with hc |hc
  ·exact Qa (hz c hc w hw) h (.inl rfl)
  ·exact Qa (ho c hc w hw) h (.inr rfl)
theorem aeB{a s:Nat}{f l:List Nat}(h:Fits (a::f) (s::l)):s∈alt a/\Fits f l:=
 ⟨h.2 0 a s rfl rfl,by have:=h.1;simpa using this,λi c t h1 h2=>h.2 (i+1) c t (by simpa using h1) (by simpa using h2)⟩
theorem aeC{a s:Nat}{f l:List Nat}(h1:s∈alt a)(h2:Fits f l):Fits (a::f) (s::l):=⟨by simp[h2.1],λi c t hc ht=>by
 cases i with
 |zero=>simp at hc ht;rw[<-hc,<-ht];exact h1
 |succ i=>exact h2.2 i c t (by simpa using hc) (by simpa using ht)⟩
theorem nR:∀c:List Nat,Fits c (bz c)
 |[]=>⟨rfl,λi c s h=>by simp at h⟩
 |a::c=>by
  show Fits (a::c) ((if a=42 then 48 else a)::bz c);refine aeC ?_ (nR c);unfold alt;split <;> simp
theorem Ac:∀{c l:List Nat},Fits c l->¬l < bz c
 |[],l,h=>by
  have:l=[]:=df.mp h.1.symm;subst this;exact List.lt_irrefl _
 |a::c,[],h=>by have:=h.1;simp at this
 |a::c,s::l,h=>by
  obtain ⟨h1,h2⟩:=aeB h;show ¬(s::l) < ((if a=42 then 48 else a)::bz c);rw[gl];have ih:=Ac h2;unfold alt at h1;split at h1
  ·rename_i e;rw[if_pos e];have:s=48\/s=49:=by simpa using h1
   rintro (q |q)
   ·omega
   ·exact ih q.2
  ·rename_i e;rw[if_neg e];have:s=a:=by simpa using h1
   rintro (q |q)
   ·omega
   ·exact ih q.2
theorem Ad:∀{x m a:List Nat},x < m->¬a < m->x < a
 |x,[],a,h,_=>absurd h (by simp)
 |x,b::m,[],_,h=>absurd (by simp) h
 |[],b::m,y::a,_,_=>by simp
 |c::x,b::m,y::a,h,g=>by
  rw[gl]at h g ⊢;have g1:¬y < b:=λe=>g (.inl e);rcases h with h |⟨h1,h2⟩
  ·exact .inl (by omega)
  ·by_cases e:y=b
   ·exact .inr ⟨by omega,Ad h2 λz=>g (.inr ⟨e,z⟩)⟩
   ·exact .inl (by omega)
theorem Ae:∀f:List Nat,(gB f).Pairwise (· < ·)
 |[]=>by simp[gB]
 |c::f=>by
  have ih:=Ae f;have one:∀s:Nat,((gB f).map (s::·)).Pairwise (· < ·):=λs=>List.pairwise_map.mpr (ih.imp λh=>gl.mpr (.inr ⟨rfl,h⟩));rw[gB];unfold alt;split
  ·rw[List.flatMap_cons,List.flatMap_cons,List.flatMap_nil,dy,List.pairwise_append];refine ⟨one 48,one 49,λa ha b hb=>?_⟩;obtain ⟨x,_,rfl⟩:=ba.mp ha;obtain ⟨y,_,rfl⟩:=ba.mp hb;exact gl.mpr (.inl (by decide))
  ·rw[List.flatMap_cons,List.flatMap_nil,dy];exact one c
theorem Qc{u:List (List Nat)}{m:List Nat}(h:u.Pairwise (· < ·))(hm:m∈u)(hl:∀x∈u,¬x < m):u.head?=some m:=by
 cases u with
 |nil=>cases hm
 |cons a u=>
  rcases a9.mp hm with e |hm
  ·rw[e];rfl
  ·exact absurd ((List.pairwise_cons.mp h).1 m hm) (hl a bS)
theorem Qd{ds:List D}{ls:List (List Nat)}{k:D->Prop}(h0:bZ ds=none)(h:bw ds=some ls)(hk:∀m,m∈ls->(∀a,a∈ls->¬a < m)->k (.str m)):opB .min [.lst ds] k:=by show kZ [.lst ds] k;unfold kZ;dsimp only;rw[h0,h];exact hk
def Qe:List Nat:=[117,110,100,101,114]
def Qf:List Nat:=[119,111,114,100]
def dF:List Nat:=[104,105,100,100,101,110]
def cO(rs:List Row)(n:Nat)(f:List Nat):List (List Nat):=(fL f).filter λl=>(bj (rs.take n) l).isNone
def j6:RF.Spec:=bU (λa:Nat×List Row×Nat=>[az a.1 a.2.1,.int a.2.2]) (λa=>okB a.1 a.2.1/\a.2.2 < a.2.1.length) (λ_=>.non)
theorem vo{w n:Nat}{rs:List Row}{G:DH}{k:D->DH->Prop}{E:EK}(h:okB w rs)(hn:n < rs.length)(hk:k .non G):j6.t [az w rs,.int n] G k E:=bV (w,rs,n) rfl ⟨h,hn⟩ hk
theorem aeD (Φ:aa) (h1:Φ "need_book"=gW) (h2:Φ "is_place"=aP fM) (a:Nat×List Row×Nat) (G:DH) (h:okB a.1 a.2.1/\a.2.2 < a.2.1.length):aq Φ mO noE (env0 [az a.1 a.2.1,.int a.2.2] 0) G (ends λd G'=>G'=G/\d=.non):=by obtain ⟨w,rs,n⟩:=a;obtain ⟨hb,hn⟩:=h;dsimp only at hb hn ⊢;simp_all_arith[mO];refine seq λM hM=>?_;simp_arith[h1];refine jX hb (hM _ _ (last ?_));simp_arith[az,h2,ag];refine aer hn ?_;simp_arith[and_self]
def Af(rs:List Row)(n:Nat)(f:List Nat)(d:D):Prop:=
 (∃m,(cO rs n f).head?=some m/\d=.tup [.str Qf,.str m])\/(cO rs n f=[]/\∃t bs,d=.tup [.str dF,t]/\Lv Qe [rs.take n] f t bs/\∀c∈bs,(aR (rs.take n) c).isSome=true)
def vp:RF.Spec:=ghS (A:=Nat×List Row×Nat) (λa ds _=>ds=[az a.1 a.2.1,.int a.2.2]/\okB a.1 a.2.1/\a.2.2 < a.2.1.length) (λa G d G'=>G'=G/\∃r,a.2.1[a.2.2]?=some r/\Af a.2.1 a.2.2 r.1 d)
theorem aeE{w n:Nat}{rs:List Row}{r:Row}{G:DH}{k:D->DH->Prop}{E:EK}(h:okB w rs)(hn:rs[n]?=some r)(hk:∀d,Af rs n r.1 d->k d G):vp.t [az w rs,.int n] G k E:=
 bM (w,rs,n) ⟨rfl,h,(ar.mp hn).1⟩ λd G' hx=>by
  obtain ⟨e,r',er,q⟩:=hx;subst e;have er:rs[n]?=some r':=er;rw[hn]at er;cases er;exact hk d q
theorem aeF{l:List D}{n:Nat}:cut l none (some (n:Int))=l.take n:=uR l n
theorem aeG (Φ:aa) (h1:Φ "need_row"=j6) (h2:Φ "grown"=eQ 9) (h3:Φ "leaves"=dY 9) (h4:Φ "least"=aP jf) (a:Nat×List Row×Nat) (ds:List D) (G:DH) (h:ds=[az a.1 a.2.1,.int a.2.2]/\okB a.1 a.2.1/\a.2.2 < a.2.1.length):
  aq Φ mW noE (env0 ds 4) G (ends λd G'=>G'=G/\∃r,a.2.1[a.2.2]?=some r/\Af a.2.1 a.2.2 r.1 d):=by
 obtain ⟨w,rs,n⟩:=a;obtain ⟨rfl,hb,hn⟩:=h;dsimp only at hb hn ⊢;have hw6:=hb.w6;have hc:rs[n]?=some rs[n]:=bg hn;have hf:=hb.form rs[n] (dn hn);have hfl:=hf.1;have hrt:∀r∈rs.take n,okF w r.1:=λr hr=>hb.form r (List.mem_of_mem_take hr);simp_all_arith[mW];refine seq λM hM=>?_;simp_arith[h1];refine vo hb hn (hM _ _ (seq λM hM=>?_));simp_arith[az];refine hM _ _ (seq λM hM=>?_);simp_arith[ends];refine bL (a:=aB rs[n]) (bY (by rw[bp,hc];rfl)) ?_;simp_arith[aB];refine hM _ _ (seq λM hM=>?_);simp_arith[h2,aeF];have er:[D.tup (List.take n (rs.map aB))]=dX [rs.take n]:=by rw[<-List.map_take];rfl
 have hst:stc rs[n].1<=6:=br List.countP_le_length (by omega);rw[er];refine ⟨by decide,vh (name:=Qe) ⟨by simp,by decide,λrs' hrs' r hr=>by rw[ay.mp hrs']at hr;exact (hrt r hr).1,by omega⟩ hfl (by omega) λt ht=>hM _ _ (seq λM hM=>?_)⟩;obtain ⟨bs,hL⟩:=ht.lv;have hlen:=hL.len' (by omega);simp_arith[h3];refine PN hL (by decide) (by omega) (by omega) ?_;simp_arith[ends];refine CompG.inv (P:=λi acc ρ G'=>(∃o1 o2,ρ=[o1,o2])/\G'=G/\acc=((bs.take i).filter λc=>(aR (rs.take n) c).isNone).map λc=>D.str (bz c)) ⟨⟨_,_,rfl⟩,rfl,rfl⟩ (λ_ _ _ _ _=>trivial) (by rw[ag];have hsz:sz=1000000:=rfl;omega) ?_ ?_
 ·rintro i d acc ρ G' hd ⟨⟨o1,o2,rfl⟩,rfl,rfl⟩ kk hk;rw[bp]at hd;obtain ⟨c,hcb,rfl⟩:=aS.mp hd;have hcl:=(hL.box c (ce hcb)).1;have htk:bs.take (i+1)=bs.take i++[c]:=by rw[fm,hcb];rfl
  simp_arith[j4,nP,bq,dQ];cases htc:aR (rs.take n) c with
  |some j=>
   simp_arith[aQ];exact hk _ _ _ ⟨⟨_,_,rfl⟩,rfl,by rw[htk,e7];simp[htc]⟩
  |none=>
   simp_arith[aQ,h4];refine P0 (by omega) (hk _ _ _ ⟨⟨_,_,rfl⟩,rfl,by rw[htk,e7];simp[htc]⟩)
 ·rintro acc ρ G' ⟨_,rfl,rfl⟩;rw[ag,gs];refine hM _ _ (seq λM hM=>?_);have meet:∀c∈bs,∀l,Fits c l->bj (rs.take n) l=aR (rs.take n) c:=by
   intro c hc l hl;obtain ⟨e1,e2⟩:=hL.box c hc;have okc:=hL.okf hf c hc;exact Py (λr hr=>by rw[(hrt r hr).1,e1,hfl]) (e2 _ (by simp)) (Pz okc hl) hl
  cases hfr:bs.filter λc=>(aR (rs.take n) c).isNone with
  |nil=>
   have hall:∀c∈bs,(aR (rs.take n) c).isSome=true:=by
    intro c hc;have:=e6.mp hfr c hc;cases h:aR (rs.take n) c with
    |none=>rw[h]at this;exact absurd rfl this
    |some _=>rfl
   simp_arith[dQ];refine hM _ _ (last ?_);simp_arith[ends];refine ⟨by decide,rs[n],hc,.inr ⟨?_,t,bs,rfl,hL,hall⟩⟩;unfold cO;rw[e6];intro l hl;obtain ⟨c,hc',hfc⟩:=hL.cover l (iZ.mp hl);rw[meet c hc' l hfc];have:=hall c hc';cases h:aR (rs.take n) c with
   |none=>rw[h]at this;cases this
   |some _=>simp
  |cons c0 cs=>
   have hne:(!(List.isEmpty (D.str (bz c0)::cs.map λc=>D.str (bz c))))=true:=rfl;simp_arith[bq,hne];rw[<-bq (f:=λc=>D.str (bz c)),<-hfr];have es:bw ((bs.filter λc=>(aR (rs.take n) c).isNone).map λc=>D.str (bz c))=some ((bs.filter λc=>(aR (rs.take n) c).isNone).map bz):=strs_map _ _;have ei:bZ ((bs.filter λc=>(aR (rs.take n) c).isNone).map λc=>D.str (bz c))=none:=by rw[hfr];rfl
   refine Qd ei es λm hm hlow=>?_;obtain ⟨c,hcm,rfl⟩:=ba.mp hm;obtain ⟨hcb,hcn⟩:=dv.mp hcm;have htn:aR (rs.take n) c=none:=by simpa using hcn
   refine ⟨by decide,rs[n],hc,.inl ⟨bz c,?_,rfl⟩⟩;refine Qc ?_ ?_ ?_
   ·unfold cO;rw[PQ];exact (Ae _).filter _
   ·unfold cO;rw[dv];refine ⟨iZ.mpr (hL.within c hcb _ (nR c)),?_⟩;rw[meet c hcb _ (nR c),htn];rfl
   ·intro x hx hlt;unfold cO at hx;obtain ⟨hx1,hx2⟩:=dv.mp hx;obtain ⟨c',hc',hfc⟩:=hL.cover x (iZ.mp hx1);rw[meet c' hc' x hfc]at hx2;have hlow':=hlow (bz c') (ba.mpr ⟨c',dv.mpr ⟨hc',hx2⟩,rfl⟩);exact Ac hfc (Ad hlt hlow')
def nI(n:Nat):D:=.int (n:Int)
noncomputable def gC(rs:List Row):List Nat:=(List.range rs.length).filter λn=>match rs[n]? with |some r=>(cO rs n r.1).isEmpty |none=>false
theorem aeH{rs:List Row}{i:Nat}{r:Row}(h:rs[i]?=some r):((List.range (i+1)).filter λn=>match rs[n]? with |some r=>(cO rs n r.1).isEmpty |none=>false)=((List.range i).filter λn=>match rs[n]? with |some r=>(cO rs n r.1).isEmpty |none=>false)++(if (cO rs i r.1).isEmpty then [i] else []):=by rw[List.range_succ,e7];congr 1;rw[List.filter_cons,h];cases hf:(cO rs i r.1).isEmpty <;> simp only[hf] <;> rfl
theorem aeI(rs:List Row):(gC rs).length<=rs.length:=br (List.length_filter_le _ _) (by simp)
theorem Ag:∀{l:List D},(∀d∈l,cN d=true)->dh l=true
 |[],_=>rfl
 |a::l,h=>by rw[dh,h a bS,Ag λd hd=>h d (bi _ hd)];rfl
theorem aeJ(l:List Nat):dh (l.map nI)=true:=Ag λd hd=>by obtain ⟨_,_,rfl⟩:=ba.mp hd;rfl
theorem Qg(l:List Nat):nrs (l.map nI)=true:=jO λd hd=>by obtain ⟨_,_,rfl⟩:=ba.mp hd;rfl
theorem aeK(l:List Nat):aO (l.map nI)=0:=Nat.le_zero.mp (jP λd hd=>by obtain ⟨_,_,rfl⟩:=ba.mp hd;exact ax _)
theorem aeL{w:Nat}{G:DH}{k:D->DH->Prop}{E:EK}(h:w<=1000)(hk:k (.str (List.replicate w 42)) G):(aP jd).t [.int w] G k E:=
 dO (d:=.str (List.replicate w 42)) (by unfold jd;dsimp only;rw[if_pos (by simp only[ae,bv];omega),de]) hk
def Qh:List Nat:=[115,97,109,101]
def Qi:List Nat:=[112,97,114,116,101,100]
def Qj:List Nat:=[97,108,105,107,101]
def vq:RF.Spec:=bU (λa:Nat×List Row×List Row=>[az a.1 a.2.1,az a.1 a.2.2]) (λa=>okB a.1 a.2.1/\okB a.1 a.2.2) (λ_=>.non)
theorem aeM{w:Nat}{rs ss:List Row}{G:DH}{k:D->DH->Prop}{E:EK}(h:okB w rs)(h':okB w ss)(hk:k .non G):vq.t [az w rs,az w ss] G k E:=bV (w,rs,ss) rfl ⟨h,h'⟩ hk
theorem aeN (Φ:aa) (h1:Φ "need_book"=gW) (a:Nat×List Row×List Row) (G:DH) (h:okB a.1 a.2.1/\okB a.1 a.2.2):aq Φ mG noE (env0 [az a.1 a.2.1,az a.1 a.2.2] 0) G (ends λd G'=>G'=G/\d=.non):=by obtain ⟨w,rs,ss⟩:=a;obtain ⟨hb,hc⟩:=h;dsimp only at hb hc ⊢;simp_all_arith[mG];refine seq λM hM=>?_;simp_arith[h1];refine jX hb (hM _ _ (seq λM hM=>?_));simp_arith[h1];refine jX hc (hM _ _ (last ?_));simp_arith[az,BEq.rfl,and_self]
def bI(rs:List Row)(o:Option Nat):Option (List Nat):=o.bind λn=>rs[n]?.map (·.2)
theorem Ah{rs:List Row}{o:Option Nat}:di rs o=dj (bI rs o):=by
 cases o with
 |none=>rfl
 |some n=>
  unfold di bI;dsimp only[Option.bind];cases rs[n]? <;> rfl
structure SD where
 w:Nat
 rs:List Row
 ss:List Row
 name:List Nat
 o:Option Nat
 p:Option Nat
def sSD:RF.Spec:=bU (λa:SD=>[az a.w a.rs,az a.w a.ss,.tup [.str a.name,aQ a.o,aQ a.p]]) (λa=>(∀n,a.o=some n->n < a.rs.length)/\∀n,a.p=some n->n < a.ss.length) (λa=>.bl (bI a.rs a.o==bI a.ss a.p))
theorem aeO{w:Nat}{rs ss:List Row}{name:List Nat}{o p:Option Nat}{G:DH}{k:D->DH->Prop}{E:EK}(h1:∀n,o=some n->n < rs.length)(h2:∀n,p=some n->n < ss.length)(hk:k (.bl (bI rs o==bI ss p)) G):sSD.t [az w rs,az w ss,.tup [.str name,aQ o,aQ p]] G k E:=bV ⟨w,rs,ss,name,o,p⟩ rfl ⟨h1,h2⟩ hk
theorem aeP (Φ:aa) (h1:Φ "deed_of"=nH) (a:SD) (G:DH) (h:(∀n,a.o=some n->n < a.rs.length)/\∀n,a.p=some n->n < a.ss.length):aq Φ mH noE (env0 [az a.w a.rs,az a.w a.ss,.tup [.str a.name,aQ a.o,aQ a.p]] 0) G (ends λd G'=>G'=G/\d=.bl (bI a.rs a.o==bI a.ss a.p)):=by obtain ⟨w,rs,ss,name,o,p⟩:=a;obtain ⟨ho,hp⟩:=h;dsimp only at ho hp ⊢;simp_arith[mH,h1];refine z9 ho (z9 hp ?_);rw[Ah,Ah];cases bI rs o <;> cases bI ss p <;> simp_arith[dj] <;> first |done | (simp;done) | (refine ⟨by decide,?_⟩;simp;done)
noncomputable def dD(w:Nat)(rs ss:List Row):List (List Nat):=(fL (List.replicate w 42)).filter λl=>!(bI rs (bj rs l)==bI ss (bj ss l))
def eV(rs ss:List Row)(c:List Nat):Bool:=bI rs (aR rs c)==bI ss (aR ss c)
def Ai(w:Nat)(rs ss:List Row)(d:D):Prop:=
 (∃m,(dD w rs ss).head?=some m/\d=.tup [.str Qi,.str m])\/(dD w rs ss=[]/\∃t bs,d=.tup [.str Qj,t]/\Lv Qh [rs,ss] (List.replicate w 42) t bs/\∀c∈bs,eV rs ss c=true)
def vy:RF.Spec:=ghS (A:=Nat×List Row×List Row) (λa ds _=>ds=[az a.1 a.2.1,az a.1 a.2.2]/\okB a.1 a.2.1/\okB a.1 a.2.2) (λa G d G'=>G'=G/\Ai a.1 a.2.1 a.2.2 d)
theorem aeQ{w:Nat}{rs ss:List Row}{G:DH}{k:D->DH->Prop}{E:EK}(h:okB w rs)(h':okB w ss)(hk:∀d,Ai w rs ss d->k d G):vy.t [az w rs,az w ss] G k E:=
 bM (w,rs,ss) ⟨rfl,h,h'⟩ λd G' hx=>by
  obtain ⟨e,q⟩:=hx;subst e;exact hk d q
theorem aeR (Φ:aa) (h1:Φ "need_two_books"=vq) (h2:Φ "grown"=eQ 9) (h3:Φ "leaves"=dY 9) (h4:Φ "least"=aP jf) (h5:Φ "stars"=aP jd) (h6:Φ "same_deeds"=sSD) (a:Nat×List Row×List Row) (ds:List D) (G:DH) (h:ds=[az a.1 a.2.1,az a.1 a.2.2]/\okB a.1 a.2.1/\okB a.1 a.2.2):
  aq Φ mK noE (env0 ds 3) G (ends λd G'=>G'=G/\Ai a.1 a.2.1 a.2.2 d):=by
 obtain ⟨w,rs,ss⟩:=a;obtain ⟨rfl,hb,hb'⟩:=h;dsimp only at hb hb' ⊢;have hw6:=hb.w6;have hst:=aep w;have hrl:∀r∈rs,r.1.length=w:=λr hr=>(hb.form r hr).1;have hsl:∀r∈ss,r.1.length=w:=λr hr=>(hb'.form r hr).1;have e0:∀xs:List Row,D.tup [.int w,.tup (xs.map aB)]=az w xs:=λ_=>rfl;simp_all_arith[mK];refine seq λM hM=>?_;simp_arith[h1];refine aeM hb hb' (hM _ _ (seq λM hM=>?_));simp_arith[az,h5];refine aeL (by omega) (hM _ _ (seq λM hM=>?_));simp_arith[h2];have er:[D.tup (rs.map aB),.tup (ss.map aB)]=dX [rs,ss]:=rfl;rw[er];refine ⟨by decide,vh (name:=Qh) ⟨by simp,by decide,λxs hxs r hr=>?_,by omega⟩ cw (by omega) λt ht=>hM _ _ (seq λM hM=>?_)⟩
 ·rcases a9.mp hxs with e |hxs
  ·rw[e]at hr;exact hrl r hr
  ·rw[ay.mp hxs]at hr;exact hsl r hr
 obtain ⟨bs,hL⟩:=ht.lv;have hlen:=hL.len' (by rw[cw];omega);simp_arith[h3];refine PN hL (by decide) (by rw[cw];omega) (by omega) ?_;simp_arith[ends];refine CompG.inv (P:=λi acc ρ G'=>(∃o1 o2,ρ=[o1,o2,some (.tup [.int w,.tup (rs.map aB)]),some (.tup [.int w,.tup (ss.map aB)])])/\G'=G/\acc=((bs.take i).filter λc=>!eV rs ss c).map λc=>D.str (bz c)) ⟨⟨_,_,rfl⟩,rfl,rfl⟩ (λ_ _ _ _ _=>trivial) (by rw[ag];have hsz:sz=1000000:=rfl;omega) ?_ ?_
 ·rintro i d acc ρ G' hd ⟨⟨o1,o2,rfl⟩,rfl,rfl⟩ kk hk;rw[bp]at hd;obtain ⟨c,hcb,rfl⟩:=aS.mp hd;have hcl:=(hL.box c (ce hcb)).1;rw[cw]at hcl;have htk:bs.take (i+1)=bs.take i++[c]:=by rw[fm,hcb];rfl
  simp_arith[j4,nP,bq,dQ,h6];rw[e0,e0];refine aeO (λn hn=>vg hn) (λn hn=>vg hn) ?_;have es:(bI rs (aR rs c)==bI ss (aR ss c))=eV rs ss c:=rfl;rw[es];cases hsb:eV rs ss c with
  |true=>
   simp_arith[ends];exact hk _ _ _ ⟨⟨_,_,rfl⟩,rfl,by rw[htk,e7];simp[hsb]⟩
  |false=>
   simp_arith[h4];refine P0 (by omega) (hk _ _ _ ⟨⟨_,_,rfl⟩,rfl,by rw[htk,e7];simp[hsb]⟩)
 ·rintro acc ρ G' ⟨_,rfl,rfl⟩;rw[ag,gs];refine hM _ _ (seq λM hM=>?_);have meet:∀xs∈[rs,ss],∀c∈bs,∀l,Fits c l->bj xs l=aR xs c:=by
   intro xs hxs c hc l hl;obtain ⟨e1,e2⟩:=hL.box c hc;rw[cw]at e1;have okc:=hL.okf (ad3 w) c hc;refine Py (λr hr=>?_) (e2 _ hxs) (Pz okc hl) hl;rcases a9.mp hxs with e |hxs
   ·rw[e]at hr;rw[hrl r hr,e1]
   ·rw[ay.mp hxs]at hr;rw[hsl r hr,e1]
  have both:∀c∈bs,∀l,Fits c l->(bI rs (bj rs l)==bI ss (bj ss l))=eV rs ss c:=by intro c hc l hl;rw[meet rs (by simp) c hc l hl,meet ss (by simp) c hc l hl];rfl
  cases hfr:bs.filter λc=>!eV rs ss c with
  |nil=>
   have hall:∀c∈bs,eV rs ss c=true:=by
    intro c hc;have:=e6.mp hfr c hc;cases h:eV rs ss c with
    |false=>rw[h]at this;exact absurd rfl this
    |true=>rfl
   simp_arith[dQ];refine hM _ _ (last ?_);simp_arith[ends];refine ⟨by decide,.inr ⟨?_,t,bs,rfl,hL,hall⟩⟩;unfold dD;rw[e6];intro l hl;obtain ⟨c,hc',hfc⟩:=hL.cover l (iZ.mp hl);rw[both c hc' l hfc,hall c hc'];simp
  |cons c0 cs=>
   have hne:(!(List.isEmpty (D.str (bz c0)::cs.map λc=>D.str (bz c))))=true:=rfl;simp_arith[bq,hne];rw[<-bq (f:=λc=>D.str (bz c)),<-hfr];have es:bw ((bs.filter λc=>!eV rs ss c).map λc=>D.str (bz c))=some ((bs.filter λc=>!eV rs ss c).map bz):=strs_map _ _;have ei:bZ ((bs.filter λc=>!eV rs ss c).map λc=>D.str (bz c))=none:=by rw[hfr];rfl
   refine Qd ei es λm hm hlow=>?_;obtain ⟨c,hcm,rfl⟩:=ba.mp hm;obtain ⟨hcb,hcn⟩:=dv.mp hcm;refine ⟨by decide,.inl ⟨bz c,?_,rfl⟩⟩;refine Qc ?_ ?_ ?_
   ·unfold dD;rw[PQ];exact (Ae _).filter _
   ·unfold dD;rw[dv];refine ⟨iZ.mpr (hL.within c hcb _ (nR c)),?_⟩;rw[both c hcb _ (nR c)];exact hcn
   ·intro x hx hlt;unfold dD at hx;obtain ⟨hx1,hx2⟩:=dv.mp hx;obtain ⟨c',hc',hfc⟩:=hL.cover x (iZ.mp hx1);rw[both c' hc' x hfc]at hx2;have hlow':=hlow (bz c') (ba.mpr ⟨c',dv.mpr ⟨hc',hx2⟩,rfl⟩);exact Ac hfc (Ad hlt hlow')
def nT:RF.Spec:=bU (λa:Nat×List Row×List Row=>[az a.1 a.2.1,az a.1 a.2.2]) (λa=>okB a.1 a.2.1/\okB a.1 a.2.2) (λa=>dj (dD a.1 a.2.1 a.2.2).head?)
theorem Qk{w:Nat}{rs ss:List Row}{G:DH}{k:D->DH->Prop}{E:EK}(h:okB w rs)(h':okB w ss)(hk:k (dj (dD w rs ss).head?) G):nT.t [az w rs,az w ss] G k E:=bV (w,rs,ss) rfl ⟨h,h'⟩ hk
theorem aeS (Φ:aa) (h1:Φ "alike"=vy) (a:Nat×List Row×List Row) (G:DH) (h:okB a.1 a.2.1/\okB a.1 a.2.2):aq Φ mL noE (env0 [az a.1 a.2.1,az a.1 a.2.2] 2) G (ends λd G'=>G'=G/\d=dj (dD a.1 a.2.1 a.2.2).head?):=by
 obtain ⟨w,rs,ss⟩:=a;obtain ⟨hb,hb'⟩:=h;dsimp only at hb hb' ⊢;have eb:(([97,108,105,107,101]==[112,97,114,116,101,100]):Bool)=false:=by decide
 simp_all_arith[mL];refine seq λM hM=>?_;simp_arith[h1];refine aeQ hb hb' λd hq=>?_;rcases hq with ⟨m,hm,rfl⟩ |⟨hnil,t,bs,rfl,_,_⟩
 ·simp_arith[Qi];refine hM _ _ (last ?_);simp_arith[BEq.rfl,hm,dj,and_self]
 ·simp_arith[Qj];refine hM _ _ (last ?_);simp_arith[eb,hnil,List.head?_nil,dj,and_self]
theorem Ql{rs:List Row}{n:Nat}(h:n < rs.length):(rs.map aB)[n]?=some (aB (rs.getD n ([],[]))):=by rw[bp,eA,bg h];rfl
def wo(rs:List Row)(n:Nat):List Row:=rs.take n++rs.drop (n+1)
theorem vz{rs:List Row}{n:Nat}(hn:n < rs.length):(wo rs n).length+1=rs.length:=by unfold wo;rw[av,bX,cf];omega
theorem Aj{w n:Nat}{rs:List Row}(hb:okB w rs)(hn:n < rs.length):okB w (wo rs n):=hb.sub (by have:=vz hn;omega) λr hr=>by
 rcases a7.mp hr with h |h
 ·exact List.mem_of_mem_take h
 ·exact List.mem_of_mem_drop h
def sWo:RF.Spec:=bU (λa:Nat×List Row×Nat=>[az a.1 a.2.1,.int a.2.2]) (λa=>okB a.1 a.2.1/\a.2.2 < a.2.1.length) (λa=>az a.1 (wo a.2.1 a.2.2))
theorem Qm{w n:Nat}{rs:List Row}{G:DH}{k:D->DH->Prop}{E:EK}(h:okB w rs)(hn:n < rs.length)(hk:k (az w (wo rs n)) G):sWo.t [az w rs,.int n] G k E:=bV (w,rs,n) rfl ⟨h,hn⟩ hk
theorem Ak{α β:Type}(f:α->β)(l:List α)(n:Nat):cut (l.map f) (some ((n:Int)+1)) none=(l.drop (n+1)).map f:=nJ f l (n+1)
theorem aeT (Φ:aa) (h1:Φ "need_row"=j6) (a:Nat×List Row×Nat) (G:DH) (h:okB a.1 a.2.1/\a.2.2 < a.2.1.length):aq Φ mQ noE (env0 [az a.1 a.2.1,.int a.2.2] 2) G (ends λd G'=>G'=G/\d=az a.1 (wo a.2.1 a.2.2)):=by obtain ⟨w,rs,n⟩:=a;obtain ⟨hb,hn⟩:=h;dsimp only at hb hn ⊢;have hlen:=hb.len;simp_all_arith[mQ];refine seq λM hM=>?_;simp_arith[h1];refine vo hb hn (hM _ _ (seq λM hM=>?_));simp_arith[az];refine hM _ _ (last ?_);simp_arith[jc,Ak,ag,bX,cf];refine ⟨by have hsz:sz=1000000:=rfl;omega,by decide,?_⟩;unfold wo az;rw[cm]
def oS (q:Addr):D:=.obj "Sieve" "books" q
def stk(w:Nat)(bs:List (List Row)):List D:=bs.map (az w)
theorem Al(w:Nat)(as:List (List Row))(rs:List Row):stk w (as++[rs])=stk w as++[az w rs]:=by unfold stk;rw[cm];rfl
theorem Am(w:Nat)(bs:List (List Row)):(stk w bs).length=bs.length:=ag _
structure Sv where
 q:Addr
 w:Nat
 as:List (List Row)
 rs:List Row
def svG(a:Sv)(G:DH):Prop:=G a.q=some (.lst (stk a.w (a.as++[a.rs])))/\a.as.length < 1000/\okB a.w a.rs
def dZ:RF.Spec:=ghS (A:=Sv) (λa ds G=>ds=[oS a.q]/\svG a G) (λa G d G'=>G'=G/\d=az a.w a.rs)
theorem dq{q:Addr}{w:Nat}{as:List (List Row)}{rs:List Row}{G:DH}{k:D->DH->Prop}{E:EK}(h:svG ⟨q,w,as,rs⟩ G)(hk:k (az w rs) G):dZ.t [oS q] G k E:=bM (⟨q,w,as,rs⟩:Sv) ⟨rfl,h⟩ λd G' hx=>by
 obtain ⟨rfl,rfl⟩:=hx;exact hk
theorem aeU(Φ:aa)(a:Sv)(ds:List D)(G:DH)(h:ds=[oS a.q]/\svG a G):aq Φ mX noE (env0 ds 0) G (ends λd G'=>G'=G/\d=az a.w a.rs):=by obtain ⟨q,w,as,rs⟩:=a;obtain ⟨rfl,g,hl,hb⟩:=h;dsimp only at g hl hb ⊢;rw[Al]at g;simp_arith[mX,oS,gf,bG g,kW,and_self,true_and]
def tld(w:Nat)(rs ss:List Row):D:=dj (dD w rs ss).head?
def Qn(a:Sv×List Row)(ds:List D)(G:DH):Prop:=ds=[oS a.1.q,.tup (a.2.map aB)]/\svG a.1 G/\a.1.as.length < 100/\okB a.1.w a.2
def Qo(a:Sv×List Row)(G:DH)(d:D)(G':DH):Prop:=G'=aD G a.1.q (.lst (stk a.1.w (a.1.as++[a.1.rs]++[a.2])))/\d=tld a.1.w a.1.rs a.2
def j7:RF.Spec:=ghS (A:=Sv×List Row) Qn Qo
theorem An{q:Addr}{w:Nat}{as:List (List Row)}{rs ss:List Row}{G:DH}{k:D->DH->Prop}{E:EK}(h:svG ⟨q,w,as,rs⟩ G)(h1:as.length < 100)(h2:okB w ss)(hk:k (tld w rs ss) (aD G q (.lst (stk w (as++[rs]++[ss]))))):j7.t [oS q,.tup (ss.map aB)] G k E:=bM ((⟨q,w,as,rs⟩,ss):Sv×List Row) ⟨rfl,h,h1,h2⟩ λd G' hx=>by
 obtain ⟨rfl,rfl⟩:=hx;exact hk
theorem aeV:(Str.ofString "book"==Str.ofString "books")=false:=by ac_rfl
theorem aeW:(Str.ofString "turn"==Str.ofString "books")=false:=by ac_rfl
theorem du {q:Addr}:cX "Sieve" "book" (.obj "Sieve" "books" q):=⟨rfl,aeV⟩
theorem Ao {q:Addr}:cX "Sieve" "turn" (.obj "Sieve" "books" q):=⟨rfl,aeW⟩
theorem aeX (Φ:aa) (h1:Φ "Sieve.book"=dZ) (h2:Φ "parting_word"=nT) (a:Sv×List Row) (ds:List D) (G:DH) (h:Qn a ds G):aq Φ mY noE (env0 ds 1) G (ends (Qo a G)):=by obtain ⟨⟨q,w,as,rs⟩,ss⟩:=a;obtain ⟨rfl,hv,h100,hss⟩:=h;have hv':=hv;obtain ⟨g,hl,hb⟩:=hv';dsimp only at g hl hb h100 hss ⊢;simp_all_arith[mY];refine seq λM hM=>?_;simp_arith[oS,h1];refine ⟨du,dq hv (hM _ _ (seq λM hM=>?_))⟩;simp_arith[gf,az,dg g,true_and,Am];have e0:∀xs:List Row,D.tup [.int w,.tup (xs.map aB)]=az w xs:=λ_=>rfl;refine ⟨by decide,by rw[av,b6];have hsz:sz=1000000:=rfl;omega,hM _ _ (last ?_)⟩;rw[e0,e0,<-Al];have hv2:svG ⟨q,w,as++[rs],ss⟩ (aD G q (.lst (stk w (as++[rs]++[ss])))):=⟨aW,by rw[av,b6];show as.length+1 < 1000;omega,hss⟩;simp_arith[h1,h2];refine ⟨du,dq hv2 (Qk hb hss ?_)⟩;exact ⟨rfl,rfl⟩
def cF(rs:List Row)(n:Nat)(r:Row):List Row:=rs.take n++[r]++rs.drop n
theorem vA{w n:Nat}{rs:List Row}{r:Row}(hb:okB w rs)(hl:rs.length < 12)(hf:okF w r.1)(hd:okD r.2):okB w (cF rs n r):=by
 have hm:∀x∈cF rs n r,x∈rs\/x=r:=λx hx=>by
  unfold cF at hx;rcases a7.mp hx with h |h
  ·rcases a7.mp h with h |h
   ·exact .inl (List.mem_of_mem_take h)
   ·exact .inr (ay.mp h)
  ·exact .inl (List.mem_of_mem_drop h)
 refine ⟨hb.w1,hb.w6,?_,λx hx=>?_,λx hx=>?_⟩
 ·unfold cF;rw[av,av,bX,cf,b6];omega
 ·rcases hm x hx with h |rfl
  ·exact hb.form x h
  ·exact hf
 ·rcases hm x hx with h |rfl
  ·exact hb.deed x h
  ·exact hd
def mvR(rs:List Row)(n p:Nat):List Row:=cF (wo rs n) p (rs.getD n ([],[]))
theorem getD_mem{rs:List Row}{n:Nat}(hn:n < rs.length):rs.getD n ([],[])∈rs:=by rw[eA,bg hn];exact dn hn
theorem Qp{w n p:Nat}{rs:List Row}(hb:okB w rs)(hn:n < rs.length):okB w (mvR rs n p):=
 vA (Aj hb hn) (by have:=vz hn;have:=hb.len;omega) (hb.form _ (getD_mem hn)) (hb.deed _ (getD_mem hn))
structure Chg where
 s:Sv
 ss:List Row
def j8(a:Chg)(G:DH)(d:D)(G':DH):Prop:=G'=aD G a.s.q (.lst (stk a.s.w (a.s.as++[a.s.rs]++[a.ss])))/\d=tld a.s.w a.s.rs a.ss
structure PutS where
 s:Sv
 n:Nat
 r:Row
def PutS.c(a:PutS):Chg:=⟨a.s,cF a.s.rs a.n a.r⟩
def Qq(a:PutS)(ds:List D)(G:DH):Prop:=ds=[oS a.s.q,.int (a.n:Nat),.str a.r.1,.str a.r.2]/\svG a.s G/\a.s.as.length < 50/\a.n<=a.s.rs.length/\a.s.rs.length < 12/\okF a.s.w a.r.1/\okD a.r.2
def nU:RF.Spec:=ghS (A:=PutS) Qq (λa=>j8 a.c)
theorem aeY (Φ:aa) (h1:Φ "Sieve.book"=dZ) (h2:Φ "Sieve.turn"=j7) (h3:Φ "is_place"=aP fM) (h4:Φ "is_form"=u6) (h5:Φ "is_deed"=u9) (a:PutS) (ds:List D) (G:DH) (h:Qq a ds G):aq Φ mZ noE (env0 ds 2) G (ends (j8 a.c G)):=by
 obtain ⟨⟨q,w,as,rs⟩,n,f,e⟩:=a;obtain ⟨rfl,hv,h50,hn,h12,hf,hd⟩:=h;have hv':=hv;obtain ⟨g,hl,hb⟩:=hv';dsimp only at g hl hb h50 hn h12 hf hd ⊢;have hw6:=hb.w6;simp_all_arith[mZ];refine seq λM hM=>?_;simp_arith[oS,h1];refine ⟨du,dq hv ?_⟩;simp_arith[az];refine hM _ _ (seq λM hM=>?_);simp_arith[h3,ag];have hp:isPlace ((rs.length:Int)+1) (.int (n:Int))=true:=by show (decide (0<=(n:Int))&&decide ((n:Int) < (rs.length:Int)+1))=true;rw[b9 (by omega),b9 (by omega)];rfl
 refine dO (show fM [.int ((rs.length:Int)+1),.int (n:Int)]=some (.bl true) from by rw[<-hp];rfl) ?_;simp_arith[ends];refine hM _ _ (seq λM hM=>?_);simp_arith[h4,h5];have ef:(w:Int)=(f.length:Int):=by rw[hf.1]
 rw[ef];refine bV f rfl ⟨by rw[hf.1];omega,hf.2⟩ ?_;simp_arith[ends];refine bV e rfl hd ?_;simp_arith[ends];refine hM _ _ (seq λM hM=>?_);simp_arith[ag,cq (show ¬(12:Int)<=(rs.length:Int) by omega)];refine hM _ _ (last ?_);simp_arith[h2,jc,nJ,ag,bX,cf];have em:(rs.take n).map aB++[D.tup [.str f,.str e]]++(rs.drop n).map aB=(cF rs n (f,e)).map aB:=by unfold cF;rw[cm,cm];rfl
 rw[em];refine ⟨Ao,by decide,by decide,by have hsz:sz=1000000:=rfl;omega,by rw[av,ag,bX,b6];have hsz:sz=1000000:=rfl;omega,?_⟩;exact An hv (by omega) (vA hb h12 hf hd) ⟨rfl,rfl⟩
structure OutS where
 s:Sv
 n:Nat
def OutS.c(a:OutS):Chg:=⟨a.s,wo a.s.rs a.n⟩
def Qs(a:OutS)(ds:List D)(G:DH):Prop:=ds=[oS a.s.q,.int (a.n:Nat)]/\svG a.s G/\a.s.as.length < 50/\a.n < a.s.rs.length
def Aq:RF.Spec:=ghS (A:=OutS) Qs (λa=>j8 a.c)
theorem aeZ (Φ:aa) (h1:Φ "Sieve.book"=dZ) (h2:Φ "Sieve.turn"=j7) (h3:Φ "without"=sWo) (a:OutS) (ds:List D) (G:DH) (h:Qs a ds G):aq Φ m6 noE (env0 ds 0) G (ends (j8 a.c G)):=by obtain ⟨⟨q,w,as,rs⟩,n⟩:=a;obtain ⟨rfl,hv,h50,hn⟩:=h;have hv':=hv;obtain ⟨g,hl,hb⟩:=hv';dsimp only at g hl hb h50 hn ⊢;simp_all_arith[m6];refine last ?_;simp_arith[oS,h1,h2,h3];refine ⟨Ao,du,dq hv (Qm hb hn ?_)⟩;simp_arith[az];exact An hv (by omega) (Aj hb hn) ⟨rfl,rfl⟩
structure MovS where
 s:Sv
 n:Nat
 p:Nat
def MovS.c(a:MovS):Chg:=⟨a.s,mvR a.s.rs a.n a.p⟩
def Qt(a:MovS)(ds:List D)(G:DH):Prop:=ds=[oS a.s.q,.int (a.n:Nat),.int (a.p:Nat)]/\svG a.s G/\a.s.as.length < 50/\a.n < a.s.rs.length/\a.p < a.s.rs.length
def Ar:RF.Spec:=ghS (A:=MovS) Qt (λa=>j8 a.c)
theorem ae0 (Φ:aa) (h1:Φ "Sieve.book"=dZ) (h2:Φ "Sieve.turn"=j7) (h3:Φ "without"=sWo) (h4:Φ "need_row"=j6) (a:MovS) (ds:List D) (G:DH) (h:Qt a ds G):aq Φ m5 noE (env0 ds 2) G (ends (j8 a.c G)):=by
 obtain ⟨⟨q,w,as,rs⟩,n,p⟩:=a;obtain ⟨rfl,hv,h50,hn,hp⟩:=h;have hv':=hv;obtain ⟨g,hl,hb⟩:=hv';dsimp only at g hl hb h50 hn hp ⊢;have hlen:=hb.len;have hwl:=vz hn;simp_all_arith[m5];refine seq λM hM=>?_;simp_arith[oS,h1,h4];refine ⟨du,dq hv (vo hb hn (hM _ _ (seq λM hM=>?_)))⟩;simp_arith[h1,h4];refine ⟨du,dq hv (vo hb hp (hM _ _ (seq λM hM=>?_)))⟩;simp_arith[h1];refine ⟨du,dq hv ?_⟩;simp_arith[az];refine bL (a:=aB (rs.getD n ([],[]))) (bY (Ql hn)) (hM _ _ (seq λM hM=>?_));simp_arith[h1,h3];refine ⟨du,dq hv (Qm hb hn ?_)⟩;simp_arith[az];refine hM _ _ (last ?_);simp_arith[h2,jc,nJ,ag,bX,cf];have em:((wo rs n).take p).map aB++[aB (rs.getD n ([],[]))]++((wo rs n).drop p).map aB=(mvR rs n p).map aB:=by unfold mvR cF;rw[cm,cm];rfl
 rw[em];refine ⟨Ao,by decide,by have hsz:sz=1000000:=rfl;omega,by rw[av,ag,bX,b6];have hsz:sz=1000000:=rfl;omega,?_⟩;exact An hv (by omega) (Qp hb hn) ⟨rfl,rfl⟩
def Qu(a:Sv×List Row)(G:DH)(d:D)(G':DH):Prop:=G'=aD G a.1.q (.lst (stk a.1.w (a.1.as++[a.1.rs])))/\d=tld a.1.w a.2 a.1.rs
def Qv(a:Sv×List Row)(ds:List D)(G:DH):Prop:=ds=[oS a.1.q]/\G a.1.q=some (.lst (stk a.1.w (a.1.as++[a.1.rs]++[a.2])))/\a.1.as.length < 100/\okB a.1.w a.1.rs/\okB a.1.w a.2
def ae1:RF.Spec:=ghS (A:=Sv×List Row) Qv Qu
theorem ae2 (Φ:aa) (h1:Φ "Sieve.book"=dZ) (h2:Φ "parting_word"=nT) (a:Sv×List Row) (ds:List D) (G:DH) (h:Qv a ds G):aq Φ iU noE (env0 ds 1) G (ends (Qu a G)):=by
 obtain ⟨⟨q,w,as,rs⟩,ss⟩:=a;obtain ⟨rfl,g,h100,hb,hss⟩:=h;dsimp only at g h100 hb hss ⊢;have hl:((stk w (as++[rs]++[ss])).length:Int)≠1:=by rw[Am,av,av];simp;omega
 simp_all_arith[iU];refine seq λM hM=>?_;simp_arith[oS,gf,bG g,true_and,cy.mpr hl];refine hM _ _ (seq λM hM=>?_);simp_arith[gf,true_and];unfold fB;dsimp only;rw[g];dsimp only;rw[Al,av,b6,Nat.add_sub_cancel,fw (ax _),Nat.sub_self,fy];show M _ _;refine hM _ _ (last ?_);have hv2:svG ⟨q,w,as,rs⟩ (aD G q (.lst (stk w (as++[rs])))):=⟨aW,by dsimp only;omega,hb⟩;simp_arith[h1,h2];refine ⟨du,dq hv2 (Qk hss hb ?_)⟩;exact ⟨rfl,rfl⟩
def nW:RF.Spec:=ghS (A:=Nat×List Row) (λa ds _=>ds=[az a.1 a.2]/\okB a.1 a.2) (λa G d G'=>∃q,d=oS q/\G q=none/\G'=aD G q (.lst (stk a.1 [a.2])))
theorem ae3{w:Nat}{rs:List Row}{G:DH}{k:D->DH->Prop}{E:EK}(hb:okB w rs)(hk:∀q,G q=none->k (oS q) (aD G q (.lst (stk w [rs])))):nW.t [az w rs] G k E:=bM (w,rs) ⟨rfl,hb⟩ λd G' hx=>by
 obtain ⟨q,rfl,hq,rfl⟩:=hx;exact hk q hq
theorem ae4 (Φ:aa) (h1:Φ "need_book"=gW) (h2:Φ "Sieve"=nW) (d:D) (G:DH) (kk:D->DH->Prop) (E:EK) (h:(Φ "Sieve").t [d] G kk E):(Φ "need_book").t [d] G (λ_ G1=>∀q,G1 q=none->kk (.obj "Sieve" "books" q) (aD G1 q (.lst [d]))) E:=by
 rw[h2]at h;rw[h1];obtain ⟨⟨⟨w,rs⟩,G0⟩,hp,hq,_⟩:=h;obtain ⟨e,hd,hb⟩:=hp;dsimp only at e hd hb;have hd:d=az w rs:=by simpa using hd
 subst e hd;exact jX hb λq hq'=>hq _ _ ⟨q,rfl,hq',rfl⟩
def lR(rs:List Row):D:=.lst (rs.map aB)
def vB:List Nat:=[112,117,116]
def gD:List Nat:=[98,97,99,107]
def vC:List Nat:=[111,117,116]
def vD:List Nat:=[109,111,118,101]
def vG:RF.Spec:=bU (A:=List Row) (λrs=>[lR rs]) (λrs=>rs.length<=12) (λrs=>.lst ((rs.map (·.1)).map D.str))
theorem ae5{rs:List Row}{G:DH}{k:D->DH->Prop}{E:EK}(h:rs.length<=12)(hk:k (.lst ((rs.map (·.1)).map D.str)) G):vG.t [lR rs] G k E:=bV rs rfl h hk
def Qw:D->D
 |.tup (a::_)=>a
 |_=>.non
theorem ae6(Φ:aa)(rs:List Row)(G:DH)(h:rs.length<=12):aq Φ zx noE (env0 [lR rs] 0) G (ends λd G'=>G'=G/\d=.lst ((rs.map (·.1)).map D.str)):=by
 simp_arith[zx,lR];refine CompG.map (f:=Qw) (I:=λρ=>∃o,ρ=[o]) ⟨_,rfl⟩ trivial (by rw[ag];have hsz:sz=1000000:=rfl;omega) ?_ ?_
 ·rintro d ρ hd ⟨o,rfl⟩ kk hk;obtain ⟨r,_,rfl⟩:=ba.mp hd;simp_arith[aB];exact hk _ ⟨_,rfl⟩
 ·simp_arith[ends];have e:(rs.map aB).map Qw=(rs.map (·.1)).map D.str:=by rw[eL,eL];rfl
  rw[e]
def jg(w:Nat)(as:List (List Row))(rs:List Row)(wd:List Nat)(pc:D)(bs:List Row):Prop:=
 (∃(n:Nat)(r:Row),wd=vB/\pc=.tup [.int (n:Int),.str r.1,.str r.2]/\bs=cF rs n r/\n<=rs.length/\rs.length < 12/\okF w r.1/\okD r.2)\/
 (wd=gD/\pc=.tup []/\∃as',as=as'++[bs])\/
 (∃n:Nat,wd=vC/\pc=.tup [.int (n:Int)]/\bs=wo rs n/\n < rs.length)\/
 (∃n p:Nat,wd=vD/\pc=.tup [.int (n:Int),.int (p:Int)]/\bs=mvR rs n p/\n < rs.length/\p < rs.length)
structure C60 where
 p:Addr
 w:Nat
 as:List (List Row)
 rs:List Row
def Qx(a:C60)(ds:List D)(G:DH):Prop:=ds=[.ref a.p,.int (a.w:Nat),lR a.rs,.lst (a.as.map lR)]/\Pen G a.p/\okB a.w a.rs
def vH(a:C60)(G:DH)(d:D)(G':DH):Prop:=∃wd pc bs,d=.tup [.str wd,pc,lR bs]/\jg a.w a.as a.rs wd pc bs/\Pen G' a.p/\Sb a.p G G'
def vI:RF.Spec:=ghS (A:=C60) Qx vH
theorem ae7{p:Addr}{w:Nat}{as:List (List Row)}{rs:List Row}{G:DH}{k:D->DH->Prop}{E:EK}(hp:Pen G p)(hb:okB w rs)(hk:∀wd pc bs G',jg w as rs wd pc bs->Pen G' p->Sb p G G'->k (.tup [.str wd,pc,lR bs]) G'):vI.t [.ref p,.int (w:Nat),lR rs,.lst (as.map lR)] G k E:=bM (⟨p,w,as,rs⟩:C60) ⟨rfl,hp,hb⟩ λd G' hx=>by
 obtain ⟨wd,pc,bs,rfl,h1,h2,h3⟩:=hx;exact hk wd pc bs G' h1 h2 h3
theorem jh(rs:List Row):nrs (rs.map aB)=true:=jO λd hd=>by obtain ⟨r,_,rfl⟩:=ba.mp hd;rfl
theorem Av(as:List (List Row)):nrs (as.map lR)=true:=jO λd hd=>by
 obtain ⟨r,_,rfl⟩:=ba.mp hd;exact jh r
theorem ae8 (Φ:aa) (h1:Φ "_law_take"=dU) (h2:Φ "_law_form_like"=nA) (h3:Φ "_law_forms"=vG) (h4:Φ "_law_deeds_of"=nF) (a:C60) (ds:List D) (G:DH) (h:Qx a ds G):aq Φ zy noE (env0 ds 6) G (ends (vH a G)):=by
 obtain ⟨p,w,as,rs⟩:=a;obtain ⟨rfl,hp,hb⟩:=h;dsimp only at hp hb ⊢;have hw1:=hb.w1;have hw6:=hb.w6;have hlen:=hb.len;have gr:(nr (lR rs)=true/\nr (D.lst [])=true/\min (dpt (lR rs)) (dpt (.lst []))<=60):=⟨jh rs,rfl,br (d5 _ _) (by decide)⟩;have ge:(nr (.lst (as.map lR))=true/\nr (D.lst [])=true/\min (dpt (.lst (as.map lR))) (dpt (.lst []))<=60):=⟨Av as,rfl,br (d5 _ _) (by decide)⟩;simp_all_arith[zy];refine seq λM hM=>?_;simp_arith[h1];refine bW hp (by decide) (by decide) λkd G1 hkd hp1 sb1=>hM _ _ (seq λM hM=>?_);simp_arith[h1,lR,ag];refine bW hp1 (by omega) (by omega) λn G2 hn hp2 sb2=>hM _ _ ?_;have sb12:=sb1.trans sb2;have eR:D.lst (rs.map aB)=lR rs:=rfl;rw[eR]
 -- put
 have put:∀(R:ak->DH->Prop) o6 o7 o8 o9,rs.length < 12->aq Φ (.cons (.asg (.nm 6) (.call "_law_form_like" (.cons (.var 0) (.cons (.var 1) (.cons (.call "_law_forms" (.cons (.var 2) .nil)) .nil))))) (.cons (.asg (.nm 7) (.idx (.call "_law_deeds_of" (.cons (.var 0) (.cons (.cst (.int 1)) .nil))) (.cst (.int 0)))) (.cons (.ret (.tup (.cons (.cst (.str [112,117,116])) (.cons (.tup (.cons (.var 5) (.cons (.var 6) (.cons (.var 7) .nil)))) (.cons (.bin .Add true (.bin .Add true (.slc true (.var 2) .no (.ob (.var 5))) (.lst true (.cons (.tup (.cons (.var 6) (.cons (.var 7) .nil))) .nil))) (.slc true (.var 2) (.ob (.var 5)) .no)) .nil))))) .nil))) noE [some (.ref p),some (.int (w:Int)),some (lR rs),some (.lst (as.map lR)),some (.int (kd:Int)),some (.int (n:Int)),o6,o7,o8,o9] G2 ⟨R,vH ⟨p,w,as,rs⟩ G,λ_ _=>False,λ_ _=>False⟩:=by
  intro R o6 o7 o8 o9 h12;refine seq λM hM=>?_;simp_arith[h2,h3];refine ae5 hlen (Oz (fs:=rs.map (·.1)) hp2 (by omega) (by omega) rfl (by rw[ag];omega) (λf hf=>?_) λf G3 hf hp3 sb3=>hM _ _ (seq λM hM=>?_))
  ·obtain ⟨r,hr,rfl⟩:=ba.mp hf;exact hb.form r hr
  simp_arith[h4];refine O6 hp3 (by decide) (by decide) λxs G4 hx0 _ hxs hp4 sb4=>?_;simp_arith[ends];refine yV (i:=0) (by decide) (by rw[ag];omega) λy hy=>?_;obtain ⟨e,he,rfl⟩:=ba.mp hy;refine hM _ _ (last ?_);simp_arith[lR,jc,nJ,ag,bX,cf];have em:(rs.take n).map aB++[D.tup [.str f,.str e]]++(rs.drop n).map aB=(cF rs n (f,e)).map aB:=by unfold cF;rw[cm,cm];rfl
  rw[em];repeat refine af (by first |decide | ((try simp only[av,ag,bX,b6]);have hsz:sz=1000000:=rfl;omega)) ?_
  exact ⟨vB,_,cF rs n (f,e),rfl,.inl ⟨n,(f,e),rfl,rfl,rfl,show n<=rs.length by omega,h12,hf,hxs e he⟩,hp4,sb12.trans (sb3.trans sb4)⟩
 have env:[some (D.ref p),some (.int (w:Int)),some (lR rs),some (.lst (as.map lR)),some (.int (kd:Int)),some (.int (n:Int)),none,none,none,none]=[some (D.ref p),some (.int (w:Int)),some (.lst (rs.map aB)),some (.lst (as.map lR)),some (.int (kd:Int)),some (.int (n:Int)),none,none,none,none]:=rfl;refine seq λM hM=>?_;have rest:¬(rs=[]/\as=[])->M [some (D.ref p),some (.int (w:Int)),some (lR rs),some (.lst (as.map lR)),some (.int (kd:Int)),some (.int (n:Int)),none,none,none,none] G2:=λhne=>by
  refine hM _ _ ?_;have back:∀(R:ak->DH->Prop),as≠[]->aq Φ (.cons (.ret (.tup (.cons (.cst (.str [98,97,99,107])) (.cons (.tup .nil) (.cons (.idx (.var 3) (.neg (.cst (.int 1)))) .nil))))) .nil) noE [some (D.ref p),some (.int (w:Int)),some (lR rs),some (.lst (as.map lR)),some (.int (kd:Int)),some (.int (n:Int)),none,none,none,none] G2 ⟨R,vH ⟨p,w,as,rs⟩ G,λ_ _=>False,λ_ _=>False⟩:=λR ha=>by
   have e:as=as.dropLast++[as.getLast ha]:=(eh ha).symm;generalize as.dropLast=as' at e;generalize as.getLast ha=bs at e;subst e;refine last ?_;simp_arith[cm,bq,dQ,kW];exact ⟨by decide,gD,_,bs,rfl,.inr (.inl ⟨rfl,rfl,as',rfl⟩),hp2,sb12⟩
  refine seq λM hM=>?_;have rest2:rs≠[]->M [some (D.ref p),some (.int (w:Int)),some (lR rs),some (.lst (as.map lR)),some (.int (kd:Int)),some (.int (n:Int)),none,none,none,none] G2:=λhr=>by
   have hr0:0 < rs.length:=fF.mpr hr;have hz:((n:Int) % (rs.length:Int))=((n % rs.length:Nat):Int):=by omega
   have hm:n % rs.length < rs.length:=Nat.mod_lt _ hr0;refine hM _ _ (seq λM hM=>?_);simp_arith[lR,ag];rw[hz];generalize n % rs.length=m at hm ⊢;have hwl:=vz hm;have ew:(rs.take m).map aB++(rs.drop (m+1)).map aB=(wo rs m).map aB:=by unfold wo;rw[cm]
   refine ⟨by omega,hM _ _ (seq λM hM=>?_)⟩;by_cases h7:(kd:Int) < 7
   ·simp_arith[b9 h7,jc,Ak,ag,bX,cf];rw[ew];repeat refine af (by first |decide | ((try simp only[av,ag,bX,b6]);have hsz:sz=1000000:=rfl;omega)) ?_
    exact ⟨vC,_,wo rs m,rfl,.inr (.inr (.inl ⟨m,rfl,rfl,rfl,hm⟩)),hp2,sb12⟩
   ·simp_arith[cq h7];refine hM _ _ (seq λM hM=>?_);simp_arith[h1,ag];refine bW hp2 (by omega) (by omega) λpl G3 hpl hp3 sb3=>hM _ _ (seq λM hM=>?_);simp_arith[jc,Ak,ag,bX,cf];rw[ew];repeat refine af (by first |decide | ((try simp only[av,ag,bX,b6]);have hsz:sz=1000000:=rfl;omega)) ?_
    refine hM _ _ (last ?_);simp_arith[jc,nJ,ag,bX,cf];have em:((wo rs m).take pl).map aB++[aB (rs.getD m ([],[]))]++((wo rs m).drop pl).map aB=(mvR rs m pl).map aB:=by unfold mvR cF;rw[cm,cm];rfl
    refine ⟨by decide,bL (a:=aB (rs.getD m ([],[]))) (bY (Ql hm)) ⟨by decide,by have hsz:sz=1000000:=rfl;omega,by rw[av,ag,bX,b6];have hsz:sz=1000000:=rfl;omega,by decide,?_⟩⟩;rw[em];exact ⟨vD,_,mvR rs m pl,rfl,.inr (.inr (.inr ⟨m,pl,rfl,rfl,rfl,hm,show pl < rs.length by omega⟩)),hp3,sb12.trans sb3⟩
  simp_arith![lR,ag,lO];have g1:nrs (rs.map aB)=true/\min (aO (rs.map aB)+1) (0+1)<=60:=⟨jh _,br (d5 _ _) (by decide)⟩;have g2:nrs (as.map lR)=true/\min (aO (as.map lR)+1) (0+1)<=60:=⟨Av _,br (d5 _ _) (by decide)⟩;have tail:(match (rs.map aB).isEmpty with |true=>as≠[] |false=>True):=by
   cases rs with
   |nil=>exact λe=>hne ⟨rfl,e⟩
   |cons r l=>trivial
  cases hk4:((kd:Int)==4) with
  |true=>
   refine ⟨g2,?_⟩;cases as with
   |nil=>
    cases rs with
    |nil=>exact absurd ⟨rfl,rfl⟩ hne
    |cons r l=>exact ⟨g1,rest2 (List.cons_ne_nil _ _)⟩
   |cons x as=>exact back _ (List.cons_ne_nil _ _)
  |false=>
   refine ⟨g1,?_⟩;cases rs with
   |nil=>exact back _ (λe=>hne ⟨rfl,e⟩)
   |cons r l=>exact rest2 (List.cons_ne_nil _ _)
 have ern:∀{r:Row}{l:List Row},bJ ((r::l).map aB) []=false:=λ{r l}=>rfl;simp_arith![lR,ag,lO];cases hk4:decide ((kd:Int) < 4) with
 |true=>
  cases hl:decide ((rs.length:Int) < 12) with
  |true=>exact put _ _ _ _ _ (by have:=c8 hl;omega)
  |false=>
   have hl':¬(rs.length:Int) < 12:=of_decide_eq_false hl;obtain ⟨r,l,rfl⟩:∃r l,rs=r::l:=by
    cases rs with
    |nil=>exact absurd (by decide) hl'
    |cons r l=>exact ⟨r,l,rfl⟩
   exact ⟨⟨jh _,br (d5 _ _) (by decide)⟩,rest λh=>nomatch h.1⟩
 |false=>
  cases rs with
  |cons r l=>exact ⟨⟨jh _,br (d5 _ _) (by decide)⟩,rest λh=>nomatch h.1⟩
  |nil=>
   refine ⟨⟨rfl,by decide⟩,?_⟩;cases as with
   |nil=>exact ⟨⟨rfl,by decide⟩,put _ _ _ _ _ (by decide)⟩
   |cons x as=>exact ⟨⟨Av _,br (d5 _ _) (by decide)⟩,rest λh=>nomatch h.2⟩
noncomputable def elN(wd:List Nat)(as:List (List Row))(rs:List Row):List (List Row):=if wd=gD then as.dropLast else as++[rs]
theorem ae9{w:Nat}{as:List (List Row)}{rs bs:List Row}{wd:List Nat}{pc:D}(hb:okB w rs)(ha:∀x∈as,okB w x)(h:jg w as rs wd pc bs):okB w bs/\(∀x∈elN wd as rs,okB w x)/\(elN wd as rs).length<=as.length+1:=by
 have app:∀x∈as++[rs],okB w x:=λx hx=>by
  rcases a7.mp hx with h |h
  ·exact ha x h
  ·rw[ay.mp h];exact hb
 have ne1:vB≠gD:=by decide
 have ne2:vC≠gD:=by decide
 have ne3:vD≠gD:=by decide
 rcases h with ⟨n,r,rfl,rfl,rfl,hn,h12,hf,hd⟩ |⟨rfl,rfl,as',rfl⟩ |⟨n,rfl,rfl,rfl,hn⟩ |⟨n,p,rfl,rfl,rfl,hn,hp⟩
 ·unfold elN;rw[if_neg ne1];exact ⟨vA hb h12 hf hd,app,by simp⟩
 ·unfold elN;rw[if_pos rfl,fy];exact ⟨ha _ (a8 _ (ay.mpr rfl)),λx hx=>ha x (cK _ hx),by simp;omega⟩
 ·unfold elN;rw[if_neg ne2];exact ⟨Aj hb hn,app,by simp⟩
 ·unfold elN;rw[if_neg ne3];exact ⟨Qp hb hn,app,by simp⟩
structure Do60 where
 s:Sv
 wd:List Nat
 pc:D
 bs:List Row
def pDo(a:Do60)(ds:List D)(G:DH):Prop:=ds=[oS a.s.q,.str a.wd,a.pc]/\svG a.s G/\a.s.as.length < 50/\(∀x∈a.s.as,okB a.s.w x)/\jg a.s.w a.s.as a.s.rs a.wd a.pc a.bs
def qDo(a:Do60)(G:DH)(d:D)(G':DH):Prop:=G'=aD G a.s.q (.lst (stk a.s.w (elN a.wd a.s.as a.s.rs++[a.bs])))/\d=tld a.s.w a.s.rs a.bs
def sDo:RF.Spec:=ghS (A:=Do60) pDo qDo
theorem afa{q:Addr}{w:Nat}{as:List (List Row)}{rs bs:List Row}{wd:List Nat}{pc:D}{G:DH}{k:D->DH->Prop}{E:EK}(hv:svG ⟨q,w,as,rs⟩ G)(hl:as.length < 50)(ha:∀x∈as,okB w x)(hc:jg w as rs wd pc bs)(hk:k (tld w rs bs) (aD G q (.lst (stk w (elN wd as rs++[bs]))))):sDo.t [oS q,.str wd,pc] G k E:=bM (⟨⟨q,w,as,rs⟩,wd,pc,bs⟩:Do60) ⟨rfl,hv,hl,ha,hc⟩ λd G' hx=>by
 obtain ⟨rfl,rfl⟩:=hx;exact hk
theorem Qy {q:Addr}:cX "Sieve" "put" (.obj "Sieve" "books" q):=⟨rfl,by ac_rfl⟩
theorem afb {q:Addr}:cX "Sieve" "out" (.obj "Sieve" "books" q):=⟨rfl,by ac_rfl⟩
theorem afc {q:Addr}:cX "Sieve" "move" (.obj "Sieve" "books" q):=⟨rfl,by ac_rfl⟩
theorem vJ {q:Addr}:cX "Sieve" "back" (.obj "Sieve" "books" q):=⟨rfl,by ac_rfl⟩
theorem Qz(w:Nat)(rs ss:List Row):nr (tld w rs ss)=true/\dpt (tld w rs ss) < 9/\cN (tld w rs ss)=true:=by unfold tld;cases (dD w rs ss).head? <;> exact ⟨rfl,Nat.succ_pos _,rfl⟩
theorem QB{w:Nat}{rs:List Row}(h:okB w rs):nr (az w rs)=true/\dpt (az w rs) < 9/\cN (az w rs)=true:=by
 have hw6:=h.w6;have hlen:=h.len;have h1:=jh rs;have h2:aO (rs.map aB)<=1:=jP λd hd=>by obtain ⟨_,_,rfl⟩:=ba.mp hd;exact ax _
 have h3:dh (rs.map aB)=true:=by
  have hall:∀r∈rs,cN (aB r)=true:=λr hr=>rfl;clear h1 h2 h hlen;induction rs with
  |nil=>rfl
  |cons r rs ih=>rw[bq,dh,hall r bS,ih λx hx=>hall x (bi _ hx)];rfl
 refine ⟨?_,?_,?_⟩
 ·simp only[az,nr,nrs,h1,fh]
 ·simp only[az,dpt,aO];omega
 ·simp only[az,cN,dh,h3,ag,ck,List.length_nil,fh,ae,bv];exact ⟨by decide,trivial,by omega⟩
def orG(S:RF.Spec)(P:List D->DH->String->Prop):RF.Spec where
 A:=S.A ⊕ (String×DH)
 pre:=λds G a=>match a with |.inl a=>S.pre ds G a |.inr c=>c.2=G/\P ds G c.1
 post:=λa d G'=>match a with |.inl a=>S.post a d G' |.inr _=>False
 exc:=λa x G'=>match a with |.inl a=>S.exc a x G' |.inr c=>x=⟨c.1,.non⟩/\G'=c.2
theorem QC{S:RF.Spec}{P:List D->DH->String->Prop}{ds:List D}{G:DH}{k:D->DH->Prop}{E:EK}(h:S.t ds G k E):(orG S P).t ds G k E:=by obtain ⟨a,h1,h2,h3⟩:=h;exact ⟨.inl a,h1,h2,h3⟩
theorem afd{S:RF.Spec}{P:List D->DH->String->Prop}{ds:List D}{G:DH}{k:D->DH->Prop}{E:EK}{C:String}(h:P ds G C)(hE:E ⟨C,.non⟩ G):(orG S P).t ds G k E:=
 ⟨.inr (C,G),⟨rfl,h⟩,λ_ _ q=>q.elim,λx G' ⟨e1,e2⟩=>by subst e1 e2;exact hE⟩
theorem afe{Φ:aa}{body:Sxs}{m n:Nat}{S:RF.Spec}{P:List D->DH->String->Prop}(hS:S.exc=λ_ _ _=>False)(h1:∀ds G a,ds.length=n->S.pre ds G a->aq Φ body noE (env0 ds m) G (ends (S.post a)))
  (h2:∀ds G C,P ds G C->aq Φ body (λx G'=>x=⟨C,.non⟩/\G'=G) (env0 ds m) G (ends λ_ _=>False)):∀ds G a,ds.length=n->(orG S P).pre ds G a->aq Φ body ((orG S P).exc a) (env0 ds m) G (ends ((orG S P).post a)):=by
 rintro ds G (a |c) hl h
 ·have e:(orG S P).exc (.inl a)=noE:=by show S.exc a=noE;rw[hS];rfl
  rw[e];exact h1 ds G a hl h
 ·obtain ⟨e,hp⟩:=h;subst e;exact h2 ds c.2 c.1 hp
def vK(rs:List Row)(n:Nat):Bool:=match rs[n]? with |some r=>(cO rs n r.1).isEmpty |none=>false
theorem afg{rs:List Row}{i:Nat}{r:Row}(h:rs[i]?=some r):((List.range (i+1)).filter (vK rs))=((List.range i).filter (vK rs))++(if (cO rs i r.1).isEmpty then [i] else []):=aeH h
def j9:RF.Spec:=bU (A:=Nat×List Row) (λa=>[az a.1 a.2]) (λa=>okB a.1 a.2) (λa=>.lst ((gC a.2).map nI))
theorem afh{w:Nat}{rs:List Row}{G:DH}{k:D->DH->Prop}{E:EK}(h:okB w rs)(hk:k (.lst ((gC rs).map nI)) G):j9.t [az w rs] G k E:=bV (w,rs) rfl h hk
theorem afi (Φ:aa) (h1:Φ "need_book"=gW) (h2:Φ "reach"=vp) (a:Nat×List Row) (G:DH) (h:okB a.1 a.2):
  aq Φ zA noE (env0 [az a.1 a.2] 0) G (ends λd G'=>G'=G/\d=.lst ((gC a.2).map nI)):=by
 obtain ⟨w,rs⟩:=a;have hb:=h;dsimp only at hb ⊢;have hlen:=hb.len;simp_all_arith[zA];refine seq λM hM=>?_;simp_arith[h1];refine jX hb (hM _ _ (last ?_));have e0:az w rs=.tup [.int w,.tup (rs.map aB)]:=rfl;simp_arith[e0,ag];refine ⟨by omega,CompG.inv (P:=λi acc ρ G'=>(∃o,ρ=[o,some (.tup [.int w,.tup (rs.map aB)])])/\G'=G/\acc=((List.range i).filter (vK rs)).map nI) ⟨⟨_,rfl⟩,rfl,rfl⟩ (λ_ _ _ _ _=>trivial) (by simp[bc];have hsz:sz=1000000:=rfl;omega) ?_ ?_⟩
 ·rintro i d acc ρ G' hd ⟨⟨o,rfl⟩,rfl,rfl⟩ kk hk;have hi:i < rs.length:=by
   have:=(ar.mp hd).1;simpa [bc] using this
  have hdi:d=.int (i:Int):=by unfold bc at hd;rw[bp,List.getElem?_range (by simpa using hi)]at hd;simpa using hd.symm
  subst hdi;have hc:rs[i]?=some rs[i]:=bg hi;have ht:=afg hc;simp_arith[h2];rw[<-e0];refine aeE hb hc λd' hq=>?_;rcases hq with ⟨m,hm,rfl⟩ |⟨hn,t,bs,rfl,hL,hall⟩
  ·have hne:(cO rs i rs[i].1).isEmpty=false:=by
    cases h:cO rs i rs[i].1 with
    |nil=>rw[h]at hm;cases hm
    |cons _ _=>rfl
   have eb:(([119,111,114,100]==[104,105,100,100,101,110]):Bool)=false:=by decide
   simp_arith[Qf,eb];exact hk _ _ _ ⟨⟨_,rfl⟩,rfl,by rw[ht,hne];simp[nI]⟩
  ·have hne:(cO rs i rs[i].1).isEmpty=true:=by rw[hn];rfl
   simp_arith[dF,BEq.rfl];exact hk _ _ _ ⟨⟨_,rfl⟩,rfl,by rw[ht,hne];simp[nI]⟩
 ·rintro acc ρ G' ⟨_,rfl,rfl⟩;have el:((List.range (bc 0 (rs.length:Int).toNat).length).filter (vK rs))=gC rs:=by simp only[bc,ag,List.length_range,de];rfl
  rw[el];exact ⟨rfl,rfl⟩
def vL:RF.Spec:=ghS (A:=Sv) (λa ds G=>ds=[oS a.q]/\svG a G) (λa G d G'=>G'=G/\d=.lst ((gC a.rs).map nI))
theorem afj{q:Addr}{w:Nat}{as:List (List Row)}{rs:List Row}{G:DH}{k:D->DH->Prop}{E:EK}(h:svG ⟨q,w,as,rs⟩ G)(hk:k (.lst ((gC rs).map nI)) G):vL.t [oS q] G k E:=bM (⟨q,w,as,rs⟩:Sv) ⟨rfl,h⟩ λd G' hx=>by
 obtain ⟨rfl,rfl⟩:=hx;exact hk
theorem afk (Φ:aa) (h1:Φ "Sieve.book"=dZ) (h2:Φ "hidden_reached"=j9) (a:Sv) (ds:List D) (G:DH) (h:ds=[oS a.q]/\svG a G):aq Φ zE noE (env0 ds 0) G (ends λd G'=>G'=G/\d=.lst ((gC a.rs).map nI)):=by obtain ⟨q,w,as,rs⟩:=a;obtain ⟨rfl,hv⟩:=h;have hb:=hv.2.2;dsimp only at hb ⊢;simp_arith[zE,oS,h1,h2];exact ⟨du,dq hv (afh hb ⟨rfl,rfl⟩)⟩
structure DeS where
 q:Addr
 w:Nat
 as:List (List Row)
 rs:List Row
 l:List Nat
def vM:RF.Spec:=ghS (A:=DeS) (λa ds G=>ds=[oS a.q,.str a.l]/\svG ⟨a.q,a.w,a.as,a.rs⟩ G/\okW a.w a.l) (λa G d G'=>G'=G/\d=di a.rs (bj a.rs a.l))
theorem afl{q:Addr}{w:Nat}{as:List (List Row)}{rs:List Row}{l:List Nat}{G:DH}{k:D->DH->Prop}{E:EK}(h:svG ⟨q,w,as,rs⟩ G)(hl:okW w l)(hk:k (di rs (bj rs l)) G):vM.t [oS q,.str l] G k E:=bM (⟨q,w,as,rs,l⟩:DeS) ⟨rfl,h,hl⟩ λd G' hx=>by
 obtain ⟨rfl,rfl⟩:=hx;exact hk
theorem afm (Φ:aa) (h1:Φ "Sieve.book"=dZ) (h2:Φ "met"=vd) (h3:Φ "deed_of"=nH) (a:DeS) (ds:List D) (G:DH) (h:ds=[oS a.q,.str a.l]/\svG ⟨a.q,a.w,a.as,a.rs⟩ G/\okW a.w a.l):aq Φ m7 noE (env0 ds 0) G (ends λd G'=>G'=G/\d=di a.rs (bj a.rs a.l)):=by obtain ⟨q,w,as,rs,l⟩:=a;obtain ⟨rfl,hv,hl⟩:=h;have hb:=hv.2.2;dsimp only at hb hl hv ⊢;simp_arith[m7,oS,h1,h2,h3];refine ⟨du,dq hv ?_⟩;exact ⟨du,dq hv (adX hb hl (z9 (λn hn=>ad0 hn) ⟨rfl,rfl⟩))⟩
theorem afn {q:Addr}:cX "Sieve" "deed" (.obj "Sieve" "books" q):=⟨rfl,by ac_rfl⟩
theorem afo {q:Addr}:cX "Sieve" "hidden" (.obj "Sieve" "books" q):=⟨rfl,by ac_rfl⟩
def dds(rs:List Row)(ls:List (List Nat)):List D:=ls.map λl=>di rs (bj rs l)
noncomputable def cG(w:Nat)(rs:List Row)(ls:List (List Nat)):D:=.lst [az w rs,.lst ((gC rs).map nI),.lst (dds rs ls)]
theorem QD(rs:List Row)(o:Option Nat):nr (di rs o)=true/\dpt (di rs o)=0/\cN (di rs o)=true:=by rw[Ah];cases bI rs o <;> exact ⟨rfl,rfl,rfl⟩
theorem look_same{w:Nat}{rs:List Row}{ls:List (List Nat)}(h:okB w rs)(hl:ls.length<=4):nr (cG w rs ls)=true/\dpt (cG w rs ls) < 9/\cN (cG w rs ls)=true:=by
 obtain ⟨b1,b2,b3⟩:=QB h;have hd:∀d∈dds rs ls,nr d=true/\dpt d=0/\cN d=true:=λd hd=>by
  obtain ⟨l,_,rfl⟩:=ba.mp hd;exact QD rs _
 have n1:nrs (dds rs ls)=true:=jO λd h=>(hd d h).1;have n2:aO (dds rs ls)<=0:=jP λd h=>by rw[(hd d h).2.1];exact ax _
 have n3:dh (dds rs ls)=true:=Ag λd h=>(hd d h).2.2;have h3:aO (rs.map aB)<=1:=jP λd hd=>by obtain ⟨_,_,rfl⟩:=ba.mp hd;exact ax _
 have hh:=aeI rs;have hlen:=h.len;have n4:(dds rs ls).length<=4:=by unfold dds;rw[ag];exact hl
 refine ⟨?_,?_,?_⟩
 ·simp only[cG,nr,nrs,Qg,n1,b1,fh]
 ·simp only[cG,az,dpt,aO,aeK];omega
 ·simp only[cG,cN,dh,aeJ,n3,b3,ck,List.length_nil,ag,fh,Bool.true_and,ae,bv];exact ⟨by decide,by have hsz:sz=1000000:=rfl;omega,by have hsz:sz=1000000:=rfl;omega⟩
structure LkS where
 q:Addr
 w:Nat
 as:List (List Row)
 rs:List Row
 ls:List (List Nat)
def pLk(a:LkS)(ds:List D)(G:DH):Prop:=ds=[oS a.q,.lst (a.ls.map D.str)]/\svG ⟨a.q,a.w,a.as,a.rs⟩ G/\(∀l∈a.ls,okW a.w l)/\a.ls.length<=4
def nY:RF.Spec:=ghS (A:=LkS) pLk (λa G d G'=>G'=G/\d=cG a.w a.rs a.ls)
theorem QF{q:Addr}{w:Nat}{as:List (List Row)}{rs:List Row}{ls:List (List Nat)}{G:DH}{k:D->DH->Prop}{E:EK}(h:svG ⟨q,w,as,rs⟩ G)(h1:∀l∈ls,okW w l)(h2:ls.length<=4)(hk:k (cG w rs ls) G):nY.t [oS q,.lst (ls.map D.str)] G k E:=bM (⟨q,w,as,rs,ls⟩:LkS) ⟨rfl,h,h1,h2⟩ λd G' hx=>by
 obtain ⟨rfl,rfl⟩:=hx;exact hk
def ddF(rs:List Row):D->D
 |.str l=>di rs (bj rs l)
 |d=>d
theorem afp (Φ:aa) (h1:Φ "Sieve.book"=dZ) (h2:Φ "Sieve.hidden"=vL) (h3:Φ "Sieve.deed"=vM) (a:LkS) (ds:List D) (G:DH) (h:pLk a ds G):aq Φ zF noE (env0 ds 0) G (ends λd G'=>G'=G/\d=cG a.w a.rs a.ls):=by
 obtain ⟨q,w,as,rs,ls⟩:=a;obtain ⟨rfl,hv,hls,hl4⟩:=h;dsimp only at hv hls hl4 ⊢;simp_arith[zF,oS,h1,h2];refine ⟨du,dq hv ⟨afo,afj hv ?_⟩⟩;refine CompG.map (f:=ddF rs) (I:=λρ=>∃o,ρ=[o,some (.obj "Sieve" "books" q)]) ⟨_,rfl⟩ trivial (by rw[ag];have hsz:sz=1000000:=rfl;omega) ?_ ?_
 ·rintro d ρ hd ⟨o,rfl⟩ kk hk;obtain ⟨l,hl,rfl⟩:=ba.mp hd;simp_arith[h3];exact ⟨afn,afl hv (hls l hl) (hk _ ⟨_,rfl⟩)⟩
 ·simp_arith[ends];have e:(ls.map D.str).map (ddF rs)=dds rs ls:=by rw[eL];rfl
  rw[e];exact ⟨by decide,rfl⟩
theorem QG{w:Nat}{rs ss:List Row}:tld w rs ss=tld w ss rs:=by unfold tld dD;congr 3;funext l;rw[fg];simp only[dS,cy,ne_eq];exact not_congr eq_comm
def pNo (ds:List D) (G:DH) (C:String):Prop:=C="Nothing"/\∃q w rs,ds=[oS q]/\svG ⟨q,w,[],rs⟩ G
def ji:RF.Spec:=orG ae1 pNo
theorem QH{q:Addr}{w:Nat}{as:List (List Row)}{b rs:List Row}{G:DH}{k:D->DH->Prop}{E:EK}(g:G q=some (.lst (stk w (as++[b]++[rs]))))(h1:as.length < 100)(h2:okB w b)(h3:okB w rs)(hk:k (tld w rs b) (aD G q (.lst (stk w (as++[b]))))):ji.t [oS q] G k E:=QC (bM ((⟨q,w,as,b⟩,rs):Sv×List Row) ⟨rfl,g,h1,h2,h3⟩ λd G' hx=>by
 obtain ⟨rfl,rfl⟩:=hx;exact hk)
theorem afq(Φ:aa)(ds:List D)(G:DH)(C:String)(h:pNo ds G C):aq Φ iU (λx G'=>x=⟨C,.non⟩/\G'=G) (env0 ds 1) G (ends λ_ _=>False):=by
 obtain ⟨rfl,q,w,rs,rfl,hv⟩:=h;have g:=hv.1;dsimp only at g;have hl:((stk w [rs]).length:Int)=1:=by rw[Am];rfl
 simp_all_arith[iU];refine seq λM hM=>?_;simp_arith[oS,gf,bG g,true_and,hl,BEq.rfl]
theorem afr (Φ:aa) (h1:Φ "Sieve.put"=nU) (h2:Φ "Sieve.out"=Aq) (h3:Φ "Sieve.move"=Ar) (h4:Φ "Sieve.back"=ji) (a:Do60) (ds:List D) (G:DH) (h:pDo a ds G):aq Φ jV noE (env0 ds 0) G (ends (qDo a G)):=by
 obtain ⟨⟨q,w,as,rs⟩,wd,pc,bs⟩:=a;obtain ⟨rfl,hv,h50,ha,hc⟩:=h;have hv':=hv;obtain ⟨g,hl,hb⟩:=hv';dsimp only at g hl hb h50 ha hc ⊢;rcases hc with ⟨n,r,rfl,rfl,rfl,hn,h12,hf,hd⟩ |⟨rfl,rfl,as',rfl⟩ |⟨n,rfl,rfl,rfl,hn⟩ |⟨n,p,rfl,rfl,rfl,hn,hp⟩
 ·simp_arith[jV,vB,oS,BEq.rfl,h1];exact ⟨Qy,bM (⟨⟨q,w,as,rs⟩,n,r⟩:PutS) ⟨rfl,hv,h50,hn,h12,hf,hd⟩ λd G' hx=>hx⟩
 ·have e1:(([98,97,99,107]:List Nat)==[112,117,116])=false:=by decide
  have e2:(([98,97,99,107]:List Nat)==[111,117,116])=false:=by decide
  have e3:(([98,97,99,107]:List Nat)==[109,111,118,101])=false:=by decide
  simp_arith[jV,gD,oS,e1,e2,e3,h4];refine ⟨vJ,QC (bM ((⟨q,w,as',bs⟩,rs):Sv×List Row) ⟨rfl,g,?_,ha _ (a8 _ (ay.mpr rfl)),hb⟩ λd G' hx=>?_)⟩
  ·rw[av]at h50;dsimp only;omega
  ·unfold qDo elN;dsimp only;rw[if_pos (show [98,97,99,107]=gD from rfl),fy];exact hx
 ·have e1:(([111,117,116]:List Nat)==[112,117,116])=false:=by decide
  simp_arith[jV,vC,oS,BEq.rfl,e1,h2];exact ⟨afb,bM (⟨⟨q,w,as,rs⟩,n⟩:OutS) ⟨rfl,hv,h50,hn⟩ λd G' hx=>hx⟩
 ·have e1:(([109,111,118,101]:List Nat)==[112,117,116])=false:=by decide
  have e2:(([109,111,118,101]:List Nat)==[111,117,116])=false:=by decide
  simp_arith[jV,vD,oS,BEq.rfl,e1,e2,h3];exact ⟨afc,bM (⟨⟨q,w,as,rs⟩,n,p⟩:MovS) ⟨rfl,hv,h50,hn,hp⟩ λd G' hx=>hx⟩
structure GbS where
 q:Addr
 w:Nat
 as:List (List Row)
 b:List Row
 rs:List Row
 ls:List (List Nat)
def pGb(a:GbS)(ds:List D)(G:DH):Prop:=ds=[oS a.q,.tup [cG a.w a.b a.ls,tld a.w a.b a.rs],.lst (a.ls.map D.str)]/\G a.q=some (.lst (stk a.w (a.as++[a.b]++[a.rs])))/\a.as.length < 100/\okB a.w a.b/\okB a.w a.rs/\(∀l∈a.ls,okW a.w l)/\a.ls.length<=4
def qGb(a:GbS)(G:DH)(d:D)(G':DH):Prop:=G'=aD G a.q (.lst (stk a.w (a.as++[a.b])))/\d=.bl true
def kh:RF.Spec:=ghS (A:=GbS) pGb qGb
theorem QJ{q:Addr}{w:Nat}{as:List (List Row)}{b rs:List Row}{ls:List (List Nat)}{G:DH}{k:D->DH->Prop}{E:EK}(g:G q=some (.lst (stk w (as++[b]++[rs]))))(h1:as.length < 100)(h2:okB w b)(h3:okB w rs)(h4:∀l∈ls,okW w l)(h5:ls.length<=4)(hk:k (.bl true) (aD G q (.lst (stk w (as++[b]))))):kh.t [oS q,.tup [cG w b ls,tld w b rs],.lst (ls.map D.str)] G k E:=bM (⟨q,w,as,b,rs,ls⟩:GbS) ⟨rfl,g,h1,h2,h3,h4,h5⟩ λd G' hx=>by
 obtain ⟨rfl,rfl⟩:=hx;exact hk
theorem afs (Φ:aa) (h1:Φ "Sieve.back"=ji) (h2:Φ "_law_same"=dB 9) (h3:Φ "_law_look"=nY) (a:GbS) (ds:List D) (G:DH) (h:pGb a ds G):aq Φ zG noE (env0 ds 2) G (ends (qGb a G)):=by obtain ⟨q,w,as,b,rs,ls⟩:=a;obtain ⟨rfl,g,h100,hb,hr,hls,hl4⟩:=h;dsimp only at g h100 hb hr hls hl4 ⊢;obtain ⟨t1,t2,t3⟩:=Qz w rs b;obtain ⟨s1,s2,s3⟩:=look_same (ls:=ls) hb hl4;simp_all_arith[zG,oS];refine seq λM hM=>?_;simp_arith[ends];refine hM _ _ (last ?_);have hv:svG ⟨q,w,as,b⟩ (aD G q (.lst (stk w (as++[b])))):=⟨aW,by dsimp only;omega,hb⟩;simp_arith[h1,h2,h3];refine ⟨vJ,QH g h100 hb hr ?_⟩;rw[QG (rs:=b)];refine uX t1 t2 t3 ?_;simp_arith[ends];refine QF hv hls hl4 (uX s1 s2 s3 ?_);simp_arith[ends];exact ⟨rfl,rfl⟩
def vN:RF.Spec:=ghS (A:=Sv) (λa ds G=>ds=[oS a.q]/\svG a G/\a.as=[]) (λ_ G d G'=>G'=G/\d=.bl true)
theorem QK{q:Addr}{w:Nat}{rs:List Row}{G:DH}{k:D->DH->Prop}{E:EK}(h:svG ⟨q,w,[],rs⟩ G)(hk:k (.bl true) G):vN.t [oS q] G k E:=bM (⟨q,w,[],rs⟩:Sv) ⟨rfl,h,rfl⟩ λd G' hx=>by
 obtain ⟨rfl,rfl⟩:=hx;exact hk
theorem aft (Φ:aa) (h1:Φ "Sieve.back"=ji) (a:Sv) (ds:List D) (G:DH) (h:ds=[oS a.q]/\svG a G/\a.as=[]):aq Φ zH noE (env0 ds 1) G (ends λd G'=>G'=G/\d=.bl true):=by obtain ⟨q,w,as,rs⟩:=a;obtain ⟨rfl,hv,e⟩:=h;dsimp only at e;subst e;simp_all_arith[zH,oS];refine seq λM hM=>?_;simp_arith[ends];refine hM _ _ (seq λM hM=>?_);simp_arith[h1];refine ⟨vJ,afd ⟨rfl,q,w,rs,rfl,hv⟩ ⟨rfl,by decide,by decide,?_⟩⟩;refine hM _ _ (last ?_);simp_arith[caught,and_self]
theorem afu{q:Addr}{w n:Nat}{f e:List Nat}{as:List (List Row)}{rs:List Row}{G:DH}{k:D->DH->Prop}{E:EK}(hv:svG ⟨q,w,as,rs⟩ G)(h50:as.length < 50)(hn:n<=rs.length)(h12:rs.length < 12)(hf:okF w f)(hd:okD e)(hk:k (tld w rs (cF rs n (f,e))) (aD G q (.lst (stk w (as++[rs]++[cF rs n (f,e)]))))):nU.t [oS q,.int (n:Nat),.str f,.str e] G k E:=bM (⟨⟨q,w,as,rs⟩,n,(f,e)⟩:PutS) ⟨rfl,hv,h50,hn,h12,hf,hd⟩ λd G' hx=>by
 obtain ⟨rfl,rfl⟩:=hx;exact hk
theorem afv{ls ks:List (List Nat)}(hn:ls.Nodup)(h:∀x∈ls,x∈ks):ls.length<=ks.length:=by
 induction ls generalizing ks with
 |nil=>exact eg _
 |cons a l ih=>
  have ha:=h a bS;have h1:=ih (ks:=ks.erase a) (fe.mp hn).2 λx hx=>(List.mem_erase_of_ne (by rintro rfl;exact (fe.mp hn).1 hx)).mpr (h x (bi _ hx));rw[List.length_erase_of_mem ha]at h1;have h2:=List.length_pos_of_mem ha;rw[ck];omega
noncomputable def cH:List Nat:=[97,98,99,100,101,102,103,104,105,106,107,108,109,110,111,112,113,114,115,116,117,118,119,120,121,122]
theorem afw{rs:List Row}(h:rs.length<=12):∃c l,cH.filter (λc=>!(rs.map (·.2)).contains [c])=c::l:=by
 cases e:cH.filter (λc=>!(rs.map (·.2)).contains [c]) with
 |cons c l=>exact ⟨c,l,rfl⟩
 |nil=>
  have h1:∀x∈cH.map (λc=>[c]),x∈rs.map (·.2):=λx hx=>by
   obtain ⟨c,hc,rfl⟩:=ba.mp hx;have h2:=e6.mp e c hc;simpa using h2
  have h3:=afv (by decide) h1;rw[ag,ag]at h3;have h4:cH.length=26:=rfl;omega
def vO:RF.Spec:=ghS (A:=List Row) (λrs ds _=>ds=[.tup (rs.map aB)]/\rs.length<=12) (λrs G d G'=>G'=G/\∃c,d=.str [c]/\c∈cH/\[c]∉rs.map (·.2))
theorem afx{rs:List Row}{G:DH}{k:D->DH->Prop}{E:EK}(h:rs.length<=12)(hk:∀c,c∈cH->[c]∉rs.map (·.2)->k (.str [c]) G):vO.t [.tup (rs.map aB)] G k E:=bM rs ⟨rfl,h⟩ λd G' hx=>by
 obtain ⟨rfl,c,rfl,h1,h2⟩:=hx;exact hk c h1 h2
def QL:D->D
 |.tup [_,b]=>b
 |d=>d
theorem afy{x:List Nat}{l:List (List Nat)}:isIn (.str x) (l.map D.str)=l.contains x:=by
 induction l with
 |nil=>rfl
 |cons a l ih=>
  unfold isIn at ih ⊢;rw[bq,List.any_cons,ih,List.contains_cons];congr 1;show (a==x)=(x==a);rw[fg,aw,aw];exact eq_comm
theorem afz(Φ:aa)(rs:List Row)(ds:List D)(G:DH)(h:ds=[.tup (rs.map aB)]/\rs.length<=12):aq Φ zz noE (env0 ds 1) G (ends λd G'=>G'=G/\∃c,d=.str [c]/\c∈cH/\[c]∉rs.map (·.2)):=by
 obtain ⟨rfl,h12⟩:=h;simp_all_arith[zz];refine seq λM hM=>?_;simp_arith[ends];refine CompG.map (f:=QL) (I:=λρ=>∃o,ρ=[o]) ⟨_,rfl⟩ trivial (by rw[ag];have hsz:sz=1000000:=rfl;omega) ?_ ?_
 ·rintro d ρ hd ⟨o,rfl⟩ kk hk;obtain ⟨r,_,rfl⟩:=ba.mp hd;simp_arith[aB];exact hk _ ⟨_,rfl⟩
 have e:(rs.map aB).map QL=(rs.map (·.2)).map D.str:=by rw[eL,eL];rfl
 rw[e];refine hM _ _ (last ?_);simp_arith[ends];have ei:cH.map (λc=>D.str [c])=[D.str [97],D.str [98],D.str [99],D.str [100],D.str [101],D.str [102],D.str [103],D.str [104],D.str [105],D.str [106],D.str [107],D.str [108],D.str [109],D.str [110],D.str [111],D.str [112],D.str [113],D.str [114],D.str [115],D.str [116],D.str [117],D.str [118],D.str [119],D.str [120],D.str [121],D.str [122]]:=rfl;rw[<-ei];obtain ⟨c0,l0,hf⟩:=afw h12;refine CompG.inv (P:=λi acc ρ G'=>(∃o,ρ=[o,some (.lst ((rs.map (·.2)).map D.str))])/\G'=G/\acc=((cH.take i).filter (λc=>!(rs.map (·.2)).contains [c])).map λc=>.str [c]) ⟨⟨_,rfl⟩,rfl,rfl⟩ (λ_ _ _ _ _=>trivial) (by decide) ?_ ?_
 ·rintro i d acc ρ G' hd ⟨⟨o,rfl⟩,rfl,rfl⟩ kk hk;rw[bp]at hd;obtain ⟨c,hc,rfl⟩:=aS.mp hd;have ht:cH.take (i+1)=cH.take i++[c]:=by rw[fm,hc];rfl
  simp_arith[inG,nr,OD,afy];refine ⟨br (jP (n:=0) λd hd=>by obtain ⟨_,_,rfl⟩:=ba.mp hd;exact ax _) (by decide),?_⟩;have e3:=e7 (p:=λc=>!(rs.map (·.2)).contains [c]) (cH.take i) [c];cases hk2:(rs.map (·.2)).contains [c] with
  |true=>
   exact hk _ _ _ ⟨⟨_,rfl⟩,rfl,by
    rw[ht,e3,cm];congr 1;rw[List.filter_cons];rw[hk2];rfl⟩
  |false=>
   exact hk _ _ _ ⟨⟨_,rfl⟩,rfl,by
    rw[ht,e3,cm];congr 1;rw[List.filter_cons];rw[hk2];rfl⟩
 ·rintro acc ρ G' ⟨_,rfl,rfl⟩;have e4:cH.take (cH.map (λc=>D.str [c])).length=cH:=rfl;rw[e4,hf,bq];refine bL (a:=.str [c0]) yU ?_;have hm:c0∈cH.filter (λc=>!(rs.map (·.2)).contains [c]):=by rw[hf];exact bS
  obtain ⟨h1,h2⟩:=dv.mp hm;exact ⟨rfl,c0,rfl,h1,by simpa using h2⟩
theorem afA{w:Nat}{l d:List Nat}{xs:List Row}(h:okW w l):bj ((List.replicate w 42,d)::xs) l=some 0:=by unfold bj;rw[eW,if_pos ((adW h.2).mpr (Pa.mpr h))]
theorem afB(w:Nat):∃r,fL (List.replicate w 42)=List.replicate w 48::r:=by
 induction w with
 |zero=>exact ⟨[],rfl⟩
 |succ w ih=>
  obtain ⟨r,ih⟩:=ih;rw[List.replicate_succ',O7,ih,List.replicate_succ'];exact ⟨_,rfl⟩
theorem QM{w c:Nat}{rs:List Row}(h:[c]∉rs.map (·.2)):tld w rs ((List.replicate w 42,[c])::rs)=.str (List.replicate w 48):=by
 unfold tld dD;rw[List.filter_eq_self.mpr]
 ·obtain ⟨r,e⟩:=afB w;rw[e];rfl
 ·intro l hl;have okl:okW w l:=Pa.mp (iZ.mp hl);rw[afA okl];have e:bI ((List.replicate w 42,[c])::rs) (some 0)=some [c]:=rfl;rw[e,dS,cy];intro he;unfold bI at he;rw[Option.bind_eq_some_iff]at he;obtain ⟨n,_,hn⟩:=he;obtain ⟨x,hx,ex⟩:=aS.mp hn;exact h (ba.mpr ⟨x,ce hx,ex⟩)
noncomputable def hel(w:Nat)(ls:List (List Nat)):List (List Row)->List D
 |[]=>[]
 |x::r=>match r with
  |[]=>[]
  |y::_=>.tup [cG w x ls,tld w x y]::hel w ls r
theorem kj{w:Nat}{ls:List (List Nat)}(as:List (List Row))(b r:List Row):hel w ls (as++[b]++[r])=hel w ls (as++[b])++[.tup [cG w b ls,tld w b r]]:=by
 induction as with
 |nil=>rfl
 |cons a as ih=>
  cases as with
  |nil=>rfl
  |cons a2 as=>
   show _::hel w ls (a2::as++[b]++[r])=_::hel w ls (a2::as++[b])++_;rw[ih];rfl
theorem afC{w:Nat}{ls:List (List Nat)}(as:List (List Row))(b:List Row):(hel w ls (as++[b])).length=as.length:=by
 induction as with
 |nil=>rfl
 |cons a as ih=>
  cases as with
  |nil=>rfl
  |cons a2 as=>
   show (hel w ls (a2::as++[b])).length+1=_;rw[ih];rfl
theorem afD{w:Nat}{rs bs:List Row}{wd:List Nat}{pc:D}(h:jg w [] rs wd pc bs)(as:List (List Row)):jg w as rs wd pc bs/\wd≠gD:=by
 rcases h with h |⟨_,_,as',e⟩ |h |h
 ·exact ⟨.inl h,by obtain ⟨_,_,rfl,_⟩:=h;decide⟩
 ·exact absurd e (by simp)
 ·exact ⟨.inr (.inr (.inl h)),by obtain ⟨_,rfl,_⟩:=h;decide⟩
 ·exact ⟨.inr (.inr (.inr h)),by obtain ⟨_,_,rfl,_⟩:=h;decide⟩
theorem afE{w:Nat}{rs:List Row}{ls:List (List Nat)}:nr (cG w rs ls)=true:=by
 have n1:nrs (dds rs ls)=true:=jO λd h=>by obtain ⟨l,_,rfl⟩:=ba.mp h;exact (QD rs _).1
 simp only[cG,az,nr,nrs,Qg,jh,n1,fh]
theorem QQ{w:Nat}{ls:List (List Nat)}(bs:List (List Row)):nrs (hel w ls bs)=true:=by
 induction bs with
 |nil=>rfl
 |cons x r ih=>
  cases r with
  |nil=>rfl
  |cons y r=>
   show (nr (.tup [cG w x ls,tld w x y])&&nrs (hel w ls (y::r)))=true;rw[ih];simp only[nr,nrs,afE,(Qz w x y).1,fh]
structure F64(Φ:aa):Prop where
 opn:Φ "_law_open"=zM
 anew:Φ "_law_anew"=uW
 take:Φ "_law_take"=dU
 signs:Φ "_law_signs"=jW
 book:Φ "_law_book"=uY
 make:Φ "Sieve"=nW
 gone:Φ "_law_gone_back"=kh
 chg:Φ "_law_drawn_change"=vI
 look:Φ "_law_look"=nY
 do_:Φ "_law_do"=sDo
 more:Φ "_law_no_more"=vN
 same:Φ "_law_same"=dB 9
 sbk:Φ "Sieve.book"=dZ
 put:Φ "Sieve.put"=nU
 fresh:Φ "_law_fresh"=vO
 back:Φ "Sieve.back"=ji
theorem afF(Φ:aa)(F:F64 Φ)(ds:List D)(G:DH)(h:∃ns:List Int,ds=[.scr ns]/\ns.length<=63):aq Φ zJ noE (env0 ds 13) G (ends λd _=>d=.bl true):=by
 obtain ⟨ns,rfl,hl⟩:=h;simp_all_arith[zJ];refine seq λM hM=>?_;simp_arith[F.opn];refine bK ⟨ns,rfl,hl⟩ λd' G1 hx=>?_;obtain ⟨p,e1,_,hp,_⟩:=hx;subst e1;refine hM _ _ (seq λM hM=>?_);simp_arith![ends];refine ⟨by decide,ForG.inv (P:=λi ρ G'=>(∃o2 o3 o4 o5 o6 o7 o8 o9 o10 o11 o12 o13,ρ=[some (.scr ns),some (.ref p),o2,o3,o4,o5,o6,o7,o8,o9,o10,o11,o12,o13])/\Pen G' p) ⟨⟨_,_,_,_,_,_,_,_,_,_,_,_,rfl⟩,hp⟩ (λ_ _ _ _=>trivial) ?_ ?_⟩
 ·rintro i d ρ G2 hd ⟨⟨o2,o3,o4,o5,o6,o7,o8,o9,o10,o11,o12,o13,rfl⟩,hp2⟩ kk hk;unfold bc at hd;rw[bp]at hd;obtain ⟨j,hj,rfl⟩:=aS.mp hd;have hj2:j < 2:=by
   have:=ce hj;simpa using this
  obtain ⟨w0,m0,s0,hw0,hm0,hs0,ew,em,es⟩:∃a b c:Nat,(1<=a/\a<=6)/\b<=12/\c<=30/\atI [D.int 3,D.int 5] (0+(j:Int))=some (.int (a:Int))/\atI [D.int 12,D.int 8] (0+(j:Int))=some (.int (b:Int))/\atI [D.int 30,D.int 5] (0+(j:Int))=some (.int (c:Int)):=by
   have:j=0\/j=1:=by omega
   rcases this with rfl |rfl
   ·exact ⟨3,12,30,by decide,by decide,by decide,rfl,rfl,rfl⟩
   ·exact ⟨5,8,5,by decide,by decide,by decide,rfl,rfl,rfl⟩
  simp_arith![ends];refine seq λM hM=>?_;simp_arith[F.anew,F.book];refine ad4 hp2 λG3 hp3 _=>?_;refine ⟨by decide,bL ew ⟨by decide,bL em ?_⟩⟩;refine adG hp3 (by omega) (by omega) (by omega) λw rs G4 hb hw hrs hp4 _=>hM _ _ (seq λM hM=>?_);have hw1:=hb.w1;have hw6:=hb.w6;simp_arith[F.make];refine ae3 hb λq hq=>hM _ _ (seq λM hM=>?_);have hqp:q≠p:=(hp4.ne hq).symm;have e0:∀xs:List Row,az w xs=.tup [.int w,.tup (xs.map aB)]:=λ_=>rfl;have hp5:Pen (aD G4 q (.lst (stk w [rs]))) p:=hp4.sa (Sa.new hq);have g5:aD G4 q (.lst (stk w [rs])) q=some (.lst (stk w [rs])):=aW;generalize aD G4 q (.lst (stk w [rs]))=G5 at hp5 g5 ⊢;simp_arith[e0];refine ⟨by decide,CompG.inv (P:=λi acc ρ G'=>(∃o,ρ=[o,some (.ref p),some (.tup [.int w,.tup (rs.map aB)])])/\Pen G' p/\Sb p G5 G'/\∃ls:List (List Nat),acc=ls.map D.str/\ls.length<=i/\∀l∈ls,okW w l) ⟨⟨_,rfl⟩,hp5,Sb.refl _ _,[],rfl,by simp,by simp⟩ (λ_ _ _ _ _=>trivial) (by decide) ?_ ?_⟩
  ·rintro i d acc ρ G1 hd ⟨⟨o,rfl⟩,hp1,sb1,ls,rfl,hl,hall⟩ kk hk;simp_arith[F.signs];refine OJ hp1 (by omega) (by decide) (by decide) λl G2 hl2 hc hp2 sb2=>?_;refine hk _ _ _ ⟨⟨_,rfl⟩,hp2,sb1.trans sb2,ls++[l],by simp,by simp;omega,λx hx=>?_⟩;rcases a7.mp hx with hx |hx
   ·exact hall x hx
   ·rw[ay.mp hx];exact ⟨hl2,λc hc'=>by simpa using hc c hc'⟩
  rintro acc ρ G6 ⟨_,hp6,sb6,ls,rfl,hls,hall⟩;have hl4:ls.length<=4:=by simpa [bc] using hls
  have g6:=sb6 _ _ g5 hqp;refine hM _ _ (seq λM hM=>?_);simp_arith[ends];refine hM _ _ (seq λM hM=>?_);simp_arith[ends];intro t ht;have htp:t≠p:=(hp6.ne ht).symm;have htq:t≠q:=λe=>by rw[e,g6]at ht;cases ht
  refine hM _ _ (seq λM hM=>?_);have hp7:Pen (aD G6 t (.lst [])) p:=hp6.sa (Sa.new ht);have g7:aD G6 t (.lst []) q=some (.lst (stk w [rs])):=by rw[bO htq.symm];exact g6
  have k7:aD G6 t (.lst []) t=some (.lst (hel w ls ([]++[rs]))):=aW;generalize aD G6 t (.lst [])=G7 at hp7 g7 k7 ⊢;simp_arith![F.take];refine ⟨by decide,bL es (bW hp7 (by decide) (by decide) λtk G8 htk hp8 sb8=>?_)⟩;have g8:=sb8 _ _ g7 hqp;have k8:=sb8 _ _ k7 htp;simp_arith![ends];refine ⟨by omega,ForG.inv (P:=λi ρ G'=>∃as rs' o8 o9 o10 o11 o12,ρ=[some (.scr ns),some (.ref p),some (.int (0+(j:Int))),some (.tup [.int w,.tup (rs.map aB)]),some (oS q),some (.lst (ls.map D.str)),some (lR rs'),some (.ref t),o8,o9,o10,o11,o12,o13]/\Pen G' p/\G' q=some (.lst (stk w (as++[rs'])))/\G' t=some (.lst (hel w ls (as++[rs'])))/\as.length<=i/\i<=41/\okB w rs'/\(∀x∈as,okB w x)/\(as++[rs']).head?=some rs) ⟨[],rs,_,_,_,_,_,rfl,hp8,g8,k8,ax _,by decide,hb,(λx hx=>nomatch hx),rfl⟩ (λ_ _ _ _=>trivial) ?_ ?_⟩
  ·rintro i8 d8 ρ G9 hd8 ⟨as,rs',o8,o9,o10,o11,o12,rfl,hp9,g9,k9,hal,_,hb9,has,hhd⟩ kk8 hk8;have hi8:i8 < 41:=by
    have:=(ar.mp hd8).1;unfold bc at this;rw[ag,List.length_range]at this;omega
   simp_arith![ends];refine seq λM hM=>?_;have main:∀(as:List (List Row))(rs':List Row)(Ga:DH),Pen Ga p->Ga q=some (.lst (stk w (as++[rs'])))->Ga t=some (.lst (hel w ls (as++[rs'])))->as.length<=i8->okB w rs'->(∀x∈as,okB w x)->(as++[rs']).head?=some rs->M [some (.scr ns),some (.ref p),some (.int (0+(j:Int))),some (.tup [.int w,.tup (rs.map aB)]),some (oS q),some (.lst (ls.map D.str)),some (lR rs'),some (.ref t),some d8,o9,o10,o11,o12,o13] Ga:=by
    intro as rs' Ga hpa ga ka hla hba haa hha;refine hM _ _ (seq λM hM=>?_);simp_arith[F.chg];refine ae7 (as:=[]) hpa hba λwd pc bs Gb hc hpb sbb=>?_;have gb:=sbb _ _ ga hqp;have kb:=sbb _ _ ka htp;obtain ⟨hc,hne⟩:=afD hc as;obtain ⟨hbs,_,_⟩:=ae9 hba haa hc;simp_arith[ends];refine hM _ _ (seq λM hM=>?_);simp_arith[F.look];refine QF (as:=as) (rs:=rs') ⟨gb,by dsimp only;omega,hba⟩ hall hl4 (hM _ _ (seq λM hM=>?_));simp_arith[F.do_];rw[dg kb];refine ⟨trivial,afa (q:=q) (rs:=rs') ⟨gb,by dsimp only;omega,hba⟩ (by omega) haa hc ?_⟩;have ee:elN wd as rs'=as++[rs']:=by unfold elN;rw[if_neg hne]
    rw[ee];have hpc:Pen (aD Gb q (.lst (stk w (as++[rs']++[bs])))) p:=hpb.sb Sb.upd hqp.symm;have gc:aD Gb q (.lst (stk w (as++[rs']++[bs]))) q=some (.lst (stk w (as++[rs']++[bs]))):=aW;have kc:aD Gb q (.lst (stk w (as++[rs']++[bs]))) t=some (.lst (hel w ls (as++[rs']))):=by rw[bO htq];exact kb
    generalize aD Gb q (.lst (stk w (as++[rs']++[bs])))=Gc at hpc gc kc ⊢;rw[dg kc,afC,<-kj];refine ⟨by decide,by have hsz:sz=1000000:=rfl;omega,hM _ _ (last ?_)⟩;simp_arith[ends];exact hk8 _ _ ⟨as++[rs'],bs,_,_,_,_,_,rfl,hpc.sb Sb.upd htp.symm,by rw[bO htq.symm];exact gc,aW,by rw[av,b6];omega,by omega,hbs,λx hx=>by rcases a7.mp hx with h |h;exact haa x h;rw[ay.mp h];exact hba,by cases as <;> exact hha⟩
   simp_arith[bG k9,lO];refine ⟨⟨QQ _,br (d5 _ _) (by decide)⟩,?_⟩;rcases List.eq_nil_or_concat as with rfl |⟨as',b,rfl⟩
   ·exact main [] rs' G9 hp9 g9 k9 hal hb9 has hhd
   rw[List.concat_eq_append]at *;have hem:(hel w ls (as'++[b]++[rs'])).isEmpty=false:=by rw[kj];simp
   have hbb:=has b (a8 _ (ay.mpr rfl));have has':∀x∈as',okB w x:=λx hx=>has x (cK _ hx);have hal':as'.length+1<=i8:=by rw[av,b6]at hal;exact hal
   rw[hem];simp only[Bool.not_false,F.take];refine bW hp9 (by decide) (by decide) λc Gc hc hpc sbc=>?_;have gc:=sbc _ _ g9 hqp;have kc:=sbc _ _ k9 htp;simp_arith[ends];cases hc0:((c:Int)==0) with
   |false=>exact main _ rs' Gc hpc gc kc hal hb9 has hhd
   |true=>
    simp_arith[bG kc,kj];refine bL kW ?_;simp_arith[cG,az,F.gone];unfold fB;dsimp only;rw[kc];dsimp only;rw[kj,av,b6,Nat.add_sub_cancel,fw (ax _),Nat.sub_self,fy];show kh.t _ _ _ _;have gd:aD Gc t (.lst (hel w ls (as'++[b]))) q=some (.lst (stk w (as'++[b]++[rs']))):=by rw[bO htq.symm];exact gc
    have hpd:Pen (aD Gc t (.lst (hel w ls (as'++[b])))) p:=hpc.sb Sb.upd htp.symm;have kd:aD Gc t (.lst (hel w ls (as'++[b]))) t=some (.lst (hel w ls (as'++[b]))):=aW;generalize aD Gc t (.lst (hel w ls (as'++[b])))=Gd at gd hpd kd ⊢;refine QJ gd (by omega) hbb hb9 hall hl4 ?_;simp_arith[ends];exact main as' b _ (hpd.sb Sb.upd hqp.symm) aW (by rw[bO htq];exact kd) (by omega) hbb has' (by cases as' <;> exact hhd)
  ·rintro ρ G9 ⟨as,rs',o8,o9,o10,o11,o12,rfl,hp9,g9,k9,hal,hi9,hb9,has,hhd⟩;refine hM _ _ (seq λM hM=>?_);rw[yW];refine ⟨as.length+1,WhlG.inv (P:=λn ρ G'=>∃as rs' o8 o9 o10 o11 o12,ρ=[some (.scr ns),some (.ref p),some (.int (0+(j:Int))),some (.tup [.int w,.tup (rs.map aB)]),some (oS q),some (.lst (ls.map D.str)),some (lR rs'),some (.ref t),o8,o9,o10,o11,o12,o13]/\Pen G' p/\∃bs,G' q=some (.lst (stk w (as++[bs])))/\G' t=some (.lst (hel w ls (as++[bs])))/\as.length=n/\n<=41/\okB w bs/\(∀x∈as,okB w x)/\(as++[bs]).head?=some rs) ?_ as.length _ _ ⟨as,rs',_,_,_,_,_,rfl,hp9,rs',g9,k9,rfl,by omega,hb9,has,hhd⟩⟩;clear hp9 g9 k9 hal hi9 hb9 has hhd;rintro n ρ Ga ⟨as,rs',o8,o9,o10,o11,o12,rfl,hpa,bs,ga,ka,rfl,hn,hba,haa,hha⟩;simp_arith[bG ka,lO];refine ⟨⟨QQ _,br (d5 _ _) (by decide)⟩,?_⟩;rcases List.eq_nil_or_concat as with rfl |⟨as',b,rfl⟩
   ·have e:bs=rs:=dk hha;subst e;have hv:svG ⟨q,w,[],bs⟩ Ga:=⟨ga,by show 0 < 1000;decide,hba⟩;obtain ⟨b1,b2,b3⟩:=QB hba;show M _ _;refine hM _ _ (seq λM hM=>?_);simp_arith[F.more,F.same,F.sbk];refine QK hv ?_;simp_arith[oS];refine ⟨du,dq hv ?_⟩;rw[<-e0];refine uX b1 b2 b3 ?_;simp_arith[ends];refine hM _ _ (last ?_);simp_arith[e0,ag];by_cases h12:bs.length < 12
    ·rw[b9 (show (bs.length:Int) < 12 by omega)];simp only[de,O9,F.fresh,F.put];have okS:okF w (List.replicate w 42):=⟨cw,λc hc=>.inr (.inr (List.eq_of_mem_replicate hc))⟩;refine ⟨Qy,by omega,by omega,by have hsz:sz=1000000:=rfl;omega,afx (by omega) λc hcl hcn=>?_⟩;have hdc:okD [c]:=⟨ax 1,show 1<=8 by decide,λx hx=>by
      rw[ay.mp hx];have:∀x∈cH,97<=x/\x<=122:=by decide
      exact this c hcl⟩
     refine afu (n:=0) (as:=[]) hv (by decide) (eg _) h12 okS hdc ?_;have ei:cF bs 0 (List.replicate w 42,[c])=(List.replicate w 42,[c])::bs:=rfl;rw[ei,QM hcn];have hb2:okB w ((List.replicate w 42,[c])::bs):=vA (n:=0) hba h12 okS hdc;have g2:aD Ga q (.lst (stk w ([]++[bs]++[(List.replicate w 42,[c])::bs]))) q=some (.lst (stk w ([]++[bs]++[(List.replicate w 42,[c])::bs]))):=aW;have hp2:Pen (aD Ga q (.lst (stk w ([]++[bs]++[(List.replicate w 42,[c])::bs])))) p:=hpa.sb Sb.upd hqp.symm;generalize aD Ga q (.lst (stk w ([]++[bs]++[(List.replicate w 42,[c])::bs])))=G2 at g2 hp2 ⊢;simp_arith[F.back,BEq.rfl];refine ⟨by omega,by omega,by have hsz:sz=1000000:=rfl;omega,vJ,QH (as:=[]) g2 (by decide) hba hb2 ?_⟩;rw[QG,QM hcn];have hv3:svG ⟨q,w,[],bs⟩ (aD G2 q (.lst (stk w ([]++[bs])))):=⟨aW,by show 0 < 1000;decide,hba⟩;have hp3:Pen (aD G2 q (.lst (stk w ([]++[bs])))) p:=hp2.sb Sb.upd hqp.symm;simp_arith[F.more,BEq.rfl];refine QK hv3 ?_;simp_arith[ends];exact hk _ _ ⟨⟨_,_,_,_,_,_,_,_,_,_,_,_,rfl⟩,hp3⟩
    ·rw[cq (show ¬(bs.length:Int) < 12 by omega)];exact hk _ _ ⟨⟨_,_,_,_,_,_,_,_,_,_,_,_,rfl⟩,hpa⟩
   ·rw[List.concat_eq_append]at *;have hem:(hel w ls (as'++[b]++[bs])).isEmpty=false:=by rw[kj];simp
    have hbb:=haa b (a8 _ (ay.mpr rfl));have has':∀x∈as',okB w x:=λx hx=>haa x (cK _ hx);have hln:(as'++[b]).length=as'.length+1:=by rw[av,b6]
    rw[hem];intro kk2 hk2;simp only[F.gone];unfold fB;dsimp only;rw[ka];dsimp only;rw[kj,av,b6,Nat.add_sub_cancel,fw (ax _),Nat.sub_self,fy];show kh.t _ _ _ _;have gd:aD Ga t (.lst (hel w ls (as'++[b]))) q=some (.lst (stk w (as'++[b]++[bs]))):=by rw[bO htq.symm];exact ga
    have hpd:Pen (aD Ga t (.lst (hel w ls (as'++[b])))) p:=hpa.sb Sb.upd htp.symm;have kd:aD Ga t (.lst (hel w ls (as'++[b]))) t=some (.lst (hel w ls (as'++[b]))):=aW;generalize aD Ga t (.lst (hel w ls (as'++[b])))=Gd at gd hpd kd ⊢;refine QJ gd (by omega) hbb hba hall hl4 ?_;simp_arith[ends];exact hk2 as'.length _ _ (by omega) ⟨as',rs',_,_,_,_,_,rfl,hpd.sb Sb.upd hqp.symm,b,aW,by rw[bO htq];exact kd,rfl,by omega,hbb,has',by cases as' <;> exact hha⟩
 ·rintro ρ G2 ⟨_,hp2⟩;refine hM _ _ (last ?_);simp_arith[ends]
end RF
namespace HD
open PySem PySem.W
def sv(x:Str)(t:Nat):Value:=.str x t
def ri(n:Nat):Value:=.int n 0
def gZ (l:List Value):Obj:=⟨.type "tuple",none,.seq ⟨l⟩ 0,⟨[]⟩⟩
def fO(c:Value)(l:List Value):Obj:=⟨c,none,.fields ⟨l⟩,⟨[]⟩⟩
def nZ:Str:="/claim/cut.py"
noncomputable def Aw(n q:Str)(ln ac fl a b:Nat)(isf:Bool)(l1 l2 tm:Value)(t t2:Nat):Obj:=
 fO (.type "code") [sv n t,sv q (t+1),sv nZ (t+2),ri ln,ri ac,ri 0,ri 0,ri fl,.ref a,.bool isf,ri 181,.ref b,.none,l1,l2,tm,ri t2,ri ln,sv nZ (t2+1)]
def toks(t:Nat):List Str->List Value
 |[]=>[]
 |x::r=>sv x t::toks (t+1) r
def fdO(n q:Str)(p:Arguments)(b:List Stmt)(sc:Scope)(g:Nat)(md cd:Value):Data:=
 .func { name:=n,qualname:=q,params:=p,body:=.stmts b,scope:=sc,globals:=g,closure:=[],defaults:=.none,kwdefaults:=.none,pyModule:=md,code:=cd }
def enO(P:Params)(k:Str)(t:Nat)(v:Value):DictEntry:={ hash:=PyData.keyHash P k,key:=sv k t,val:=v }
def n6 (l:List DictEntry) (e:Nat):Obj:=⟨.type "dict",none,.dict ⟨l⟩ e,⟨[]⟩⟩
noncomputable def frO (c l:Nat) (md:Value):Obj:=⟨.type "frame",none,.plain,⟨[some (.ref c),some (.ref 3),some (.ref l),none,some md,none,some (.ref 0)]⟩⟩
def bfO (s:String) (v:Value):Obj:=fO (.type "builtin_function_or_method") [.builtin s,v]
def veM:List Value:=[.type "ValueError",.type "Exception",.type "BaseException",.type "object"]
def vP (b:Expr):Bool:=match b with |.Name n _=>n==("ValueError":Str) |_=>false
noncomputable def fnO(q:Str)(a t:Nat)(md:Value)(n:Str)(p:Arguments)(b:List Stmt)(sc:Scope)(ln:Nat):List Obj:=match localNames p sc (.stmts b) with
 |some l=>[gZ [],fO .none [],gZ (toks (t+3) l.1),gZ [],⟨.none,none,fdO n q p b sc 0 .none .none,⟨[]⟩⟩,
   Aw n q ln p.args.length 3 a (a+1) true (.ref (a+2)) (.ref (a+3)) (.ref (a+4)) t (t+3+l.1.length),⟨.type "function",none,fdO n q p b sc 3 md (.ref (a+5)),⟨[]⟩⟩]
 |none=>[gZ [],fO .none [],⟨.none,none,fdO n q p b sc 0 .none .none,⟨[]⟩⟩,
   Aw n q ln p.args.length 3 a (a+1) true .none .none (.ref (a+2)) t (t+3),⟨.type "function",none,fdO n q p b sc 3 md (.ref (a+3)),⟨[]⟩⟩]
noncomputable def fnA(p:Arguments)(b:List Stmt)(sc:Scope):Nat:=match localNames p sc (.stmts b) with |some _=>7 |none=>5
noncomputable def fnT(p:Arguments)(b:List Stmt)(sc:Scope):Nat:=match localNames p sc (.stmts b) with |some l=>l.1.length+5 |none=>5
def dot:Str:="."
structure MO where
 os:List Obj
 es:List DictEntry
 cs:List Value
 a:Nat
 t:Nat
noncomputable def vQ(P:Params)(c:Str)(md:Value):List Stmt->Nat->Nat->MO
 |.FunctionDef n p b _ _ _ sc _ _ pos::r,a,t=>
  let m:=vQ P c md r (a+fnA p b sc) (t+fnT p b sc+1)
  ⟨fnO (c++dot++n) a t md n p b sc pos.line++m.os,enO P n (t+fnT p b sc) (.ref (a+fnA p b sc - 1))::m.es,ri pos.line::ri pos.col::.ref (a+fnA p b sc - 2)::m.cs,m.a,m.t⟩
 |_::r,a,t=>vQ P c md r a t
 |[],a,t=>⟨[],[],[],a,t⟩
def clA(P:Params)(a:Nat)(b:List Stmt):Nat:=(vQ P dot .none b (a+7) 0).a+2
noncomputable def stO(P:Params)(r:Nat)(sub:List Value)(a t:Nat)(md:Value)(s:Stmt):List Obj:=match s with
 |.FunctionDef n p b _ _ _ sc _ _ pos=>fnO n a t md n p b sc pos.line
 |.ClassDef n bs _ body _ _ _ _ _ st pos=>
  let m:=vQ P n md body (a+7) (t+12)
  let c:=m.a+2
  let u:=m.t+st.length
  let d1:=[enO P "__module__" (t+7) md]
  let d2:=enO P "__firstlineno__" (t+11) (.int pos.line (t+10))::m.es++[enO P "__static_attributes__" u (.ref m.a)]
  let b:List Value:=match bs with |b::_=>(match vP b with |true=>[.type "ValueError"] |false=>[.ref r]) |[]=>[]
  let own:Bool:=match bs with |[]=>true |_=>false
  let ve:Bool:=match bs with |b::_=>vP b |[]=>false
  let wr (v:Nat):Obj:=fO (.type "getset_descriptor") [sv "__weakref__" v,.ref c,.builtin "ExceptionGroup.__weakref__",.none]
  let typ (mro:List Value) (sub:List Value) (nw:String):Obj:=
   ⟨.type "type",none,.cls { name:=n,bases:=(match own with |true=>[.type "object"] |false=>b),mro:=.ref c::mro,ns:=m.a+1,qualname:=n,subclasses:=sub },
    ⟨[(match own with |true=>none |false=>some (.ref a)),none,some (sv n t),some (sv n (t+8)),some (.builtin nw),some (.bool true)]⟩⟩
  [gZ b,bfO "type.__prepare__" (.type "type"),n6 (d1++enO P "__qualname__" (t+9) (sv n (t+8))::d2) (4+m.es.length),gZ [],fO .none m.cs,
   Aw n n pos.line 0 0 (a+3) (a+4) false .none .none .none (t+2) (t+5),frO (a+5) (a+2) md]++m.os++[gZ (toks m.t st)] ++
  (match own with
  |true=>[n6 (d1++d2++[enO P "__dict__" (u+2) (.ref (c+1)),enO P "__weakref__" (u+4) (.ref (c+2)),enO P "__doc__" (u+5) .none]) 4,typ [.type "object"] [] "object.__new__",
    fO (.type "getset_descriptor") [sv "__dict__" (u+1),.ref c,.builtin "function.__dict__",.builtin "function.__dict__#set"],wr (u+3)]
  |false=>(match ve with
   |true=>[n6 (d1++d2++[enO P "__weakref__" (u+2) (.ref (c+1)),enO P "__doc__" (u+3) .none]) 3,typ veM sub "ValueError.__new__",wr (u+1)]
   |false=>[n6 (d1++d2++[enO P "__doc__" (u+1) .none]) 2,typ (.ref r::veM) [] "ValueError.__new__"])) ++
  [fO (.type "super") [.ref c,.ref c,.ref c],bfO "object.__init_subclass__" (.ref c)]
 |_=>[]
noncomputable def mdO(t:Nat)(md:Value)(s:Stmt):Value:=match s with
 |.Assign [.Name n _] (.Constant (.str x) _ _) _=>(match n==("__name__":Str) with |true=>sv x t |false=>md)
 |_=>md
noncomputable def enS(P:Params)(lk:Str->Value)(t u a a':Nat)(s:Stmt):List DictEntry:=match s with
 |.Assign [.Name n _] (.Name y _) _=>[enO P n t (lk y)]
 |.FunctionDef n _ _ _ _ _ _ _ _ _=>[enO P n (u-1) (.ref (a'-1))]
 |.ClassDef n _ _ b _ _ _ _ _ _ _=>[enO P n (u-1) (.ref (clA P a b))]
 |.Assign [.Name n _] (.Constant c _ _) _=>(match n==("__name__":Str) with
  |true=>[]
  |false=>[enO P n (t+1) (match c with |.int i=>.int i t |.str x=>sv x t |_=>.none)])
 |_=>[]
noncomputable def fnS(a':Nat)(s:Stmt):List (Str×Value):=match s with
 |.FunctionDef n _ _ _ _ _ _ _ _ _=>[(n,.ref (a'-1))]
 |_=>[]
noncomputable def cdS(a a':Nat)(s:Stmt):List Value:=match s with
 |.FunctionDef _ _ _ _ _ _ _ _ _ pos=>[ri pos.line,ri pos.col,.ref (a'-2)]
 |.ClassDef _ _ _ _ _ _ _ _ _ _ pos=>[ri pos.line,ri pos.col,.ref (a+5)]
 |_=>[]
noncomputable def sbS(P:Params)(a:Nat)(s:Stmt):List Value:=match s with
 |.ClassDef _ bs _ b0 _ _ _ _ _ _ _=>(match bs with |b::_=>(match vP b with |true=>[] |false=>[.ref (clA P a b0)]) |[]=>[])
 |_=>[]
noncomputable def afG(P:Params)(a:Nat)(s:Stmt):List Nat:=match s with
 |.ClassDef _ bs _ b0 _ _ _ _ _ _ _=>(match bs with |b::_=>(match vP b with |true=>[clA P a b0] |false=>[]) |[]=>[])
 |_=>[]
noncomputable def fold{α:Type}(f:Nat->Nat->Nat->Nat->Value->Stmt->List α):List (Nat×Nat)->Value->List Stmt->List α
 | (a,t)::(a',u)::r,md,s::ss=>f a a' t u md s++fold f ((a',u)::r) (mdO t md s) ss
 |_,_,_=>[]
def QR:List (Nat×Nat)->Value->List Stmt->Value
 | (_,t)::r,md,s::ss=>QR r (mdO t md s) ss
 |_,md,_=>md
def ie:Value:=sv "__main__" 164
noncomputable def afH(P:Params)(v:Value):List DictEntry:=
 [enO P "__name__" 165 v,enO P "__doc__" 166 .none,enO P "__package__" 167 .none,enO P "__loader__" 168 (.builtin "__main__.__loader__#opaque"),enO P "__spec__" 169 .none,
  enO P "__annotations__" 170 (.ref 6),enO P "__builtins__" 171 (.ref 4),enO P "__file__" 173 (sv nZ 172),enO P "__cached__" 174 .none]
noncomputable def ents(N:List (Nat×Nat))(b:List Stmt)(P:Params):List DictEntry:=afH P (QR N ie b)++fold (λa a' t u _ s=>enS P (λy=>((fold (λ_ a' _ _ _ s=>fnS a' s) N ie b).lookup y).getD .none) t u a a' s) N ie b
def put{α:Type}:Nat->α->List α->List α
 |_,_,[]=>[]
 |0,x,_::r=>x::r
 |n+1,x,y::r=>y::put n x r
noncomputable def QS(cs:List Value):List Obj:=[gZ [],fO .none cs,
 fO (.type "code") [sv "<module>" 182,sv "<module>" 183,sv nZ 184,ri 1,ri 0,ri 0,ri 0,ri 0,.ref 11,.bool false,ri 181,.ref 12,.none,.none,.none,.none,ri 185,ri 1,sv nZ 186],frO 13 3 ie]
def afI(B:List Obj):List Obj:=B++QS []
noncomputable def objs(B:List Obj)(N:List (Nat×Nat))(b:List Stmt)(P:Params):List Obj:=
 let es:=ents N b P
 put 3 (n6 es es.length) (B++QS (fold (λa a' _ _ _ s=>cdS a a' s) N ie b) ++
  fold (λa _ t _ md s=>stO P ((fold (λa _ _ _ _ s=>afG P a s) N ie b).headD 0) (fold (λa _ _ _ _ s=>sbS P a s) N ie b) a t md s) N ie b)
def evs{α:Type}:List α->List α
 |[]=>[]
 |[x]=>[x]
 |x::_::r=>x::evs r
noncomputable def bt:Nat->List Obj->BT
 |0,_=>.nil
 |_,[]=>.nil
 |n+1,x::r=>.node x (bt n (evs r)) (bt n (evs r.tail))
def nameless(s:Stmt):Bool:=match s with
 |.Assign [.Name n _] _ _=>!(n==("__name__":Str))
 |_=>true
noncomputable def pick:Nat->List Nat->List Obj->Frag
 |i,a::r,o::os=>(match Nat.beq a i with |true=>(a,o)::pick (i+1) r os |false=>pick (i+1) (a::r) os)
 |_,_,_=>[]
end HD
def PySem.W.Fast.tw60754191597808987:PySem.Program:=PySem.Challenge.pw_starsieve_k64_whole_gone_back
theorem PySem.W.Fast.te60754191597808987:PySem.Challenge.pw_starsieve_k64_whole_gone_back=PySem.W.Fast.tw60754191597808987:=rfl
namespace HK
open PySem PySem.W PySem.W.Fast
def pw:Program:=PySem.Challenge.pw_starsieve_k64_whole_gone_back
def rl:OpenLaw:=PySem.Challenge.rw_starsieve_k64_whole_gone_back
noncomputable def NN:List (Nat×Nat):=[(15,187),(15,189),(28,207),(40,223),(52,239),(64,255),(76,271),(88,287),(100,303),(112,319),(112,321),(112,323),(119,330),(126,337),(133,345),(138,351),(145,359),(152,367),(157,373),(164,382),(171,393),(178,400),(178,402),(178,404),(178,406),(178,408),(183,414),(190,422),(195,428),(202,435),(209,443),(216,451),(223,463),(230,471),(230,473),(237,480),(244,489),(251,500),(258,510),(265,521),(270,527),(270,529),(277,538),(282,544),(289,554),(289,556),(296,566),(296,568),(301,574),(306,580),(306,581),(306,583),(383,682),(383,684),(388,690),(395,701),(402,711),(409,718),(416,729),(421,735),(428,743),(435,753),(442,763),(449,775),(454,781),(461,795),(466,801),(471,807),(478,823),(485,832),(490,838),(497,849),(504,857),(509,863)]
def L1(P:Params):List Obj:=HD.objs (boot_heap P).objs.toList NN pw.main.body P
def H1(P:Params):Heap:=⟨⟨L1 P⟩,{}⟩
def T1(P:Params):BT:=HD.bt 12 (L1 P)
def LA(P:Params):List Obj:=HD.afI (boot_heap P).objs.toList
def HA(P:Params):Heap:=⟨⟨LA P⟩,{}⟩
def T0(P:Params):BT:=HD.bt 5 (LA P)
def env:Env:={ scope:=pw.main.scope,locals:=mainNs,globals:=mainNs,cells:=[],code:=.ref 13,frame:=some 14 }
def bE:List Stmt:=behindTheImports pw
def cE:Code:=.body bE env
def p0:Pos:=⟨0,0,0,0⟩
def B:List Frame:=[topFrame p0]
def ann:Option Value:=some (.ref 6)
def qv:Program:={ pw with main:={ pw.main with body:=pw.main.body.filter HD.nameless } }
noncomputable def as:List Nat:=[3,23,24,36,37,48,49,60,61,72,73,84,85,96,97,108,109,117,118,124,125,131,132,136,137,143,144,150,151,155,156,162,163,169,170,176,177,181,182,188,189,193,194,200,201,207,208,214,215,221,222,228,229,235,236,242,243,249,250,256,257,263,264,268,269,275,276,280,281,287,288,294,295,299,300,304,305,318,319,325,326,332,333,339,340,346,347,353,354,360,361,367,368,374,375,377,378,386,387,393,394,400,401,407,408,414,415,419,420,426,427,433,434,440,441,447,448,452,453,459,460,464,465,469,470,476,477,483,484,488,489,495,496,502,503,507,508]
def K(P:Params):Frag:=HD.pick 0 as (L1 P)
def Xt(s:Shared):Bool:=xlAt qv [] s&&recOk (RowW.records rl.row.toRowW) s
def see{α:Type}(_:α):Bool:=true
theorem primed:(see T1&&see T0&&see H1&&see HA&&see cE&&see B&&see env&&see bE&&see qv&&see K&&see Xt)=true:=by k_qdec
theorem pre(w:World)(os:OsState):topGo treeTable pw w 11 ann 12 ⟨boot_heap w.params,⟨[]⟩,boot_drawn,boot_toks,os⟩ (topStub pw)=some (⟨HA w.params,⟨[]⟩,{},187,os⟩,⟨denote treeTable cE,cE,p0,B⟩):=by have _:=primed;rw[PySem.W.Fast.te15667345088766844465,PySem.W.Fast.te14364793385576792824,PySem.W.Fast.te1032975242618825031,PySem.W.Fast.te8093259214132618727,PySem.W.Fast.te1718297227530528222,PySem.W.Fast.te11892475500146522536];rfl'
theorem block(w:World)(os:OsState):segRun treeTable pw w 11 ann 1 2 ⟨HA w.params,⟨[]⟩,{},187,os⟩ (blockOf bE env cE p0 B)=some (.next,SharedT.abs ⟨T0 w.params,15,{},⟨[]⟩,{},187,os⟩,cE,p0):=by rw[PySem.W.Fast.te14374325043358763698,PySem.W.Fast.te14364793385576792824,PySem.W.Fast.te1032975242618825031,PySem.W.Fast.te8093259214132618727,PySem.W.Fast.te1718297227530528222,PySem.W.Fast.te14938417808399470215,PySem.W.Fast.te16330338443398637341,PySem.W.Fast.te10239294469119128424];rfl'
theorem piece(w:World)(os:OsState):segRunT treeTable pw w 11 ann 1 9000 ⟨T0 w.params,15,{},⟨[]⟩,{},187,os⟩ (piecesOf bE env cE p0 B)=some (.next,⟨T1 w.params,509,{},⟨[]⟩,{},863,os⟩,cE,⟨343,0,369,15⟩):=by rw[PySem.W.Fast.te10110043849684766642,PySem.W.Fast.te14364793385576792824,PySem.W.Fast.te1032975242618825031,PySem.W.Fast.te13069687644243786066,PySem.W.Fast.te14938417808399470215,PySem.W.Fast.te1718297227530528222,PySem.W.Fast.te16330338443398637341,PySem.W.Fast.te10239294469119128424];rfl'
theorem fin(w:World)(os:OsState):topRun treeTable pw w 11 ann 3 (SharedT.abs ⟨T1 w.params,509,{},⟨[]⟩,{},863,os⟩) ⟨doneF .next,cE,⟨343,0,369,15⟩,B⟩=some ⟨H1 w.params,⟨[]⟩,{},863,os⟩:=by rw[PySem.W.Fast.te14082659384304107361,PySem.W.Fast.te14364793385576792824,PySem.W.Fast.te1032975242618825031,PySem.W.Fast.te13069687644243786066,PySem.W.Fast.te1718297227530528222,PySem.W.Fast.te14158929756966004236];rfl'
theorem run(w:World)(os:OsState):topRun treeTable pw w 11 ann (12+(2+(9000+3))) ⟨boot_heap w.params,⟨[]⟩,boot_drawn,boot_toks,os⟩ (topStub pw)=some ⟨H1 w.params,⟨[]⟩,{},863,os⟩:=by refine go_top (pre w os) (piece_block (block w os) ?_);have h:=piece_app (rest:=[]) (segRun_of (piece w os)) (piece_nil (fin w os));rw[List.append_nil]at h;exact h
theorem size (w:World):((boot_heap w.params).isNs mainGlobals&&(Array.mk []:Array GenState).size==0,(boot_heap w.params).objs.size,(boot_heap w.params).nsMap mainGlobals "__annotations__")=(true,11,ann):=by rfl'
theorem afJ(w:World)(os:OsState):(staticsOk (importedModules pw.main.body) (boot_heap w.params) (H1 w.params)&&namesBound pw (H1 w.params)&&gensDone ⟨H1 w.params,⟨[]⟩,{},863,os⟩&&laidKept (boot_heap w.params) (H1 w.params))=true:=by rw[PySem.W.Fast.te1032975242618825031,PySem.W.Fast.te14158929756966004236,PySem.W.Fast.te5923862056798008813];rfl'
theorem afK (w:World) (os:OsState):openSeen qv ["hidden_reached"] (importedModules pw.main.body) Xt true ⟨H1 w.params,⟨[]⟩,{},863,os⟩=openGood qv ["hidden_reached"]:=by rw[PySem.W.Fast.te1032975242618825031,PySem.W.Fast.te14158929756966004236,PySem.W.Fast.te5923862056798008813,PySem.W.Fast.te3994408356199485718,PySem.W.Fast.te3154452736318265832,PySem.W.Fast.te4187177175401517315];rfl'
theorem afL(w:World):as.map (H1 w.params).get?=(K w.params).map (λp=>some p.2):=by rw[PySem.W.Fast.te14158929756966004236,PySem.W.Fast.te538113369711794958];rfl'
theorem eAs(P:Params):as=(K P).map (·.1):=by rw[PySem.W.Fast.te538113369711794958];rfl'
def hook:Hook:=kHook K as eAs
theorem left:LeftO pw qv ["hidden_reached"] Xt hook.obs hook.val 12000:=by refine LeftO.of_pieces (boot_open (by rfl') (by decide) (λs=>by rfl')) size run (by decide) λw=>funext λos=>?_;exact Prod.ext (afJ w os) (Prod.ext (afK w os) (afL w))
end HK
namespace Lk64
open PySem PySem.Spec PyProof.Rows L2 RF
open PySem.W (mg_of mg_none_of)
def Φ:aa:=λf=>if f="is_deed" then u9 else if f="is_text_of" then uZ else if f="is_form" then u6 else if f="is_row" then zW else if f="is_whole" then aP iW else if f="is_width" then zX else if f="is_book" then zY else if f="need_book" then gW else if f="both" then aP nM else if f="first_touching" then nO else if f="splitting_place" then vf else if f="with_sign" then aP gY else if f="grown" then eQ 9 else if f="least" then aP jf else if f="is_named" then aP gA else if f="is_place" then aP fM else if f="leaves" then dY 9 else if f="need_two_books" then vq else if f="deed_of" then nH else if f="same_deeds" then sSD else if f="stars" then aP jd else if f="alike" then vy else if f="parting_word" then nT else if f="_law_anew" then uW else if f="_law_spread" then uV else if f="_law_take" then dU else if f="_law_signs" then jW else if f="_law_deeds_of" then nF else if f="_law_form" then zL else if f="_law_wider" then iY else if f="_law_within" then iY else if f="_law_form_like" then nA else if f="_law_book" then uY else if f="need_row" then j6 else if f="without" then sWo else if f="_law_forms" then vG else if f="_law_drawn_change" then vI else if f="_law_fresh" then vO else if f="fits" then aP nG else if f="is_word" then u5 else if f="met" then vd else if f="reach" then vp else if f="hidden" then j9 else if f="hidden_reached" then j9 else if f="_law_same" then dB 9 else if f="_law_open" then zM else if f="Sieve" then nW else if f="Sieve.book" then dZ else if f="Sieve.back" then ji else if f="Sieve.turn" then j7 else if f="Sieve.put" then nU else if f="Sieve.move" then Ar else if f="Sieve.out" then Aq else if f="_law_do" then sDo else if f="Sieve.deed" then vM else if f="Sieve.hidden" then vL else if f="_law_look" then nY else if f="_law_gone_back" then kh else if f="_law_no_more" then vN else if f="law" then m8 else bB (λ_ _=>False) (λ_ _ _ _=>False)
def Ax:Φ "is_deed"=u9:=by rfl'
def Ay:Φ "is_text_of"=uZ:=by rfl'
def Az:Φ "is_form"=u6:=by rfl'
def QT:Φ "is_row"=zW:=by rfl'
def Ba:Φ "is_whole"=aP iW:=by rfl'
def QV:Φ "is_width"=zX:=by rfl'
def QW:Φ "is_book"=zY:=by rfl'
def km:Φ "need_book"=gW:=by rfl'
def QX:Φ "both"=aP nM:=by rfl'
def Bb:Φ "first_touching"=nO:=by rfl'
def QZ:Φ "splitting_place"=vf:=by rfl'
def Bc:Φ "with_sign"=aP gY:=by rfl'
def Bd:Φ "grown"=eQ 9:=by rfl'
def Be:Φ "least"=aP jf:=by rfl'
def Q0:Φ "is_named"=aP gA:=by rfl'
def vR:Φ "is_place"=aP fM:=by rfl'
def Bg:Φ "leaves"=dY 9:=by rfl'
def Q3:Φ "need_two_books"=vq:=by rfl'
def Bh:Φ "deed_of"=nH:=by rfl'
def Q4:Φ "same_deeds"=sSD:=by rfl'
def Q5:Φ "stars"=aP jd:=by rfl'
def Q6:Φ "alike"=vy:=by rfl'
def Bj:Φ "parting_word"=nT:=by rfl'
def Q7:Φ "_law_anew"=uW:=by rfl'
def Q8:Φ "_law_spread"=uV:=by rfl'
def fP:Φ "_law_take"=dU:=by rfl'
def vU:Φ "_law_signs"=jW:=by rfl'
def Bk:Φ "_law_deeds_of"=nF:=by rfl'
def Q9:Φ "_law_form"=zL:=by rfl'
def Ra:Φ "_law_wider"=iY:=by rfl'
def Rb:Φ "_law_within"=iY:=by rfl'
def Bl:Φ "_law_form_like"=nA:=by rfl'
def Rc:Φ "_law_book"=uY:=by rfl'
def vV:Φ "need_row"=j6:=by rfl'
def Bm:Φ "without"=sWo:=by rfl'
def Rf:Φ "_law_forms"=vG:=by rfl'
def Rg:Φ "_law_drawn_change"=vI:=by rfl'
def Rh:Φ "_law_fresh"=vO:=by rfl'
def Ri:Φ "fits"=aP nG:=by rfl'
def Rj:Φ "is_word"=u5:=by rfl'
def Rk:Φ "met"=vd:=by rfl'
def Rm:Φ "reach"=vp:=by rfl'
def Rn:Φ "hidden"=j9:=by rfl'
def Ro:Φ "hidden_reached"=j9:=by rfl'
def Bo:Φ "_law_same"=dB 9:=by rfl'
def Rp:Φ "_law_open"=zM:=by rfl'
theorem Rq:Φ "Sieve"=nW:=by rfl'
theorem fQ:Φ "Sieve.book"=dZ:=by rfl'
theorem oh:Φ "Sieve.back"=ji:=by rfl'
theorem vW:Φ "Sieve.turn"=j7:=by rfl'
theorem Bp:Φ "Sieve.put"=nU:=by rfl'
theorem Rt:Φ "Sieve.move"=Ar:=by rfl'
theorem Ru:Φ "Sieve.out"=Aq:=by rfl'
def Rv:Φ "_law_do"=sDo:=by rfl'
theorem Rw:Φ "Sieve.deed"=vM:=by rfl'
theorem Rx:Φ "Sieve.hidden"=vL:=by rfl'
def Bq:Φ "_law_look"=nY:=by rfl'
def Ry:Φ "_law_gone_back"=kh:=by rfl'
def Rz:Φ "_law_no_more"=vN:=by rfl'
noncomputable def bt:List String:=["all","bool","enumerate","int","isinstance","len","list","min","range","str","tuple","zip"]
noncomputable def cn:List (String×D):=[("LETTERS",(.str [97,98,99,100,101,102,103,104,105,106,107,108,109,110,111,112,113,114,115,116,117,118,119,120,121,122])),("LONGEST_DEED",(.int 8)),("MOST_ROWS",(.int 12)),("WIDEST",(.int 6))]
noncomputable def xs:List (String×Bool):=[("NoBook",true),("NoMatch",true),("NoWord",true),("NoRow",true),("NoForm",true),("Full",true),("Nothing",true),("Nothing",false)]
abbrev CK:=λN s f o b=>aC (aH N (ao s) f bt cn xs o) b (aF s)=true
abbrev BB:=λ(l:PySem.W.OpenLaw) (w:World) (mg:Str->Option Value) (base:Heap) k f o=>Bse Φ l.prog w (HK.K w.params) mg base (CX1 l.prog w) k f bt cn xs o
abbrev NQ:=λP (s:Str) (n:Nat)=>PySem.W.nsIn (HK.K P) mainGlobals s=some (some (.ref n))
abbrev BQ:=λP fd ps=>Binds (HK.K P) fd ps []
abbrev LN:Str:="law_starsieve_k64_whole_gone_back"
def f0:List (String×Nat):=[]
def o0:OT:={}
def f1:=("is_deed",1)::f0
def f2:=("is_text_of",3)::f1
def f3:=("is_form",2)::f2
def f4:=("is_row",2)::f3
def f5:=("is_whole",1)::f4
def f6:=("is_width",1)::f5
def f7:=("is_book",1)::f6
def f8:=("need_book",1)::f7
def f9:=("both",2)::f8
def f10:=("first_touching",2)::f9
def f11:=("splitting_place",2)::f10
def f12:=("with_sign",3)::f11
def f13:=("grown",3)::f12
def f14:=("least",1)::f13
def f15:=("is_named",3)::f14
def f16:=("is_place",2)::f15
def f17:=("leaves",2)::f16
def f18:=("need_two_books",2)::f17
def f19:=("deed_of",2)::f18
def f20:=("same_deeds",3)::f19
def f21:=("stars",1)::f20
def f22:=("alike",2)::f21
def f23:=("parting_word",2)::f22
def f24:=("_law_anew",1)::f23
def f25:=("_law_spread",2)::f24
def f26:=("_law_take",2)::f25
def f27:=("_law_signs",3)::f26
def f28:=("_law_deeds_of",2)::f27
def f29:=("_law_form",2)::f28
def f30:=("_law_wider",2)::f29
def f31:=("_law_within",2)::f30
def f32:=("_law_form_like",3)::f31
def f33:=("_law_book",3)::f32
def f34:=("need_row",2)::f33
def f35:=("without",2)::f34
def f36:=("_law_forms",1)::f35
def f37:=("_law_drawn_change",4)::f36
def f38:=("_law_fresh",1)::f37
def f39:=("fits",2)::f38
def f40:=("is_word",2)::f39
def f41:=("met",2)::f40
def f42:=("reach",2)::f41
def f43:=("hidden",1)::f42
def f44:=("hidden_reached",1)::f43
def f45:=("_law_same",2)::f44
def f46:=("_law_open",1)::f45
def o1:OT:={ o0 with fl:=("Sieve","books")::o0.fl }
def o2:OT:={ o1 with ks:=("Sieve",1)::o1.ks }
def o3:OT:={ o2 with ms:=("Sieve.book","Sieve","book",1)::o2.ms }
def o4:OT:={ o3 with ms:=("Sieve.back","Sieve","back",1)::o3.ms }
def o5:OT:={ o4 with ms:=("Sieve.turn","Sieve","turn",2)::o4.ms }
def o6:OT:={ o5 with ms:=("Sieve.put","Sieve","put",4)::o5.ms }
def o7:OT:={ o6 with ms:=("Sieve.move","Sieve","move",3)::o6.ms }
def o8:OT:={ o7 with ms:=("Sieve.out","Sieve","out",2)::o7.ms }
def f47:=("_law_do",3)::f46
def o9:OT:={ o8 with ms:=("Sieve.deed","Sieve","deed",2)::o8.ms }
def o10:OT:={ o9 with ms:=("Sieve.hidden","Sieve","hidden",1)::o9.ms }
def f48:=("_law_look",2)::f47
def f49:=("_law_gone_back",3)::f48
def f50:=("_law_no_more",1)::f49
def S(i:Nat):Stmt:=HK.pw.main.body.getD i (.Pass ⟨0,0,0,0⟩)
noncomputable def SM(i j:Nat):Stmt:=match S i with |.ClassDef _ _ _ b _ _ _ _ _ _ _=>b.getD j (.Pass ⟨0,0,0,0⟩) |s=>s
def ou:Stmt:=S 25
theorem afM:fnB ["thing"] ["thing"] (ao ou)=true:=by ac_rfl
theorem afN:CK ["thing"] ou f0 o0 lQ:=by ac_rfl
def oA:Stmt:=S 14
theorem afO:fnB ["signs","width","thing"] ["signs","width","thing"] (ao oA)=true:=by ac_rfl
theorem afP:CK ["signs","width","thing"] oA f1 o0 lU:=by ac_rfl
def oE:Stmt:=S 16
theorem afQ:fnB ["width","thing"] ["width","thing"] (ao oE)=true:=by ac_rfl
theorem afR:CK ["width","thing"] oE f2 o0 lV:=by ac_rfl
def oF:Stmt:=S 26
theorem afS:fnB ["width","thing"] ["width","thing"] (ao oF)=true:=by ac_rfl
theorem afT:CK ["width","thing"] oF f3 o0 lW:=by ac_rfl
def oG:Stmt:=S 11
theorem afU:fnB ["thing"] ["thing"] (ao oG)=true:=by ac_rfl
theorem afV:CK ["thing"] oG f4 o0 lX:=by ac_rfl
def oH:Stmt:=S 12
theorem afW:fnB ["thing"] ["thing"] (ao oH)=true:=by ac_rfl
theorem afX:CK ["thing"] oH f5 o0 lY:=by ac_rfl
def oJ:Stmt:=S 27
theorem afY:fnB ["thing","width","rows"] ["thing"] (ao oJ)=true:=by ac_rfl
theorem afZ:CK ["thing","width","rows"] oJ f6 o0 lZ:=by ac_rfl
def oK:Stmt:=S 28
theorem af0:fnB ["book"] ["book"] (ao oK)=true:=by ac_rfl
theorem af1:CK ["book"] oK f7 o0 mj:=by ac_rfl
def oM:Stmt:=S 19
theorem af2:fnB ["form","other","shared","one","two"] ["form","other"] (ao oM)=true:=by ac_rfl
theorem af3:CK ["form","other","shared","one","two"] oM f8 o0 mq:=by ac_rfl
def oN:Stmt:=S 37
theorem af4:fnB ["rows","box","number","row"] ["rows","box"] (ao oN)=true:=by ac_rfl
theorem af5:CK ["rows","box","number","row"] oN f9 o0 my:=by ac_rfl
def oO:Stmt:=S 38
theorem af6:fnB ["rows","box","number","at","sign"] ["rows","box"] (ao oO)=true:=by ac_rfl
theorem af7:CK ["rows","box","number","at","sign"] oO f10 o0 mz:=by ac_rfl
def oR:Stmt:=S 18
theorem af8:fnB ["form","at","sign"] ["form","at","sign"] (ao oR)=true:=by ac_rfl
theorem af9:CK ["form","at","sign"] oR f11 o0 mC:=by ac_rfl
def oU:Stmt:=S 39
theorem aga:fnB ["name","many_rows","box","rows","at","zero","one"] ["name","many_rows","box"] (ao oU)=true:=by ac_rfl
theorem agb:CK ["name","many_rows","box","rows","at","zero","one"] oU f13 o0 jT:=by ac_rfl
def oV:Stmt:=S 20
def oW:Stmt:=S 35
theorem agc:fnB ["name","many","thing"] ["name","many","thing"] (ao oW)=true:=by ac_rfl
theorem agd:CK ["name","many","thing"] oW f14 o0 mD:=by ac_rfl
def oX:Stmt:=S 13
theorem age:fnB ["many","thing"] ["many","thing"] (ao oX)=true:=by ac_rfl
theorem agf:CK ["many","thing"] oX f15 o0 mF:=by ac_rfl
def oY:Stmt:=S 36
theorem agg:fnB ["box","tree","at","zero","one"] ["box","tree"] (ao oY)=true:=by ac_rfl
theorem agh:CK ["box","tree","at","zero","one"] oY f17 o0 iT:=by ac_rfl
def oZ:Stmt:=S 29
theorem agi:fnB ["one","other"] ["one","other"] (ao oZ)=true:=by ac_rfl
theorem agj:CK ["one","other"] oZ f17 o0 mG:=by ac_rfl
def ph:Stmt:=S 32
theorem agk:fnB ["book","number"] ["book","number"] (ao ph)=true:=by ac_rfl
theorem agl:CK ["book","number"] ph f18 o0 jU:=by ac_rfl
def pq:Stmt:=S 41
theorem agm:fnB ["one","other","leaf"] ["one","other","leaf"] (ao pq)=true:=by ac_rfl
theorem agn:CK ["one","other","leaf"] pq f19 o0 mH:=by ac_rfl
def pA:Stmt:=S 34
theorem ago:fnB ["width"] ["width"] (ao pA)=true:=by ac_rfl
theorem agp:CK ["width"] pA f20 o0 mJ:=by ac_rfl
def pB:Stmt:=S 42
theorem agq:fnB ["one","other","box","tree","parting"] ["one","other"] (ao pB)=true:=by ac_rfl
theorem agr:CK ["one","other","box","tree","parting"] pB f21 o0 mK:=by ac_rfl
def pC:Stmt:=S 43
theorem ags:fnB ["one","other","name","shown"] ["one","other"] (ao pC)=true:=by ac_rfl
theorem agt:CK ["one","other","name","shown"] pC f22 o0 mL:=by ac_rfl
def pF:Stmt:=S 56
theorem agu:fnB ["pen"] ["pen"] (ao pF)=true:=by ac_rfl
theorem agv:CK ["pen"] pF f23 o0 zb:=by ac_rfl
def pG:Stmt:=S 54
theorem agw:fnB ["cell","at","one","two","three"] ["cell","at"] (ao pG)=true:=by ac_rfl
theorem agx:CK ["cell","at","one","two","three"] pG f24 o0 zc:=by ac_rfl
def pH:Stmt:=S 57
theorem agy:fnB ["pen","many","at","cell","found"] ["pen","many"] (ao pH)=true:=by ac_rfl
theorem agz:CK ["pen","many","at","cell","found"] pH f25 o0 zf:=by ac_rfl
def pI:Stmt:=S 58
theorem agA:fnB ["pen","width","signs"] ["pen","width","signs"] (ao pI)=true:=by ac_rfl
theorem agB:CK ["pen","width","signs"] pI f26 o0 zg:=by ac_rfl
def pJ:Stmt:=S 63
theorem agC:fnB ["pen","most","some","turn","found","letters"] ["pen","most"] (ao pJ)=true:=by ac_rfl
theorem agD:CK ["pen","most","some","turn","found","letters"] pJ f27 o0 zj:=by ac_rfl
def pK:Stmt:=S 59
theorem agE:fnB ["pen","width"] ["pen","width"] (ao pK)=true:=by ac_rfl
theorem agF:CK ["pen","width"] pK f28 o0 zm:=by ac_rfl
def pL:Stmt:=S 61
theorem agG:fnB ["pen","form","found","sign"] ["pen","form"] (ao pL)=true:=by ac_rfl
theorem agH:CK ["pen","form","found","sign"] pL f29 o0 zp:=by ac_rfl
def pM:Stmt:=S 60
theorem agI:fnB ["pen","form","found","sign"] ["pen","form"] (ao pM)=true:=by ac_rfl
theorem agJ:CK ["pen","form","found","sign"] pM f30 o0 zq:=by ac_rfl
def pN:Stmt:=S 62
theorem agK:fnB ["pen","width","forms","kind","form","at"] ["pen","width","forms"] (ao pN)=true:=by ac_rfl
theorem agL:CK ["pen","width","forms","kind","form","at"] pN f31 o0 zr:=by ac_rfl
def pO:Stmt:=S 64
theorem agM:fnB ["pen","widest","most","width","deeds","forms","rows","k"] ["pen","widest","most"] (ao pO)=true:=by ac_rfl
theorem agN:CK ["pen","widest","most","width","deeds","forms","rows","k"] pO f32 o0 zu:=by ac_rfl
def pP:Stmt:=S 30
theorem agO:fnB ["book","number"] ["book","number"] (ao pP)=true:=by ac_rfl
theorem agP:CK ["book","number"] pP f33 o0 mO:=by ac_rfl
def pQ:Stmt:=S 45
theorem agQ:fnB ["book","number","width","rows"] ["book","number"] (ao pQ)=true:=by ac_rfl
theorem agR:CK ["book","number","width","rows"] pQ f34 o0 mQ:=by ac_rfl
def pR:Stmt:=S 66
theorem agS:fnB ["rows"] ["rows"] (ao pR)=true:=by ac_rfl
theorem agT:CK ["rows"] pR f35 o0 zx:=by ac_rfl
def pU:Stmt:=S 67
theorem agU:fnB ["pen","width","rows","elder","kind","at","form","one","place","others"] ["pen","width","rows","elder"] (ao pU)=true:=by ac_rfl
theorem agV:CK ["pen","width","rows","elder","kind","at","form","one","place","others"] pU f36 o0 zy:=by ac_rfl
def pW:Stmt:=S 53
theorem agW:fnB ["rows","known"] ["rows"] (ao pW)=true:=by ac_rfl
theorem agX:CK ["rows","known"] pW f37 o0 zz:=by ac_rfl
def pX:Stmt:=S 17
theorem agY:fnB ["form","word"] ["form","word"] (ao pX)=true:=by ac_rfl
theorem agZ:CK ["form","word"] pX f38 o0 mR:=by ac_rfl
def pY:Stmt:=S 15
theorem ag0:fnB ["width","thing"] ["width","thing"] (ao pY)=true:=by ac_rfl
theorem ag1:CK ["width","thing"] pY f39 o0 mU:=by ac_rfl
def pZ:Stmt:=S 31
theorem ag2:fnB ["book","word","width","rows","number","row"] ["book","word"] (ao pZ)=true:=by ac_rfl
theorem ag3:CK ["book","word","width","rows","number","row"] pZ f40 o0 mV:=by ac_rfl
def p6:Stmt:=S 47
theorem ag4:fnB ["book","number","rows","form","tree","free"] ["book","number"] (ao p6)=true:=by ac_rfl
theorem ag5:CK ["book","number","rows","form","tree","free"] p6 f41 o0 mW:=by ac_rfl
def p7:Stmt:=S 48
theorem ag6:fnB ["book"] ["book"] (ao p7)=true:=by ac_rfl
theorem ag7:CK ["book"] p7 f42 o0 zA:=by ac_rfl
def p8:Stmt:=S 65
theorem ag8:fnB ["found","due"] ["found","due"] (ao p8)=true:=by ac_rfl
theorem ag9:CK ["found","due"] p8 f45 o0 eN:=by ac_rfl
def qb:Stmt:=S 55
theorem aha:fnB ["script","cells","k","cell"] ["script"] (ao qb)=true:=by ac_rfl
theorem ahb:CK ["script","cells","k","cell"] qb f45 o0 zB:=by ac_rfl
def qd:Stmt:=SM 51 0
theorem ahc:fnB ["self","book"] ["self","book"] (ao qd)=true:=by ac_rfl
theorem ahd:uU (aH ["self","book"] (ao qd) f46 bt cn xs o1) "need_book" "books" (aF qd)=true:=by ac_rfl
def qe:Stmt:=SM 51 1
theorem ahe:fnB ["self"] ["self"] (ao qe)=true:=by ac_rfl
theorem ahf:CK ["self"] qe f46 o2 mX:=by ac_rfl
def qg:Stmt:=SM 51 8
theorem ahg:fnB ["self","undone"] ["self"] (ao qg)=true:=by ac_rfl
theorem ahh:CK ["self","undone"] qg f46 o3 iU:=by ac_rfl
def qi:Stmt:=SM 51 4
theorem ahi:fnB ["self","rows","before"] ["self","rows"] (ao qi)=true:=by ac_rfl
theorem ahj:CK ["self","rows","before"] qi f46 o4 mY:=by ac_rfl
def qj:Stmt:=SM 51 5
theorem ahk:fnB ["self","number","form","deed","width","rows"] ["self","number","form","deed"] (ao qj)=true:=by ac_rfl
theorem ahl:CK ["self","number","form","deed","width","rows"] qj f46 o5 mZ:=by ac_rfl
def ql:Stmt:=SM 51 7
theorem ahm:fnB ["self","number","place","row","others"] ["self","number","place"] (ao ql)=true:=by ac_rfl
theorem ahn:CK ["self","number","place","row","others"] ql f46 o6 m5:=by ac_rfl
def qm:Stmt:=SM 51 6
theorem aho:fnB ["self","number"] ["self","number"] (ao qm)=true:=by ac_rfl
theorem ahp:CK ["self","number"] qm f46 o7 m6:=by ac_rfl
def qp:Stmt:=S 68
theorem ahq:fnB ["sieve","word","pieces"] ["sieve","word","pieces"] (ao qp)=true:=by ac_rfl
theorem ahr:CK ["sieve","word","pieces"] qp f46 o8 jV:=by ac_rfl
def qt:Stmt:=SM 51 2
theorem ahs:fnB ["self","word"] ["self","word"] (ao qt)=true:=by ac_rfl
theorem aht:CK ["self","word"] qt f47 o8 m7:=by ac_rfl
def qu:Stmt:=SM 51 3
theorem ahu:fnB ["self"] ["self"] (ao qu)=true:=by ac_rfl
theorem ahv:CK ["self"] qu f47 o9 zE:=by ac_rfl
def qw:Stmt:=S 69
theorem ahw:fnB ["sieve","words"] ["sieve","words"] (ao qw)=true:=by ac_rfl
theorem ahx:CK ["sieve","words"] qw f47 o10 zF:=by ac_rfl
def qx:Stmt:=S 70
theorem ahy:fnB ["sieve","one","words","look","told"] ["sieve","one","words"] (ao qx)=true:=by ac_rfl
theorem ahz:CK ["sieve","one","words","look","told"] qx f48 o10 zG:=by ac_rfl
def qy:Stmt:=S 71
theorem ahA:fnB ["sieve","refused"] ["sieve"] (ao qy)=true:=by ac_rfl
theorem ahB:CK ["sieve","refused"] qy f49 o10 zH:=by ac_rfl
def qz:Stmt:=S 72
theorem ahC:fnB ["script","pen","turn","book","sieve","words","rows","held","step","word","pieces","behind","look","one"] ["script"] (ao qz)=true:=by ac_rfl
theorem ahD:CK ["script","pen","turn","book","sieve","words","rows","held","step","word","pieces","behind","look","one"] qz f50 o10 zJ:=by ac_rfl
theorem RB:(Str.ofString "0":Str)=tx [48]:=by ac_rfl
theorem ahE:(Str.ofString "*":Str)=tx [42]:=by ac_rfl
theorem ahF:FnScope ["form"] ["form"] (ao oV):=⟨rfl,rfl,rfl,by ac_rfl,rfl,by ac_rfl,by ac_rfl⟩
def ahG:Sp:=λvs H Q _=>∃l:List Nat,vs=[.str (tx l)]/\l.length<=1000/\Q (.str (tx (bz l))) H
theorem ahH {P:Program} {w:World} {K:PF} {mg:Str->Option Value} {base:Heap} {f:Addr} {fd:FuncData} (F:Fun K "least" "least" oV f fd):FnOk P w K mg base CX0 1 f fd ["form"] ahG:=by
 refine F.ok1 ahF rfl (by ac_rfl) (λ_=>rfl) (λvs H Q E h=>?_) (λcdv A outer s H vs Q E hr h=>?_)
 ·obtain ⟨l,rfl,_⟩:=h;rfl
 ·obtain ⟨l,rfl,hl,q⟩:=h;refine ⟨_,Y9 (Zb (pv 0) (by ac_rfl)),?_⟩;refine ⟨_,rfl,_,rfl,?_,?_⟩
  ·rw[RB,bN,bN];simp;omega
  ·rw[ahE,RB,Za];exact q
theorem ahI {P:Program} {w:World} {K:PF} {mg:Str->Option Value} {base:Heap} {f:Addr} {fd:FuncData} (F:Fun K "least" "least" oV f fd):FnOk P w K mg base CX0 1 f fd ["form"] (lift K 1 (aP jf)):=by
 refine (ahH F).imp λvs H Q E h=>?_;obtain ⟨e0,Fz,G,ds,r,t,⟨ds',G'⟩,⟨e1,e2⟩,e3,e4⟩:=h;cases e1;obtain ⟨d,hd⟩:=Option.isSome_iff_exists.mp e2;have hd2:=hd;unfold jf at hd;split at hd
 ·rename_i l;split at hd
  ·rename_i hl;cases hd;obtain ⟨v,rfl,rv⟩:=bA t;obtain ⟨rfl,_⟩:=rv;have hl':l.length<=1000:=of_decide_eq_true hl;exact ⟨l,rfl,hl',(e3 _ _ ⟨rfl,hd2⟩).now r ⟨rfl,by unfold bz;rw[List.length_map];exact Nat.le_trans hl' (by decide)⟩⟩
  ·cases hd
 ·cases hd
noncomputable def fdM(n:Str)(st:Stmt)(m:Str)(t c:Nat):FuncData:=PySem.W.fnOf n n (jl st) (aF st) (ao st) .none .none .none (.str m t) none (.ref c) .none
theorem mkF {K:PF} {n m:Str} {st:Stmt} {a t c:Nat}(l:K.lookup a=some ⟨.type "function",none,.func (fdM n st m t c),⟨[]⟩⟩:=by rfl')(h1:PySem.W.codeIn K (.ref c) n=true:=by eq_refl)(h2:PySem.W.keepIn K (.ref a)=true:=by eq_refl):Fun K n n st a (fdM n st m t c):=Dl l h1 h2
theorem tK:type_of% @PySem.W.Fast.te538113369711794958:=PySem.W.Fast.te538113369711794958
local macro_rules|`(tactic|ac_nf)=>`(tactic|(intro _ _ _ _ _ _ us hl;first|(obtain ⟨_,h⟩:=cg hl;subst h;rfl)|(obtain ⟨_,_,h⟩:=aY hl;subst h;rfl)|(obtain ⟨_,_,_,h⟩:=dR hl;subst h;rfl)|(obtain ⟨_,_,_,_,h⟩:=Og hl;subst h;rfl)))
local macro_rules|`(tactic|eq_refl)=>`(tactic|(first|rw[tK]|(unfold NQ;rw[tK]));rfl')
section
variable {P:Params}
noncomputable def fdQ(n q:Str)(st:Stmt)(m:Str)(t c:Nat):FuncData:=PySem.W.fnOf n q (jl st) (aF st) (ao st) .none .none .none (.str m t) none (.ref c) .none
theorem mkQ {K:PF} {n q m:Str} {st:Stmt} {a t c:Nat}(l:K.lookup a=some ⟨.type "function",none,.func (fdQ n q st m t c),⟨[]⟩⟩:=by rfl')(h1:PySem.W.codeIn K (.ref c) q=true:=by eq_refl)(h2:PySem.W.keepIn K (.ref a)=true:=by eq_refl):Fun K n q st a (fdQ n q st m t c):=Dl l h1 h2
theorem eX:NQ P "Sieve" 378:=by eq_refl
theorem fU:Cls (HK.K P) 378:=⟨by eq_refl,by eq_refl,by eq_refl,by eq_refl⟩
theorem RC:NoAttr (HK.K P) 378 (Str.ofString "books"):=by show PySem.W.findIn (HK.K P) (.ref 378) (Str.ofString "books")=some none;rw[tK];rfl'
def RD:FuncData:=fdM "is_deed" ou "starsieve.books" 400 181
theorem RG:Fun (HK.K P) "is_deed" "is_deed" ou 182 RD:=mkF
theorem ahJ:NQ P "is_deed" 182:=by eq_refl
theorem lQ:BQ P RD ["thing"]:=RG.binds (by ac_nf)
def RJ:FuncData:=fdM "is_text_of" oA "starsieve.forms" 319 136
theorem RK:Fun (HK.K P) "is_text_of" "is_text_of" oA 137 RJ:=mkF
theorem ahK:NQ P "is_text_of" 137:=by eq_refl
theorem lU:BQ P RJ ["signs","width","thing"]:=RK.binds (by ac_nf)
def RL:FuncData:=fdM "is_form" oE "starsieve.forms" 319 150
theorem RM:Fun (HK.K P) "is_form" "is_form" oE 151 RL:=mkF
theorem ahL:NQ P "is_form" 151:=by eq_refl
theorem lV:BQ P RL ["width","thing"]:=RM.binds (by ac_nf)
def RN:FuncData:=fdM "is_row" oF "starsieve.books" 400 188
theorem RP:Fun (HK.K P) "is_row" "is_row" oF 189 RN:=mkF
theorem ahM:NQ P "is_row" 189:=by eq_refl
theorem lW:BQ P RN ["width","thing"]:=RP.binds (by ac_nf)
def RQ:FuncData:=fdM "is_whole" oG "starsieve.forms" 319 117
theorem RT:Fun (HK.K P) "is_whole" "is_whole" oG 118 RQ:=mkF
theorem ahN:NQ P "is_whole" 118:=by eq_refl
theorem lX:BQ P RQ ["thing"]:=RT.binds (by ac_nf)
def RV:FuncData:=fdM "is_width" oH "starsieve.forms" 319 124
theorem RW:Fun (HK.K P) "is_width" "is_width" oH 125 RV:=mkF
theorem ahO:NQ P "is_width" 125:=by eq_refl
theorem lY:BQ P RV ["thing"]:=RW.binds (by ac_nf)
def RX:FuncData:=fdM "is_book" oJ "starsieve.books" 400 193
theorem RZ:Fun (HK.K P) "is_book" "is_book" oJ 194 RX:=mkF
theorem ahP:NQ P "is_book" 194:=by eq_refl
theorem lZ:BQ P RX ["thing"]:=RZ.binds (by ac_nf)
def R0:FuncData:=fdM "need_book" oK "starsieve.books" 400 200
theorem R1:Fun (HK.K P) "need_book" "need_book" oK 201 R0:=mkF
theorem ahQ:NQ P "need_book" 201:=by eq_refl
theorem mj:BQ P R0 ["book"]:=R1.binds (by ac_nf)
def R3:FuncData:=fdM "both" oM "starsieve.forms" 319 169
theorem R4:Fun (HK.K P) "both" "both" oM 170 R3:=mkF
theorem ahR:NQ P "both" 170:=by eq_refl
theorem mq:BQ P R3 ["form","other"]:=R4.binds (by ac_nf)
def R5:FuncData:=fdM "first_touching" oN "starsieve.laid" 471 256
theorem R6:Fun (HK.K P) "first_touching" "first_touching" oN 257 R5:=mkF
theorem ahS:NQ P "first_touching" 257:=by eq_refl
theorem my:BQ P R5 ["rows","box"]:=R6.binds (by ac_nf)
def R7:FuncData:=fdM "splitting_place" oO "starsieve.laid" 471 263
theorem R8:Fun (HK.K P) "splitting_place" "splitting_place" oO 264 R7:=mkF
theorem ahT:NQ P "splitting_place" 264:=by eq_refl
theorem mz:BQ P R7 ["rows","box"]:=R8.binds (by ac_nf)
def R9:FuncData:=fdM "with_sign" oR "starsieve.forms" 319 162
theorem Sd:Fun (HK.K P) "with_sign" "with_sign" oR 163 R9:=mkF
theorem ahU:NQ P "with_sign" 163:=by eq_refl
theorem mC:BQ P R9 ["form","at","sign"]:=Sd.binds (by ac_nf)
def Br:FuncData:=fdM "grown" oU "starsieve.laid" 471 268
theorem vX:Fun (HK.K P) "grown" "grown" oU 269 Br:=mkF
theorem Sg:NQ P "grown" 269:=by eq_refl
theorem jT:BQ P Br ["name","many_rows","box"]:=vX.binds (by ac_nf)
def Sh:FuncData:=fdM "least" oV "starsieve.forms" 319 176
theorem Bt:Fun (HK.K P) "least" "least" oV 177 Sh:=mkF
theorem ahV:NQ P "least" 177:=by eq_refl
theorem ahW:BQ P Sh ["form"]:=Bt.binds (by ac_nf)
def Sq:FuncData:=fdM "is_named" oW "starsieve.laid" 471 242
theorem Ss:Fun (HK.K P) "is_named" "is_named" oW 243 Sq:=mkF
theorem ahX:NQ P "is_named" 243:=by eq_refl
theorem mD:BQ P Sq ["name","many","thing"]:=Ss.binds (by ac_nf)
def Su:FuncData:=fdM "is_place" oX "starsieve.forms" 319 131
theorem Sw:Fun (HK.K P) "is_place" "is_place" oX 132 Su:=mkF
theorem ahY:NQ P "is_place" 132:=by eq_refl
theorem mF:BQ P Su ["many","thing"]:=Sw.binds (by ac_nf)
def Bu:FuncData:=fdM "leaves" oY "starsieve.laid" 471 249
theorem vY:Fun (HK.K P) "leaves" "leaves" oY 250 Bu:=mkF
theorem Sy:NQ P "leaves" 250:=by eq_refl
theorem iT:BQ P Bu ["box","tree"]:=vY.binds (by ac_nf)
def SJ:FuncData:=fdM "need_two_books" oZ "starsieve.books" 400 207
theorem SN:Fun (HK.K P) "need_two_books" "need_two_books" oZ 208 SJ:=mkF
theorem ahZ:NQ P "need_two_books" 208:=by eq_refl
theorem mG:BQ P SJ ["one","other"]:=SN.binds (by ac_nf)
def SQ:FuncData:=fdM "deed_of" ph "starsieve.books" 400 228
theorem SX:Fun (HK.K P) "deed_of" "deed_of" ph 229 SQ:=mkF
theorem ah0:NQ P "deed_of" 229:=by eq_refl
theorem jU:BQ P SQ ["book","number"]:=SX.binds (by ac_nf)
def S5:FuncData:=fdM "same_deeds" pq "starsieve.alike" 527 275
theorem S6:Fun (HK.K P) "same_deeds" "same_deeds" pq 276 S5:=mkF
theorem ah1:NQ P "same_deeds" 276:=by eq_refl
theorem mH:BQ P S5 ["one","other","leaf"]:=S6.binds (by ac_nf)
def S7:FuncData:=fdM "stars" pA "starsieve.laid" 471 235
theorem S8:Fun (HK.K P) "stars" "stars" pA 236 S7:=mkF
theorem ah2:NQ P "stars" 236:=by eq_refl
theorem mJ:BQ P S7 ["width"]:=S8.binds (by ac_nf)
def S9:FuncData:=fdM "alike" pB "starsieve.alike" 527 280
theorem Tc:Fun (HK.K P) "alike" "alike" pB 281 S9:=mkF
theorem ah3:NQ P "alike" 281:=by eq_refl
theorem mK:BQ P S9 ["one","other"]:=Tc.binds (by ac_nf)
def Td:FuncData:=fdM "parting_word" pC "starsieve.alike" 527 287
theorem Te:Fun (HK.K P) "parting_word" "parting_word" pC 288 Td:=mkF
theorem ah4:NQ P "parting_word" 288:=by eq_refl
theorem mL:BQ P Td ["one","other"]:=Te.binds (by ac_nf)
def Tf:FuncData:=fdM "_law_anew" pF LN 682 407
theorem Th:Fun (HK.K P) "_law_anew" "_law_anew" pF 408 Tf:=mkF
theorem ah5:NQ P "_law_anew" 408:=by eq_refl
theorem ah6:BQ P Tf ["pen"]:=Th.binds (by ac_nf)
def Ti:FuncData:=fdM "_law_spread" pG LN 682 393
theorem Tj:Fun (HK.K P) "_law_spread" "_law_spread" pG 394 Ti:=mkF
theorem ah7:NQ P "_law_spread" 394:=by eq_refl
theorem ah8:BQ P Ti ["cell","at"]:=Tj.binds (by ac_nf)
def Tn:FuncData:=fdM "_law_take" pH LN 682 414
theorem Tp:Fun (HK.K P) "_law_take" "_law_take" pH 415 Tn:=mkF
theorem ah9:NQ P "_law_take" 415:=by eq_refl
theorem aia:BQ P Tn ["pen","many"]:=Tp.binds (by ac_nf)
def Tq:FuncData:=fdM "_law_signs" pI LN 682 419
theorem Tt:Fun (HK.K P) "_law_signs" "_law_signs" pI 420 Tq:=mkF
theorem aib:NQ P "_law_signs" 420:=by eq_refl
theorem aic:BQ P Tq ["pen","width","signs"]:=Tt.binds (by ac_nf)
def Tu:FuncData:=fdM "_law_deeds_of" pJ LN 682 452
theorem Tv:Fun (HK.K P) "_law_deeds_of" "_law_deeds_of" pJ 453 Tu:=mkF
theorem aid:NQ P "_law_deeds_of" 453:=by eq_refl
theorem aie:BQ P Tu ["pen","most"]:=Tv.binds (by ac_nf)
def Tw:FuncData:=fdM "_law_form" pK LN 682 426
theorem Tz:Fun (HK.K P) "_law_form" "_law_form" pK 427 Tw:=mkF
theorem aif:NQ P "_law_form" 427:=by eq_refl
theorem aig:BQ P Tw ["pen","width"]:=Tz.binds (by ac_nf)
def TF:FuncData:=fdM "_law_wider" pL LN 682 440
theorem TQ:Fun (HK.K P) "_law_wider" "_law_wider" pL 441 TF:=mkF
theorem aih:NQ P "_law_wider" 441:=by eq_refl
theorem aii:BQ P TF ["pen","form"]:=TQ.binds (by ac_nf)
def TV:FuncData:=fdM "_law_within" pM LN 682 433
theorem TY:Fun (HK.K P) "_law_within" "_law_within" pM 434 TV:=mkF
theorem aij:NQ P "_law_within" 434:=by eq_refl
theorem aik:BQ P TV ["pen","form"]:=TY.binds (by ac_nf)
def T3:FuncData:=fdM "_law_form_like" pN LN 682 447
theorem T4:Fun (HK.K P) "_law_form_like" "_law_form_like" pN 448 T3:=mkF
theorem ail:NQ P "_law_form_like" 448:=by eq_refl
theorem aim:BQ P T3 ["pen","width","forms"]:=T4.binds (by ac_nf)
def T5:FuncData:=fdM "_law_book" pO LN 682 459
theorem T6:Fun (HK.K P) "_law_book" "_law_book" pO 460 T5:=mkF
theorem ain:NQ P "_law_book" 460:=by eq_refl
theorem aio:BQ P T5 ["pen","widest","most"]:=T6.binds (by ac_nf)
def T7:FuncData:=fdM "need_row" pP "starsieve.books" 400 214
theorem T8:Fun (HK.K P) "need_row" "need_row" pP 215 T7:=mkF
theorem aip:NQ P "need_row" 215:=by eq_refl
theorem mO:BQ P T7 ["book","number"]:=T8.binds (by ac_nf)
def T9:FuncData:=fdM "without" pQ "starsieve.lean" 554 294
theorem Ua:Fun (HK.K P) "without" "without" pQ 295 T9:=mkF
theorem aiq:NQ P "without" 295:=by eq_refl
theorem mQ:BQ P T9 ["book","number"]:=Ua.binds (by ac_nf)
def Ub:FuncData:=fdM "_law_forms" pR LN 682 469
theorem Uc:Fun (HK.K P) "_law_forms" "_law_forms" pR 470 Ub:=mkF
theorem air:NQ P "_law_forms" 470:=by eq_refl
theorem ais:BQ P Ub ["rows"]:=Uc.binds (by ac_nf)
def Ud:FuncData:=fdM "_law_drawn_change" pU LN 682 476
theorem Ue:Fun (HK.K P) "_law_drawn_change" "_law_drawn_change" pU 477 Ud:=mkF
theorem ait:NQ P "_law_drawn_change" 477:=by eq_refl
theorem aiu:BQ P Ud ["pen","width","rows","elder"]:=Ue.binds (by ac_nf)
def Ug:FuncData:=fdM "_law_fresh" pW LN 682 386
theorem Uh:Fun (HK.K P) "_law_fresh" "_law_fresh" pW 387 Ug:=mkF
theorem aiv:NQ P "_law_fresh" 387:=by eq_refl
theorem aiw:BQ P Ug ["rows"]:=Uh.binds (by ac_nf)
def Ui:FuncData:=fdM "fits" pX "starsieve.forms" 319 155
theorem Uj:Fun (HK.K P) "fits" "fits" pX 156 Ui:=mkF
theorem aix:NQ P "fits" 156:=by eq_refl
theorem mR:BQ P Ui ["form","word"]:=Uj.binds (by ac_nf)
def Uk:FuncData:=fdM "is_word" pY "starsieve.forms" 319 143
theorem Ul:Fun (HK.K P) "is_word" "is_word" pY 144 Uk:=mkF
theorem aiy:NQ P "is_word" 144:=by eq_refl
theorem mU:BQ P Uk ["width","thing"]:=Ul.binds (by ac_nf)
def Um:FuncData:=fdM "met" pZ "starsieve.books" 400 221
theorem Uo:Fun (HK.K P) "met" "met" pZ 222 Um:=mkF
theorem aiz:NQ P "met" 222:=by eq_refl
theorem mV:BQ P Um ["book","word"]:=Uo.binds (by ac_nf)
def Up:FuncData:=fdM "reach" p6 "starsieve.reached" 566 299
theorem Uq:Fun (HK.K P) "reach" "reach" p6 300 Up:=mkF
theorem aiA:NQ P "reach" 300:=by eq_refl
theorem mW:BQ P Up ["book","number"]:=Uq.binds (by ac_nf)
def Ur:FuncData:=fdM "hidden" p7 "starsieve.reached" 566 304
theorem Us:Fun (HK.K P) "hidden" "hidden" p7 305 Ur:=mkF
theorem Ut:NQ P "hidden" 305:=by eq_refl
theorem aiB:BQ P Ur ["book"]:=Us.binds (by ac_nf)
theorem aiC:NQ P "hidden_reached" 305:=by eq_refl
def Bv:FuncData:=fdM "_law_same" p8 LN 682 464
theorem vZ:Fun (HK.K P) "_law_same" "_law_same" p8 465 Bv:=mkF
theorem Uu:NQ P "_law_same" 465:=by eq_refl
theorem Uv:BQ P Bv ["found","due"]:=vZ.binds (by ac_nf)
def Uw:FuncData:=fdM "_law_open" qb LN 682 400
theorem Ux:Fun (HK.K P) "_law_open" "_law_open" qb 401 Uw:=mkF
theorem aiD:NQ P "_law_open" 401:=by eq_refl
theorem aiE:BQ P Uw ["script"]:=Ux.binds (by ac_nf)
def Uy:FuncData:=fdQ "__init__" "Sieve.__init__" qd "starsieve.sieve" 581 318
theorem Uz:Fun (HK.K P) "__init__" "Sieve.__init__" qd 319 Uy:=mkQ
theorem aiF:Mk (HK.K P) 378 319:=⟨by eq_refl,by eq_refl,by eq_refl,by eq_refl⟩
theorem aiG:BQ P Uy ["self","book"]:=Uz.binds (by ac_nf)
def UG:FuncData:=fdQ "book" "Sieve.book" qe "starsieve.sieve" 581 325
theorem UJ:Fun (HK.K P) "book" "Sieve.book" qe 326 UG:=mkQ
theorem aiH:Meth (HK.K P) 378 (Str.ofString "book") 326:=⟨by eq_refl,by eq_refl,by eq_refl⟩
theorem mX:BQ P UG ["self"]:=UJ.binds (by ac_nf)
def UL:FuncData:=fdQ "back" "Sieve.back" qg "starsieve.sieve" 581 374
theorem UT:Fun (HK.K P) "back" "Sieve.back" qg 375 UL:=mkQ
theorem aiI:Meth (HK.K P) 378 (Str.ofString "back") 375:=⟨by eq_refl,by eq_refl,by eq_refl⟩
theorem iU:BQ P UL ["self"]:=UT.binds (by ac_nf)
def UV:FuncData:=fdQ "turn" "Sieve.turn" qi "starsieve.sieve" 581 346
theorem UW:Fun (HK.K P) "turn" "Sieve.turn" qi 347 UV:=mkQ
theorem aiJ:Meth (HK.K P) 378 (Str.ofString "turn") 347:=⟨by eq_refl,by eq_refl,by eq_refl⟩
theorem mY:BQ P UV ["self","rows"]:=UW.binds (by ac_nf)
def U0:FuncData:=fdQ "put" "Sieve.put" qj "starsieve.sieve" 581 353
theorem U3:Fun (HK.K P) "put" "Sieve.put" qj 354 U0:=mkQ
theorem aiK:Meth (HK.K P) 378 (Str.ofString "put") 354:=⟨by eq_refl,by eq_refl,by eq_refl⟩
theorem mZ:BQ P U0 ["self","number","form","deed"]:=U3.binds (by ac_nf)
def U4:FuncData:=fdQ "move" "Sieve.move" ql "starsieve.sieve" 581 367
theorem U5:Fun (HK.K P) "move" "Sieve.move" ql 368 U4:=mkQ
theorem aiL:Meth (HK.K P) 378 (Str.ofString "move") 368:=⟨by eq_refl,by eq_refl,by eq_refl⟩
theorem m5:BQ P U4 ["self","number","place"]:=U5.binds (by ac_nf)
def U6:FuncData:=fdQ "out" "Sieve.out" qm "starsieve.sieve" 581 360
theorem U7:Fun (HK.K P) "out" "Sieve.out" qm 361 U6:=mkQ
theorem aiM:Meth (HK.K P) 378 (Str.ofString "out") 361:=⟨by eq_refl,by eq_refl,by eq_refl⟩
theorem m6:BQ P U6 ["self","number"]:=U7.binds (by ac_nf)
def U8:FuncData:=fdM "_law_do" qp LN 682 483
theorem U9:Fun (HK.K P) "_law_do" "_law_do" qp 484 U8:=mkF
theorem aiN:NQ P "_law_do" 484:=by eq_refl
theorem aiO:BQ P U8 ["sieve","word","pieces"]:=U9.binds (by ac_nf)
def Va:FuncData:=fdQ "deed" "Sieve.deed" qt "starsieve.sieve" 581 332
theorem Vb:Fun (HK.K P) "deed" "Sieve.deed" qt 333 Va:=mkQ
theorem aiP:Meth (HK.K P) 378 (Str.ofString "deed") 333:=⟨by eq_refl,by eq_refl,by eq_refl⟩
theorem m7:BQ P Va ["self","word"]:=Vb.binds (by ac_nf)
def Vc:FuncData:=fdQ "hidden" "Sieve.hidden" qu "starsieve.sieve" 581 339
theorem Vd:Fun (HK.K P) "hidden" "Sieve.hidden" qu 340 Vc:=mkQ
theorem aiQ:Meth (HK.K P) 378 (Str.ofString "hidden") 340:=⟨by eq_refl,by eq_refl,by eq_refl⟩
theorem aiR:BQ P Vc ["self"]:=Vd.binds (by ac_nf)
def Ve:FuncData:=fdM "_law_look" qw LN 682 488
theorem Vf:Fun (HK.K P) "_law_look" "_law_look" qw 489 Ve:=mkF
theorem aiS:NQ P "_law_look" 489:=by eq_refl
theorem aiT:BQ P Ve ["sieve","words"]:=Vf.binds (by ac_nf)
def Vg:FuncData:=fdM "_law_gone_back" qx LN 682 495
theorem Vh:Fun (HK.K P) "_law_gone_back" "_law_gone_back" qx 496 Vg:=mkF
theorem aiU:NQ P "_law_gone_back" 496:=by eq_refl
theorem aiV:BQ P Vg ["sieve","one","words"]:=Vh.binds (by ac_nf)
def Vi:FuncData:=fdM "_law_no_more" qy LN 682 502
theorem Vj:Fun (HK.K P) "_law_no_more" "_law_no_more" qy 503 Vi:=mkF
theorem aiW:NQ P "_law_no_more" 503:=by eq_refl
theorem aiX:BQ P Vi ["sieve"]:=Vj.binds (by ac_nf)
def Bw:FuncData:=fdM "law" qz LN 682 507
theorem aiY:Fun (HK.K P) "law" "law" qz 508 Bw:=mkF
theorem aiZ:NQ P "law" 508:=by eq_refl
theorem ai0:PySem.W.nsIn (HK.K P) mainGlobals "all"=some none:=by eq_refl
theorem ai1:PySem.W.nsIn (HK.K P) mainGlobals "bool"=some none:=by eq_refl
theorem ai2:PySem.W.nsIn (HK.K P) mainGlobals "enumerate"=some none:=by eq_refl
theorem ai3:PySem.W.nsIn (HK.K P) mainGlobals "int"=some none:=by eq_refl
theorem ai4:PySem.W.nsIn (HK.K P) mainGlobals "isinstance"=some none:=by eq_refl
theorem ai5:PySem.W.nsIn (HK.K P) mainGlobals "len"=some none:=by eq_refl
theorem ai6:PySem.W.nsIn (HK.K P) mainGlobals "list"=some none:=by eq_refl
theorem ai7:PySem.W.nsIn (HK.K P) mainGlobals "min"=some none:=by eq_refl
theorem ai8:PySem.W.nsIn (HK.K P) mainGlobals "range"=some none:=by eq_refl
theorem ai9:PySem.W.nsIn (HK.K P) mainGlobals "str"=some none:=by eq_refl
theorem aja:PySem.W.nsIn (HK.K P) mainGlobals "tuple"=some none:=by eq_refl
theorem ajb:PySem.W.nsIn (HK.K P) mainGlobals "zip"=some none:=by eq_refl
theorem ajc:PySem.W.nsIn (HK.K P) mainGlobals "LETTERS"=some (some (.str "abcdefghijklmnopqrstuvwxyz" 406)):=by eq_refl
theorem ajd:PySem.W.nsIn (HK.K P) mainGlobals "LONGEST_DEED"=some (some (.int 8 404)):=by eq_refl
theorem aje:PySem.W.nsIn (HK.K P) mainGlobals "MOST_ROWS"=some (some (.int 12 402)):=by eq_refl
theorem ajf:PySem.W.nsIn (HK.K P) mainGlobals "WIDEST"=some (some (.int 6 321)):=by eq_refl
theorem x_s:xsB (HK.K P) xs=true:=by eq_refl
end
section
variable {l:PySem.W.OpenLaw} {w:World} {h:Heap} {mg:Str->Option Value} {base:Heap} (X:(HK.K w.params).In h) (G:h.Ns mainGlobals mg)
include X G
theorem B0:BB l w mg base 0 f0 o0:=bse trivial ⟨mg_none_of X G ai0,mg_none_of X G ai1,mg_none_of X G ai2,mg_none_of X G ai3,mg_none_of X G ai4,mg_none_of X G ai5,mg_none_of X G ai6,mg_none_of X G ai7,mg_none_of X G ai8,mg_none_of X G ai9,mg_none_of X G aja,mg_none_of X G ajb,trivial⟩ ⟨ac9 (mg_of X G ajc) (by ac_rfl) (by decide),yZ (mg_of X G ajd),yZ (mg_of X G aje),yZ (mg_of X G ajf),trivial⟩ X G x_s
theorem B1:BB l w mg base 1 f1 o0:=(B0 X G).step RG lQ (mg_of X G ahJ) Ax 0 afM afN rfl rfl (cM (λa G h=>adP Φ  a G h))
theorem B2:BB l w mg base 2 f2 o0:=(B1 X G).step RK lU (mg_of X G ahK) Ay 0 afO afP rfl rfl (cM (λa G h=>adL Φ  a G h))
theorem B3:BB l w mg base 3 f3 o0:=(B2 X G).step RM lV (mg_of X G ahL) Az 0 afQ afR rfl rfl (cM (λa G h=>adO Φ Ay a G h))
theorem B4:BB l w mg base 4 f4 o0:=(B3 X G).step RP lW (mg_of X G ahM) QT 0 afS afT rfl rfl (cM (λa G h=>adQ Φ Az Ax a G h))
theorem B5:BB l w mg base 5 f5 o0:=(B4 X G).step RT lX (mg_of X G ahN) Ba 0 afU afV rfl rfl (iR (λds G d h=>adq Φ  ds G d h))
theorem B6:BB l w mg base 6 f6 o0:=(B5 X G).step RW lY (mg_of X G ahO) QV 0 afW afX rfl rfl (cM (λa G h=>adR Φ Ba a G h))
theorem B7:BB l w mg base 7 f7 o0:=(B6 X G).step RZ lZ (mg_of X G ahP) QW 2 afY afZ rfl rfl (cM (λa G h=>adS Φ QV QT a G h))
theorem B8:BB l w mg base 8 f8 o0:=(B7 X G).step R1 mj (mg_of X G ahQ) km 0 af0 af1 rfl rfl (cM (λa G h=>adT Φ QW a G h))
theorem B9:BB l w mg base 9 f9 o0:=(B8 X G).step R4 mq (mg_of X G ahR) QX 3 af2 af3 rfl rfl (iR (λds G d h=>ad7 Φ  ds G d h))
theorem B10:BB l w mg base 10 f10 o0:=(B9 X G).step R6 my (mg_of X G ahS) Bb 2 af4 af5 rfl rfl (bT (λds G h=>aee Φ QX ds G h))
theorem B11:BB l w mg base 11 f11 o0:=(B10 X G).step R8 mz (mg_of X G ahT) QZ 3 af6 af7 rfl rfl (bT (λds G h=>aeh Φ Bb ds G h))
theorem B12:BB l w mg base 12 f12 o0:=(B11 X G).step Sd mC (mg_of X G ahU) Bc 0 af8 af9 rfl rfl (iR (λds G d h=>ad9 Φ  ds G d h))
theorem Vk:∀n:Nat,FnOk l.prog w (HK.K w.params) mg base (CX1 l.prog w) (12+n) 269 Br ["name","many_rows","box"] (lift (HK.K w.params) 3 (eQ n))
 |0=>za aeo
 |n+1=>jN (fs:=f13) vX ((B12 X G).self (by ac_rfl) (Vk n) vX.kp jT (mg_of X G Sg)) (eQ (n+1)) 3 4 aga agb rfl rfl (bT (λds G h=>aen (gU Φ "grown" (eQ n)) n (if_pos rfl) (jR Bb rfl) (jR QZ rfl) (jR Bc rfl) ds G h))
theorem B13:BB l w mg base 21 f13 o0:=(B12 X G).add (j:=9) Bd (Vk X G 9) vX.kp jT (mg_of X G Sg)
theorem B14:BB l w mg base 22 f14 o0:=(B13 X G).add (j:=1) Be ((ahI Bt).cx.mono (by decide)) Bt.kp ahW (mg_of X G ahV)
theorem B15:BB l w mg base 23 f15 o0:=(B14 X G).step Ss mD (mg_of X G ahX) Q0 0 agc agd rfl rfl (iR (λds G d h=>aes Φ  ds G d h))
theorem B16:BB l w mg base 24 f16 o0:=(B15 X G).step Sw mF (mg_of X G ahY) vR 0 age agf rfl rfl (iR (λds G d h=>aeq Φ Ba ds G d h))
theorem Vl:∀n:Nat,FnOk l.prog w (HK.K w.params) mg base (CX1 l.prog w) (24+n) 250 Bu ["box","tree"] (lift (HK.K w.params) 2 (dY n))
 |0=>za aev
 |n+1=>jN (fs:=f17) vY ((B16 X G).self (by ac_rfl) (Vl n) vY.kp iT (mg_of X G Sy)) (dY (n+1)) 2 3 agg agh rfl rfl (cM (λa G h=>aex (gU Φ "leaves" (dY n)) n (if_pos rfl) (jR Q0 rfl) (jR vR rfl) (jR Bc rfl) a G h))
theorem B17:BB l w mg base 33 f17 o0:=(B16 X G).add (j:=9) Bg (Vl X G 9) vY.kp iT (mg_of X G Sy)
theorem B18:BB l w mg base 34 f18 o0:=(B17 X G).step SN mG (mg_of X G ahZ) Q3 0 agi agj rfl rfl (cM (λa G h=>aeN Φ km a G h))
theorem B19:BB l w mg base 35 f19 o0:=(B18 X G).step SX jU (mg_of X G ah0) Bh 0 agk agl rfl rfl (bT (λds G h=>ad2 Φ  ds G h))
theorem B20:BB l w mg base 36 f20 o0:=(B19 X G).step S6 mH (mg_of X G ah1) Q4 0 agm agn rfl rfl (cM (λa G h=>aeP Φ Bh a G h))
theorem B21:BB l w mg base 37 f21 o0:=(B20 X G).step S8 mJ (mg_of X G ah2) Q5 0 ago agp rfl rfl (iR (λds G d h=>aea Φ  ds G d h))
theorem B22:BB l w mg base 38 f22 o0:=(B21 X G).step Tc mK (mg_of X G ah3) Q6 3 agq agr rfl rfl (cC (λa ds G h=>aeR Φ Q3 Bd Bg Be Q5 Q4 a ds G h))
theorem B23:BB l w mg base 39 f23 o0:=(B22 X G).step Te mL (mg_of X G ah4) Bj 2 ags agt rfl rfl (cM (λa G h=>aeS Φ Q6 a G h))
theorem B24:BB l w mg base 40 f24 o0:=(B23 X G).step Th ah6 (mg_of X G ah5) Q7 0 agu agv rfl rfl (bT (λds G h=>adi Φ  ds G h))
theorem B25:BB l w mg base 41 f25 o0:=(B24 X G).step Tj ah8 (mg_of X G ah7) Q8 3 agw agx rfl rfl (bT (λds G h=>adh Φ  ds G h))
theorem B26:BB l w mg base 42 f26 o0:=(B25 X G).step Tp aia (mg_of X G ah9) fP 3 agy agz rfl rfl (bT (λds G h=>adk Φ Q8 ds G h))
theorem B27:BB l w mg base 43 f27 o0:=(B26 X G).step Tt aic (mg_of X G aib) vU 0 agA agB rfl rfl (bT (λds G h=>adn Φ fP ds G h))
theorem B28:BB l w mg base 44 f28 o0:=(B27 X G).step Tv aie (mg_of X G aid) Bk 4 agC agD rfl rfl (bT (λds G h=>adF Φ fP vU ds G h))
theorem B29:BB l w mg base 45 f29 o0:=(B28 X G).step Tz aig (mg_of X G aif) Q9 0 agE agF rfl rfl (bT (λds G h=>ado Φ fP vU ds G h))
theorem B30:BB l w mg base 46 f30 o0:=(B29 X G).step TQ aii (mg_of X G aih) Ra 2 agG agH rfl rfl (bT (λds G h=>adA Φ fP ds G h))
theorem B31:BB l w mg base 47 f31 o0:=(B30 X G).step TY aik (mg_of X G aij) Rb 2 agI agJ rfl rfl (bT (λds G h=>adz Φ fP ds G h))
theorem B32:BB l w mg base 48 f32 o0:=(B31 X G).step T4 aim (mg_of X G ail) Bl 3 agK agL rfl rfl (bT (λds G h=>adD Φ fP Q9 Rb Ra ds G h))
theorem B33:BB l w mg base 49 f33 o0:=(B32 X G).step T6 aio (mg_of X G ain) Rc 5 agM agN rfl rfl (bT (λds G h=>adH Φ fP Bk Bl ds G h))
theorem B34:BB l w mg base 50 f34 o0:=(B33 X G).step T8 mO (mg_of X G aip) vV 0 agO agP rfl rfl (cM (λa G h=>aeD Φ km vR a G h))
theorem B35:BB l w mg base 51 f35 o0:=(B34 X G).step Ua mQ (mg_of X G aiq) Bm 2 agQ agR rfl rfl (cM (λa G h=>aeT Φ vV a G h))
theorem B36:BB l w mg base 52 f36 o0:=(B35 X G).step Uc ais (mg_of X G air) Rf 0 agS agT rfl rfl (cM (λa G h=>ae6 Φ  a G h))
theorem B37:BB l w mg base 53 f37 o0:=(B36 X G).step Ue aiu (mg_of X G ait) Rg 6 agU agV rfl rfl (cC (λa ds G h=>ae8 Φ fP Bl Rf Bk a ds G h))
theorem B38:BB l w mg base 54 f38 o0:=(B37 X G).step Uh aiw (mg_of X G aiv) Rh 1 agW agX rfl rfl (cC (λa ds G h=>afz Φ  a ds G h))
theorem B39:BB l w mg base 55 f39 o0:=(B38 X G).step Uj mR (mg_of X G aix) Ri 0 agY agZ rfl rfl (iR (λds G d h=>adV Φ  ds G d h))
theorem B40:BB l w mg base 56 f40 o0:=(B39 X G).step Ul mU (mg_of X G aiy) Rj 0 ag0 ag1 rfl rfl (cM (λa G h=>adM Φ Ay a G h))
theorem B41:BB l w mg base 57 f41 o0:=(B40 X G).step Uo mV (mg_of X G aiz) Rk 4 ag2 ag3 rfl rfl (bT (λds G h=>adZ Φ km Rj Ri ds G h))
theorem B42:BB l w mg base 58 f42 o0:=(B41 X G).step Uq mW (mg_of X G aiA) Rm 4 ag4 ag5 rfl rfl (cC (λa ds G h=>aeG Φ vV Bd Bg Be a ds G h))
theorem B43:BB l w mg base 59 f43 o0:=(B42 X G).step Us aiB (mg_of X G Ut) Rn 0 ag6 ag7 rfl rfl (cM (λa G h=>afi Φ km Rm a G h))
theorem B44:BB l w mg base 60 f44 o0:=(B43 X G).alias (x:="hidden") (by ac_rfl) (Ro.trans Rn.symm) ((mg_of X G aiC).trans (mg_of X G Ut).symm)
theorem Vm:∀n:Nat,FnOk l.prog w (HK.K w.params) mg base (CX1 l.prog w) (60+n) 465 Bv ["found","due"] (lift (HK.K w.params) 2 (dB n))
 |0=>za adw
 |n+1=>jN (fs:=f45) vZ ((B44 X G).self (by ac_rfl) (Vm n) vZ.kp Uv (mg_of X G Uu)) (dB (n+1)) 2 0 ag8 ag9 rfl rfl (bT (λds G h=>adv (gU Φ "_law_same" (dB n)) n (if_pos rfl) ds G h))
theorem B45:BB l w mg base 69 f45 o0:=(B44 X G).add (j:=9) Bo (Vm X G 9) vZ.kp Uv (mg_of X G Uu)
theorem B46:BB l w mg base 70 f46 o0:=(B45 X G).step Ux aiE (mg_of X G aiD) Rp 3 aha ahb rfl rfl (bT (λds G h=>adp Φ  ds G h))
theorem BF:BB l w mg base 70 f46 o1:=(B46 X G).addF ⟨378,eX,fU,RC⟩
theorem B47:BB l w mg base 72 f46 o2:=(BF X G).addK (j:=2) (adg (BF X G) Uz aiG (mg_of X G eX) eX fU RC aiF ahc ahd rfl rfl (λd G kk E h=>ae4 Φ km Rq d G kk E h))
theorem B48:BB l w mg base 73 f46 o3:=(B47 X G).stepM0 UJ mX eX fU aiH fQ 0 ahe ahf rfl rfl (cC (λa ds G h=>aeU Φ  a ds G h))
theorem B49:BB l w mg base 74 f46 o4:=(B48 X G).stepM UT iU eX fU aiI oh 1 ahg ahh rfl rfl (afe rfl (cC (λa ds G h=>ae2 Φ fQ Bj a ds G h)) (λds G C h=>afq Φ ds G C h))
theorem B50:BB l w mg base 75 f46 o5:=(B49 X G).stepM0 UW mY eX fU aiJ vW 1 ahi ahj rfl rfl (cC (λa ds G h=>aeX Φ fQ Bj a ds G h))
theorem B51:BB l w mg base 76 f46 o6:=(B50 X G).stepM0 U3 mZ eX fU aiK Bp 2 ahk ahl rfl rfl (cC (λa ds G h=>aeY Φ fQ vW vR Az Ax a ds G h))
theorem B52:BB l w mg base 77 f46 o7:=(B51 X G).stepM0 U5 m5 eX fU aiL Rt 2 ahm ahn rfl rfl (cC (λa ds G h=>ae0 Φ fQ vW Bm vV a ds G h))
theorem B53:BB l w mg base 78 f46 o8:=(B52 X G).stepM0 U7 m6 eX fU aiM Ru 0 aho ahp rfl rfl (cC (λa ds G h=>aeZ Φ fQ vW Bm a ds G h))
theorem B54:BB l w mg base 79 f47 o8:=(B53 X G).step U9 aiO (mg_of X G aiN) Rv 0 ahq ahr rfl rfl (cC (λa ds G h=>afr Φ Bp Ru Rt oh a ds G h))
theorem B55:BB l w mg base 80 f47 o9:=(B54 X G).stepM0 Vb m7 eX fU aiP Rw 0 ahs aht rfl rfl (cC (λa ds G h=>afm Φ fQ Rk Bh a ds G h))
theorem B56:BB l w mg base 81 f47 o10:=(B55 X G).stepM0 Vd aiR eX fU aiQ Rx 0 ahu ahv rfl rfl (cC (λa ds G h=>afk Φ fQ Ro a ds G h))
theorem B57:BB l w mg base 82 f48 o10:=(B56 X G).step Vf aiT (mg_of X G aiS) Bq 0 ahw ahx rfl rfl (cC (λa ds G h=>afp Φ fQ Rx Rw a ds G h))
theorem B58:BB l w mg base 83 f49 o10:=(B57 X G).step Vh aiV (mg_of X G aiU) Ry 2 ahy ahz rfl rfl (cC (λa ds G h=>afs Φ oh Bo Bq a ds G h))
theorem B59:BB l w mg base 84 f50 o10:=(B58 X G).step Vj aiX (mg_of X G aiW) Rz 1 ahA ahB rfl rfl (cC (λa ds G h=>aft Φ oh a ds G h))
theorem ajg:FnOk l.prog w (HK.K w.params) mg base (CX1 l.prog w) 85 508 Bw ["script"] (lift (HK.K w.params) 1 (m8)):=jN aiY (B59 X G) (m8) 1 13 ahC ahD rfl rfl (bT (λds G h=>afF Φ ⟨Rp,Q7,fP,vU,Rc,Rq,Ry,Rg,Bq,Rv,Rz,Bo,fQ,Bp,Rh,oh⟩ ds G h))
omit X G in
theorem all (fa:Addr) (X:(HK.K w.params).In h) (G:h.Ns mainGlobals mg) (hfa:mg "law"=some (.ref fa)):∃fd:FuncData,(∀(s:Shared) (v:Value),BindsTo s fd ⟨[v],[]⟩ [("script",v)])/\∀base:Heap,(HK.K w.params).In base->base.Ns mainGlobals mg->FnOk l.prog w (HK.K w.params) mg base (CX1 l.prog w) 85 fa fd ["script"] (lift (HK.K w.params) 1 (m8)):=by have e:=hfa.symm.trans (PySem.W.mg_of X G aiZ);cases e;exact ⟨Bw,λs v=>.of_eq rfl,λbase _ _=>ajg X G⟩
end
theorem walk {l:PySem.W.OpenLaw} {q:Program} {loose:List Str} {XP:(Str->Option Value)->Heap->Prop} {d:DefRec} (hn:l.most=some 63) (hdf:d.params.defaults=[]) (hdn:d.name="law"):
  PySem.W.WalkO q loose XP HK.hook.says l.row.toRowW d [] (λf vs=>PySem.call f vs):=
 L2.YQ (n:=63) (k:=85) (x:="script") (K:=HK.K) (CX:=λw=>CX1 l.prog w) (sp:=λw=>lift (HK.K w.params) 1 (m8)) hn (by decide) hdf ⟨rfl,by decide,by decide⟩ (λ_ _ Y=>Y) (λw mg fa h X G hmg=>all fa X G (hdn ▸ hmg)) (λw H a ns hl hO hS=>ada (adb λns _ hl=>⟨ns,rfl,hl⟩) (HK.K w.params) H a ns hl hO hS) λ_ _ _ _ _ z=>acZ z
end Lk64
open PySem PySem.W PyProof.Rows
set_option maxRecDepth 100000 in
set_option maxHeartbeats 0 in
theorem PySem.Challenge.cw_starsieve_k64_whole_gone_back_holds : PySem.Challenge.rw_starsieve_k64_whole_gone_back.Holds := by
 have said:PySem.Challenge.rw_starsieve_k64_whole_gone_back.row.wellSaid=true:=by ac_rfl
 refine ⟨by ac_rfl,?_⟩;refine PySem.W.holds_open (q:=HK.qv) (loose:=["hidden_reached"]) (Xt:=HK.Xt) (XP:=XL HK.qv []) (Yf:=HK.hook.obs) (Ya:=HK.hook.val) (YP:=HK.hook.says) (N:=12000) HK.left HK.hook.of HK.hook.keeps
  (λs e=>xl_of s (Bool.and_eq_true_iff.mp e).1) XL.keeps (by rfl) (by rfl) (by rfl) (λs e=>recFacts_of (Bool.and_eq_true_iff.mp e).2) (by rfl) (by assumption) (by ac_rfl) ⟨rfl,rfl,rfl,rfl,rfl,by ac_rfl⟩ ?hw ?hc
 case hw=>exact ⟨[.list []],by ac_rfl,by ac_rfl⟩
 exact Lk64.walk rfl rfl rfl
