import PyProof.Rows.All
import Wide.All
import OpenK.AllK
import Wide.FinOn
import Lean
import PyProof.EqAt
import PyProof.EqKinds
import PyProof.TupleCall
import PyProof.NeKinds
import PyProof.FactsAll.range_2
import PyProof.FactsAll.tuple_2
import PyProof.FactsAll.tuple
import PyProof.ListRange
import PySem.Challenge.RW_starsieve_k42_joins_refused
set_option compiler.extract_closed false
set_option bootstrap.genMatcherCode false
set_option genSizeOf false
set_option Elab.async false
set_option maxRecDepth 100000
noncomputable section
local macro_rules|`(tactic|rfl')=>`(tactic|kernel_rfl)
local macro_rules|`(tactic|ac_rfl)=>`(tactic|decide +kernel)
abbrev PF:=PySem.W.Frag
set_option linter.all false
namespace L2
open PySem PySem.Spec PyProof.Rows
def ae:=@Bool.and_eq_true
def af:=@And.intro
def ag:=@PySem.wpAny_bind
def ah:=@PySem.Heap.get?_push_of_some
def al:=@List.length_map
def am:=@List.getElem?_eq_some_iff
def ar:=@List.size_toArray
def av:=@beq_iff_eq
def aw:=@Nat.le_refl
def ax:=@List.mem_append_right
def ay:=@PySem.Heap.lt_size
def aE:=@Option.map_eq_some_iff
def aI:=@Option.some.injEq
def aS:=@PySem.wpAny_pure
def aT:=@decide_eq_true
def a7:=@List.contains_iff_mem
def a8:=@List.getElem?_map
def a9:=@PySem.Heap.get?_push_size
def ba:=@List.mem_cons_of_mem
def bb:=@Nat.lt_of_lt_of_le
def bg:=@List.mem_singleton
def bi:=@Bool.false_ne_true
def bn:=@List.mem_append
def bo:=@List.mem_cons
def bp:=@decide_eq_true_iff
def bq:=@List.length_append
def br:=@List.mem_cons_self
def bv:=@List.all_eq_true
def bP:=@List.drop_eq_getElem_cons
def bS:=@List.getElem?_eq_getElem
def bX:=@decide_eq_false
def b6:=@List.mem_of_getElem?
def b9:=@PySem.wpAny_mono
def ca:=@Nat.ne_of_lt
def cb:=@Nat.le_trans
def ce:=@List.map_cons
def cf:=@Bool.and_true
theorem ci:type_of% @List.replicate_succ:=@List.replicate_succ
def ck:=@Option.isSome_iff_exists
def cm:=@List.length_set
def cp:=@Bool.or_eq_true
def cq:=@Int.eq_ofNat_of_zero_le
def cr:=@List.mem_map
def cw:=@PyProof.Rows.callWith_type1
def cy:=@List.length_eq_zero_iff
def cK:=@List.mem_append_left
def cS:=@List.map_append
def dc:=@List.cons.injEq
def de:=@List.length_drop
def df:=@beq_eq_false_iff_ne
theorem dk:type_of% @Int.toNat_natCast:=@Int.toNat_natCast
def dn:=@List.length_replicate
def dv:=@PySem.W.kia_one
def dy:=@Option.some.inj
def dA:=@PySem.wpAny_field
def dE:=@List.length_take
def dL:=@PySem.Heap.size_push
theorem dP:type_of% @Array.length_toList:=@Array.length_toList
def dQ:=@of_decide_eq_true
def dS:=@PySem.mem_of_lookup
def d3:=@Nat.zero_le
def d4:=@List.append_nil
def d5:=@Nat.le_add_right
def ee:=@List.getElem_mem
def ef:=@PySem.F.plainAttrs_list
def eg:=@List.take_of_length_le
def eh:=@PySem.wpAny_truthy_bool
def en:=@Nat.lt_irrefl
def ey:=@PySem.wpAny_execs_nil
def ez:=@List.drop_length
theorem eA:type_of% @List.length_cons:=@List.length_cons
def eI:=@PySem.wpAny_holding
def eJ:=@Option.isNone_iff_eq_none
def eK:=@List.getElem?_append_left
def eL:=@PySem.wpAny_setField_rec
def eM:=@PySem.wpAny_seqItems
def eP:=@List.map_nil
theorem eR:type_of% @List.flatten_cons:=@List.flatten_cons
def eS:=@Bool.true_and
def eT:=@PyProof.Rows.slot_tuple_getitem
def eW:=@List.take_length
def e6:=@List.isEmpty_iff
def e7:=@Bool.false_and
def e8:=@Bool.and_false
def e9:=@Int.emod_lt_of_pos
def fb:=@PySem.wpAny_callSpecial?_slot
def fe:=@congrArg
def ff:=@and_true
def fg:=@List.dropLast_concat_getLast
def fh:=@Int.emod_nonneg
def fk:=@List.take_add_one
def fm:=@Bool.not_eq_true'
def fo:=@PySem.wpAny_passesOwn
def fq:=@List.getD_eq_getElem?_getD
def ft:=@Array.getElem?_eq_some_iff
theorem fv:type_of% @List.filterMap_cons:=@List.filterMap_cons
def fw:=@List.getElem?_range
def fx:=@PySem.wpAny_rule
def fy:=@PySem.call_meets
def fA:=@PySem.F.slot_tuple_iterator_next
def fE:=@List.mem_filter
def fF:=@PySem.wpAny_execs_cons
def fI:=@PySem.wpAny_call_entry
def fN:=@Bool.false_eq_true
def fR:=@List.set_eq_take_append_cons_drop
def fS:=@List.findIdx?_eq_some_iff_getElem
def fT:=@and_self
def gc:=@Nat.ne_of_gt
def gd:=@List.map_map
def ge:=@List.getElem?_set_self
def gg:=@List.append_assoc
def gi:=@PySem.wpAny_Call_Name_kw
def gl:=@List.cons_lt_cons_iff
def gp:=@Array.getElem?_toList
def gs:=@Nat.lt_succ_self
def gt:=@Bool.not_true
def gu:=@PySem.wpAny_loadPart_at
def gv:=@PySem.wpAny_standAt
theorem gx:type_of% @List.getElem?_cons_succ:=@List.getElem?_cons_succ
abbrev Key:=Sum Int Str
def Aa:Key->Value->Bool
 |.inl k,v=>Value.isInt k v
 |.inr x,v=>Value.isStrOf x v
def TQ(w:World):Key->Int
 |.inl k=>hashInt k
 |.inr x=>hashStr w x
theorem fP:∀{k:Key}{v:Value},Aa k v=true->(∃i t,k=Sum.inl i/\v=Value.int i t)\/(∃x t,k=Sum.inr x/\v=Value.str x t)
 |.inl i,v,h=>by
  obtain ⟨t,e⟩:=Value.isInt_shape (k:=i) (v:=v) h;exact .inl ⟨i,t,rfl,e⟩
 |.inr x,v,h=>by
  obtain ⟨t,e⟩:=Value.isStrOf_shape (x:=x) (v:=v) h;exact .inr ⟨x,t,rfl,e⟩
theorem TV(a b:Int):decide ((Sum.inl a:Key)=Sum.inl b)=(a==b):=by
 by_cases e:a=b
 ·subst e;simp
 ·have h:¬(Sum.inl a:Key)=Sum.inl b:=λq=>e (Sum.inl.inj q);rw[bX h];exact (df.mpr e).symm
theorem TY(a b:Str):decide ((Sum.inr a:Key)=Sum.inr b)=decide (a=b):=by
 by_cases e:a=b
 ·subst e;simp
 ·have h:¬(Sum.inr a:Key)=Sum.inr b:=λq=>e (Sum.inr.inj q);rw[bX h,bX e]
theorem T3(a:Int)(b:Str):decide ((Sum.inl a:Key)=Sum.inr b)=false:=bX (λq=>nomatch q)
theorem T4(a:Str)(b:Int):decide ((Sum.inr a:Key)=Sum.inl b)=false:=bX (λq=>nomatch q)
def vy(prog:Program)(w:World):PySem.KeyKind prog w Key where
 is:=Aa
 hash:=TQ w
 inj:=λv a b ha hb=>by
  rcases fP ha with ⟨i,t,rfl,rfl⟩ |⟨x,t,rfl,rfl⟩
  ·rcases fP hb with ⟨j,u,rfl,e⟩ |⟨y,u,rfl,e⟩
   ·injection e with e1 _;rw[e1]
   ·exact nomatch e
  ·rcases fP hb with ⟨j,u,rfl,e⟩ |⟨y,u,rfl,e⟩
   ·exact nomatch e
   ·injection e with e1 _;rw[e1]
 byValue:=λk v h=>by
  rcases fP h with ⟨i,t,rfl,rfl⟩ |⟨x,t,rfl,rfl⟩ <;> rfl
 pyHash:=λhv h=>by
  rcases fP hv with ⟨i,t,rfl,rfl⟩ |⟨x,t,rfl,rfl⟩
  ·exact wpAny_pyHash_int h
  ·exact wpAny_pyHash_str h
 eqBool:=λhu hv h=>by
  rcases fP hu with ⟨i,t,rfl,rfl⟩ |⟨x,t,rfl,rfl⟩
  ·rcases fP hv with ⟨j,u,rfl,rfl⟩ |⟨y,u,rfl,rfl⟩
   ·rw[TV]at h;exact wpAny_eqBool_int h
   ·rw[T3]at h;exact SeqAt.EqAt.int_str i t y u _ _ _ _ h
  ·rcases fP hv with ⟨j,u,rfl,rfl⟩ |⟨y,u,rfl,rfl⟩
   ·rw[T4]at h;exact SeqAt.EqAt.str_int x t j u _ _ _ _ h
   ·rw[TY]at h;exact wpAny_eqBool_str h
 «strs»:=λk x t v h=>by
  rcases fP h with ⟨i,u,rfl,e⟩ |⟨y,u,rfl,e⟩
  ·exact nomatch e
  ·injection e with e1 _;subst e1;cases v <;> rfl
inductive V where
 |non |bl (b:Bool) |int (i:Int) |str (x:Str) |byt (b:Array UInt8) |flt (b:UInt64) |ref (a:Addr) |ty (n:String)
 deriving DecidableEq
def RelV:V->Value->Prop
 |.non,u=>u=Value.none
 |.bl b,u=>u=Value.bool b
 |.int i,u=>∃t,u=Value.int i t
 |.str x,u=>∃t,u=Value.str x t
 |.byt b,u=>∃t,u=Value.bytes b t
 |.flt b,u=>∃t,u=Value.float b t
 |.ref a,u=>u=Value.ref a
 |.ty n,u=>u=Value.type n
abbrev Vals:List V->List Value->Prop:=Paired RelV
theorem Vals.length{xs:List V}{us:List Value}(r:Vals xs us):xs.length=us.length:=Paired.length r
theorem Vals.get:∀{xs:List V}{us:List Value}{i:Nat}{x:V},Vals xs us->xs[i]?=some x->∃u,us[i]?=some u/\RelV x u
 |_,_,_,_,.nil,e=>by simp at e
 |_,_,0,_,.cons r _,e=>by simp at e;subst e;exact ⟨_,rfl,r⟩
 |_,_,i+1,x,.cons _ t,e=>by
  obtain ⟨u,h1,h2⟩:=Vals.get (i:=i) (x:=x) t (by simpa using e);exact ⟨u,by simpa using h1,h2⟩
theorem Vals.set{x:V}{u:Value}(r:RelV x u):∀{xs:List V}{us:List Value}(i:Nat),Vals xs us->Vals (xs.set i x) (us.set i u)
 |_,_,_,.nil=>.nil
 |_,_,0,.cons _ t=>.cons r t
 |_,_,i+1,.cons q t=>.cons q (Vals.set r i t)
theorem Vals.append:∀{xs ys:List V}{us ws:List Value},Vals xs us->Vals ys ws->Vals (xs++ys) (us++ws)
 |_,_,_,_,.nil,s=>s
 |_,_,_,_,.cons r t,s=>.cons r (Vals.append t s)
theorem Vals.take:∀{xs:List V}{us:List Value}(n:Nat),Vals xs us->Vals (xs.take n) (us.take n)
 |_,_,0,_=>.nil
 |_,_,_+1,.nil=>.nil
 |_,_,n+1,.cons r t=>.cons r (Vals.take n t)
theorem Vals.drop:∀{xs:List V}{us:List Value}(n:Nat),Vals xs us->Vals (xs.drop n) (us.drop n)
 |_,_,0,r=>r
 |_,_,_+1,.nil=>.nil
 |_,_,n+1,.cons _ t=>Vals.drop n t
def RelO:Option V->Option Value->Prop
 |some v,some u=>RelV v u
 |none,none=>True
 |_,_=>False
def KV{κ:Type}:List (κ×V)->List (κ×Value)->Prop:=Paired λ(p:κ×V) (q:κ×Value)=>p.1=q.1/\RelV p.2 q.2
def kV:Key->V
 |.inl i=>.int i
 |.inr x=>.str x
inductive HO where
 |lst (xs:List V)
 |tup (xs:List V)
 |dK (kvs:List (Key×V)) |dT (kvs:List (List Key×V))
 |set (S:Int->Bool) (n:Nat)
 |ins (C dx:Addr) (fs:List (Str×V))
 |own (x:Addr)
 |xd (fs:List (Str×V))
 |met (f x:Addr)
 |rng (lo hi:Int)
 |frz (o:Obj) (u:HO)
 |tbl (ps:Array Value)
 |ext (φ:Heap->Prop)
abbrev Hp:=Addr->Option HO
def upd(H:Hp)(a:Addr)(o:HO):Hp:=λb=>if b=a then some o else H b
theorem dJ{H:Hp}{a:Addr}{o:HO}:upd H a o a=some o:=by unfold upd;rw[if_pos rfl]
theorem aL{H:Hp}{a b:Addr}{o:HO}(h:b≠a):upd H a o b=H b:=by unfold upd;rw[if_neg h]
theorem Ab{H:Hp}{a b:Addr}{o u:HO}(h:H a=some o)(h':H b=some u)(d:o≠u):a≠b:=by intro e;subst e;rw[h]at h';exact d (dy h')
theorem bj{H:Hp}{a b:Addr}{o:HO}(h:H a=some o)(h':H b=none):a≠b:=by intro e;subst e;rw[h]at h';cases h'
section
variable (P:Program) (w:World)
def ObjOk(H:Hp)(h:Heap)(a:Addr):HO->Prop
 |.lst xs=>xs.length<=sizeLine/\∃(its:List Value) (n:Nat),Vals xs its/\h.get? a=some { cls:=.type "list",data:=.seq its.toArray n }
 |.tup xs=>xs.length<=sizeLine/\∃its:List Value,Vals xs its/\IsTup h a its.toArray
 |.dK kvs=>kvs.length<=sizeLine/\(a==sysModules)=false/\∃vs,KV kvs vs/\h.DictOf (vy P w) a vs
 |.dT kvs=>kvs.length<=sizeLine/\(a==sysModules)=false/\∃xs:List (List Key×Addr×Value),
   Paired (λ(p:List Key×V) (q:List Key×Addr×Value)=>p.1=q.1/\H q.2.1=some (.tup (p.1.map kV))/\RelV p.2 q.2.2) kvs xs/\
   ∃o es ep,h.get? a=some o/\o.ExactDict/\o.data=.dict es ep/\es.toList=xs.map (entryOfKey (tupleKind (vy P w)))/\(xs.map (·.1)).Nodup
 |.set S n=>h.SetOf (intKind P w) a S n
 |.ins C dx fs=>H dx=some (.own a)/\fs.length<=1000/\dx≠a/\h.get? a=some (PySem.W.instObj C dx)/\
   ∃mA,h.Ns1 dx mA/\(∀f,RelO (fs.lookup f) (mA f))/\PySem.Within mA (fs.map (·.1))
 |.own _=>∃o,h.get? a=some o
 |.xd fs=>∃mA,h.Ns1 a mA/\∀f,RelO (fs.lookup f) (mA f)
 |.rng lo hi=>∃t u v,h.get? a=some { cls:=.type "range",data:=.fields #[.int lo t,.int hi u,.int 1 v] }
 |.frz o u=>h.get? a=some o/\ObjOk H h a u
 |.tbl ps=>h.get? a=some { cls:=.none,data:=.fields ps }
 |.met f x=>h.get? a=some (PySem.W.methodObj (.ref f) (.ref x))
 |.ext φ=>φ h/\(∃o,h.get? a=some o)/\∀h1 h2:Heap,φ h1->(∀o,h1.get? a=some o->h2.get? a=some o)->φ h2
def HOk(H:Hp)(h:Heap):Prop:=∀a o,H a=some o->ObjOk P w H h a o
end
section
variable {P:Program} {w:World} {H H':Hp} {h h':Heap} {a:Addr} {o:HO}
theorem ObjOk.lt(x:ObjOk P w H h a o):a < h.objs.size:=by
 cases o with
 |lst xs=>obtain ⟨_,_,_,_,e⟩:=x;exact ay e
 |tup xs=>obtain ⟨_,_,_,p⟩:=x;exact p.lt
 |dK kvs=>obtain ⟨_,_,_,_,o,_,_,e,_⟩:=x;exact ay e
 |dT kvs=>obtain ⟨_,_,_,_,o,_,_,e,_⟩:=x;exact ay e
 |set S n=>obtain ⟨o,_,_,_,e,_⟩:=x;exact ay e
 |ins C dx fs=>obtain ⟨_,_,_,e,_⟩:=x;exact ay e
 |own y=>obtain ⟨_,e⟩:=x;exact ay e
 |xd fs=>obtain ⟨_,⟨_,_,_,e,_⟩,_⟩:=x;exact ay e
 |rng lo hi=>obtain ⟨_,_,_,e⟩:=x;exact ay e
 |frz ob u=>obtain ⟨e,_⟩:=x;exact ay e
 |tbl ps=>exact ay (show h.get? a=some _ from x)
 |met f y=>exact ay (show h.get? a=some _ from x)
 |ext φ=>obtain ⟨_,⟨_,e⟩,_⟩:=x;exact ay e
theorem Paired.mapP{α β:Type}{F G:α->β->Prop}:∀{l₁:List α}{l₂:List β},Paired F l₁ l₂->(∀a b,F a b->G a b)->Paired G l₁ l₂
 |_,_,.nil,_=>.nil
 |_,_,.cons r t,f=>.cons (f _ _ r) (Paired.mapP t f)
theorem ObjOk.stay(x:ObjOk P w H h a o)(k:∀b u,(b=a\/H b=some (.own a))->h.get? b=some u->h'.get? b=some u)
  (ho:∀b,H b=some (.own a)->H' b=some (.own a)) (ht:∀b xs,H b=some (.tup xs)->H' b=some (.tup xs)):ObjOk P w H' h' a o:=by
 induction o with
 |lst xs=>obtain ⟨z,its,n,r,e⟩:=x;exact ⟨z,its,n,r,k _ _ (.inl rfl) e⟩
 |tup xs=>obtain ⟨z,its,r,ob,e,c⟩:=x;exact ⟨z,its,r,ob,k _ _ (.inl rfl) e,c⟩
 |dK kvs=>obtain ⟨z,y,vs,r,ob,es,ep,e,c⟩:=x;exact ⟨z,y,vs,r,ob,es,ep,k _ _ (.inl rfl) e,c⟩
 |dT kvs=>
  obtain ⟨z,y,xs,r,ob,es,ep,e,c⟩:=x;exact ⟨z,y,xs,Paired.mapP r λp q z=>⟨z.1,ht _ _ z.2.1,z.2.2⟩,ob,es,ep,k _ _ (.inl rfl) e,c⟩
 |set S n=>obtain ⟨ob,es,ep,t,e,c⟩:=x;exact ⟨ob,es,ep,t,k _ _ (.inl rfl) e,c⟩
 |ins C dx fs=>
  obtain ⟨d,z,ne,e,mA,⟨od,es,ep,e2,c⟩,r⟩:=x;exact ⟨ho _ d,z,ne,k _ _ (.inl rfl) e,mA,⟨od,es,ep,k _ _ (.inr d) e2,c⟩,r⟩
 |own y=>obtain ⟨ob,e⟩:=x;exact ⟨ob,k _ _ (.inl rfl) e⟩
 |xd fs=>obtain ⟨mA,⟨od,es,ep,e,c⟩,r⟩:=x;exact ⟨mA,⟨od,es,ep,k _ _ (.inl rfl) e,c⟩,r⟩
 |rng lo hi=>obtain ⟨t,u,v,e⟩:=x;exact ⟨t,u,v,k _ _ (.inl rfl) e⟩
 |frz ob u ih=>obtain ⟨e,q⟩:=x;exact ⟨k _ _ (.inl rfl) e,ih q⟩
 |tbl ps=>
  have e:h.get? a=some { cls:=.none,data:=.fields ps }:=x;show h'.get? a=some { cls:=.none,data:=.fields ps };exact k a _ (.inl rfl) e
 |met f y=>
  have e:h.get? a=some (PySem.W.methodObj (.ref f) (.ref y)):=x;show h'.get? a=some (PySem.W.methodObj (.ref f) (.ref y));exact k a _ (.inl rfl) e
 |ext φ=>obtain ⟨p,⟨o,e⟩,st⟩:=x;exact ⟨st _ _ p λo q=>k _ _ (.inl rfl) q,⟨o,k _ _ (.inl rfl) e⟩,st⟩
theorem HOk.lt(x:HOk P w H h)(e:H a=some o):a < h.objs.size:=(x a o e).lt
theorem HOk.fresh(x:HOk P w H h)(e:h.objs.size<=a):H a=none:=by
 cases q:H a with
 |none=>rfl
 |some u=>exact absurd (bb (x.lt q) e) (en _)
theorem HOk.kept(x:HOk P w H h)(k:∀b u,h.get? b=some u->h'.get? b=some u):HOk P w H h':=λa o e=>
 (x a o e).stay (λb u _ q=>k b u q) (λ_ q=>q) λ_ _ q=>q
theorem HOk.laid(x:HOk P w H h)(k:∀b u,h.get? b=some u->h'.get? b=some u)(hp:h.objs.size<=a)(new:ObjOk P w (upd H a o) h' a o):HOk P w (upd H a o) h':=λb u e=>by
 have hn:=x.fresh hp;by_cases hb:b=a
 ·subst hb;rw[dJ]at e;cases e;exact new
 ·rw[aL hb]at e;exact (x b u e).stay (λc v _ q=>k c v q) (λc q=>by rw[aL (bj q hn)];exact q) λc xs q=>by rw[aL (bj q hn)];exact q
end
def Rd(H:Hp)(a:Addr)(u:HO):Prop:=H a=some u\/∃o,H a=some (.frz o u)
theorem Rd.ok{P:Program}{w:World}{H:Hp}{h:Heap}{a:Addr}{u:HO}(r:Rd H a u)(x:HOk P w H h):ObjOk P w H h a u:=by
 rcases r with r |⟨o,r⟩
 ·exact x a u r
 ·obtain ⟨_,q⟩:=x a _ r;exact q
noncomputable def Mut:Option HO->Prop
 |some (.lst _)=>True
 |some (.dK _)=>True
 |some (.dT _)=>True
 |some (.set _ _)=>True
 |some (.ins _ _ _)=>True
 |some (.ext _)=>True
 |_=>False
section
variable {P:Program} {w:World} {H:Hp} {h h':Heap} {x e:Addr} {o':HO}
theorem HOk.write(ok:HOk P w H h)(mu:Mut (H x))(he:e=x\/H e=some (.own x))(k:∀b u,b≠e->h.get? b=some u->h'.get? b=some u)(heo:∃u,h'.get? e=some u)
  (new:ObjOk P w (upd H x o') h' x o'):HOk P w (upd H x o') h':=λb u q=>by
 have nown:∀c y,H c=some (.own y)->c≠x:=λc y r z=>by subst z;rw[r]at mu;exact mu
 have ntup:∀c xs,H c=some (.tup xs)->c≠x:=λc xs r z=>by subst z;rw[r]at mu;exact mu
 by_cases hb:b=x
 ·subst hb;rw[dJ]at q;cases q;exact new
 ·rw[aL hb]at q;by_cases hbe:b=e
  ·have q':H b=some (.own x):=by
    rcases he with z |z
    ·exact absurd (hbe.trans z) hb
    ·rw[hbe];exact z
   rw[q]at q';cases q';obtain ⟨v,hv⟩:=heo;exact ⟨v,by rw[hbe];exact hv⟩
  ·refine (ok b u q).stay (λc v hc r=>k c v ?_ r) (λc r=>by rw[aL (nown c b r)];exact r) λc xs r=>by rw[aL (ntup c xs r)];exact r
   rcases hc with rfl |hc
   ·exact hbe
   ·rintro rfl;rcases he with z |z
    ·exact nown c b hc z
    ·rw[hc]at z;cases z;exact hb rfl
end
structure Un(fs ex:List Addr)(H H':Hp)(h h':Heap):Prop where
 keep:∀b o,h.get? b=some o->H b=none->b∉fs->b∉ex->h'.get? b=some o
 slot:∀b o,h.get? b=some o->H b=none->b∈fs->b∉ex->∃sl,h'.get? b=some { o with slots:=sl }
 free:∀b o,h.get? b=some o->H b=none->b∉ex->H' b=none
 there:∀b o,h.get? b=some o->b∉ex->∃o',h'.get? b=some o'
 tups:∀b xs,H b=some (.tup xs)->H' b=some (.tup xs)
 frzs:∀b o u,H b=some (.frz o u)->H' b=some (.frz o u)
 tbls:∀b ps,H b=some (.tbl ps)->∃more,H' b=some (.tbl (ps++more))
section
variable {fs fs' ex ex':List Addr} {H H1 H2:Hp} {h h1 h2 h':Heap} {a x e:Addr} {o:HO}
theorem Un.any(u:Un fs ex H H1 h h1){b:Addr}{ob:Obj}(q:h.get? b=some ob)(n:H b=none)(hx:b∉ex):∃sl,h1.get? b=some { ob with slots:=sl }:=by
 by_cases hb:b∈fs
 ·exact u.slot b ob q n hb hx
 ·exact ⟨ob.slots,u.keep b ob q n hb hx⟩
theorem Un.kept(k:∀b u,h.get? b=some u->h'.get? b=some u):Un fs ex H H h h':=
 ⟨λb ob q _ _ _=>k b ob q,λb ob q _ _ _=>⟨ob.slots,k b ob q⟩,λ_ _ _ n _=>n,λb ob q _=>⟨ob,k b ob q⟩,λ_ _ q=>q,λ_ _ _ q=>q,λ_ ps q=>⟨#[],by rw[q];simp⟩⟩
theorem Un.refl:Un fs ex H H h h:=Un.kept λ_ _ q=>q
theorem Un.laid(k:∀b u,h.get? b=some u->h'.get? b=some u)(hp:h.objs.size<=a)(hn:H a=none):Un fs ex H (upd H a o) h h' where
 keep:=λb u q _ _ _=>k b u q
 slot:=λb u q _ _ _=>⟨u.slots,k b u q⟩
 free:=λb u q n _=>by rw[aL (ca (bb (ay q) hp))];exact n
 there:=λb u q _=>⟨u,k b u q⟩
 tups:=λb xs q=>by rw[aL (bj q hn)];exact q
 frzs:=λb u xs q=>by rw[aL (bj q hn)];exact q
 tbls:=λb ps q=>⟨#[],by rw[aL (bj q hn),q];simp⟩
theorem Un.write(mu:Mut (H x))(he:e=x\/H e=some (.own x))(k:∀b u,b≠e->h.get? b=some u->h'.get? b=some u)(heo:∃u,h'.get? e=some u):Un fs ex H (upd H x o) h h':=by
 have hx:∀b,H b=none->b≠x:=λb n z=>by subst z;rw[n]at mu;exact mu
 have hb:∀b,H b=none->b≠e:=λb n z=>by
  subst z;rcases he with r |r
  ·exact hx b n r
  ·rw[n]at r;cases r
 have hm:∀b u,H b=some u->¬Mut (some u)->b≠x:=λb u q nm z=>by subst z;rw[q]at mu;exact nm mu
 refine ⟨λb u q n _ _=>k b u (hb b n) q,λb u q n _ _=>⟨u.slots,k b u (hb b n) q⟩,λb u q n _=>by rw[aL (hx b n)];exact n,λb u q _=>?_,
  λb xs q=>by rw[aL (hm b _ q λz=>z)];exact q,λb u xs q=>by rw[aL (hm b _ q λz=>z)];exact q,λb ps q=>⟨#[],by rw[aL (hm b _ q λz=>z),q];simp⟩⟩
 by_cases hbe:b=e
 ·subst hbe;exact heo
 ·exact ⟨u,k b u hbe q⟩
end
def trk(h:Heap)(H:Hp):List Addr:=(List.range h.objs.size).filter λa=>(H a).isSome
def fQ(h:Heap)(H:Hp):Heap:=PySem.W.hideAll h (trk h H)
theorem T5(h:Heap)(H:Hp):(fQ h H).objs.size=h.objs.size:=PySem.W.hideAll_size _ _
theorem T6{h:Heap}{H:Hp}{b:Addr}{o:Obj}(e:h.get? b=some o)(n:H b=none):(fQ h H).get? b=some o:=
 PySem.W.hideAll_get _ e λhm=>by
  have q:(H b).isSome=true:=(fE.mp hm).2;rw[n]at q;simp at q
theorem T7{h:Heap}{H:Hp}{b:Addr}{o:Obj}(e:(fQ h H).get? b=some o):h.get? b=some o/\H b=none:=by
 have e':h.get? b=some o:=PySem.W.of_hideAll (trk h H) e;refine ⟨e',?_⟩;cases q:H b with
 |none=>rfl
 |some x=>
  have hm:b∈trk h H:=fE.mpr ⟨List.mem_range.mpr (ay e'),by simp[q]⟩;have z:(fQ h H).get? b=none:=PySem.W.hideAll_none (trk h H) hm;rw[z]at e;cases e
noncomputable def T8(g h:Heap)(L:Addr):List (Addr×Obj):=(List.range h.objs.size).filterMap λa=>if a=L\/(g.get? a).isSome=true then none else (h.get? a).map λo=>(a,o)
def rest(g h:Heap)(L d:Addr):List (Addr×Obj):=(T8 g h L).filter λp=>decide (p.1≠d)
structure Mod(K:PF)(mg:Str->Option Value)(base:Heap):Prop where
 kin:K.In base
 glob:base.Ns mainGlobals mg
 blt:∃mb,base.Ns builtinsNs mb/\∀x:Str,x≠"__name__"->mb x=bootBuiltins x
 nolimit:base.NoLimit
structure Cx where
 prog:Program
 w:World
 K:PF
 mg:Str->Option Value
 base:Heap
 A:Around
 N:List Str
 s₀:Shared
 H₀:Hp
 env:Env
 outer:List Env
 stack:List Env
 ex:List Addr
 fn:Str->Bool
 calm:Bool
 pn:List (Addr×Obj)
 xe:Value->Shared->Prop
def frs(l:List Env):List Addr:=l.filterMap (·.frame)
abbrev Cx.fs(X:Cx):List Addr:=frs X.outer
def Vis(sc:Scope)(x:Str):Prop:=sc.names.lookup x=some .local\/sc.names.lookup x=some .cell\/sc.names.lookup x=some .free
def Loc(sc:Scope)(x:Str):Prop:=sc.names.lookup x=some .local\/sc.names.lookup x=some .cell
def Look(env:Env)(h:Heap)(m:Str->Option Value)(x:Str)(u:Value):Prop:=
 (env.kindOf x=some .local/\m x=some u)\/((env.kindOf x=some .cell\/env.kindOf x=some .free)/\∃c,env.cells.lookup x=some c/\h.IsCell c (some u))
structure Cx.Ok(X:Cx):Prop where
 mod:Mod X.K X.mg X.base
 kind:X.env.scope.kind=.function
 glob:X.env.globals=mainGlobals
 blt:X.env.builtins=builtinsNs
 above:X.s₀.heap.objs.size<=X.env.locals
 inj:∀x y c,X.env.cells.lookup x=some c->X.env.cells.lookup y=some c->x=y
 has:∀x,(X.env.kindOf x=some .cell\/X.env.kindOf x=some .free)->∃c,X.env.cells.lookup x=some c
 cab:∀x c,X.fn x=true->X.env.cells.lookup x=some c->X.s₀.heap.objs.size<=c
 hd:X.calm=true->X.A.handled=none
 frames:X.A.frames=some X.stack
 stk:X.stack=X.outer\/(X.stack=X.env::X.outer/\X.env.frame=some X.env.locals)
 exf:∀b∈X.ex,b≠X.env.locals/\∀x c,X.env.cells.lookup x=some c->c≠b
 bs:∀b o,X.base.get? b=some o->X.s₀.heap.get? b=some o/\X.H₀ b=none
 bsz:X.base.objs.size<=X.s₀.heap.objs.size
 noex:∀b o,X.base.get? b=some o->b∉X.ex
 exfs:∀b∈X.ex,b∉X.fs
 funs:X.s₀.heap.FunFrames X.base X.outer
 frf:∀b∈X.fs,X.H₀ b=none
structure Inv(X:Cx)(pins:List (Addr×Obj))(σ:List (Option V))(H:Hp)(s:Shared):Prop where
 ok:X.Ok
 os:s.os=X.s₀.os
 bare:AllBare s.gens
 base:Un X.fs X.ex X.H₀ H X.s₀.heap s.heap
 loc:∃m,s.heap.Ns X.env.locals m/\∀(i:Nat)(x:Str)(v:V),X.N[i]?=some x->σ[i]?=some (some v)->Vis X.env.scope x->∃u,RelV v u/\Look X.env s.heap m x u
 cell:∀x c,X.env.cells.lookup x=some c->∃v,s.heap.IsCell c v
 free:H X.env.locals=none
 freeC:∀x c,X.env.cells.lookup x=some c->H c=none
 pin:∀p∈X.pn++pins,s.heap.get? p.1=some p.2/\H p.1=none/\p.1≠X.env.locals/\p.1∉X.fs/\∀v,p.2.data≠.cell v
 hok:HOk X.prog X.w H s.heap
 len:σ.length=X.N.length
section
variable {X:Cx} {pins:List (Addr×Obj)} {σ:List (Option V)} {H H':Hp} {s:Shared} {h':Heap}
theorem Cx.Ok.nofr(ok:X.Ok){b:Addr}{o:Obj}(e:X.base.get? b=some o):b∉X.fs:=λhb=>by
 have:=(ok.funs.mem hb).1;rw[e]at this;cases this
theorem Inv.bs(I:Inv X pins σ H s):∀b o,X.base.get? b=some o->s.heap.get? b=some o/\H b=none:=λb o e=>
 ⟨I.base.keep b o (I.ok.bs b o e).1 (I.ok.bs b o e).2 (I.ok.nofr e) (I.ok.noex b o e),I.base.free b o (I.ok.bs b o e).1 (I.ok.bs b o e).2 (I.ok.noex b o e)⟩
theorem Inv.bk(I:Inv X pins σ H s):∀b o,X.base.get? b=some o->s.heap.get? b=some o:=λb o e=>(I.bs b o e).1
theorem Inv.mod(I:Inv X pins σ H s):Mod X.K X.mg X.base:=I.ok.mod
theorem Inv.kIn(I:Inv X pins σ H s):X.K.In s.heap:=I.ok.mod.kin.keeps I.bk
theorem Inv.lt(I:Inv X pins σ H s):X.env.locals < s.heap.objs.size:=let ⟨_,hn,_⟩:=I.loc;hn.lt
theorem Inv.sz(I:Inv X pins σ H s):X.s₀.heap.objs.size<=s.heap.objs.size:=cb I.ok.above (Nat.le_of_lt I.lt)
theorem Inv.nofs(I:Inv X pins σ H s){a:Addr}(h:s.heap.objs.size<=a):a∉X.fs:=λhb=>by
 obtain ⟨_,o,ho,_⟩:=I.ok.funs.mem hb;exact absurd (bb (ay ho) (cb I.sz h)) (en _)
theorem Inv.cne(I:Inv X pins σ H s):∀x c,X.env.cells.lookup x=some c->c≠X.env.locals:=λx c e z=>by
 obtain ⟨v,o,ho,hd⟩:=I.cell x c e;obtain ⟨m,⟨o',es,ep,ho',hd',_⟩,_⟩:=I.loc;rw[z,ho']at ho;cases ho;rw[hd']at hd;cases hd
theorem Inv.funs(I:Inv X pins σ H s):s.heap.FunFrames X.base X.outer:=by
 have all:∀(l:List Env),(∀b∈frs l,b∈X.fs)->X.s₀.heap.FunFrames X.base l->s.heap.FunFrames X.base l:=by
  intro l;induction l with
  |nil=>intro _ _;trivial
  |cons env r ih=>
   intro hs hl;obtain ⟨hk,⟨L,o,hf,hn,ho,hd⟩,hr⟩:=hl;have hL:L∈X.fs:=hs L (by unfold frs;rw[fv,hf];exact br);obtain ⟨sl,e⟩:=I.base.slot L o ho (I.ok.frf L hL) hL λz=>I.ok.exfs L z hL;exact ⟨hk,⟨L,_,hf,hn,e,hd⟩,ih (λb hb=>hs b (by unfold frs;rw[fv,hf];exact ba _ hb)) hr⟩
 exact all X.outer (λ_ hb=>hb) I.ok.funs
theorem Inv.stack(I:Inv X pins σ H s):s.heap.FunFrames X.base X.stack:=by
 rcases I.ok.stk with e |⟨e,hf⟩
 ·rw[e];exact I.funs
 ·rw[e];obtain ⟨m,hn,_⟩:=I.loc;refine .cons (by rw[I.ok.kind];decide) hf hn ?_ I.funs;exact Heap.get?_none_of_le (cb I.ok.bsz I.ok.above)
theorem Inv.stkSub(I:Inv X pins σ H s):∀b∈frs X.stack,b∈X.env.locals::X.fs:=λb hb=>by
 rcases I.ok.stk with e |⟨e,hf⟩
 ·rw[e]at hb;exact ba _ hb
 ·rw[e]at hb;unfold frs at hb;rw[fv,hf]at hb;exact hb
theorem Inv.stkFree(I:Inv X pins σ H s):∀b∈frs X.stack,H b=none:=λb hb=>by
 rcases bo.mp (I.stkSub b hb) with e |hb
 ·rw[e];exact I.free
 ·obtain ⟨_,o,ho,_⟩:=I.ok.funs.mem hb;exact I.base.free b o ho (I.ok.frf b hb) λz=>I.ok.exfs b z hb
theorem Inv.step{g':Array GenState}{t':Nat}{d':Drawn}{ch:List Addr}(I:Inv X pins σ H s)
  (hch:∀b∈ch,(b∈X.ex\/X.s₀.heap.objs.size<=b)/\b≠X.env.locals/\(∀x c,X.env.cells.lookup x=some c->c≠b)/\∀p∈X.pn++pins,p.1≠b)
  (keep:∀b o,b≠X.env.locals->b∉X.fs->b∉ch->s.heap.get? b=some o->H b=none->h'.get? b=some o)
  (slot:∀b o,b≠X.env.locals->b∈X.fs->b∉ch->s.heap.get? b=some o->H b=none->∃sl,h'.get? b=some { o with slots:=sl }) (free:∀b o,b∉ch->s.heap.get? b=some o->H b=none->H' b=none)
  (there:∀b o,b∉ch->s.heap.get? b=some o->∃o',h'.get? b=some o')
  (tups:∀b xs,H b=some (.tup xs)->H' b=some (.tup xs)) (frzs:∀b o u,H b=some (.frz o u)->H' b=some (.frz o u)) (tbls:∀b ps,H b=some (.tbl ps)->∃more,H' b=some (.tbl (ps++more)))
  (ns:∀m,s.heap.Ns X.env.locals m->h'.Ns X.env.locals m) (hok:HOk X.prog X.w H' h') (hg:AllBare g'):
  Inv X pins σ H' { s with heap:=h',gens:=g',drawn:=d',toks:=t' }:=by
 have neL:∀b o,X.s₀.heap.get? b=some o->b≠X.env.locals:=λb o e=>ca (bb (ay e) I.ok.above);have neC:∀b o,X.s₀.heap.get? b=some o->b∉X.ex->b∉ch:=λb o e hx hb=>by
  rcases (hch b hb).1 with z |z
  ·exact hx z
  ·exact absurd (bb (ay e) z) (en _)
 have cellK:∀x c,X.env.cells.lookup x=some c->∀v,s.heap.IsCell c v->h'.IsCell c v:=λx c e v ⟨o,ho,hd⟩=>by
  have nch:c∉ch:=λz=>(hch c z).2.2.1 x c e rfl;by_cases hc:c∈X.fs
  ·obtain ⟨sl,q⟩:=slot c o (I.cne x c e) hc nch ho (I.freeC x c e);exact ⟨_,q,hd⟩
  ·exact ⟨o,keep c o (I.cne x c e) hc nch ho (I.freeC x c e),hd⟩
 refine ⟨I.ok,I.os,hg,⟨λb o e n hb hx=>?_,λb o e n hb hx=>?_,λb o e n hx=>?_,λb o e hx=>?_,λb xs e=>tups b xs (I.base.tups b xs e),λb o xs e=>frzs b o xs (I.base.frzs b o xs e),λb ps e=>?_⟩,?_,λx c e=>?_,?_,λx c e=>?_,λp hp=>?_,hok,I.len⟩
 ·exact keep b o (neL b o e) hb (neC b o e hx) (I.base.keep b o e n hb hx) (I.base.free b o e n hx)
 ·obtain ⟨sl,e1⟩:=I.base.slot b o e n hb hx;obtain ⟨sl',e2⟩:=slot b _ (neL b o e) hb (neC b o e hx) e1 (I.base.free b o e n hx);exact ⟨sl',e2⟩
 ·obtain ⟨o',e1⟩:=I.base.there b o e hx;exact free b o' (neC b o e hx) e1 (I.base.free b o e n hx)
 ·obtain ⟨o',e1⟩:=I.base.there b o e hx;exact there b o' (neC b o e hx) e1
 ·obtain ⟨m1,e1⟩:=I.base.tbls b ps e;obtain ⟨m2,e2⟩:=tbls b _ e1;exact ⟨m1++m2,by rw[e2,Array.append_assoc]⟩
 ·obtain ⟨m,hn,hl⟩:=I.loc;refine ⟨m,ns m hn,λi x v e1 e2 e3=>?_⟩;obtain ⟨u,r,l⟩:=hl i x v e1 e2 e3;refine ⟨u,r,?_⟩;rcases l with l |⟨k,c,e,z⟩
  ·exact .inl l
  ·exact .inr ⟨k,c,e,cellK x c e _ z⟩
 ·obtain ⟨v,z⟩:=I.cell x c e;exact ⟨v,cellK x c e v z⟩
 ·obtain ⟨m,⟨o,_,_,ho,_⟩,_⟩:=I.loc;exact free _ o (λz=>(hch _ z).2.1 rfl) ho I.free
 ·obtain ⟨v,o,ho,hd⟩:=I.cell x c e;exact free c o (λz=>(hch c z).2.2.1 x c e rfl) ho (I.freeC x c e)
 ·obtain ⟨e,n,ne,nf,d⟩:=I.pin p hp;have nch:p.1∉ch:=λz=>(hch p.1 z).2.2.2 p hp rfl;exact ⟨keep p.1 p.2 ne nf nch e n,free p.1 p.2 nch e n,ne,nf,d⟩
theorem Inv.un{t':Nat}(I:Inv X pins σ H s)(u:Un X.fs [] H H' s.heap h')(hok:HOk X.prog X.w H' h'):Inv X pins σ H' { s with heap:=h',toks:=t' }:=by
 obtain ⟨m,⟨o,es,ep,ho,r⟩,_⟩:=id I.loc;obtain ⟨sl,hL⟩:=u.any ho I.free (by simp);exact I.step (g':=s.gens) (d':=s.drawn) (ch:=[]) (λ_ z=>nomatch z) (λb o _ hb _ e n=>u.keep b o e n hb (by simp)) (λb o _ hb _ e n=>u.slot b o e n hb (by simp)) (λb o _ e n=>u.free b o e n (by simp)) (λb o _ e=>u.there b o e (by simp)) u.tups u.frzs u.tbls (λm' hm=>by
  obtain ⟨o',es',ep',ho',r'⟩:=hm;rw[ho]at ho';cases ho';exact ⟨_,es',ep',hL,r'⟩) hok I.bare
theorem Inv.call{g':Array GenState}{t':Nat}{d':Drawn}{ch:List Addr}(I:Inv X pins σ H s)(u:Un (frs X.stack) ch H H' s.heap h')(hok:HOk X.prog X.w H' h')(hg:AllBare g')
  (hch:∀b∈ch,(b∈X.ex\/X.s₀.heap.objs.size<=b)/\b≠X.env.locals/\(∀x c,X.env.cells.lookup x=some c->c≠b)/\∀p∈X.pn++pins,p.1≠b):
  Inv X pins σ H' { s with heap:=h',gens:=g',drawn:=d',toks:=t' }:=by
 obtain ⟨m,⟨o,es,ep,ho,r⟩,_⟩:=id I.loc;obtain ⟨sl,hL⟩:=u.any ho I.free λz=>(hch _ z).2.1 rfl;exact I.step (ch:=ch) hch (λb o hL hb hc e n=>u.keep b o e n (λz=>(bo.mp (I.stkSub b z)).elim hL hb) hc) (λb o _ _ hc e n=>u.any e n hc) (λb o hc e n=>u.free b o e n hc) (λb o hc e=>u.there b o e hc) u.tups u.frzs u.tbls (λm' hm=>by
  obtain ⟨o',es',ep',ho',r'⟩:=hm;rw[ho]at ho';cases ho';exact ⟨_,es',ep',hL,r'⟩) hok hg
theorem Inv.turned{t':Nat}{it:Addr}(I:Inv X pins σ H s)(k:∀b o,b≠it->s.heap.get? b=some o->h'.get? b=some o)(hn:H it=none)(hL:it≠X.env.locals)
  (h1:it∈X.ex\/X.s₀.heap.objs.size<=it) (h2:∀x c,X.env.cells.lookup x=some c->c≠it) (h3:∀p∈X.pn++pins,p.1≠it):Inv X pins σ H { s with heap:=h',toks:=t' }:=by
 have nit:∀b u,H b=some u->b≠it:=λb u e z=>by rw[z,hn]at e;cases e
 refine I.step (g':=s.gens) (d':=s.drawn) (ch:=[it]) (λb hb=>?_) (λb o _ _ hc e _=>k b o (λz=>hc (by simp[z])) e) (λb o _ _ hc e _=>⟨o.slots,k b o (λz=>hc (by simp[z])) e⟩) (λ_ _ _ _ n=>n)
  (λb o hc e=>⟨o,k b o (λz=>hc (by simp[z])) e⟩) (λ_ _ e=>e) (λ_ _ _ e=>e) (λb ps e=>⟨#[],by rw[e];simp⟩) (λm hm=>?_) (λb u e=>?_) I.bare
 ·have e:b=it:=by simpa using hb
  subst e;exact ⟨h1,hL,h2,h3⟩
 ·obtain ⟨o,es,ep,ho,r⟩:=hm;exact ⟨o,es,ep,k _ o (Ne.symm hL) ho,r⟩
 ·refine (I.hok b u e).stay (λc v hc q=>k c v ?_ q) (λ_ q=>q) λ_ _ q=>q;rcases hc with z |z
  ·rw[z];exact nit b u e
  ·exact nit c _ z
theorem Inv.tok(I:Inv X pins σ H s)(t:Nat):Inv X pins σ H { s with toks:=t }:=I.un (h':=s.heap) (t':=t) Un.refl I.hok
theorem Inv.kept{t':Nat}(I:Inv X pins σ H s)(k:∀b u,s.heap.get? b=some u->h'.get? b=some u):Inv X pins σ H { s with heap:=h',toks:=t' }:=I.un (Un.kept k) (I.hok.kept k)
theorem Inv.laid{a:Addr}{o:HO}{t':Nat}(I:Inv X pins σ H s)(k:∀b u,s.heap.get? b=some u->h'.get? b=some u)(hp:s.heap.objs.size<=a)(new:ObjOk X.prog X.w (upd H a o) h' a o):
  Inv X pins σ (upd H a o) { s with heap:=h',toks:=t' }:=I.un (Un.laid k hp (I.hok.fresh hp)) (I.hok.laid k hp new)
theorem Inv.write{x e:Addr}{o:HO}{t':Nat}(I:Inv X pins σ H s)(mu:Mut (H x))(he:e=x\/H e=some (.own x))(k:∀b u,b≠e->s.heap.get? b=some u->h'.get? b=some u)(heo:∃u,h'.get? e=some u)
  (new:ObjOk X.prog X.w (upd H x o) h' x o):Inv X pins σ (upd H x o) { s with heap:=h',toks:=t' }:=I.un (Un.write mu he k heo) (I.hok.write mu he k heo new)
theorem Inv.pins_of{pins':List (Addr×Obj)}(I:Inv X pins σ H s)(h:∀p∈pins',s.heap.get? p.1=some p.2/\H p.1=none/\p.1≠X.env.locals/\p.1∉X.fs/\∀v,p.2.data≠.cell v):Inv X pins' σ H s:=
 ⟨I.ok,I.os,I.bare,I.base,I.loc,I.cell,I.free,I.freeC,λp hp=>(bn.mp hp).elim (λz=>I.pin p (cK _ z)) (h p),I.hok,I.len⟩
theorem vz{N:List Str}(hN:N.Nodup){i j:Nat}{x:Str}(a:N[i]?=some x)(b:N[j]?=some x):i=j:=by obtain ⟨h1,e1⟩:=am.mp a;obtain ⟨h2,e2⟩:=am.mp b;exact (List.getElem_inj hN).mp (e1.trans e2.symm)
theorem T9{M:Model}{A:Around}{E:Value->Shared->Prop}{i:Nat}{x:Str}{v:V}{u:Value}{Q:Unit->Shared->Prop}(I:Inv X pins σ H s)(hN:X.N.Nodup)(hi:X.N[i]?=some x)(hx:Loc X.env.scope x)(r:RelV v u)
  (h:∀s',Inv X pins (σ.set i (some v)) H s'->(∃a,Heap.SameBut a s.heap s'.heap/\(a=X.env.locals\/X.env.cells.lookup x=some a))->Q () s') (hf:X.fn x=true\/X.env.scope.names.lookup x=some .local:=by first |exact .inl rfl |exact .inr rfl |assumption):wpAny M A (storeName X.env x u) Q E s:=by
 obtain ⟨m,hn,hl⟩:=id I.loc;have hcls:(X.env.scope.kind==.class||(X.env.scope.kind==.module&&X.env.locals != X.env.globals))=false:=by rw[I.ok.kind];rfl
 have hiσ:i < σ.length:=by rw[I.len];exact (am.mp hi).1
 have cne:=I.cne;have tracked:∀{a:Addr}{h':Heap},(∃o,s.heap.get? a=some o/\H a=none)->Heap.SameBut a s.heap h'->HOk X.prog X.w H h':=λ{a h'} ha hs b ob e=>by
  obtain ⟨_,_,hfree⟩:=ha;refine (I.hok b ob e).stay (λc w' hc q=>(hs.2 c ?_).trans q) (λ_ q=>q) λ_ _ q=>q;rintro rfl;rcases hc with rfl |hc
  ·rw[hfree]at e;cases e
  ·rw[hfree]at hc;cases hc
 rcases hx with hk |hk
 ·refine wpAny_storeName_local hk hn (λh' hn' hs=>?_) hcls;obtain ⟨oL,_,_,hoL,_⟩:=id hn;refine h _ ⟨I.ok,I.os,I.bare,⟨λb o e n hb hx=>?_,λb o e n hb hx=>?_,I.base.free,λb o e hx=>?_,I.base.tups,I.base.frzs,I.base.tbls⟩,⟨_,hn',λj y v' e1 e2 e3=>?_⟩,λy c e=>?_,I.free,I.freeC,λp hp=>?_,tracked ⟨oL,hoL,I.free⟩ hs,by simpa using I.len⟩ ⟨_,hs,.inl rfl⟩
  ·exact (hs.2 b (ca (bb (ay e) I.ok.above))).trans (I.base.keep b o e n hb hx)
  ·obtain ⟨sl,e1⟩:=I.base.slot b o e n hb hx;exact ⟨sl,(hs.2 b (ca (bb (ay e) I.ok.above))).trans e1⟩
  ·obtain ⟨o',e1⟩:=I.base.there b o e hx;exact ⟨o',(hs.2 b (ca (bb (ay e) I.ok.above))).trans e1⟩
  ·by_cases hj:j=i
   ·subst hj;rw[hi]at e1;cases e1;rw[ge hiσ]at e2;cases e2;exact ⟨u,r,.inl ⟨hk,by simp⟩⟩
   ·rw[List.getElem?_set_ne (Ne.symm hj)]at e2;obtain ⟨u',r',q⟩:=hl j y v' e1 e2 e3;refine ⟨u',r',?_⟩;rcases q with ⟨k,e⟩ |⟨k,c,e,z⟩
    ·refine .inl ⟨k,?_⟩;have:y≠x:=λe=>hj (vz hN e1 (e ▸ hi));simp[this,e]
    ·exact .inr ⟨k,c,e,z.sameBut hs (cne y c e)⟩
  ·obtain ⟨w',z⟩:=I.cell y c e;exact ⟨w',z.sameBut hs (cne y c e)⟩
  ·obtain ⟨e,n,ne,nf,d⟩:=I.pin p hp;exact ⟨(hs.2 p.1 ne).trans e,n,ne,nf,d⟩
 ·have hfn:X.fn x=true:=by
   rcases hf with z |z
   ·exact z
   ·rw[z]at hk;cases hk
  obtain ⟨c,hc⟩:=I.ok.has x (.inl hk);obtain ⟨w',z⟩:=I.cell x c hc;refine wpAny_storeName_cell I.ok.kind hk hc z (λh' hc' hs=>?_);obtain ⟨oc,hoc,hocd⟩:=id z;refine h { s with heap:=h' } ⟨I.ok,I.os,I.bare,⟨λb o e n hb hx=>?_,λb o e n hb hx=>?_,I.base.free,λb o e hx=>?_,I.base.tups,I.base.frzs,I.base.tbls⟩,⟨m,hn.sameBut hs (Ne.symm (cne x c hc)),λj y v' e1 e2 e3=>?_⟩,λy c' e=>?_,I.free,I.freeC,λp hp=>?_,tracked ⟨oc,hoc,I.freeC x c hc⟩ hs,by simpa using I.len⟩ ⟨c,hs,.inr hc⟩
  ·exact (hs.2 b (ca (bb (ay e) (I.ok.cab x c hfn hc)))).trans (I.base.keep b o e n hb hx)
  ·obtain ⟨sl,e1⟩:=I.base.slot b o e n hb hx;exact ⟨sl,(hs.2 b (ca (bb (ay e) (I.ok.cab x c hfn hc)))).trans e1⟩
  ·obtain ⟨o',e1⟩:=I.base.there b o e hx;exact ⟨o',(hs.2 b (ca (bb (ay e) (I.ok.cab x c hfn hc)))).trans e1⟩
  ·by_cases hj:j=i
   ·subst hj;rw[hi]at e1;cases e1;rw[ge hiσ]at e2;cases e2;exact ⟨u,r,.inr ⟨.inl hk,c,hc,hc'⟩⟩
   ·rw[List.getElem?_set_ne (Ne.symm hj)]at e2;obtain ⟨u',r',q⟩:=hl j y v' e1 e2 e3;refine ⟨u',r',?_⟩;rcases q with q |⟨k,c',e,z'⟩
    ·exact .inl q
    ·refine .inr ⟨k,c',e,z'.sameBut hs ?_⟩;rintro rfl;exact hj (vz hN e1 (I.ok.inj _ _ _ e hc ▸ hi))
  ·by_cases hcc:c'=c
   ·subst hcc;exact ⟨_,hc'⟩
   ·obtain ⟨w2,z2⟩:=I.cell y c' e;exact ⟨w2,z2.sameBut hs hcc⟩
  ·obtain ⟨e,n,ne,nf,d⟩:=I.pin p hp;refine ⟨(hs.2 p.1 ?_).trans e,n,ne,nf,d⟩;intro q;rw[q,hoc]at e;have q':oc=p.2:=dy e;exact d w' (by rw[<-q'];exact hocd)
theorem jx{M:Model}{A:Around}{E:Value->Shared->Prop}{i:Nat}{x:Str}{v:V}{u:Value}{Q:Unit->Shared->Prop}(I:Inv X pins σ H s)(hN:X.N.Nodup)(hi:X.N[i]?=some x)(hx:Loc X.env.scope x)(r:RelV v u)
  (h:∀s',Inv X pins (σ.set i (some v)) H s'->Q () s') (hf:X.fn x=true\/X.env.scope.names.lookup x=some .local:=by first |exact .inl rfl |exact .inr rfl |assumption):wpAny M A (storeName X.env x u) Q E s:=
 T9 I hN hi hx r (λs' I' _=>h s' I') hf
theorem Inv.call'{s':Shared}{ch:List Addr}(I:Inv X pins σ H s)(ho:s'.os=s.os)(u:Un (frs X.stack) ch H H' s.heap s'.heap)(hok:HOk X.prog X.w H' s'.heap)(hg:AllBare s'.gens)
  (hch:∀b∈ch,(b∈X.ex\/X.s₀.heap.objs.size<=b)/\b≠X.env.locals/\(∀x c,X.env.cells.lookup x=some c->c≠b)/\∀p∈X.pn++pins,p.1≠b):Inv X pins σ H' s':=by
 obtain ⟨h',g',d',t',o'⟩:=s';have e:o'=s.os:=ho;subst e;exact I.call (g':=g') (t':=t') (d':=d') u hok hg hch
end
abbrev XK:=Value->Option Addr->Hp->Prop
abbrev St:=List (Option V)
abbrev VK:=V->Hp->Prop
abbrev TE:=St->Hp->VK->Prop
abbrev TT:=St->Hp->(Bool->Hp->Prop)->Prop
abbrev TA:=St->Hp->(List V->Hp->Prop)->Prop
structure Ends where
 nx:St->Hp->Prop
 rt:VK
 bk:St->Hp->Prop:=λ_ _=>False
 ct:St->Hp->Prop:=λ_ _=>False
abbrev TS:=Ends->St->Hp->Prop
def EP(X:Cx)(pins:List (Addr×Obj))(σ:St)(Q:VK)(u:Value)(s':Shared):Prop:=∃v H',Inv X pins σ H' s'/\RelV v u/\Q v H'
def TP(X:Cx)(pins:List (Addr×Obj))(σ:St)(Q:Bool->Hp->Prop)(b:Bool)(s':Shared):Prop:=∃H',Inv X pins σ H' s'/\Q b H'
def AP(X:Cx)(pins:List (Addr×Obj))(σ:St)(Q:List V->Hp->Prop)(us:List Value)(s':Shared):Prop:=∃vs H',Inv X pins σ H' s'/\Vals vs us/\Q vs H'
def SP(X:Cx)(pins:List (Addr×Obj))(D:Ends)(f:Flow)(s':Shared):Prop:=
 match f with
 |.next=>∃σ' H',Inv X pins σ' H' s'/\D.nx σ' H'
 |.brk=>∃σ' H',Inv X pins σ' H' s'/\D.bk σ' H'
 |.cont=>∃σ' H',Inv X pins σ' H' s'/\D.ct σ' H'
 |.ret u=>∃v σ' H',Inv X pins σ' H' s'/\RelV v u/\D.rt v H'
def PE(X:Cx)(e:Expr)(t:TE):Prop:=
 ∀(pins:List (Addr×Obj))(s:Shared)(σ:St)(H:Hp)(Q:VK),Inv X pins σ H s->t σ H Q->wpAny (model X.prog X.w) X.A (eval e X.env) (EP X pins σ Q) X.xe s
def PT(X:Cx)(e:Expr)(t:TT):Prop:=
 ∀(pins:List (Addr×Obj))(s:Shared)(σ:St)(H:Hp)(Q:Bool->Hp->Prop),Inv X pins σ H s->t σ H Q->wpAny (model X.prog X.w) X.A (isTrue e X.env (eval e X.env)) (TP X pins σ Q) X.xe s
def PW(X:Cx)(e:Expr)(t:TT):Prop:=
 ∀(whole:Sem Value)(pins:List (Addr×Obj))(s:Shared)(σ:St)(H:Hp)(Q:Bool->Hp->Prop),Inv X pins σ H s->t σ H Q->wpAny (model X.prog X.w) X.A (isTrue e X.env whole) (TP X pins σ Q) X.xe s
theorem PW.pt{X:Cx}{e:Expr}{t:TT}(h:PW X e t):PT X e t:=h _
def PA(X:Cx)(es:List Expr)(t:TA):Prop:=
 ∀(pos:Pos)(pins:List (Addr×Obj))(s:Shared)(σ:St)(H:Hp)(Q:List V->Hp->Prop),Inv X pins σ H s->t σ H Q->wpAny (model X.prog X.w) X.A (spliced (backTo pos (starEach es X.env))) (AP X pins σ Q) X.xe s
def PS(X:Cx)(st:Stmt)(t:TS):Prop:=
 ∀(pins:List (Addr×Obj))(s:Shared)(σ:St)(H:Hp)(D:Ends),Inv X pins σ H s->t D σ H->wpAny (model X.prog X.w) X.A (exec st X.env) (SP X pins D) X.xe s
def PSs(X:Cx)(st:List Stmt)(t:TS):Prop:=
 ∀(pins:List (Addr×Obj))(s:Shared)(σ:St)(H:Hp)(D:Ends),Inv X pins σ H s->t D σ H->wpAny (model X.prog X.w) X.A (execs st X.env) (SP X pins D) X.xe s
theorem thn{α:Type}{t:Sem α}{Q Q':α->Shared->Prop}{M:Model}{A:Around}{E:Value->Shared->Prop}{s:Shared}(h:wpAny M A t Q E s)(hQ:∀a s,Q a s->Q' a s):wpAny M A t Q' E s:=b9 h hQ λ_ _ x=>x
section
variable {X:Cx}
theorem bin{a b:Expr}{ta tb:TE}(ha:PE X a ta)(hb:PE X b tb){pins:List (Addr×Obj)}{s:Shared}{σ:St}{H:Hp}{R:V->V->Hp->Prop}(I:Inv X pins σ H s)(h:ta σ H λx H1=>tb σ H1 λy H2=>R x y H2)
  {α:Type} {Q:α->Shared->Prop} {f:Value->Value->Sem α}
  (hf:∀v u s2 x y H2,Inv X pins σ H2 s2->RelV x v->RelV y u->R x y H2->wpAny (model X.prog X.w) X.A (f v u) Q X.xe s2):
  wpAny (model X.prog X.w) X.A (eval a X.env) (λv s₁=>wpAny (model X.prog X.w) X.A (eval b X.env) (λu s₂=>wpAny (model X.prog X.w) X.A (f v u) Q X.xe s₂) X.xe s₁) X.xe s:=by
 refine thn (ha pins s σ H _ I h) λv s1 ⟨x,H1,I1,r1,q1⟩=>?_;refine thn (hb pins s1 σ H1 _ I1 q1) λu s2 ⟨y,H2,I2,r2,q2⟩=>?_;exact hf v u s2 x y H2 I2 r1 r2 q2
def Ac(i:Nat):TE:=λσ H Q=>∃v,σ[i]?=some (some v)/\Q v H
def tC(v:V):TE:=λ_ H Q=>Q v H
theorem vA {i:Nat} {x:Str} {pos:Pos} (hN:X.N[i]?=some x) (hv:Vis X.env.scope x) (hd:(x==("__debug__":Str))=false:=by decide) (hcd:(x==("__classdict__":Str))=false:=by decide):PE X (.Name x pos) (Ac i):=by
 intro pins s σ H Q I h;obtain ⟨v,e,h⟩:=h;obtain ⟨m,hn,hl⟩:=I.loc;obtain ⟨u,r,l⟩:=hl i x v hN e hv;have fin:EP X pins σ Q u s:=⟨v,H,I,r,h⟩;rcases l with ⟨hk,hm⟩ |⟨hk,c,hc,hcell⟩
 ·exact wpAny_Name (wpAny_loadName_local I.ok.kind hk hn hm fin) hd
 ·rcases hk with hk |hk
  ·exact wpAny_Name (wpAny_loadName_cell I.ok.kind hk hc hcell fin) hd
  ·exact wpAny_Name (wpAny_loadName_free I.ok.kind hk hc hcell fin hcd) hd
theorem Ua{i j pos}:PE X (.Constant (.int i) j pos) (tC (.int i)):=λ_ _ _ H _ I h=>wpAny_Constant_int ⟨.int i,H,I.tok _,⟨_,rfl⟩,h⟩
theorem Ad{b j pos}:PE X (.Constant (.bool b) j pos) (tC (.bl b)):=λ_ _ _ H _ I h=>Constant_bool ⟨.bl b,H,I,rfl,h⟩
theorem Ub{j pos}:PE X (.Constant .none j pos) (tC .non):=λ_ _ _ H _ I h=>Constant_none ⟨.non,H,I,rfl,h⟩
theorem Ae{x j pos}:PE X (.Constant (.str x) j pos) (tC (.str x)):=λ_ _ _ H _ I h=>Calls.Constant_str ⟨.str x,H,I.tok _,⟨_,rfl⟩,h⟩
def Gl(X:Cx)(x:Str):Prop:=X.env.kindOf x=some .globalImplicit
theorem iy{E:Value->Shared->Prop}{pins:List (Addr×Obj)}{s:Shared}{σ:St}{H:Hp}{x:Str}{u:Value}{pos:Pos}{Q:Value->Shared->Prop}(I:Inv X pins σ H s)(hg:Gl X x)(hm:X.mg x=some u)(h:Q u s)
  (hd:(x==("__debug__":Str))=false:=by decide):wpAny (model X.prog X.w) X.A (eval (.Name x pos) X.env) Q E s:=
 Calls.Name_function_global I.ok.kind hg (Calls.loadGlobal_global (by rw[I.ok.glob];exact I.mod.glob.keeps I.bk) hm h) hd
theorem fU{E:Value->Shared->Prop}{pins:List (Addr×Obj)}{s:Shared}{σ:St}{H:Hp}{x:Str}{u:Value}{pos:Pos}{Q:Value->Shared->Prop}(I:Inv X pins σ H s)(hg:Gl X x)(hm:X.mg x=none)(hv:bootBuiltins x=some u)(h:Q u s)
  (hn:x≠"__name__":=by decide) (hd:(x==("__debug__":Str))=false:=by decide):wpAny (model X.prog X.w) X.A (eval (.Name x pos) X.env) Q E s:=by
 obtain ⟨mb,h1,h2⟩:=I.mod.blt;exact Calls.Name_function_global I.ok.kind hg (Calls.loadGlobal_builtin (by rw[I.ok.glob];exact I.mod.glob.keeps I.bk) hm (by rw[I.ok.blt];exact h1.keeps I.bk) ((h2 x hn).trans hv) h) hd
theorem Af {x:Str} {v:V} {u:Value} {pos:Pos} (hg:Gl X x) (hm:X.mg x=some u) (r:RelV v u) (hd:(x==("__debug__":Str))=false:=by decide):PE X (.Name x pos) (tC v):=
 λ_ _ _ H _ I h=>iy I hg hm ⟨v,H,I,r,h⟩ hd
theorem Uc {x:Str} {v:V} {u:Value} {pos:Pos} (hg:Gl X x) (hm:X.mg x=none) (hv:bootBuiltins x=some u) (r:RelV v u) (hn:x≠"__name__":=by decide) (hd:(x==("__debug__":Str))=false:=by decide):PE X (.Name x pos) (tC v):=
 λ_ _ _ H _ I h=>fU I hg hm hv ⟨v,H,I,r,h⟩ hn hd
variable {a b:Expr} {ta tb:TE} {pos:Pos}
variable {tA tB':TT} {rest:List Expr}
def Ud(t u:TT):TT:=λσ H Q=>t σ H λc H1=>if c=true then u σ H1 Q else Q false H1
def tOr(t u:TT):TT:=λσ H Q=>t σ H λc H1=>if c=true then Q true H1 else u σ H1 Q
def Ue(t:TT):TT:=λσ H Q=>t σ H λc H1=>Q (!c) H1
theorem Ug(ha:PT X a tA):PW X (.BoolOp .And [a] pos) tA:=by
 intro wh pins s σ H Q I h;refine isTrue_and (thn (ha pins s σ H Q I h) λc s1 e=>?_);cases c with
 |true=>exact isTrue_and_nil e
 |false=>exact e
theorem Uh(ha:PT X a tA):PW X (.BoolOp .Or [a] pos) tA:=by
 intro wh pins s σ H Q I h;refine isTrue_or (thn (ha pins s σ H Q I h) λc s1 e=>?_);cases c with
 |false=>exact isTrue_or_nil e
 |true=>exact e
theorem Ui(ha:PT X a tA)(hb:PW X (.BoolOp .And (b::rest) pos) tB'):PW X (.BoolOp .And (a::b::rest) pos) (Ud tA tB'):=by
 intro wh pins s σ H Q I h;refine isTrue_and (thn (ha pins s σ H _ I h) λc s1 ⟨H1,I1,q1⟩=>?_);cases c with
 |true=>exact hb wh pins s1 σ H1 Q I1 q1
 |false=>exact ⟨H1,I1,q1⟩
theorem Uj(ha:PT X a tA)(hb:PW X (.BoolOp .Or (b::rest) pos) tB'):PW X (.BoolOp .Or (a::b::rest) pos) (tOr tA tB'):=by
 intro wh pins s σ H Q I h;refine isTrue_or (thn (ha pins s σ H _ I h) λc s1 ⟨H1,I1,q1⟩=>?_);cases c with
 |true=>exact ⟨H1,I1,q1⟩
 |false=>exact hb wh pins s1 σ H1 Q I1 q1
theorem Uk(ha:PT X a tA):PT X (.UnaryOp .Not a pos) (Ue tA):=by intro pins s σ H Q I h;exact isTrue_not (ha pins s σ H (λc H1=>Q (!c) H1) I h)
def Ul(ta tb:TE):TE:=λσ H Q=>ta σ H λx H1=>∃c,x=.bl c/\if c=true then tb σ H1 Q else Q (.bl false) H1
def Um(ta tb:TE):TE:=λσ H Q=>ta σ H λx H1=>∃c,x=.bl c/\if c=true then Q (.bl true) H1 else tb σ H1 Q
theorem Uo{op}{t:TE}(h:PE X a t):PE X (.BoolOp op [a] pos) t:=λpins s σ H Q I hw=>BoolOp_one (h pins s σ H Q I hw)
theorem Up(ha:PE X a ta)(hb:PE X (.BoolOp .And (b::rest) pos) tb):PE X (.BoolOp .And (a::b::rest) pos) (Ul ta tb):=by
 intro pins s σ H Q I h;refine BoolOp_and (thn (ha pins s σ H _ I h) λv s1 ⟨x,H1,I1,r1,q1⟩=>?_);obtain ⟨c,rfl,q1⟩:=q1;cases r1;refine eh ?_;cases c with
 |true=>exact hb pins s1 σ H1 Q I1 q1
 |false=>exact ⟨.bl false,H1,I1,rfl,q1⟩
theorem Uq(ha:PE X a ta)(hb:PE X (.BoolOp .Or (b::rest) pos) tb):PE X (.BoolOp .Or (a::b::rest) pos) (Um ta tb):=by
 intro pins s σ H Q I h;refine BoolOp_or (thn (ha pins s σ H _ I h) λv s1 ⟨x,H1,I1,r1,q1⟩=>?_);obtain ⟨c,rfl,q1⟩:=q1;cases r1;refine eh ?_;cases c with
 |false=>exact hb pins s1 σ H1 Q I1 q1
 |true=>exact ⟨.bl true,H1,I1,rfl,q1⟩
def tIf(t:TT)(ta tb:TE):TE:=λσ H Q=>t σ H λc H1=>if c=true then ta σ H1 Q else tb σ H1 Q
theorem Ur{c:Expr}(hc:PT X c tA)(ha:PE X a ta)(hb:PE X b tb):PE X (.IfExp c a b pos) (tIf tA ta tb):=by
 intro pins s σ H Q I h;refine wpAny_IfExp (thn (hc pins s σ H _ I h) λd s1 ⟨H1,I1,q1⟩=>?_);cases d with
 |true=>exact ha pins s1 σ H1 Q I1 q1
 |false=>exact hb pins s1 σ H1 Q I1 q1
end
def SqL(K:PF)(H:Hp)(a:Addr)(xs:List V):Prop:=
 Rd H a (.lst xs)\/
  ∃(o:Obj) (its:Array Value) (n:Nat),K.lookup a=some o/\o.cls=.type "list"/\o.dict=none/\o.data=.seq its n/\its.size<=sizeLine/\Vals xs its.toList
def SqT(K:PF)(H:Hp)(a:Addr)(xs:List V):Prop:=
 Rd H a (.tup xs)\/
  ∃(o:Obj) (its:Array Value) (n:Nat),K.lookup a=some o/\o.cls=.type "tuple"/\o.data=.seq its n/\its.size<=sizeLine/\Vals xs its.toList
noncomputable def Us:Value->Option V
 |.none=>some .non
 |.bool b=>some (.bl b)
 |.int i _=>some (.int i)
 |.str x _=>some (.str x)
 |.bytes b _=>some (.byt b)
 |.float b _=>some (.flt b)
 |.ref a=>some (.ref a)
 |.type n=>some (.ty n)
 |_=>none
theorem RelV.abs{x:V}{u:Value}(r:RelV x u):Us u=some x:=by
 cases x with
 |non=>cases r;rfl
 |bl _=>cases r;rfl
 |int _=>obtain ⟨t,rfl⟩:=r;rfl
 |str _=>obtain ⟨t,rfl⟩:=r;rfl
 |byt _=>obtain ⟨t,rfl⟩:=r;rfl
 |flt _=>obtain ⟨t,rfl⟩:=r;rfl
 |ref _=>cases r;rfl
 |ty _=>cases r;rfl
theorem RelV.inj{x y:V}{u:Value}(r:RelV x u)(q:RelV y u):x=y:=dy (r.abs.symm.trans q.abs)
theorem Vals.inj:∀{xs ys:List V}{us:List Value},Vals xs us->Vals ys us->xs=ys
 |_,_,_,.nil,.nil=>rfl
 |_,_,_,.cons r t,.cons r' t'=>by rw[r.inj r',Vals.inj t t']
section
variable {X:Cx} {pins:List (Addr×Obj)} {σ:St} {H:Hp} {s:Shared} {a:Addr} {xs ys:List V}
theorem SqL.of{K:PF}(h:H a=some (.lst xs)):SqL K H a xs:=.inl (.inl h)
theorem SqT.of{K:PF}(h:H a=some (.tup xs)):SqT K H a xs:=.inl (.inl h)
theorem Inv.list(I:Inv X pins σ H s)(h:SqL X.K H a xs):∃its:List Value,Vals xs its/\PlainL s.heap a its.toArray/\xs.length<=sizeLine:=by
 rcases h with h |⟨o,its,n,hk,hc,hd,hs,hz,r⟩
 ·obtain ⟨z,its,n,r,e⟩:=h.ok I.hok;exact ⟨its,r,⟨_,n,e,rfl,rfl,rfl⟩,z⟩
 ·refine ⟨its.toList,r,⟨o,n,I.kIn a o hk,hc,hd,by simpa using hs⟩,?_⟩;have e:=r.length;simp only[dP]at e;omega
theorem Inv.tuple(I:Inv X pins σ H s)(h:SqT X.K H a xs):∃its:List Value,Vals xs its/\IsTup s.heap a its.toArray/\xs.length<=sizeLine:=by
 rcases h with h |⟨o,its,n,hk,hc,hs,hz,r⟩
 ·obtain ⟨z,its,r,p⟩:=h.ok I.hok;exact ⟨its,r,p,z⟩
 ·refine ⟨its.toList,r,⟨o,I.kIn a o hk,hc,n,by simpa using hs⟩,?_⟩;have e:=r.length;simp only[dP]at e;omega
theorem Inv.list_inj(I:Inv X pins σ H s)(h:SqL X.K H a xs)(h':SqL X.K H a ys):xs=ys:=by
 obtain ⟨its,r,⟨o,n,e,_,_,d⟩,_⟩:=I.list h;obtain ⟨its',r',⟨o',n',e',_,_,d'⟩,_⟩:=I.list h';rw[e]at e';cases e';rw[d]at d';injection d' with d1 _;have:its=its':=by simpa using fe Array.toList d1
 subst this;exact r.inj r'
theorem Inv.tuple_inj(I:Inv X pins σ H s)(h:SqT X.K H a xs)(h':SqT X.K H a ys):xs=ys:=by
 obtain ⟨its,r,⟨o,e,_,n,d⟩,_⟩:=I.tuple h;obtain ⟨its',r',⟨o',e',_,n',d'⟩,_⟩:=I.tuple h';rw[e]at e';cases e';rw[d]at d';injection d' with d1 _;have:its=its':=by simpa using fe Array.toList d1
 subst this;exact r.inj r'
end
abbrev Cx.wish(X:Cx)(E:Value->Shared->Prop):Cx:={ X with xe:=E }
abbrev Cx.nox(X:Cx):Cx:=X.wish λ_ _=>False
theorem Cx.Ok.wish{X:Cx}(ok:X.Ok)(E:Value->Shared->Prop):(X.wish E).Ok:=
 ⟨ok.mod,ok.kind,ok.glob,ok.blt,ok.above,ok.inj,ok.has,ok.cab,ok.hd,ok.frames,ok.stk,ok.exf,ok.bs,ok.bsz,ok.noex,ok.exfs,ok.funs,ok.frf⟩
theorem Cx.Ok.unwish{X:Cx}{E:Value->Shared->Prop}(ok:(X.wish E).Ok):X.Ok:=
 ⟨ok.mod,ok.kind,ok.glob,ok.blt,ok.above,ok.inj,ok.has,ok.cab,ok.hd,ok.frames,ok.stk,ok.exf,ok.bs,ok.bsz,ok.noex,ok.exfs,ok.funs,ok.frf⟩
section
variable {X:Cx} {pins:List (Addr×Obj)} {σ:St} {H:Hp} {s:Shared} {E:Value->Shared->Prop}
theorem Inv.wish(I:Inv X pins σ H s)(E:Value->Shared->Prop):Inv (X.wish E) pins σ H s:=⟨I.ok.wish E,I.os,I.bare,I.base,I.loc,I.cell,I.free,I.freeC,I.pin,I.hok,I.len⟩
theorem Inv.unwish(I:Inv (X.wish E) pins σ H s):Inv X pins σ H s:=⟨I.ok.unwish,I.os,I.bare,I.base,I.loc,I.cell,I.free,I.freeC,I.pin,I.hok,I.len⟩
theorem SP.unwish{D:Ends}{f:Flow}{s':Shared}(h:SP (X.wish E) pins D f s'):SP X pins D f s':=by
 cases f with
 |next=>obtain ⟨σ',H',I,q⟩:=h;exact ⟨σ',H',I.unwish,q⟩
 |brk=>obtain ⟨σ',H',I,q⟩:=h;exact ⟨σ',H',I.unwish,q⟩
 |cont=>obtain ⟨σ',H',I,q⟩:=h;exact ⟨σ',H',I.unwish,q⟩
 |ret u=>obtain ⟨v,σ',H',I,r,q⟩:=h;exact ⟨v,σ',H',I.unwish,r,q⟩
theorem PSs.nox{st:List Stmt}{t:TS}(h:PSs X.nox st t):PSs X st t:=λpins s σ H D I hw=>
 b9 (h pins s σ H D (I.wish _) hw) (λ_ _ q=>q.unwish) λ_ _ z=>False.elim z
end
section
variable {X:Cx} {st:Stmt} {rest:List Stmt} {t u:TS} {e:Expr} {te:TE} {pos:Pos}
def Ag:TS:=λD σ H=>D.nx σ H
def Ut(t u:TS):TS:=λD σ H=>t { D with nx:=u D } σ H
theorem Uu:PSs X [] Ag:=λ_ _ σ H _ I h=>ey ⟨σ,H,I,h⟩
theorem Uv(h1:PS X st t)(h2:PSs X rest u):PSs X (st::rest) (Ut t u):=by
 intro pins s σ H D I h;refine fF (thn (h1 pins s σ H { D with nx:=u D } I h) λf s1 q=>?_);cases f with
 |next=>
  obtain ⟨σ',H',I',q⟩:=q;exact h2 pins s1 σ' H' D I' q
 |ret v=>exact q
 |brk=>exact q
 |cont=>exact q
theorem Ah(h1:PS X st t):PSs X [st] t:=by
 intro pins s σ H D I h;refine fF (thn (h1 pins s σ H D I h) λf s1 q=>?_);cases f with
 |next=>exact ey q
 |ret v=>exact q
 |brk=>exact q
 |cont=>exact q
def Uw:TS:=λD σ H=>D.bk σ H
def Ux:TS:=λD σ H=>D.ct σ H
theorem Uy:PS X (.Pass pos) Ag:=λ_ _ σ H _ I h=>wpAny_Pass ⟨σ,H,I,h⟩
theorem Uz:PS X (.Break pos) Uw:=λ_ _ σ H _ I h=>wpAny_Break ⟨σ,H,I,h⟩
theorem UG:PS X (.Continue pos) Ux:=λ_ _ σ H _ I h=>wpAny_Continue ⟨σ,H,I,h⟩
theorem Inv.quiet{pins:List (Addr×Obj)}{σ:St}{H:Hp}{s:Shared}(I:Inv X pins σ H s):interactive X.env=false:=by simp[interactive,I.ok.kind]
def UJ(te:TE):TS:=λD σ H=>te σ H λ_ H1=>D.nx σ H1
theorem UL(he:PE X e te)(hs:swapsWith e none pos.line X.env=pure false:=by rfl):PS X (.Expr e pos) (UJ te):=by intro pins s σ H D I h;exact wpAny_Expr_any (thn (he pins s σ H _ I h) λv s1 ⟨x,H1,I1,r1,q1⟩=>⟨σ,H1,I1,q1⟩) I.quiet hs
def Ai(te:TE):TS:=λD σ H=>te σ H D.rt
theorem UT(he:PE X e te):PS X (.Return (some e) pos) (Ai te):=by intro pins s σ H D I h;exact wpAny_Return_some (thn (he pins s σ H _ I h) λv s1 ⟨x,H1,I1,r1,q1⟩=>⟨x,σ,H1,I1,r1,q1⟩)
def UV:TS:=λD _ H=>D.rt .non H
theorem UW:PS X (.Return none pos) UV:=λ_ _ σ H _ I h=>wpAny_Return_none ⟨.non,σ,H,I,rfl,h⟩
def U0(c:TT)(t u:TS):TS:=λD σ H=>c σ H λb H1=>if b=true then t D σ H1 else u D σ H1
theorem U3{c:Expr}{a b:List Stmt}{tc:TT}(hc:PT X c tc)(ha:PSs X a t)(hb:PSs X b u):PS X (.If c a b pos) (U0 tc t u):=by
 intro pins s σ H D I h;refine wpAny_If (thn (hc pins s σ H _ I h) λd s1 ⟨H1,I1,q1⟩=>?_);cases d with
 |true=>exact ha pins s1 σ H1 D I1 q1
 |false=>exact hb pins s1 σ H1 D I1 q1
def U4:TS:=λ_ _ _=>False
theorem U5:PS X st U4:=λ_ _ _ _ _ _ h=>h.elim
end
abbrev TG:=V->St->Hp->(St->Hp->Prop)->Prop
abbrev TGs:=List V->St->Hp->(St->Hp->Prop)->Prop
def PG(X:Cx)(target:Expr)(t:TG):Prop:=
 ∀(pins:List (Addr×Obj))(s:Shared)(σ:St)(H:Hp)(v:V)(u:Value)(Q:St->Hp->Prop),Inv X pins σ H s->RelV v u->t v σ H Q->
  wpAny (model X.prog X.w) X.A (assign target X.env u) (λ_ s'=>∃σ' H',Inv X pins σ' H' s'/\Q σ' H') X.xe s
def PGs(X:Cx)(ts:List Expr)(t:TGs):Prop:=
 ∀(pins:List (Addr×Obj))(s:Shared)(σ:St)(H:Hp)(vs:List V)(us:List Value)(Q:St->Hp->Prop),Inv X pins σ H s->Vals vs us->t vs σ H Q->
  wpAny (model X.prog X.w) X.A (assignInOrder ((assignEach ts X.env).map (·.2)) us) (λ_ s'=>∃σ' H',Inv X pins σ' H' s'/\Q σ' H') X.xe s
abbrev vB:=V->V->V->Hp->(Hp->Prop)->Prop
def vC(X:Cx)(t:vB):Prop:=
 ∀(pins:List (Addr×Obj))(s:Shared)(σ:St)(H:Hp)(o i v:V)(ov iv u:Value)(Q:Hp->Prop),Inv X pins σ H s->RelV o ov->RelV i iv->RelV v u->t o i v H Q->
  wpAny (model X.prog X.w) X.A (setItem ov iv u) (λ_ s'=>∃H',Inv X pins σ H' s'/\Q H') X.xe s
abbrev TIp:=V->V->Hp->VK->Prop
def PIp(X:Cx)(op:Operator)(t:TIp):Prop:=
 ∀(pins:List (Addr×Obj))(s:Shared)(σ:St)(H:Hp)(x y:V)(v u:Value)(Q:VK),Inv X pins σ H s->RelV x v->RelV y u->t x y H Q->
  wpAny (model X.prog X.w) X.A (inplaceOp op v u) (EP X pins σ Q) X.xe s
section
variable {X:Cx} {pos:Pos}
def qp(i:Nat):TG:=λv σ H Q=>Q (σ.set i (some v)) H
theorem U6{i:Nat}{x:Str}(hN:X.N.Nodup)(hi:X.N[i]?=some x)(hx:Loc X.env.scope x)(hf:X.fn x=true\/X.env.scope.names.lookup x=some .local:=by first |exact .inl rfl |exact .inr rfl |assumption):PG X (.Name x pos) (qp i):=by intro pins s σ H v u Q I r h;exact wpAny_assign_Name (jx I hN hi hx r (λs' I'=>⟨_,H,I',h⟩) hf)
def U7:TGs:=λvs σ H Q=>vs=[]/\Q σ H
def U8(t:TG)(u:TGs):TGs:=λvs σ H Q=>∃v r,vs=v::r/\t v σ H λσ' H'=>u r σ' H' Q
theorem U9:PGs X [] U7:=by intro pins s σ H vs us Q I r h;obtain ⟨e,h⟩:=h;subst e;cases r;exact assignInOrder_nil ⟨σ,H,I,h⟩
theorem Va{e:Expr}{es:List Expr}{t:TG}{u:TGs}(h1:PG X e t)(h2:PGs X es u)
  (hs:(assignEach (e::es) X.env).map (·.2)=assign e X.env::(assignEach es X.env).map (·.2):=by rfl):PGs X (e::es) (U8 t u):=by
 intro pins s σ H vs us Q I r h;obtain ⟨v,vr,e1,h⟩:=h;subst e1;cases r with
 |cons r rr=>
  rw[hs];refine assignInOrder_cons (thn (h1 pins s σ H _ _ _ I r h) λ_ s1 ⟨σ1,H1,I1,q1⟩=>?_);exact h2 pins s1 σ1 H1 _ _ Q I1 rr q1
def Vb(K:PF)(n:Nat)(t:TGs):TG:=λv σ H Q=>∃a xs,v=.ref a/\SqT K H a xs/\xs.length=n/\t xs σ H Q
theorem Vc{es:List Expr}{k:Nat}{t:TGs}{n:Nat}(hc:X.calm=true)(h:PGs X es t)
  (hn:(assignEach es X.env).length=n:=by rfl) (hst:(assignEach es X.env).findIdx? (·.1)=none:=by rfl):PG X (.Tuple es k pos) (Vb X.K n t):=by
 intro pins s σ H v u Q I r hw;obtain ⟨a,xs,e1,hq,hl,hw⟩:=hw;subst e1;cases r;obtain ⟨its,rv,ht,hz⟩:=I.tuple hq;refine assign_Tuple_tuple (I.ok.hd hc) ht (by simp[hn,<-hl,rv.length]) hst λh' hx=>?_;have I1:Inv X pins σ H { s with heap:=h' }:=I.kept (t':=s.toks) λb o e=>hx b o (ca (ay e)) e;exact h pins _ σ H xs _ Q I1 (by simpa using rv) hw
def Vd(to ti:TE)(t:vB):TG:=λv σ H Q=>to σ H λo H1=>ti σ H1 λi H2=>t o i v H2 λH3=>Q σ H3
theorem Ve{o i:Expr}{to ti:TE}{t:vB}(ho:PE X o to)(hi:PE X i ti)(hs:vC X t)
  (ha:∀v,assign (.Subscript o i pos) X.env v=(do
   let ov <-holding [v] (eval o X.env)
   let iv <-holding [v,ov] (eval i X.env)
   standAt pos
   holding [v,ov,iv] (setItem ov iv v)
   release [v,ov,iv] []):=by intro _;rfl):PG X (.Subscript o i pos) (Vd to ti t):=by
 intro pins s σ H v u Q I r h;rw[ha];refine ag (eI (thn (ho pins s σ H _ I h) λov s1 ⟨x,H1,I1,r1,q1⟩=>?_));refine ag (eI (thn (hi pins s1 σ H1 _ I1 q1) λiv s2 ⟨y,H2,I2,r2,q2⟩=>?_));refine ag (gv (ag (eI (thn (hs pins s2 σ H2 x y v ov iv u _ I2 r1 r2 r q2) λ_ s3 ⟨H3,I3,q3⟩=>?_))));exact wpAny_release ⟨σ,H3,I3,q3⟩
def qt(te:TE)(g:TG):TS:=λD σ H=>te σ H λx H1=>g x σ H1 D.nx
theorem Aj{tg e:Expr}{te:TE}{g:TG}(he:PE X e te)(hg:PG X tg g)(hs:swapsWithSole [tg] e pos.line X.env=pure false:=by rfl)(hw:swappedStores [tg] e X.env=pure none:=by rfl)
  (h1:(assignEach [tg] X.env).map (·.2)=[assign tg X.env]:=by rfl):PS X (.Assign [tg] e pos) (qt te g):=by
 intro pins s σ H D I h;refine wpAny_Assign_stores (thn (he pins s σ H _ I h) λv s1 ⟨x,H1,I1,r1,q1⟩=>?_) hs hw;rw[h1];exact thn (hg pins s1 σ H1 x v _ I1 r1 q1) λ_ s2 q=>q
theorem lu{i:Nat}{x:Str}{e:Expr}{te:TE}{pos':Pos}(hN:X.N.Nodup)(hi:X.N[i]?=some x)(hx:Loc X.env.scope x)(he:PE X e te)(hs:swapsWith e (some (.Name x pos')) pos.line X.env=pure false:=by rfl)(hf:X.fn x=true\/X.env.scope.names.lookup x=some .local:=by first |exact .inl rfl |exact .inr rfl |assumption):
  PS X (.Assign [.Name x pos'] e pos) (qt te (qp i)):=by
 intro pins s σ H D I h;refine wpAny_Assign_Name (thn (he pins s σ H _ I h) λv s1 ⟨y,H1,I1,r1,q1⟩=>?_) hs;exact jx I1 hN hi hx r1 (λs2 I2=>⟨_,H1,I2,q1⟩) hf
def Vf(i:Nat)(te:TE)(ti:TIp):TS:=λD σ H=>∃x,σ[i]?=some (some x)/\te σ H λy H1=>ti x y H1 λz H2=>D.nx (σ.set i (some z)) H2
theorem Vg{i:Nat}{x:Str}{e:Expr}{te:TE}{op:Operator}{ti:TIp}{pos':Pos}(hN:X.N.Nodup)(hi:X.N[i]?=some x)(hx:Loc X.env.scope x)(he:PE X e te)(ho:PIp X op ti)(hf:X.fn x=true\/X.env.scope.names.lookup x=some .local:=by first |exact .inl rfl |exact .inr rfl |assumption):
  PS X (.AugAssign (.Name x pos') op e pos) (Vf i te ti):=by
 intro pins s σ H D I h;obtain ⟨v,e1,h⟩:=h;obtain ⟨m,hn,hl⟩:=I.loc;have vis:Vis X.env.scope x:=by rcases hx with k |k;exact .inl k;exact .inr (.inl k)
 obtain ⟨u,r,l⟩:=hl i x v hi e1 vis;refine wpAny_AugAssign_Name ?_;have go:wpAny (model X.prog X.w) X.A (eval e X.env) (λw s₂=>wpAny (model X.prog X.w) X.A (inplaceOp op u w) (λr s₃=>wpAny (model X.prog X.w) X.A (storeName X.env x r) (λ_=>SP X pins D .next) X.xe s₃) X.xe s₂) X.xe s:=by refine thn (he pins s σ H _ I h) λw s1 ⟨y,H1,I1,r1,q1⟩=>?_;refine thn (ho pins s1 σ H1 v y u w _ I1 r r1 q1) λz s2 ⟨zv,H2,I2,r2,q2⟩=>?_;exact jx I2 hN hi hx r2 (λs3 I3=>⟨_,H2,I3,q2⟩) hf
 rcases l with ⟨hk,hm⟩ |⟨hk,c,hc,hcell⟩
 ·exact wpAny_loadName_local I.ok.kind hk hn hm go
 ·rcases hk with hk |hk
  ·exact wpAny_loadName_cell I.ok.kind hk hc hcell go
  ·rcases hx with k |k
   ·have:X.env.scope.names.lookup x=some .free:=hk;rw[k]at this;cases this
   ·have:X.env.scope.names.lookup x=some .free:=hk;rw[k]at this;cases this
end
section
variable {X:Cx} {pos:Pos}
def Vh(c:TT)(tb:TS):TS:=λD σ H=>∃W:Nat->St->Hp->Prop,(∃m,W m σ H)/\∀m σ H,W m σ H->
 c σ H λb H1=>if b=true then ∃N:St->Hp->Prop,(∀σ' H',N σ' H'->∃m',m' < m/\W m' σ' H')/\tb { D with nx:=N,ct:=N,bk:=D.nx } σ H1 else D.nx σ H1
theorem Vi{c:Expr}{body:List Stmt}{tc:TT}{tb:TS}(hp:PassesOwn (model X.prog X.w) X.A X.env X.xe)(hc:PT X c tc)(hb:PSs X body tb):PS X (.While c body [] pos) (Vh tc tb):=by
 intro pins s σ H D I h;obtain ⟨W,⟨m0,w0⟩,turn⟩:=h;refine wpAny_While (codeAny_whileLoop (λn s'=>∃σ' H',Inv X pins σ' H' s'/\W n σ' H') ?_ m0 ⟨σ,H,I,w0⟩);rintro n s1 ⟨σ1,H1,I1,w1⟩;refine fo hp (thn (hc pins s1 σ1 H1 _ I1 (turn n σ1 H1 w1)) λb s2 ⟨H2,I2,q2⟩=>?_);cases b with
 |true=>
  obtain ⟨N,hN,q2⟩:=q2;rw[if_pos rfl];refine fo hp (thn (hb pins s2 σ1 H2 _ I2 q2) λf s3 q3=>?_);cases f with
  |next=>
   obtain ⟨σ3,H3,I3,n3⟩:=q3;obtain ⟨m',hm,w3⟩:=hN σ3 H3 n3;exact ⟨m',hm,σ3,H3,I3,w3⟩
  |cont=>
   obtain ⟨σ3,H3,I3,n3⟩:=q3;obtain ⟨m',hm,w3⟩:=hN σ3 H3 n3;exact ⟨m',hm,σ3,H3,I3,w3⟩
  |brk=>exact q3
  |ret v=>exact q3
 |false=>
  rw[if_neg bi];exact ey ⟨σ1,H2,I2,q2⟩
end
structure It where
 go:Nat->Hp->Prop
 yld:Nat->Hp->V->Hp->Prop
 stop:Nat->Hp->Prop
def dY(X:Cx)(pins:List (Addr×Obj))(H:Hp)(b:Addr):Prop:=
 H b=none/\b≠X.env.locals/\b∉X.fs/\(b∈X.ex\/X.s₀.heap.objs.size<=b)/\(∀x c,X.env.cells.lookup x=some c->c≠b)/\∀p∈X.pn++pins,p.1≠b
theorem Inv.fpOk{X:Cx}{pins:List (Addr×Obj)}{σ:St}{H H':Hp}{s:Shared}{b:Addr}(I:Inv X pins σ H s)(hb:s.heap.objs.size<=b)(hn:H' b=none):dY X pins H' b:=by
 refine ⟨hn,gc (bb I.lt hb),I.nofs hb,.inr (cb I.sz hb),λx c e z=>?_,λp hp z=>?_⟩
 ·obtain ⟨v,q⟩:=I.cell x c e;exact absurd (bb q.lt (by rw[z];exact hb)) (en _)
 ·exact absurd (bb (ay (I.pin p hp).1) (by rw[z];exact hb)) (en _)
structure Turn(P:Program)(w:World)(K:PF)(tg:Expr)(J:It)(fp:List Addr)(it:Addr)(tn:Nat->Heap->Prop):Prop where
 mem:it∈fp
 obj:∀i h,tn i h->∀b∈fp,∃o,h.get? b=some o/\∀v,o.data≠.cell v
 keep:∀i h h',tn i h->(∀b∈fp,∀o,h.get? b=some o->h'.get? b=some o)->tn i h'
 item:∀(X:Cx),X.prog=P->X.w=w->X.K=K->X.calm=true->∀(i:Nat)(pins:List (Addr×Obj))(s:Shared)(σ:St)(H:Hp)(E:Value->Shared->Prop),Inv X pins σ H s->(∀b∈fp,dY X pins H b)->tn i s.heap->J.go i H->
  wpAny (model P w) X.A (pyNext (.ref it)) (λr s1=>∃u,r=some u/\
   wpAny (model P w) X.A (letOwnedTupleGo tg (.ref it) u) (λ_ s2=>∃x H',Inv X pins σ H' s2/\RelV x u/\J.yld i H x H'/\tn (i+1) s2.heap/\∀b∈fp,H' b=none) E s1) E s
 done:∀(X:Cx),X.prog=P->X.w=w->X.K=K->X.calm=true->∀(i:Nat)(pins:List (Addr×Obj))(s:Shared)(σ:St)(H:Hp)(E:Value->Shared->Prop),Inv X pins σ H s->(∀b∈fp,dY X pins H b)->tn i s.heap->J.stop i H->
  wpAny (model P w) X.A (pyNext (.ref it)) (λr s1=>r=none/\Inv X pins σ H s1) E s
 self:∀(A:Around)(i:Nat)(s:Shared)(Q:Value->Shared->Prop)(E:Value->Shared->Prop),tn i s.heap->Q (.ref it) s->wpAny (model P w) A (pyIter (.ref it)) Q E s
abbrev TI:=St->Hp->(It->Hp->Prop)->Prop
def PIE(X:Cx)(pins:List (Addr×Obj))(σ:St)(tg:Expr)(R:It->Hp->Prop)(itv:Value)(s2:Shared):Prop:=
 ∃(it:Addr)(fp:List Addr)(tn:Nat->Heap->Prop)(J:It)(H':Hp),itv=.ref it/\Inv X pins σ H' s2/\Turn X.prog X.w X.K tg J fp it tn/\tn 0 s2.heap/\(∀b∈fp,dY X pins H' b)/\R J H'
def PI(X:Cx)(tg iter:Expr)(wi:TI):Prop:=
 ∀(pins:List (Addr×Obj))(s:Shared)(σ:St)(H:Hp)(R:It->Hp->Prop),Inv X pins σ H s->wi σ H R->
  wpAny (model X.prog X.w) X.A (eval iter X.env) (λv s1=>wpAny (model X.prog X.w) X.A (pyIter v) (PIE X pins σ tg R) X.xe s1) X.xe s
theorem lw{M:Model}{A:Around}{E:Value->Shared->Prop}{s:Shared}{tg:Expr}{it:Addr}{u:Value}{o:Obj}{n:String}{vs:Array Value}{Q:Unit->Shared->Prop}(ho:s.heap.get? it=some o)(hc:o.cls=.type n)(hd:o.data=.fields vs)
  (hn:["enumerate","zip","dict_itemiterator","dict_reverseitemiterator","odict_iterator","itertools.zip_longest","itertools.pairwise"].contains n=false) (hQ:Q () s):wpAny M A (letOwnedTupleGo tg (.ref it) u) Q E s:=by
 unfold letOwnedTupleGo;cases tg <;> first
  |exact aS hQ
  | (cases u <;> first
    |exact aS hQ
    | (refine ag (wpAny_load ho ?_)
       rw[hc,hd];show wpAny M A (if (["enumerate","zip","dict_itemiterator","dict_reverseitemiterator","odict_iterator","itertools.zip_longest","itertools.pairwise"].contains n&&vs[0]?==some (rawInt _))=true then _ else _) Q E s;rw[if_neg (by intro h;rw[hn,e7]at h;cases h)];exact aS hQ))
def Itl(K:PF)(a:Addr):It:=
 ⟨λi H=>∃xs x,SqL K H a xs/\xs[i]?=some x,λi H x H'=>H'=H/\∀xs,SqL K H a xs->xs[i]?=some x,λi H=>∃xs,SqL K H a xs/\xs.length<=i⟩
def Itt(K:PF)(a:Addr):It:=
 ⟨λi H=>∃xs x,SqT K H a xs/\xs[i]?=some x,λi H x H'=>H'=H/\∀xs,SqT K H a xs->xs[i]?=some x,λi H=>∃xs,SqT K H a xs/\xs.length<=i⟩
def Itr(lo:Int)(n:Nat):It:=⟨λi _=>i < n,λi H x H'=>H'=H/\x=.int (lo+i),λi _=>n<=i⟩
theorem Ak{P:Program}{w:World}{K:PF}{tg:Expr}(a it:Addr):Turn P w K tg (Itl K a) [it] it (λi h=>h.IsListIter it a i) where
 mem:=by simp
 obj:=λi h st b hb=>by
  have e:b=it:=by simpa using hb
  subst e;obtain ⟨o,e,c,d⟩:=st;exact ⟨o,e,λv z=>by rw[d]at z;cases z⟩
 keep:=λi h h' st k=>st.at λo e=>k it (by simp) o e
 item:=by intro X hP hw hK hc i pins s σ H E I hf st hg;subst hP hw hK;obtain ⟨xs,x,hq,hx⟩:=hg;obtain ⟨its,rv,p,hz⟩:=I.list hq;obtain ⟨u,hu,ru⟩:=rv.get hx;obtain ⟨f0,f1,f2,f3,f4,f5⟩:=hf it (by simp);refine wpAny_pyNext_list_item st p.isList (x:=u) (by simpa using hu) λh' st' sb=>?_;have I1:Inv X pins σ H { s with heap:=h' }:=I.turned (t':=s.toks) (λb o hb e=>(sb.2 b hb).trans e) f0 f1 f3 f4 f5;obtain ⟨o,e,c,d⟩:=id st';exact ⟨u,rfl,lw (s:={ s with heap:=h' }) e c d (by decide) ⟨x,H,I1,ru,⟨rfl,λys hy=>by rw[I.list_inj hy hq];exact hx⟩,st',λb hb=>(hf b hb).1⟩⟩
 done:=by intro X hP hw hK hc i pins s σ H E I hf st hg;subst hP hw hK;obtain ⟨xs,hq,hx⟩:=hg;obtain ⟨its,rv,p,hz⟩:=I.list hq;obtain ⟨f0,f1,f2,f3,f4,f5⟩:=hf it (by simp);have hl:=rv.length;exact wpAny_pyNext_list_end (I.ok.hd hc) st p.isList (by simp;omega) λh' eb=>⟨rfl,I.turned (t':=s.toks) (λb o hb e=>eb b o hb e) f0 f1 f3 f4 f5⟩
 self:=λ_ _ _ _ _ st h=>wpAny_pyIter_listiter st h
theorem Al{P:Program}{w:World}{K:PF}{tg:Expr}(a it:Addr):Turn P w K tg (Itt K a) [it] it (λi h=>h.IsTupleIter it a i) where
 mem:=by simp
 obj:=λi h st b hb=>by
  have e:b=it:=by simpa using hb
  subst e;obtain ⟨o,e,c,d⟩:=st;exact ⟨o,e,λv z=>by rw[d]at z;cases z⟩
 keep:=λi h h' st k=>st.at λo e=>k it (by simp) o e
 item:=by intro X hP hw hK hc i pins s σ H E I hf st hg;subst hP hw hK;obtain ⟨xs,x,hq,hx⟩:=hg;obtain ⟨its,rv,p,hz⟩:=I.tuple hq;obtain ⟨u,hu,ru⟩:=rv.get hx;obtain ⟨f0,f1,f2,f3,f4,f5⟩:=hf it (by simp);refine wpAny_pyNext_tuple_item st (show s.heap.IsTuple a its.toArray from p) (x:=u) (by simpa using hu) λh' st' sb=>?_;have I1:Inv X pins σ H { s with heap:=h' }:=I.turned (t':=s.toks) (λb o hb e=>(sb.2 b hb).trans e) f0 f1 f3 f4 f5;obtain ⟨o,e,c,d⟩:=id st';exact ⟨u,rfl,lw (s:={ s with heap:=h' }) e c d (by decide) ⟨x,H,I1,ru,⟨rfl,λys hy=>by rw[I.tuple_inj hy hq];exact hx⟩,st',λb hb=>(hf b hb).1⟩⟩
 done:=by intro X hP hw hK hc i pins s σ H E I hf st hg;subst hP hw hK;obtain ⟨xs,hq,hx⟩:=hg;obtain ⟨its,rv,p,hz⟩:=I.tuple hq;obtain ⟨f0,f1,f2,f3,f4,f5⟩:=hf it (by simp);have hl:=rv.length;exact wpAny_pyNext_tuple_end (I.ok.hd hc) st (show s.heap.IsTuple a its.toArray from p) (by simp;omega) λh' eb=>⟨rfl,I.turned (t':=s.toks) (λb o hb e=>eb b o hb e) f0 f1 f3 f4 f5⟩
 self:=λ_ _ _ _ _ st h=>wpAny_pyIter_tupleiter st h
theorem Vj{P:Program}{w:World}{K:PF}{tg:Expr}(it:Addr)(lo:Int)(n:Nat):Turn P w K tg (Itr lo n) [it] it (λi h=>IsRangeIter h it (lo+(i:Nat) * 1) ((n:Int) - (i:Nat)) 1) where
 mem:=by simp
 obj:=λi h st b hb=>by
  have e:b=it:=by simpa using hb
  subst e;exact ⟨_,st,λv z=>by
   have z':Data.fields _=Data.cell v:=z;cases z'⟩
 keep:=λi h h' st k=>k it (by simp) _ st
 item:=by intro X hP hw hK hc i pins s σ H E I hf st hg;subst hP hw hK;obtain ⟨f0,f1,f2,f3,f4,f5⟩:=hf it (by simp);have W:=Walks.range (prog:=X.prog) (w:=X.w) (I.ok.hd hc) it lo 1 n;refine W.item i s _ _ hg st λv h' tk hv st' kk=>?_;obtain ⟨t,rfl⟩:=hv;have I1:Inv X pins σ H { s with heap:=h',toks:=tk }:=I.turned (λb o hb e=>kk b o (by simpa using hb) e) f0 f1 f3 f4 f5;refine ⟨_,rfl,lw (s:={ s with heap:=h',toks:=tk }) (n:="range_iterator") st' rfl rfl (by decide) ⟨.int (lo+i),H,I1,⟨t,?_⟩,⟨rfl,rfl⟩,st',λb hb=>(hf b hb).1⟩⟩;rw[Int.mul_one]
 done:=by intro X hP hw hK hc i pins s σ H E I hf st hg;subst hP hw hK;obtain ⟨f0,f1,f2,f3,f4,f5⟩:=hf it (by simp);exact wpAny_pyNext_range_end (I.ok.hd hc) st (by have:n<=i:=hg;omega) λh' eb=>⟨rfl,I.turned (t':=s.toks) (λb o hb e=>eb b o hb e) f0 f1 f3 f4 f5⟩
 self:=λ_ _ _ _ _ st h=>wpAny_pyIter_rangeiter st h
section
variable {X:Cx} {tg:Expr}
theorem Am{pins:List (Addr×Obj)}{σ:St}{H:Hp}{s:Shared}{R:It->Hp->Prop}{E:Value->Shared->Prop}{lo hi:Int}{t u v:Tok}{tk:Nat}(I:Inv X pins σ H s)(h1:-(2 ^ 62)<=lo)(h2:lo < 2 ^ 62)(h3:-(2 ^ 62)<=hi)(h4:hi < 2 ^ 62)
  (q:R (Itr lo (hi - lo).toNat) H):wpAny (model X.prog X.w) X.A (pyIter (.ref s.heap.objs.size)) (PIE X pins σ tg R) E { s with heap:=s.heap.push { cls:=.type "range",data:=.fields #[.int lo t,.int hi u,.int 1 v] },toks:=tk }:=by
 refine wpAny_pyIter_range (IsRange.new ..) (small_one h1 h2 h3 h4) ?_;have I1:Inv X pins σ H { s with heap:=s.heap.push { cls:=.type "range",data:=.fields #[.int lo t,.int hi u,.int 1 v] },toks:=tk }:=I.kept λb o e=>ah _ e;refine ⟨(s.heap.push { cls:=.type "range",data:=.fields #[.int lo t,.int hi u,.int 1 v] }).objs.size,[(s.heap.push { cls:=.type "range",data:=.fields #[.int lo t,.int hi u,.int 1 v] }).objs.size],_,_,H,rfl,
  I1.kept (t':=tk) λb o e=>ah _ e,Vj _ lo (hi - lo).toNat,?_,λb hb=>?_,q⟩
 ·have e1:lo+((0:Nat):Int) * 1=lo:=by simp
  have e2:(((hi - lo).toNat:Nat):Int) - ((0:Nat):Int)=Builtin.Range.rangeSize lo hi 1:=by rw[rangeSize_one];split <;> omega
  show IsRangeIter _ _ (lo+((0:Nat):Int) * 1) ((((hi - lo).toNat:Nat):Int) - ((0:Nat):Int)) 1;rw[e1,e2];exact a9 _ rfl
 ·have e:b=(s.heap.push { cls:=.type "range",data:=.fields #[.int lo t,.int hi u,.int 1 v] }).objs.size:=by simpa using hb
  subst e;exact I1.fpOk (aw _) (I1.hok.fresh (aw _))
def Vk(ta:TA):TI:=λσ H R=>ta σ H λvs H1=>∃j:Int,vs=[.int j]/\-(2 ^ 62)<=j/\j < 2 ^ 62/\R (Itr 0 j.toNat) H1
def Vl(ta:TA):TI:=λσ H R=>ta σ H λvs H1=>∃i j:Int,vs=[.int i,.int j]/\(-(2 ^ 62)<=i/\i < 2 ^ 62/\-(2 ^ 62)<=j/\j < 2 ^ 62)/\R (Itr i (j - i).toNat) H1
theorem Vm {a:Expr} {ta:TA} {p pos:Pos} (hg:Gl X "range") (hm:X.mg "range"=none) (ha:PA X [a] ta) (hs:starEach [a] X.env=[(false,eval a X.env)]:=by rfl):PI X tg (.Call (.Name "range" p) [a] [] pos) (Vk ta):=by
 intro pins s σ H R I h;refine Call_ (fU I hg hm boot_range (cw (thn (ha pos pins s σ H _ I h) λus s1 ⟨vs,H1,I1,r1,q1⟩=>?_) hs rfl));obtain ⟨j,e,q1,q2,q⟩:=q1;subst e;cases r1 with
 |cons r rr=>
  cases rr;obtain ⟨t,rfl⟩:=r;exact call_range_1 (Am I1 (by omega) (by omega) q1 q2 (by simpa using q))
theorem Vn {a b:Expr} {ta:TA} {p pos:Pos} (hg:Gl X "range") (hm:X.mg "range"=none) (ha:PA X [a,b] ta) (hs:starEach [a,b] X.env=[(false,eval a X.env),(false,eval b X.env)]:=by rfl) (hs2:starEach [b] X.env=[(false,eval b X.env)]:=by rfl):
  PI X tg (.Call (.Name "range" p) [a,b] [] pos) (Vl ta):=by
 intro pins s σ H R I h;refine Call_ (fU I hg hm boot_range (cw (thn (ha pos pins s σ H _ I h) λus s1 ⟨vs,H1,I1,r1,q1⟩=>?_) (by rw[hs,hs2]) (by rw[hs2];rfl)));obtain ⟨i,j,e,⟨q1,q2,q3,q4⟩,q⟩:=q1;subst e;cases r1 with
 |cons r rr=>
  cases rr with
  |cons r' rr=>
   cases rr;obtain ⟨t,rfl⟩:=r;obtain ⟨t',rfl⟩:=r';exact call_range_2 (Am I1 q1 q2 q3 q4 q)
def Vo(wi:TI)(g:TG)(tb:TS):TS:=λD σ H=>wi σ H λJ H1=>∃W:Nat->Nat->St->Hp->Prop,(∃m,W 0 m σ H1)/\∀i m σ H,W i m σ H->
 (J.stop i H/\D.nx σ H)\/(J.go i H/\∃N:St->Hp->Prop,(∀σ' H',N σ' H'->∃m',m' < m/\W (i+1) m' σ' H')/\∀x H',J.yld i H x H'->g x σ H' λσ2 H2=>tb { D with nx:=N,ct:=N,bk:=D.nx } σ2 H2)
def jy(fp:List Addr)(h:Heap):List (Addr×Obj):=fp.filterMap λb=>(h.get? b).map λo=>(b,o)
theorem jz{fp:List Addr}{h:Heap}{b:Addr}{o:Obj}(hb:b∈fp)(e:h.get? b=some o):(b,o)∈jy fp h:=List.mem_filterMap.mpr ⟨b,hb,by rw[e];rfl⟩
theorem vD{fp:List Addr}{h:Heap}{p:Addr×Obj}(hp:p∈jy fp h):p.1∈fp/\h.get? p.1=some p.2:=by
 obtain ⟨b,hb,e⟩:=List.mem_filterMap.mp hp;cases q:h.get? b with
 |none=>rw[q]at e;cases e
 |some o=>
  rw[q]at e;have e':(b,o)=p:=dy e;subst e';exact ⟨hb,q⟩
theorem Inv.pinned{pins:List (Addr×Obj)}{σ:St}{H:Hp}{s:Shared}{fp:List Addr}(I:Inv X pins σ H s)(hf:∀b∈fp,dY X pins H b)(ho:∀b∈fp,∃o,s.heap.get? b=some o/\∀v,o.data≠.cell v):Inv X (pins++jy fp s.heap) σ H s:=
 I.pins_of λp hp=>(bn.mp hp).elim (λz=>I.pin p (ax _ z)) λz=>by
  obtain ⟨hb,e⟩:=vD z;obtain ⟨f0,f1,f2,_⟩:=hf p.1 hb;obtain ⟨o,e',d⟩:=ho p.1 hb;rw[e]at e';cases e';exact ⟨e,f0,f1,f2,d⟩
theorem Inv.unpinned{pins pl:List (Addr×Obj)}{σ:St}{H:Hp}{s:Shared}(I:Inv X (pins++pl) σ H s):Inv X pins σ H s:=I.pins_of λp hp=>I.pin p (ax _ (cK _ hp))
theorem Vp{iter:Expr}{body:List Stmt}{wi:TI}{g:TG}{tb:TS}{pos:Pos}(hp:PassesOwn (model X.prog X.w) X.A X.env X.xe)(hc:X.calm=true)(hi:PI X tg iter wi)(hg:PG X tg g)(hb:PSs X body tb)
  (hs:∀x,foldedSetIterable iter X.env x=pure x:=by intro _;rfl):PS X (.For tg iter body [] pos) (Vo wi g tb):=by
 intro pins s σ H D I h;refine wpAny_For (thn (hi pins s σ H _ I h) λv s1 h1=>thn h1 λitv s2 h2=>?_) hs;obtain ⟨it,fp,tn,J,H2,e,I2,T,st2,f2,W,⟨m0,w0⟩,turn⟩:=h2;subst e
 -- what stays true of the iterator's objects through the loop
 have stat:∀{H':Hp},(∀b∈fp,H' b=none)->∀b∈fp,dY X pins H' b:=λhn b hb=>⟨hn b hb,(f2 b hb).2⟩;refine codeAny_forLoop_any (λn s'=>∃i σ' H',Inv X pins σ' H' s'/\tn i s'.heap/\(∀b∈fp,H' b=none)/\W i n σ' H') ?_ m0 ⟨0,σ,H2,I2,st2,λb hb=>(f2 b hb).1,w0⟩;rintro n s3 ⟨i,σ3,H3,I3,st3,fr3,w3⟩;rcases turn i n σ3 H3 w3 with ⟨stop,qn⟩ |⟨go,N,hN,step⟩
 ·refine fo hp (thn (T.done X rfl rfl rfl hc i pins s3 σ3 H3 X.xe I3 (stat fr3) st3 stop) λr s4 ⟨hr,I4⟩=>?_);subst hr;exact ey ⟨σ3,H3,I4,qn⟩
 ·refine fo hp (thn (T.item X rfl rfl rfl hc i pins s3 σ3 H3 X.xe I3 (stat fr3) st3 go) λr s4 ⟨u,hr,h4⟩=>?_);subst hr;refine fo hp (thn h4 λ_ s5 ⟨x,H5,I5,r5,y5,st5,fr5⟩=>?_);have I5':=I5.pinned (stat fr5) (T.obj _ _ st5);refine fo hp (thn (hg _ s5 σ3 H5 x u _ I5' r5 (step x H5 y5)) λ_ s6 ⟨σ6,H6,I6,q6⟩=>?_);refine fo hp (thn (hb _ s6 σ6 H6 _ I6 q6) λf s7 q7=>?_);have again:∀{σ7:St}{H7:Hp},Inv X (pins++jy fp s5.heap) σ7 H7 s7->N σ7 H7->∃m,m < n/\∃i σ' H',Inv X pins σ' H' s7/\tn i s7.heap/\(∀b∈fp,H' b=none)/\W i m σ' H':=λ{σ7 H7} I7 n7=>by
   obtain ⟨m',hm,w7⟩:=hN σ7 H7 n7;refine ⟨m',hm,i+1,σ7,H7,I7.unpinned,T.keep _ _ _ st5 λb hb o e=>(I7.pin (b,o) (ax _ (ax _ (jz hb e)))).1,λb hb=>?_,w7⟩;obtain ⟨o,e,d⟩:=T.obj _ _ st5 b hb;exact (I7.pin (b,o) (ax _ (ax _ (jz hb e)))).2.1
  cases f with
  |next=>obtain ⟨σ7,H7,I7,n7⟩:=q7;exact again I7 n7
  |cont=>obtain ⟨σ7,H7,I7,n7⟩:=q7;exact again I7 n7
  |brk=>obtain ⟨σ7,H7,I7,q7⟩:=q7;exact ⟨σ7,H7,I7.unpinned,q7⟩
  |ret v=>obtain ⟨x7,σ7,H7,I7,r7,q7⟩:=q7;exact ⟨x7,σ7,H7,I7.unpinned,r7,q7⟩
end
abbrev R2:=V->V->Hp->VK->Prop
def OpR(X:Cx)(f:Value->Value->Sem Value)(r:R2):Prop:=
 ∀(pins:List (Addr×Obj))(s:Shared)(σ:St)(H:Hp)(x y:V)(v u:Value)(Q:VK),Inv X pins σ H s->RelV x v->RelV y u->r x y H Q->
  wpAny (model X.prog X.w) X.A (f v u) (EP X pins σ Q) X.xe s
def UnR(X:Cx)(f:Value->Sem Value)(r:V->Hp->VK->Prop):Prop:=
 ∀(pins:List (Addr×Obj))(s:Shared)(σ:St)(H:Hp)(x:V)(v:Value)(Q:VK),Inv X pins σ H s->RelV x v->r x H Q->
  wpAny (model X.prog X.w) X.A (f v) (EP X pins σ Q) X.xe s
def bH(X:Cx)(f:Value)(r:List V->Hp->VK->Prop):Prop:=
 ∀(pins:List (Addr×Obj))(s:Shared)(σ:St)(H:Hp)(xs:List V)(us:List Value)(Q:VK),Inv X pins σ H s->Vals xs us->r xs H Q->
  wpAny (model X.prog X.w) X.A (call f us) (EP X pins σ Q) X.xe s
def Vq(X:Cx)(r:V->Hp->(Bool->Hp->Prop)->Prop):Prop:=
 ∀(pins:List (Addr×Obj))(s:Shared)(σ:St)(H:Hp)(x:V)(v:Value)(Q:Bool->Hp->Prop),Inv X pins σ H s->RelV x v->r x H Q->
  wpAny (model X.prog X.w) X.A (truthy v) (TP X pins σ Q) X.xe s
def tOp(r:R2)(ta tb:TE):TE:=λσ H Q=>ta σ H λx H1=>tb σ H1 λy H2=>r x y H2 Q
def tUn(r:V->Hp->VK->Prop)(ta:TE):TE:=λσ H Q=>ta σ H λx H1=>r x H1 Q
def rI(C:Int->Int->Prop)(g:Int->Int->V):R2:=λx y H Q=>∃i j,x=.int i/\y=.int j/\C i j/\Q (g i j) H
def rI0(g:Int->Int->V):R2:=λx y H Q=>∃i j,x=.int i/\y=.int j/\Q (g i j) H
def rU(g:Int->V):V->Hp->VK->Prop:=λx H Q=>∃i,x=.int i/\Q (g i) H
section
variable {X:Cx} {a b c:Expr} {ta tb tc:TE} {pos:Pos}
theorem vG(ha:PE X a ta)(hb:PE X b tb){pins:List (Addr×Obj)}{s:Shared}{σ:St}{H:Hp}{R:V->V->Hp->Prop}(I:Inv X pins σ H s)
  (h:ta σ H λx H1=>tb σ H1 λy H2=>R x y H2) {Q:Value->Shared->Prop} {f:Value->Value->Sem Value}
  (hf:∀v u s2 x y H2,Inv X pins σ H2 s2->RelV x v->RelV y u->R x y H2->wpAny (model X.prog X.w) X.A (f v u) Q X.xe s2):
  wpAny (model X.prog X.w) X.A (eval a X.env) (λv s₁=>wpAny (model X.prog X.w) X.A (eval b X.env) (λu s₂=>wpAny (model X.prog X.w) X.A (f v u) Q X.xe s₂) X.xe s₁) X.xe s:=by
 refine thn (ha pins s σ H _ I h) λv s1 ⟨x,H1,I1,r1,q1⟩=>?_;refine thn (hb pins s1 σ H1 _ I1 q1) λu s2 ⟨y,H2,I2,r2,q2⟩=>?_;exact hf v u s2 x y H2 I2 r1 r2 q2
theorem Vr{op:Operator}{r:R2}(ho:OpR X (binaryOp op) r)(ha:PE X a ta)(hb:PE X b tb):PE X (.BinOp a op b pos) (tOp r ta tb):=by intro pins s σ H Q I h;exact wpAny_BinOp (vG ha hb I h λv u s2 x y H2 I2 rx ry q=>ho pins s2 σ H2 x y v u Q I2 rx ry q)
theorem Vs{op:UnaryOp}{r:V->Hp->VK->Prop}(ho:UnR X (unaryOp op) r)(ha:PE X a ta):PE X (.UnaryOp op a pos) (tUn r ta):=by intro pins s σ H Q I h;exact UnaryOp_ (thn (ha pins s σ H _ I h) λv s1 ⟨x,H1,I1,r1,q1⟩=>ho pins s1 σ H1 x v Q I1 r1 q1)
theorem opI{f:Value->Value->Sem Value}{C:Int->Int->Prop}{g:Int->Int->Int}
  (rule:∀(i j:Int)(t u:Tok)(s:Shared)(Q:Value->Shared->Prop)(E:Value->Shared->Prop),C i j->Q (.int (g i j) s.toks) { s with toks:=s.toks+1 }->wpAny (model X.prog X.w) X.A (f (.int i t) (.int j u)) Q E s):
  OpR X f (rI C λi j=>.int (g i j)):=by
 intro pins s σ H x y v u Q I rx ry h;obtain ⟨i,j,rfl,rfl,hc,q⟩:=h;obtain ⟨t,rfl⟩:=rx;obtain ⟨t',rfl⟩:=ry;exact rule i j t t' s _ _ hc ⟨.int (g i j),H,I.tok _,⟨_,rfl⟩,q⟩
theorem qu{f:Value->Value->Sem Value}{g:Int->Int->Int}
  (rule:∀(i j:Int)(t u:Tok)(s:Shared)(Q:Value->Shared->Prop)(E:Value->Shared->Prop),Q (.int (g i j) s.toks) { s with toks:=s.toks+1 }->wpAny (model X.prog X.w) X.A (f (.int i t) (.int j u)) Q E s):
  OpR X f (rI0 λi j=>.int (g i j)):=by
 intro pins s σ H x y v u Q I rx ry h;obtain ⟨i,j,rfl,rfl,q⟩:=h;obtain ⟨t,rfl⟩:=rx;obtain ⟨t',rfl⟩:=ry;exact rule i j t t' s _ _ ⟨.int (g i j),H,I.tok _,⟨_,rfl⟩,q⟩
def qw(i j:Int):Prop:=0<=j/\j<=1000000/\i.natAbs < 2 ^ 64
def CMul(i j:Int):Prop:=(-(2 ^ 64) < i/\i < 2 ^ 64)\/(-(2 ^ 64) < j/\j < 2 ^ 64)
theorem CMul.ok{i j:Int}(h:CMul i j):IntMulOk i j:=by
 rcases h with ⟨h1,h2⟩ |⟨h1,h2⟩
 ·exact .of_left (intBits_le_64 h1 h2)
 ·exact .of_right (intBits_le_64 h1 h2)
theorem Vt:OpR X (binaryOp .Add) (rI0 λi j=>.int (i+j)):=qu λ_ _ _ _ _ _ _ q=>add_int q
theorem Vu:OpR X (binaryOp .Sub) (rI0 λi j=>.int (i - j)):=qu λ_ _ _ _ _ _ _ q=>sub_int q
theorem Vv:OpR X (binaryOp .Mult) (rI CMul λi j=>.int (i * j)):=opI λ_ _ _ _ _ _ _ hc q=>mul_int q hc.ok
theorem Vw:OpR X (binaryOp .Mod) (rI (λ_ j=>0 < j) λi j=>.int (i % j)):=opI λi j _ _ _ _ _ hc q=>by
 have h1:(0:Int) < j:=hc;exact mod_int' (by omega) (by rw[Int.fmod_eq_emod_of_nonneg i (by omega)];exact q)
theorem Vx:OpR X (binaryOp .Pow) (rI qw λi j=>.int (i ^ j.toNat)):=opI λ_ _ _ _ _ _ _ hc q=>pow_int_small hc.1 hc.2.1 hc.2.2 q
theorem Vy:OpR X (inplaceOp .Add) (rI0 λi j=>.int (i+j)):=qu λ_ _ _ _ _ _ _ q=>iadd_int q
theorem Vz:OpR X (inplaceOp .Sub) (rI0 λi j=>.int (i - j)):=qu λ_ _ _ _ _ _ _ q=>isub_int q
theorem unI{f:Value->Sem Value}{g:Int->Int}
  (rule:∀(i:Int)(t:Tok)(s:Shared)(Q:Value->Shared->Prop)(E:Value->Shared->Prop),Q (.int (g i) s.toks) { s with toks:=s.toks+1 }->wpAny (model X.prog X.w) X.A (f (.int i t)) Q E s):
  UnR X f (rU λi=>.int (g i)):=by
 intro pins s σ H x v Q I rx h;obtain ⟨i,rfl,q⟩:=h;obtain ⟨t,rfl⟩:=rx;exact rule i t s _ _ ⟨.int (g i),H,I.tok _,⟨_,rfl⟩,q⟩
theorem VB:UnR X (unaryOp .USub) (rU λi=>.int (-i)):=unI λ_ _ _ _ _ q=>neg_int q
end
section
variable {X:Cx} {a b c:Expr} {ta tb tc:TE} {pos:Pos}
theorem An{pins:List (Addr×Obj)}{σ:St}{H:Hp}{s:Shared}{Q:VK}{k k':Bool}(I:Inv X pins σ H s)(q:Q (.bl k) H)(e:k=k'):EP X pins σ Q (.bool k') s:=by subst e;exact ⟨.bl k,H,I,rfl,q⟩
theorem VD:OpR X (compareOp .Is) (λx y H Q=>y=.non/\Q (.bl (decide (x=.non))) H):=by
 intro pins s σ H x y v u Q I rx ry h;obtain ⟨rfl,q⟩:=h;cases ry;refine is_none_gen (An I q ?_);cases x <;> first
  | (cases rx;rfl)
  | (obtain ⟨t,rfl⟩:=rx;rfl)
theorem VF:OpR X (compareOp .IsNot) (λx y H Q=>y=.non/\Q (.bl (!decide (x=.non))) H):=by
 intro pins s σ H x y v u Q I rx ry h;obtain ⟨rfl,q⟩:=h;cases ry;refine isnot_none_gen (An I q ?_);cases x <;> first
  | (cases rx;rfl)
  | (obtain ⟨t,rfl⟩:=rx;rfl)
theorem VG{op:CmpOp}{r:R2}(ho:OpR X (compareOp op) r)(ha:PE X a ta)(hb:PE X b tb)(hm:behindInMarks op b=false):PE X (.Compare a [op] [b] pos) (tOp r ta tb):=by intro pins s σ H Q I h;exact wpAny_Compare1 (vG ha hb I h λv u s2 x y H2 I2 rx ry q=>ho pins s2 σ H2 x y v u Q I2 rx ry q) hm
def Ao(t:TE):TT:=λσ H Q=>t σ H λx H'=>∃k,x=.bl k/\Q k H'
theorem VH{op:CmpOp}{r:R2}(ho:OpR X (compareOp op) r)(ha:PE X a ta)(hb:PE X b tb)(hm:behindInMarks op b=false):PT X (.Compare a [op] [b] pos) (Ao (tOp r ta tb)):=by
 intro pins s σ H Q I h;refine wpAny_isTrue_Compare1 (thn (ha pins s σ H _ I h) λv s1 ⟨x,H1,I1,r1,q1⟩=>thn (hb pins s1 σ H1 _ I1 q1) λu s2 ⟨y,H2,I2,r2,q2⟩=>
  thn (ho pins s2 σ H2 x y v u _ I2 r1 r2 q2) λc s3 ⟨z,H3,I3,r3,k,e,q3⟩=>?_) hm
 subst e;cases r3;exact eh ⟨H3,I3,q3⟩
def vH(r r':R2)(ta tb tc:TE):TE:=λσ H Q=>ta σ H λx H1=>tb σ H1 λy H2=>r x y H2 λz H3=>∃k,z=.bl k/\
 (if k=true then tc σ H3 λw' H4=>r' y w' H4 Q else Q (.bl false) H3)
theorem VJ{op op':CmpOp}{r r':R2}(ho:OpR X (compareOp op) r)(ho':OpR X (compareOp op') r')(ha:PE X a ta)(hb:PE X b tb)(hc:PE X c tc)
  (hm:lastMarks [op,op'] [b,c]=false:=by with_unfolding_all rfl):PE X (.Compare a [op,op'] [b,c] pos) (vH r r' ta tb tc):=by
 intro pins s σ H Q I h;refine Compare_chain (thn (ha pins s σ H _ I h) λv s1 ⟨x,H1,I1,r1,q1⟩=>chain_link (thn (hb pins s1 σ H1 _ I1 q1) λu s2 ⟨y,H2,I2,r2,q2⟩=>
  thn (ho pins s2 σ H2 x y v u _ I2 r1 r2 q2) λd s3 ⟨z,H3,I3,r3,k,e,q3⟩=>?_)) hm
 subst e;cases r3;refine eh ?_;cases k with
 |false=>exact ite_ff ⟨.bl false,H3,I3,rfl,q3⟩
 |true=>exact ite_tt (chain_last (thn (hc pins s3 σ H3 _ I3 q3) λw' s4 ⟨z',H4,I4,r4,q4⟩=>ho' pins s4 σ H4 y z' u w' Q I4 r2 r4 q4))
theorem VL{op op':CmpOp}{r r':R2}(ho:OpR X (compareOp op) r)(ho':OpR X (compareOp op') r')(ha:PE X a ta)(hb:PE X b tb)(hc:PE X c tc)
  (hm:lastMarks [op,op'] [b,c]=false:=by with_unfolding_all rfl):PT X (.Compare a [op,op'] [b,c] pos) (Ao (vH r r' ta tb tc)):=by
 intro pins s σ H Q I h;refine isTrue_chain (thn (ha pins s σ H _ I h) λv s1 ⟨x,H1,I1,r1,q1⟩=>test_link (thn (hb pins s1 σ H1 _ I1 q1) λu s2 ⟨y,H2,I2,r2,q2⟩=>
  thn (ho pins s2 σ H2 x y v u _ I2 r1 r2 q2) λd s3 ⟨z,H3,I3,r3,k,e,q3⟩=>?_)) hm
 subst e;cases r3;refine eh ?_;cases k with
 |false=>
  obtain ⟨k',e',q'⟩:=q3;cases e';exact ite_ff ⟨H3,I3,q'⟩
 |true=>
  refine ite_tt (test_last (thn (hc pins s3 σ H3 _ I3 q3) λw' s4 ⟨z',H4,I4,r4,q4⟩=>thn (ho' pins s4 σ H4 y z' u w' _ I4 r2 r4 q4) λd' s5 ⟨z2,H5,I5,r5,k2,e2,q5⟩=>?_));subst e2;cases r5;exact eh ⟨H5,I5,q5⟩
def qx(K:PF)(x:V)(H:Hp)(k:Bool):Prop:=
 match x with
 |.non=>k=false
 |.bl b=>k=b
 |.int i=>k=(i != 0)
 |.str y=>y.length<=sizeLine/\k=((y.length:Int) != 0)
 |.byt y=>y.size<=sizeLine/\k=((y.size:Int) != 0)
 |.ref p=>(∃xs,SqL K H p xs/\k=!xs.isEmpty)\/(∃xs,SqT K H p xs/\k=!xs.isEmpty)\/∃kvs,H p=some (.dK kvs)/\k=!kvs.isEmpty
 |_=>False
theorem VM{κ:Type}{kvs:List (κ×V)}{vs:List (κ×Value)}(r:KV kvs vs):(!vs.isEmpty)=!kvs.isEmpty:=by cases r <;> rfl
theorem Aq{xs:List V}{its:List Value}(r:Vals xs its):(!its.toArray.isEmpty)=!xs.isEmpty:=by cases r <;> simp
theorem iz:(sizeLine:Nat) < 2 ^ 63:=by rw[sizeLine_eq];decide
theorem Ar:Vq X (λx H Q=>∃k,qx X.K x H k/\Q k H):=by
 intro pins s σ H x v Q I rx h;obtain ⟨k,e,q⟩:=h;have hl:=iz;have hs:sizeLine=16777216:=sizeLine_eq;cases x with
 |non=>
  cases rx;have e':k=false:=e;subst e';exact truthy_none ⟨H,I,q⟩
 |bl b=>
  cases rx;have e':k=b:=e;subst e';exact eh ⟨H,I,q⟩
 |int i=>
  obtain ⟨t,rfl⟩:=rx;have e':k=(i != 0):=e;subst e';exact PySem.P.truthy_int ⟨H,I,q⟩
 |str y=>
  obtain ⟨t,rfl⟩:=rx;obtain ⟨hy,e'⟩:y.length<=sizeLine/\k=((y.length:Int) != 0):=e;subst e';exact PySem.P.truthy_str (by omega) ⟨H,I.tok _,q⟩
 |byt y=>
  obtain ⟨t,rfl⟩:=rx;obtain ⟨hy,e'⟩:y.size<=sizeLine/\k=((y.size:Int) != 0):=e;subst e';exact PySem.W.truthy_bytes (by omega) ⟨H,I.tok _,q⟩
 |ref p=>
  cases rx;have e':(∃xs,SqL X.K H p xs/\k=!xs.isEmpty)\/(∃xs,SqT X.K H p xs/\k=!xs.isEmpty)\/∃kvs,H p=some (.dK kvs)/\k=!kvs.isEmpty:=e;rcases e' with ⟨xs,hx,e'⟩ |⟨xs,hx,e'⟩ |⟨kvs,hx,e'⟩
  ·subst e';obtain ⟨its,r,pl,hz⟩:=I.list hx;have hlen:=r.length;exact wpAny_truthy_list pl.isList (by simp only[ar];omega) ⟨H,I.tok _,by rw[Aq r];exact q⟩
  ·subst e';obtain ⟨its,r,pl,hz⟩:=I.tuple hx;have hlen:=r.length;exact truthy_tuple pl (by simp only[ar];omega) ⟨H,I.tok _,by rw[Aq r];exact q⟩
  ·subst e';obtain ⟨hz,hS,vs,r,m⟩:kvs.length<=sizeLine/\(p==sysModules)=false/\∃vs,KV kvs vs/\s.heap.DictOf (vy X.prog X.w) p vs:=I.hok p _ hx;have hlen:kvs.length=vs.length:=Paired.length r;exact wpAny_truthy_dict hS m (by omega) ⟨H,I.tok _,by rw[VM r];exact q⟩
 |_=>exact (show False from e).elim
theorem VN(ha:PE X a ta)(he:∀whole,isTrue a X.env whole=(do let v <-whole;standAt a.pos;holding [v] (truthy v))):
  PT X a (λσ H Q=>ta σ H λx H'=>∃k,qx X.K x H' k/\Q k H'):=by
 intro pins s σ H Q I h;exact isTrue_plain (thn (ha pins s σ H _ I h) λv s1 ⟨x,H1,I1,r1,q1⟩=>Ar pins s1 σ H1 x v Q I1 r1 q1) (he _)
theorem VP:OpR X (binaryOp .Add) (λx y H Q=>∃i j,x=.str i/\y=.str j/\i.length+j.length<=sizeLine/\Q (.str (i++j)) H):=by intro pins s σ H x y v u Q I rx ry h;obtain ⟨i,j,rfl,rfl,hz,q⟩:=h;obtain ⟨t,rfl⟩:=rx;obtain ⟨t',rfl⟩:=ry;exact add_str (λt' tk=>⟨.str (i++j),H,I.tok _,⟨_,rfl⟩,q⟩) hz
theorem VR:OpR X (inplaceOp .Add) (λx y H Q=>∃i j,x=.str i/\y=.str j/\i.length+j.length<=sizeLine/\Q (.str (i++j)) H):=by intro pins s σ H x y v u Q I rx ry h;obtain ⟨i,j,rfl,rfl,hz,q⟩:=h;obtain ⟨t,rfl⟩:=rx;obtain ⟨t',rfl⟩:=ry;exact iadd_str (λt' tk=>⟨.str (i++j),H,I.tok _,⟨_,rfl⟩,q⟩) hz
theorem vals1{x:V}{us:List Value}(r:Vals [x] us):∃u,us=[u]/\RelV x u:=by
 cases r with
 |cons r1 r2=>cases r2;exact ⟨_,rfl,r1⟩
theorem vals2{x y:V}{us:List Value}(r:Vals [x,y] us):∃u w',us=[u,w']/\RelV x u/\RelV y w':=by
 cases r with
 |cons r1 r2=>
  cases r2 with
  |cons r3 r4=>cases r4;exact ⟨_,_,rfl,r1,r3⟩
theorem Av:bH X (.type "int") (λxs H Q=>(∃i,xs=[.int i]/\Q (.int i) H)\/∃k,xs=[.bl k]/\Q (.int (if k then 1 else 0)) H):=by
 intro pins s σ H xs us Q I r h;rcases h with ⟨i,rfl,q⟩ |⟨k,rfl,q⟩
 ·obtain ⟨u,rfl,t,rfl⟩:=vals1 r;exact call_int_int ⟨.int i,H,I,⟨_,rfl⟩,q⟩
 ·obtain ⟨u,rfl,r1⟩:=vals1 r;cases r1;exact call_int_bool ⟨.int (if k then 1 else 0),H,I.tok _,⟨_,rfl⟩,q⟩
end
structure ObjM(h:Heap)(x dx C:Addr)(mA:Str->Option Value):Prop where
 obj:h.get? x=some (PySem.W.instObj C dx)
 ns:h.Ns1 dx mA
 ne:dx≠x
theorem VV{h:Heap}{dx:Addr}{mA:Str->Option Value}(n:h.Ns1 dx mA):∃od,h.get? dx=some od/\∀name,PySem.W.lookIn name od=some (mA name):=by
 obtain ⟨o,es,ep,ho,hd,hk,_,hm⟩:=n;refine ⟨o,ho,λname=>?_⟩;have e:=hm name;unfold nsFind findBy at e;rw[<-Array.find?_toList]at e;unfold PySem.W.lookIn;rw[hd];dsimp only;split
 ·rename_i y q;rw[q]at e;exact fe some e
 ·rename_i q;rw[q]at e;have a:es.toList.any (·.refKey)=false:=by
   rw[List.any_eq_false];intro y hy;obtain ⟨z,t,hkey⟩:=hk y (Array.mem_toList_iff.mp hy);simp[DictEntry.refKey,hkey]
  have a':¬es.toList.any (·.refKey)=true:=by rw[a];exact bi
  rw[if_neg a'];exact fe some e
theorem ObjM.look{h:Heap}{x dx C:Addr}{mA:Str->Option Value}(I:ObjM h x dx C mA):∃od,PySem.W.InstAt h x (PySem.W.instObj C dx) C (some od)/\∀name,PySem.W.lookIn name od=some (mA name):=
 let ⟨od,ho,hl⟩:=VV I.ns
 ⟨od,⟨I.obj,rfl,rfl,ho⟩,hl⟩
section
variable {prog:Program} {w:World} {A:Around} {E:Value->Shared->Prop} {s:Shared} {K:PF} {x dx C f:Addr} {mA:Str->Option Value} {name:Str} {v:Value}
theorem V0{pl:Sem Bool}{Q:Value×List Value->Shared->Prop}(X:K.In s.heap)(I:ObjM s.heap x dx C mA)(hg:PySem.W.plainGet K C name=true)
  (hf:PySem.W.findIn K (.ref C) name=some (some (.ref f))) (ht:PySem.W.isFn K (.ref f)=true) (hv:mA name=none) (h:Q (.ref f,[.ref x]) s):
  wpAny (model prog w) A (getMethod (.ref x) name pl) Q E s:=by
 obtain ⟨od,J,hl⟩:=I.look;exact PySem.W.method_fn X J (PySem.W.plainGet_of hg).1 (PySem.W.plainGet_of hg).2 hf (av.mp ht) (by show (PySem.W.lookIn name od).map (·.isSome)=some false;rw[hl,hv];rfl) h
theorem aif{R:Result->Shared->Prop}{vs:List Value}{kw:List (Str×Value)}(X:K.In s.heap)(hm:PySem.W.makesIn K C=true)
  (hi:PySem.W.findIn K (.ref C) "__init__"=some (some (.ref f))) (hf:PySem.W.typeIn K (.ref f)=some (.type "function"))
  (h:codeAny (model prog w) (A.under (.builtin "type.__call__" ⟨.ref C::vs,kw⟩)) (.call (.ref f) ⟨.ref (s.heap.objs.size+1)::vs,kw⟩) (PySem.W.InitBack (s.heap.objs.size+1) R)
   { s with heap:=(s.heap.push PySem.W.emptyDict).push (PySem.W.instObj C s.heap.objs.size) }):
  codeAny (model prog w) A (.call (.ref C) ⟨vs,kw⟩) R s:=by
 obtain ⟨hh,g,d,t,os⟩:=s;exact PySem.W.make_core (PySem.W.makes_of X hm) (PySem.W.looks_findIn X hi) (λself=>PySem.W.bind_fn X self hf) (.inl rfl) h
end
theorem RelO.none_of{o:Option Value}(r:RelO none o):o=none:=by
 cases o with
 |none=>rfl
 |some u=>exact (show False from r).elim
section
variable {P:Program} {w:World} {H H':Hp} {h h':Heap} {a C dx:Addr} {fs fs':List (Str×V)}
theorem Aw(hok:HOk P w H h)(e:H a=some (.ins C dx fs)):∃mA,ObjM h a dx C mA/\(∀f,RelO (fs.lookup f) (mA f))/\PySem.Within mA (fs.map (·.1))/\fs.length<=1000/\H dx=some (.own a):=by obtain ⟨d,z,ne,ob,mA,n,r,q⟩:=(show ObjOk P w H h a (.ins C dx fs) from hok a _ e);exact ⟨mA,⟨ob,n,ne⟩,r,q,z,d⟩
end
structure Cls(K:PF)(C:Addr):Prop where
 pg:PySem.W.plainGet K C Str.empty=true
 hd:PySem.W.hasDictIn K C=true
 po:PySem.W.plainOver K C=true
 sa:PySem.W.findIn K (.ref C) "__setattr__"=some (some (.builtin "object.__setattr__"))
theorem Cls.get{K:PF}{C:Addr}(c:Cls K C)(f:Str):PySem.W.plainGet K C f=true:=c.pg
def V1(K:PF)(C:Addr)(f:Str):Prop:=PySem.W.findIn K (.ref C) f=some none
structure Meth(K:PF)(C:Addr)(m:Str)(f:Addr):Prop where
 at_:PySem.W.findIn K (.ref C) m=some (some (.ref f))
 fn:PySem.W.isFn K (.ref f)=true
 kp:PySem.W.keepIn K (.ref f)=true
section
variable {X:Cx} {pins:List (Addr×Obj)} {σ:St} {H:Hp} {s:Shared} {a C dx:Addr} {fs:List (Str×V)} {f:Str} {v:V} {A:Around} {E:Value->Shared->Prop}
theorem aig{m:Str}{g:Addr}{pl:Sem Bool}{Q:Value×List Value->Shared->Prop}(I:Inv X pins σ H s)(e:H a=some (.ins C dx fs))(c:Cls X.K C)(k:Meth X.K C m g)(l:fs.lookup m=none)
  (h:Q (.ref g,[.ref a]) s):wpAny (model X.prog X.w) A (getMethod (.ref a) m pl) Q E s:=by
 obtain ⟨mA,O,r,_,_,_⟩:=Aw I.hok e;have hn:mA m=none:=RelO.none_of (by rw[<-l];exact r m);exact V0 I.kIn O (c.get m) k.at_ k.fn hn h
theorem Inv.made(I:Inv X pins σ H s):Inv X pins σ (upd (upd H s.heap.objs.size (.own (s.heap.objs.size+1))) (s.heap.objs.size+1) (.ins C s.heap.objs.size []))
  { s with heap:=(s.heap.push PySem.W.emptyDict).push (PySem.W.instObj C s.heap.objs.size) }:=by
 have e1:(s.heap.push PySem.W.emptyDict).get? s.heap.objs.size=some PySem.W.emptyDict:=a9 s.heap rfl;have e2:((s.heap.push PySem.W.emptyDict).push (PySem.W.instObj C s.heap.objs.size)).get? (s.heap.objs.size+1)=some (PySem.W.instObj C s.heap.objs.size):=by have:=a9 (s.heap.push PySem.W.emptyDict) (o:=PySem.W.instObj C s.heap.objs.size) rfl;rwa [dL]at this
 have e3:(s.heap.push PySem.W.emptyDict).Ns s.heap.objs.size (λ_=>none):=⟨PySem.W.emptyDict,#[],_,e1,rfl,(λe he=>absurd he (by simp)),λ_=>rfl⟩;have I1:=I.laid (a:=s.heap.objs.size) (o:=.own (s.heap.objs.size+1)) (h':=s.heap.push PySem.W.emptyDict) (t':=s.toks) (λb u q=>ah _ q) (aw _) ⟨_,e1⟩;refine I1.laid (a:=s.heap.objs.size+1) (o:=.ins C s.heap.objs.size []) (t':=s.toks) (λb u q=>ah _ q) (Nat.le_of_eq (dL _ _)) ?_;have ne:s.heap.objs.size≠s.heap.objs.size+1:=ca (gs _);refine ⟨by rw[aL ne,dJ],d3 _,ne,e2,λ_=>none,(Heap.Ns1.of_empty e3).at λo q=>ah _ q,λ_=>True.intro,λy hy=>absurd rfl hy⟩
end
section
variable {X:Cx} {pins:List (Addr×Obj)} {σ:St} {H:Hp} {s:Shared} {A:Around} {E:Value->Shared->Prop} {Q:Value->Shared->Prop} {c:Value} {b:Bool}
inductive TyOf (K:PF) (H:Hp):V->Value->Prop where
 |non:TyOf K H .non (.type "NoneType")
 |bl (x:Bool):TyOf K H (.bl x) (.type "bool")
 |int (i:Int):TyOf K H (.int i) (.type "int")
 |str (x:Str):TyOf K H (.str x) (.type "str")
 |flt (x:UInt64):TyOf K H (.flt x) (.type "float")
 |lst {a:Addr} {xs:List V} (e:H a=some (.lst xs)):TyOf K H (.ref a) (.type "list")
 |frz {a:Addr} {o:Obj} {xs:List V} (e:H a=some (.frz o (.lst xs))):TyOf K H (.ref a) (.type "list")
 |tup {a:Addr} {xs:List V} (e:H a=some (.tup xs)):TyOf K H (.ref a) (.type "tuple")
 |dK {a:Addr} {kvs:List (Key×V)} (e:H a=some (.dK kvs)):TyOf K H (.ref a) (.type "dict")
 |dT {a:Addr} {kvs:List (List Key×V)} (e:H a=some (.dT kvs)):TyOf K H (.ref a) (.type "dict")
 |ins {a C dx:Addr} {fs:List (Str×V)} (e:H a=some (.ins C dx fs)) (cl:Cls K C) (ha:PySem.W.findIn K (.ref C) "__class__"=some (some (.builtin "object.__class__")))
   (hn:PySem.W.specialIn K (.builtin "object.__class__") "__get__"=some (some (.builtin "getset_descriptor.__get__"))) (htk:PySem.W.takesIn K (.builtin "object.__class__")=some true)
   (hm:PySem.W.mroIn K C (.type "object")=some true):TyOf K H (.ref a) (.ref C)
theorem V2{x:V}{u t:Value}(I:Inv X pins σ H s)(rx:RelV x u)(ty:TyOf X.K H x t)(e:PySem.W.kitOne X.K t c=some b)(h:∀tk,Q (.bool b) { s with toks:=tk }):
  wpAny (model X.prog X.w) A (call (.builtin "isinstance") [u,c]) Q E s:=by
 cases ty with
 |non=>cases (show u=Value.none from rx);exact dv PySem.W.kitx_none I.kIn True.intro e (λz=>nomatch z) h
 |bl y=>cases (show u=Value.bool y from rx);exact dv PySem.W.kitx_bool I.kIn True.intro e (λz=>nomatch z) h
 |int i=>obtain ⟨t,q⟩:=(show ∃t,u=Value.int i t from rx);cases q;exact dv PySem.W.kitx_int I.kIn True.intro e (λz=>nomatch z) h
 |str y=>obtain ⟨t,q⟩:=(show ∃t,u=Value.str y t from rx);cases q;exact dv PySem.W.kitx_str I.kIn True.intro e (λz=>nomatch z) h
 |flt y=>obtain ⟨t,q⟩:=(show ∃t,u=Value.float y t from rx);cases q;exact dv PySem.W.kitx_float I.kIn True.intro e (λz=>nomatch z) h
 | @lst a xs ea=>
  cases (show u=Value.ref a from rx);obtain ⟨_,_,n,_,h1⟩:=(show ObjOk X.prog X.w H s.heap a (.lst xs) from I.hok a _ ea);exact dv PySem.W.kitx_list I.kIn ⟨_,h1,rfl⟩ e (λz=>nomatch z) h
 | @frz a ob xs ea=>
  cases (show u=Value.ref a from rx);obtain ⟨_,_,_,n,_,h1⟩:=(show ObjOk X.prog X.w H s.heap a (.frz ob (.lst xs)) from I.hok a _ ea);exact dv PySem.W.kitx_list I.kIn ⟨_,h1,rfl⟩ e (λz=>nomatch z) h
 | @tup a xs ea=>
  cases (show u=Value.ref a from rx);obtain ⟨_,_,_,p⟩:=(show ObjOk X.prog X.w H s.heap a (.tup xs) from I.hok a _ ea);obtain ⟨o,h1,h2,_⟩:=p;exact dv PySem.W.kitx_tuple I.kIn ⟨o,h1,h2⟩ e (λz=>nomatch z) h
 | @dK a kvs ea=>
  cases (show u=Value.ref a from rx);obtain ⟨_,_,vs,_,p⟩:=(show ObjOk X.prog X.w H s.heap a (.dK kvs) from I.hok a _ ea);obtain ⟨o,es,ep,h1,h2,_⟩:=p;exact dv PySem.W.kitx_dict I.kIn ⟨o,h1,h2.1⟩ e (λz=>nomatch z) h
 | @dT a kvs ea=>
  cases (show u=Value.ref a from rx);obtain ⟨_,_,xs,_,o,es,ep,h1,h2,_⟩:=(show ObjOk X.prog X.w H s.heap a (.dT kvs) from I.hok a _ ea);exact dv PySem.W.kitx_dict I.kIn ⟨o,h1,h2.1⟩ e (λz=>nomatch z) h
 | @ins a C dx fs ea cl ha hn htk hm=>
  cases (show u=Value.ref a from rx);obtain ⟨mA,O,_⟩:=Aw I.hok ea;obtain ⟨od,J,_⟩:=O.look;exact dv (PySem.W.kitx_own (cl.get _) cl.hd ha hn htk hm) I.kIn J e (λz=>nomatch z) h
end
structure Room(k:Nat)(A:Around):Prop where
 hd:A.handled=none
 dp:A.depth+3 * k+5 < recursionLimit
 un:A.units+16 * k+200 < cLine
theorem Room.mono{j k:Nat}{A:Around}(r:Room k A)(h:j<=k):Room j A:=⟨r.hd,by have:=r.dp;omega,by have:=r.un;omega⟩
theorem Room.deeper{k:Nat}{A:Around}(r:Room (k+1) A)(env:Env):Room k (A.deeper env):=
 ⟨r.hd,by have:=r.dp;show A.depth+1+3 * k+5 < _;omega,by have:=r.un;show A.units+3+16 * k+200 < _;omega⟩
theorem V3 {A:Around} {C:Addr} {us:List Value} {kw:List (Str×Value)}:(A.under (.builtin "type.__call__" ⟨.ref C::us,kw⟩)).depth=A.depth+1:=by first |rfl |simp[Around.under,Code.weight,Code.isCreation,Code.isGuard,Code.isCaller,Code.frames,Code.isFrame,guardIds]
theorem V4 {A:Around} {C:Addr} {us:List Value} {kw:List (Str×Value)}:(A.under (.builtin "type.__call__" ⟨.ref C::us,kw⟩)).units=A.units+1:=by first |rfl |simp[Around.under,Code.cUnits,Code.frames,Code.isFrame]
theorem Room.make {k:Nat} {A:Around} (r:Room (k+1) A) (C:Addr) (us:List Value) (kw:List (Str×Value)):Room k (A.under (.builtin "type.__call__" ⟨.ref C::us,kw⟩)):=
 ⟨r.hd,by have:=r.dp;rw[V3];omega,by have:=r.un;rw[V4];omega⟩
theorem Room.depth{k:Nat}{A:Around}(r:Room k A):A.depth < recursionLimit:=by have:=r.dp;omega
def V5:TA:=λ_ H Q=>Q [] H
def V6(ta:TE)(tr:TA):TA:=λσ H Q=>ta σ H λx H1=>tr σ H1 λxs H2=>Q (x::xs) H2
section
variable {X:Cx} {e:Expr} {es:List Expr} {te:TE} {t:TA} {pos:Pos}
theorem gG:PA X [] V5:=λ_ _ _ _ H Q I h=>Calls.spliced_nil ⟨[],H,I,.nil,h⟩
theorem dZ(ha:PE X e te)(hr:PA X es t)(hs:starEach (e::es) X.env=(false,eval e X.env)::starEach es X.env:=by rfl):PA X (e::es) (V6 te t):=by intro pos pins s σ H Q I h;rw[hs];show wpAny _ _ (spliced ((false,eval e X.env)::backTo pos (starEach es X.env))) _ _ s;refine Calls.spliced_cons (thn (ha pins s σ H _ I h) λu s1 ⟨x,H1,I1,r1,q1⟩=>?_);exact thn (hr pos pins s1 σ H1 _ I1 q1) λus s2 ⟨xs,H2,I2,r2,q2⟩=>⟨x::xs,H2,I2,.cons r1 r2,q2⟩
def V7(t:TA):TE:=λσ H Q=>t σ H λxs H1=>xs.length<=sizeLine/\∀p,H1 p=none->Q (.ref p) (upd H1 p (.tup xs))
def V8(t:TA):TE:=λσ H Q=>t σ H λxs H1=>xs.length<=sizeLine/\∀p,H1 p=none->Q (.ref p) (upd H1 p (.lst xs))
theorem V9{x1}(h:PA X es t):PE X (.Tuple es x1 pos) (V7 t):=by intro pins s σ H Q I hq;refine wpAny_Tuple_spliced (thn (h pos pins s σ H _ I hq) λus s1 ⟨xs,H1,I1,r,z,q⟩=>⟨by rw[<-r.length];exact z,?_⟩);have hf:H1 s1.heap.objs.size=none:=I1.hok.fresh (aw _);refine ⟨.ref s1.heap.objs.size,upd H1 s1.heap.objs.size (.tup xs),I1.laid (t':=s1.toks) (λb u e=>ah _ e) (aw _) ?_,rfl,q _ hf⟩;exact ⟨z,us,r,⟨_,a9 _ rfl,rfl,_,rfl⟩⟩
theorem Wa(h:PA X es t):PE X (.List es pos) (V8 t):=by intro pins s σ H Q I hq;refine wpAny_List_spliced (thn (h pos pins s σ H _ I hq) λus s1 ⟨xs,H1,I1,r,z,q⟩=>⟨by rw[<-r.length];exact z,?_⟩);have hf:H1 s1.heap.objs.size=none:=I1.hok.fresh (aw _);refine ⟨.ref s1.heap.objs.size,upd H1 s1.heap.objs.size (.lst xs),I1.laid (t':=s1.toks) (λb u e=>ah _ e) (aw _) ?_,rfl,q _ hf⟩;exact ⟨z,us,0,r,a9 _ rfl⟩
end
abbrev Sp:=List V->Hp->VK->XK->Prop
abbrev CXT:=List Env->Hp->Shared->XK->Value->Shared->Prop
structure Env0(P:Program)(w:World)(K:PF)(mg:Str->Option Value)(base:Heap)(A:Around)(outer:List Env)(s:Shared)(H:Hp):Prop where
 frames:A.frames=some outer
 mod:Mod K mg base
 bs:∀b o,base.get? b=some o->s.heap.get? b=some o/\H b=none
 bsz:base.objs.size<=s.heap.objs.size
 funs:s.heap.FunFrames base outer
 frf:∀b∈frs outer,H b=none
 hok:HOk P w H s.heap
 bare:AllBare s.gens
def CE(outer:List Env)(P:Program)(w:World)(H:Hp)(s:Shared)(Q:VK)(u:Value)(s':Shared):Prop:=
 ∃v H',s'.os=s.os/\AllBare s'.gens/\Un (frs outer) [] H H' s.heap s'.heap/\HOk P w H' s'.heap/\RelV v u/\Q v H'
def CR(CX:CXT)(outer:List Env)(P:Program)(w:World)(H:Hp)(s:Shared)(Q:VK)(E:XK)(r:Result)(s':Shared):Prop:=
 match r with
 |.ok (.ret u)=>CE outer P w H s Q u s'
 |.ok _=>False
 |.error e=>CX outer H s E e s'
structure FnOk(P:Program)(w:World)(K:PF)(mg:Str->Option Value)(base:Heap)(CX:CXT)(k:Nat)(f:Addr)(fd:FuncData)(ps:List Str)(sp:Sp):Prop where
 len:∀vs H Q E,sp vs H Q E->vs.length=ps.length
 run:∀(A:Around)(outer:List Env)(s:Shared)(H:Hp)(args:Args)(us:List Value)(vs:List V)(Q:VK)(E:XK),Room k A->Env0 P w K mg base A outer s H->BindsTo s fd args (ps.zip us)->Vals vs us->sp vs H Q E->
  codeAny (model P w) A (.call (.ref f) args) (CR CX outer P w H s Q E) s
theorem FnOk.mono{P:Program}{w:World}{K:PF}{mg:Str->Option Value}{base:Heap}{CX:CXT}{j k:Nat}{f:Addr}{fd:FuncData}{ps:List Str}{sp:Sp}(F:FnOk P w K mg base CX j f fd ps sp)(h:j<=k):
  FnOk P w K mg base CX k f fd ps sp:=⟨F.len,λA outer s H args us vs Q E hr=>F.run A outer s H args us vs Q E (hr.mono h)⟩
theorem FnOk.imp{P:Program}{w:World}{K:PF}{mg:Str->Option Value}{base:Heap}{CX:CXT}{k:Nat}{f:Addr}{fd:FuncData}{ps:List Str}{sp sp':Sp}(F:FnOk P w K mg base CX k f fd ps sp)
  (h:∀vs H Q E,sp' vs H Q E->sp vs H Q E):FnOk P w K mg base CX k f fd ps sp':=
 ⟨λvs H Q E q=>F.len vs H Q E (h _ _ _ _ q),λA outer s H args us vs Q E hr he hb hv hs=>F.run A outer s H args us vs Q E hr he hb hv (h _ _ _ _ hs)⟩
theorem Env0.make{P:Program}{w:World}{K:PF}{mg:Str->Option Value}{base:Heap}{A:Around}{outer:List Env}{s:Shared}{H:Hp}(e:Env0 P w K mg base A outer s H)(C:Addr)(us:List Value)(kw:List (Str×Value)):
  Env0 P w K mg base (A.under (.builtin "type.__call__" ⟨.ref C::us,kw⟩)) outer s H:=⟨by first |exact e.frames | (simpa [Around.under,Code.envs,Code.isFrame,pushEnvs] using e.frames),e.mod,e.bs,e.bsz,e.funs,e.frf,e.hok,e.bare⟩
section
variable {X:Cx} {pins:List (Addr×Obj)} {σ:St} {H:Hp} {s s':Shared}
theorem Inv.env0(I:Inv X pins σ H s):Env0 X.prog X.w X.K X.mg X.base X.A X.stack s H:=
 ⟨I.ok.frames,I.ok.mod,I.bs,cb I.ok.bsz I.sz,I.stack,I.stkFree,I.hok,I.bare⟩
theorem Inv.after{Q:VK}{u:Value}(I:Inv X pins σ H s)(h:CE X.stack X.prog X.w H s Q u s'):EP X pins σ Q u s':=by obtain ⟨v,H',os,bare,un,hok,r,q⟩:=h;obtain ⟨hh,g,d,t,os'⟩:=s';obtain rfl:os'=s.os:=os;exact ⟨v,H',I.call (h':=hh) (g':=g) (d':=d) (t':=t) (ch:=[]) un hok bare (λb z=>absurd z (by simp)),r,q⟩
end
def Wb(sp:Sp)(dvs:List V)(E:XK)(t:TA):TE:=λσ H Q=>t σ H λvs H1=>sp (vs++dvs) H1 Q E
def aih(C:Addr)(m:Str)(sp:Sp)(dvs:List V)(E:XK)(ta:TE)(t:TA):TE:=λσ H Q=>ta σ H λx H1=>∃a dx fs,x=.ref a/\H1 a=some (.ins C dx fs)/\fs.lookup m=none/\
 t σ H1 λvs H2=>sp (x::(vs++dvs)) H2 Q E
def Binds(K:PF)(fd:FuncData)(ps:List Str)(ds:List Value):Prop:=
 ∀(s:Shared)(us:List Value),K.In s.heap->(us++ds).length=ps.length->BindsTo s fd ⟨us,[]⟩ (ps.zip (us++ds))
theorem Binds.all{K:PF}{fd:FuncData}{ps:List Str}(h:∀us:List Value,us.length=ps.length->bindArgs fd ⟨us,[]⟩=pure (ps.zip us)):Binds K fd ps []:=λs us _ hl=>by
 rw[d4]at hl ⊢;exact .of_eq (h us hl)
def jA(CX:CXT)(X:Cx)(E:XK):Prop:=∀(pins:List (Addr×Obj))(σ:St)(H:Hp)(s:Shared)(e:Value)(s':Shared),Inv X pins σ H s->CX X.stack H s E e s'->X.xe e s'
section
variable {X:Cx} {CX:CXT} {k:Nat} {f C:Addr} {fd:FuncData} {ps:List Str} {sp:Sp} {dvs:List V} {ds:List Value} {E:XK} {x m:Str} {p pos apos:Pos} {e o:Expr} {es:List Expr} {ta:TE} {t:TA}
theorem Wc{pins:List (Addr×Obj)}{σ:St}{H:Hp}{s:Shared}{Q:VK}{us:List Value}{vs:List V}(F:FnOk X.prog X.w X.K X.mg X.base CX k f fd ps sp)(hr:Room k X.A)(hb:Binds X.K fd ps ds)(hd:Vals dvs ds)(hx:jA CX X E)
  (I:Inv X pins σ H s) (r:Vals vs us) (h:sp (vs++dvs) H Q E):wpAny (model X.prog X.w) X.A (call (.ref f) us) (EP X pins σ Q) X.xe s:=by
 have r2:Vals (vs++dvs) (us++ds):=r.append hd;have hl:(us++ds).length=ps.length:=by rw[<-r2.length];exact F.len _ _ _ _ h
 refine wpAny_call (codeAny_mono (F.run X.A X.stack s H ⟨us,[]⟩ (us++ds) (vs++dvs) Q E hr I.env0 (hb s us I.kIn hl) r2 h) λr s' hq=>?_);cases r with
 |error e=>exact hx pins σ H s e s' I hq
 |ok fl=>
  cases fl with
  |ret u=>exact I.after hq
  |next=>exact False.elim hq
  |brk=>exact False.elim hq
  |cont=>exact False.elim hq
theorem Wd(F:FnOk X.prog X.w X.K X.mg X.base CX k f fd ps sp)(hr:Room k X.A)(hg:Gl X x)(hm:X.mg x=some (.ref f))(hk:PySem.W.keepIn X.K (.ref f)=true)(hb:Binds X.K fd ps ds)(hd:Vals dvs ds)(hx:jA CX X E)
  (ha:PA X (e::es) t) (hdb:(x==("__debug__":Str))=false:=by decide) (he:starEach (e::es) X.env=(false,eval e X.env)::starEach es X.env:=by rfl) (hpl:(backTo pos (starEach es X.env)).any (·.1)=false:=by rfl):
  PE X (.Call (.Name x p) (e::es) [] pos) (Wb sp dvs E t):=by
 intro pins s σ H Q I h;refine gi (iy I hg hm ?_ hdb);refine PySem.W.callWith_K (h₀:=X.base) I.ok.mod.kin hk (thn (ha pos pins s σ H _ I h) λus s1 ⟨vs,H1,I1,r,q⟩=>⟨I1.kIn,?_⟩) he hpl;exact Wc F hr hb hd hx I1 r q
structure Mk(K:PF)(C f:Addr):Prop where
 makes:PySem.W.makesIn K C=true
 init:PySem.W.findIn K (.ref C) "__init__"=some (some (.ref f))
 fn:PySem.W.isFn K (.ref f)=true
 kp:PySem.W.keepIn K (.ref C)=true
end
structure FnScope(N P:List Str)(sc:Scope):Prop where
 kind:sc.kind=.function
 co:sc.isCoroutine=false
 gen:sc.isGenerator=false
 nd:N.Nodup
 pre:N.take P.length=P
 par:∀x∈P,sc.names.lookup x=some .local\/sc.names.lookup x=some .cell
 nofree:∀y∈sc.names,y.2≠.free
theorem Ax{kindOf:Str->Option NameKind}{x:Str}:∀{binds:List (Str×Value)}{m:Str->Option Value},(∀v,(x,v)∉binds)->bindL kindOf binds m x=m x
 |[],_,_=>rfl
 | (n,v)::r,m,h=>by
  unfold bindL;rw[Ax λw hw=>h w (ba _ hw)];split
  ·have:x≠n:=by rintro rfl;exact h v br
   simp[this]
  ·rfl
theorem Ay{kindOf:Str->Option NameKind}{x:Str}:∀{binds:List (Str×Value)}{m:Str->Option Value},(∀v,(x,v)∉binds)->bindC kindOf binds m x=m x
 |[],_,_=>rfl
 | (n,v)::r,m,h=>by
  unfold bindC;rw[Ay λw hw=>h w (ba _ hw)];split
  ·rfl
  ·have:x≠n:=by rintro rfl;exact h v br
   simp[this]
theorem Az{kindOf:Str->Option NameKind}{x:Str}{v:Value}:∀{P:List Str}{vs:List Value}{i:Nat}{m:Str->Option Value},P.Nodup->P[i]?=some x->vs[i]?=some v->kindOf x=some .local->
  bindL kindOf (P.zip vs) m x=some v
 |[],_,_,_,_,h,_,_=>by simp at h
 |_::_,[],_,_,_,_,h,_=>by simp at h
 |p::P,w::vs,0,m,nd,h1,h2,hk=>by
  simp at h1 h2;subst h1;subst h2;show bindL kindOf ((p,w)::P.zip vs) m p=_;unfold bindL;rw[Ax λv hv=>(List.nodup_cons.mp nd).1 (List.of_mem_zip hv).1,if_pos hk];simp
 |p::P,w::vs,i+1,m,nd,h1,h2,hk=>by
  show bindL kindOf ((p,w)::P.zip vs) m x=_;unfold bindL;exact Az (i:=i) (List.nodup_cons.mp nd).2 (by simpa using h1) (by simpa using h2) hk
theorem Ba{kindOf:Str->Option NameKind}{x:Str}{v:Value}:∀{P:List Str}{vs:List Value}{i:Nat}{m:Str->Option Value},P.Nodup->P[i]?=some x->vs[i]?=some v->kindOf x≠some .local->
  bindC kindOf (P.zip vs) m x=some v
 |[],_,_,_,_,h,_,_=>by simp at h
 |_::_,[],_,_,_,_,h,_=>by simp at h
 |p::P,w::vs,0,m,nd,h1,h2,hk=>by
  simp at h1 h2;subst h1;subst h2;show bindC kindOf ((p,w)::P.zip vs) m p=_;unfold bindC;rw[Ay λv hv=>(List.nodup_cons.mp nd).1 (List.of_mem_zip hv).1,if_neg hk];simp
 |p::P,w::vs,i+1,m,nd,h1,h2,hk=>by
  show bindC kindOf ((p,w)::P.zip vs) m x=_;unfold bindC;exact Ba (i:=i) (List.nodup_cons.mp nd).2 (by simpa using h1) (by simpa using h2) hk
def start(N:List Str)(vs:List V):St:=vs.map some++List.replicate (N.length - vs.length) none
def cR(CX:CXT)(P:Program)(w:World)(K:PF)(mg:Str->Option Value)(base:Heap)(N:List Str)(qual:Str)(scope:Scope)(f:Addr)(cd:Value)(A:Around)(outer:List Env)(s:Shared)(H:Hp)(E:XK):Cx where
 prog:=P
 w:=w
 K:=K
 mg:=mg
 base:=base
 A:=A.deeper (envOfC qual scope s.heap.objs.size f cd)
 N:=N
 s₀:=s
 H₀:=H
 env:=envOfC qual scope s.heap.objs.size f cd
 outer:=outer
 stack:=envOfC qual scope s.heap.objs.size f cd::outer
 ex:=[]
 calm:=true
 fn:=λ_=>true
 pn:=[]
 xe:=λe s'=>wpAny (model P w) (A.deeper (envOfC qual scope s.heap.objs.size f cd)) (leaving (envOfC qual scope s.heap.objs.size f cd) e) (λ_ s''=>CX outer H s E e s'') (λe' s''=>CX outer H s E e' s'') s'
theorem Bb{sc:Scope}{n:Nat}{x:Str}(h:sc.names.lookup x=some .cell):∃c,(cellsFrom n sc.names []).lookup x=some c:=by have q:=PySem.W.cellsFrom_some sc.names n [] (.inl h);exact ck.mp q
theorem Bc{CX:CXT}{P:Program}{w:World}{K:PF}{mg:Str->Option Value}{base:Heap}{N ps:List Str}{qual:Str}{scope:Scope}{f:Addr}{cd:Value}{A:Around}{outer:List Env}{s s1:Shared}{H:Hp}{E:XK}{us:List Value}{vs:List V}
  (S:FnScope N ps scope) (hd:A.handled=none) (e0:Env0 P w K mg base A outer s H) (hl:vs.length=ps.length) (r:Vals vs us)
  (x:InCallC s s.heap.objs.size (bindL (envOfC qual scope s.heap.objs.size f cd).kindOf (ps.zip us) λ_=>none) (cellsFrom (s.heap.objs.size+1) scope.names []) (bindC (envOfC qual scope s.heap.objs.size f cd).kindOf (ps.zip us) λ_=>none) s1):
  Inv (cR CX P w K mg base N qual scope f cd A outer s H E) [] (start N vs) H s1:=by
 have hpl:ps.length<=N.length:=by have:=fe List.length S.pre;rw[dE]at this;omega
 obtain ⟨h1,tk,rfl,hk⟩:=x.done;have noA:∀b:Addr,b∉(cR CX P w K mg base N qual scope f cd A outer s H E).ex:=λb z=>absurd (show b∈([]:List Addr) from z) (by simp);refine ⟨⟨e0.mod,S.kind,rfl,rfl,aw _,λy z c h1 h2=>?_,λy hy=>?_,λy c _ h=>?_,λ_=>hd,Around.frames_deeper e0.frames,.inr ⟨rfl,rfl⟩,λb z=>absurd z (noA b),e0.bs,e0.bsz,λb _ _=>noA b,λb z=>absurd z (noA b),e0.funs,e0.frf⟩,
  rfl,e0.bare,Un.kept hk,⟨_,x.toInCall.ns,λi y v h1 h2 h3=>?_⟩,λy c h=>⟨_,x.cell y c h⟩,e0.hok.fresh (aw _),λy c h=>?_,λp hp=>absurd (show p∈([]:List (Addr×Obj)) from hp) (by simp),e0.hok.kept hk,?_⟩
 ·exact name_of_addr x.apart (dS h1) (dS h2)
 ·have hy:scope.names.lookup y=some .cell\/scope.names.lookup y=some .free:=hy;rcases hy with hy |hy
  ·exact Bb hy
  ·exact absurd rfl (S.nofree _ (dS hy))
 ·exact Nat.le_of_lt (x.above y c (dS h))
 ·have hi:i < vs.length:=by
   unfold start at h2;by_cases hi:i < vs.length
   ·exact hi
   ·rw[List.getElem?_append_right (by simpa using hi)]at h2;rw[List.getElem?_replicate]at h2;split at h2 <;> cases h2
  have ha:vs[i]?=some v:=by
   unfold start at h2;rw[eK (by simpa using hi),a8]at h2;cases e:vs[i]? with
   |none=>rw[e]at h2;cases h2
   |some a=>rw[e]at h2;cases h2;rfl
  obtain ⟨u,hu,rv⟩:=r.get ha;have hp:ps[i]?=some y:=by rw[<-S.pre,List.getElem?_take_of_lt (by omega)];exact h1
  have ndP:ps.Nodup:=by rw[<-S.pre];exact S.nd.sublist (List.take_sublist _ _)
  refine ⟨u,rv,?_⟩;rcases S.par y (b6 hp) with k |k
  ·exact .inl ⟨k,Az ndP hp hu k⟩
  ·obtain ⟨c,e⟩:=Bb (n:=s.heap.objs.size+1) k;refine .inr ⟨.inl k,c,e,?_⟩;have q:=x.cell y c e;rw[Ba ndP hp hu (by show scope.names.lookup y≠_;rw[k];decide)]at q;exact q
 ·exact e0.hok.fresh (Nat.le_of_lt (x.above y c (dS h)))
 ·unfold start;show _=N.length;rw[bq,al,dn];omega
theorem We{CX:CXT}{P:Program}{w:World}{K:PF}{mg:Str->Option Value}{base:Heap}{k:Nat}{f:Addr}{name qual:Str}{params:Arguments}{body:List Stmt}{scope:Scope}{dV kV doc pm cdv ct oc:Value}{an od:Option Addr}
  {osl:Array (Option Value)} {N ps:List Str} {sp:Sp} (lk:K.lookup f=some ⟨oc,od,.func (PySem.W.fnOf name qual params body scope dV kV doc pm an cdv ct),osl⟩) (hcd:PySem.W.codeIn K cdv qual=true) (S:FnScope N ps scope)
  (len:∀vs H Q E,sp vs H Q E->vs.length=ps.length)
  (hbody:∀(A:Around)(outer:List Env)(s:Shared)(H:Hp)(vs:List V)(Q:VK)(E:XK),Room k (A.deeper (envOfC qual scope s.heap.objs.size f cdv))->sp vs H Q E->
   ∃t,PSs (cR CX P w K mg base N qual scope f cdv A outer s H E) body t/\t { nx:=λ_ H'=>Q .non H',rt:=Q } (start N vs) H):
  FnOk P w K mg base CX (k+1) f (PySem.W.fnOf name qual params body scope dV kV doc pm an cdv ct) ps sp:=by
 refine ⟨len,λA outer s H args us vs Q E hr e0 hb r hsp=>?_⟩;have hl:=len _ _ _ _ hsp;have KX:K.In s.heap:=e0.mod.kin.keeps λb o e=>(e0.bs b o e).1;have lim:s.heap.NoLimit:=e0.mod.nolimit.keeps λb o e=>(e0.bs b o e).1;have hkind:∀y∈ps.zip us,scope.names.lookup y.1=some .local\/(scope.names.lookup y.1=some .cell/\((cellsFrom (s.heap.objs.size+1) scope.names []).lookup y.1).isSome=true):=λ⟨n,v⟩ hy=>by
  rcases S.par n (List.of_mem_zip hy).1 with q |q
  ·exact .inl q
  ·exact .inr ⟨q,PySem.W.cellsFrom_some _ _ _ (.inl q)⟩
 refine codeAny_call_function hr.depth (KX _ _ lk) rfl S.co S.gen rfl (PySem.W.codeRec_of KX hcd) (hb _ _ _ _ ?_);refine wpAny_newFunctionEnv_cells S.kind hkind λenv he s1 x=>?_;subst he;refine ⟨lim.keeps x.toInCall.keep,codeAny_func ?_⟩;obtain ⟨t,ht,hq⟩:=hbody A outer s H vs Q E (hr.deeper _) hsp;have I:Inv (cR CX P w K mg base N qual scope f cdv A outer s H E) [] (start N vs) H s1:=Bc S hr.hd e0 hl r x;refine b9 (ht [] s1 (start N vs) H _ I hq) (λfl s' hs=>?_) λe s' hs=>hs;have fin:∀{σ':St}{H':Hp}{v:V}{u:Value},Inv (cR CX P w K mg base N qual scope f cdv A outer s H E) [] σ' H' s'->RelV v u->Q v H'->CE outer P w H s Q u s':=
  λ{σ' H' v u} J rv q=>⟨v,H',J.os,J.bare,J.base,J.hok,rv,q⟩
 cases fl with
 |ret u=>
  obtain ⟨v,σ',H',J,rv,q⟩:=hs;exact fin J rv q
 |next=>
  obtain ⟨σ',H',J,q⟩:=hs;exact fin (v:=V.non) (u:=Value.none) J rfl q
 |brk=>
  obtain ⟨_,_,_,q⟩:=hs;exact False.elim q
 |cont=>
  obtain ⟨_,_,_,q⟩:=hs;exact False.elim q
section
variable {X:Cx} {x:Str} {p pos:Pos} {e:Expr} {es:List Expr} {t:TA} {id T:String} {r:List V->Hp->VK->Prop}
def tCB(r:List V->Hp->VK->Prop)(t:TA):TE:=λσ H Q=>t σ H λvs H1=>r vs H1 Q
theorem lz (hc:bH X (.builtin id) r) (hg:Gl X x) (hm:X.mg x=none) (hv:bootBuiltins x=some (.builtin id)) (ha:PA X (e::es) t) (hn:x≠"__name__":=by decide) (hdb:(x==("__debug__":Str))=false:=by decide)
  (he:starEach (e::es) X.env=(false,eval e X.env)::starEach es X.env:=by rfl) (hpl:(backTo pos (starEach es X.env)).any (·.1)=false:=by rfl):PE X (.Call (.Name x p) (e::es) [] pos) (tCB r t):=by
 intro pins s σ H Q I h;refine gi (fU I hg hm hv ?_ hn hdb);exact PyProof.Rows.callWith_builtin1 (thn (ha pos pins s σ H _ I h) λus s1 ⟨vs,H1,I1,r1,q1⟩=>hc pins s1 σ H1 vs us Q I1 r1 q1) he hpl
theorem qy (hc:bH X (.type T) r) (hg:Gl X x) (hm:X.mg x=none) (hv:bootBuiltins x=some (.type T)) (ha:PA X (e::es) t) (hn:x≠"__name__":=by decide) (hdb:(x==("__debug__":Str))=false:=by decide)
  (he:starEach (e::es) X.env=(false,eval e X.env)::starEach es X.env:=by rfl) (hpl:(backTo pos (starEach es X.env)).any (·.1)=false:=by rfl):PE X (.Call (.Name x p) (e::es) [] pos) (tCB r t):=by
 intro pins s σ H Q I h;refine gi (fU I hg hm hv ?_ hn hdb);exact cw (thn (ha pos pins s σ H _ I h) λus s1 ⟨vs,H1,I1,r1,q1⟩=>hc pins s1 σ H1 vs us Q I1 r1 q1) he hpl
end
end L2
namespace HT
open PySem PyProof.Rows
section
variable {prog:Program} {w:World} {A:Around} {E:Value->Shared->Prop} {s:Shared}
theorem Wf{t b:Addr}{vs ws:List Value}{Q:Value->Shared->Prop}(ht:IsTup s.heap t vs.toArray)(hb:IsTup s.heap b ws.toArray)(hv:vs≠[])
  (h1:ws=[]->Q (.ref t) s) (h2:ws≠[]->Q (.ref s.heap.objs.size) { s with heap:=s.heap.push { cls:=.type "tuple",data:=.seq (vs++ws).toArray } })
  (hsz:vs.length+ws.length<=sizeLine):wpAny (model prog w) A (binaryOp .Add (.ref t) (.ref b)) Q E s:=by
 obtain ⟨⟨cls,dd,data,sl⟩,ho,hc,n,hd⟩:=id ht;obtain ⟨⟨cls2,dd2,data2,sl2⟩,ho2,hc2,n2,hd2⟩:=id hb;simp only at hc hd hc2 hd2;subst hc hd hc2 hd2;have e:vs.toArray++ws.toArray=(vs++ws).toArray:=by simp
 by_cases hw:ws=[]
 ·exact concat_meets ⟨_,ho,rfl⟩ ⟨_,ho2,rfl⟩ noFill_tuple_add seq_tuple_add PySem.F.slot_tuple_add PySem.F.entry_tuple_add (PySem.F.args_tuple_add_2 _ _)
   (tuple_addW1 t b vs.toArray ws.toArray n n2 dd dd2 sl sl2 (by simpa using hv) (by simp[hw])) ⟨ho,ho2,h1 hw⟩
 ·refine concat_meets ⟨_,ho,rfl⟩ ⟨_,ho2,rfl⟩ noFill_tuple_add seq_tuple_add PySem.F.slot_tuple_add PySem.F.entry_tuple_add (PySem.F.args_tuple_add_2 _ _)
   (tuple_addW2 t b vs.toArray ws.toArray n n2 dd dd2 sl sl2 (by simpa using hv) (by simpa using hw) (by rw[List.size_toArray,List.size_toArray];exact hsz)) ⟨ho,ho2,?_⟩
  rw[e];exact h2 hw
noncomputable def sIx(n d:Nat):Option Int->Nat
 |none=>d
 |some v=>if v < 0 then (v+(n:Int)).toNat else min v.toNat n
theorem Bd(n d k:Nat):sIx n d (some (k:Int))=min k n:=by show (if (k:Int) < 0 then ((k:Int)+(n:Int)).toNat else min (k:Int).toNat n)=min k n;rw[if_neg (by omega),Int.toNat_natCast]
theorem Be(n d:Nat)(hd:d<=n)(o:Option Int):sIx n d o<=n:=by
 cases o with
 |none=>exact hd
 |some v=>
  show (if v < 0 then (v+(n:Int)).toNat else min v.toNat n)<=n;by_cases hv:v < 0
  ·rw[if_pos hv];omega
  ·rw[if_neg hv];exact Nat.min_le_right _ _
theorem Bg(v:Int)(n d:Nat):(if v < 0 then max (v+(n:Int)) 0 else min v (n:Int))=((sIx n d (some v):Nat):Int):=by
 show (if v < 0 then max (v+(n:Int)) 0 else min v (n:Int))=(((if v < 0 then (v+(n:Int)).toNat else min v.toNat n):Nat):Int);by_cases hv:v < 0
 ·simp only[if_pos hv];omega
 ·simp only[if_neg hv];omega
theorem Wg(lo hi:Option Int)(n:Nat):Builtin.Slice.sliceAdjust lo hi 1 (n:Int)=(((sIx n 0 lo:Nat):Int),((sIx n n hi:Nat):Int)):=by
 have h1:¬((1:Int) < 0):=by omega
 unfold Builtin.Slice.sliceAdjust;simp only[h1,if_false];refine Prod.ext ?_ ?_
 ·cases lo with
  |none=>rfl
  |some v=>exact Bg v n 0
 ·cases hi with
  |none=>rfl
  |some v=>exact Bg v n n
theorem Wh(i j:Nat):Builtin.Slice.slicePlaces (i:Int) (j:Int) 1=j - i:=by
 unfold Builtin.Slice.slicePlaces;have h1:(1:Int) > 0:=by omega
 simp only[h1,if_true,Int.ediv_one];split <;> omega
theorem Bh{v:Value}{o:Option Int}{Q:Option Int->Shared->Prop}(p:IsPart v o)(h:Q o s):wpAny (model prog w) A (Builtin.Slice.slicePartIndex v) Q E s:=by
 cases p with
 |none=>exact slicePart_none h
 |int i t=>exact slicePart_int h
theorem Bj{sl:Addr}{vl vu:Value}{lo hi:Option Int}{n:Nat}{Q:Int×Int×Nat->Shared->Prop}(hs:s.heap.IsSliceOf sl vl vu .none)(pl:IsPart vl lo)(pu:IsPart vu hi)
  (h:Q (((sIx n 0 lo:Nat):Int),1,sIx n n hi - sIx n 0 lo) s):wpAny (model prog w) A (Builtin.Slice.sliceApplied (.ref sl) (pure (n:Int))) Q E s:=by
 obtain ⟨os,hos,hcs,hds⟩:=id hs;unfold Builtin.Slice.sliceApplied Builtin.Slice.sliceFields;refine wpAny_bind (wpAny_bind (wpAny_field hos hds (x:=vl) rfl (wpAny_bind (wpAny_field hos hds (x:=vu) rfl (wpAny_bind (wpAny_field hos hds (x:=.none) rfl (wpAny_pure ?_)))))));refine wpAny_bind (slicePart_none ?_);show wpAny _ _ (if ((1:Int)==0)=true then _ else _) _ _ s;rw[if_neg (by decide)];refine wpAny_bind (Bh pl (wpAny_bind (Bh pu (wpAny_bind (wpAny_pure ?_)))));show wpAny _ _ (match Builtin.Slice.sliceAdjust lo hi 1 (n:Int) with | (lo,hi)=>pure (lo,(1:Int),Builtin.Slice.slicePlaces lo hi 1)) _ _ s;rw[Wg lo hi n];show wpAny _ _ (pure (((sIx n 0 lo:Nat):Int),(1:Int),Builtin.Slice.slicePlaces ((sIx n 0 lo:Nat):Int) ((sIx n n hi:Nat):Int) 1)) _ _ s;rw[Wh];exact wpAny_pure h
theorem Wi(xs:Array Value)(i k:Nat):((List.range k).filterMap λ(m:Nat)=>xs[((i:Int)+(m:Int) * 1).toNat]?).toArray=((xs.toList.drop i).take k).toArray:=by
 have e:(λ(m:Nat)=>xs[((i:Int)+(m:Int) * 1).toNat]?)=λm=>xs[i+m]?:=by
  funext m;have:((i:Int)+(m:Int) * 1).toNat=i+m:=by omega
  rw[this]
 rw[e];have:=pick_run xs i k;rw[List.filterMap_map]at this;have e2:((λx=>xs[x]?)∘λx=>i+x)=λm=>xs[i+m]?:=rfl;rw[e2]at this;rw[this]
theorem Wj{t sl:Addr}{items:Array Value}{vl vu:Value}{lo hi:Option Int}{Q:Value->Shared->Prop}(ht:IsTup s.heap t items)(hs:s.heap.IsSliceOf sl vl vu .none)(pl:IsPart vl lo)(pu:IsPart vu hi)
  (hw:¬(sIx items.size 0 lo=0/\sIx items.size items.size hi=items.size))
  (h:Q (.ref s.heap.objs.size) { s with heap:=s.heap.push { cls:=.type "tuple",data:=.seq ((items.toList.drop (sIx items.size 0 lo)).take (sIx items.size items.size hi - sIx items.size 0 lo)).toArray } })
  (hsz:items.size<=sizeLine):wpAny (model prog w) A (getItem (.ref t) (.ref sl)) Q E s:=by
 have htake:sizeOk (.seq ((items.toList.drop (sIx items.size 0 lo)).take (sIx items.size items.size hi - sIx items.size 0 lo)).toArray):=by show ((items.toList.drop (sIx items.size 0 lo)).take (sIx items.size items.size hi - sIx items.size 0 lo)).toArray.size<=sizeLine;rw[List.size_toArray,List.length_take,List.length_drop,Array.length_toList];omega
 have hj:sIx items.size items.size hi<=items.size:=Be _ _ (Nat.le_refl _) hi;obtain ⟨os,hos,hcs,hds⟩:=id hs;have hTs:s.TypeIs (.ref sl) "slice":=⟨os,hos,hcs⟩;unfold getItem;try with_reducible refine wpAny_holding ?_
 first |refine wpAny_bind (wpAny_pure ?_) |skip
 refine wpAny_bind (wpAny_sequenceKey ht.typeIs (by decide) ?_);refine wpAny_bind (wpAny_callSpecial?_slot (name:=Str.ofString "__getitem__") ht.typeIs PyProof.Rows.slot_tuple_getitem
  (wpAny_call_entry PyProof.Rows.slot_tuple_getitem ht.typeIs entry_tuple_getitem ?_ (args_tuple_getitem _ _)))
 show wpAny _ _ (Builtin.Tuple.tupleItemsOf (.ref t) >>= _) _ _ s;refine wpAny_bind (tupleItemsOf_ ht ?_);refine wpAny_bind (wpAny_typeOf hTs ?_);rw[if_pos (by decide)];refine wpAny_bind (Bj hs pl pu ?_);have hno:¬((((sIx items.size 0 lo:Nat):Int)==0&&(1:Int)==1&&(sIx items.size items.size hi - sIx items.size 0 lo)==items.size)=true):=by intro q;rw[Bool.and_eq_true,Bool.and_eq_true]at q;have q1:((sIx items.size 0 lo:Nat):Int)=0:=eq_of_beq q.1.1;have q2:sIx items.size items.size hi - sIx items.size 0 lo=items.size:=eq_of_beq q.2;exact hw ⟨by omega,by omega⟩
 show wpAny _ _ (if (((sIx items.size 0 lo:Nat):Int)==0&&(1:Int)==1&&(sIx items.size items.size hi - sIx items.size 0 lo)==items.size)=true then _ else _) _ _ s;rw[if_neg hno,Wi];first
  |exact wpAny_bind (m:=Builtin.Tuple.tupleExact _) (wpAny_newObj_type (wpAny_pure ⟨_,rfl,wpAny_pure h⟩) htake)
  |exact wpAny_bind (m:=Builtin.Tuple.tupleExact _) (wpAny_newObj_type (wpAny_bind (wpAny_pure (wpAny_pure ⟨_,rfl,wpAny_pure h⟩))) htake)
  |exact wpAny_bind (wpAny_bind (m:=Builtin.Tuple.tupleExact _) (wpAny_newObj_type (wpAny_pure (wpAny_pure ⟨_,rfl,wpAny_pure h⟩)) htake))
  |exact wpAny_bind (wpAny_bind (m:=Builtin.Tuple.tupleExact _) (wpAny_newObj_type (wpAny_pure ⟨_,rfl,wpAny_pure h⟩) htake))
end
end HT
namespace L2
open PySem PySem.Spec PyProof.Rows
abbrev TO:=St->Hp->(Option Int->Hp->Prop)->Prop
def PO(X:Cx)(e:Option Expr)(t:TO):Prop:=
 ∀(pins:List (Addr×Obj))(s:Shared)(σ:St)(H:Hp)(Q:Option Int->Hp->Prop),Inv X pins σ H s->t σ H Q->
  wpAny (model X.prog X.w) X.A (evalPart e X.env) (λu s'=>∃o H',Inv X pins σ H' s'/\IsPart u o/\Q o H') X.xe s
def Wl:TO:=λ_ H Q=>Q none H
def Wm(t:TE):TO:=λσ H Q=>t σ H λx H1=>∃i,x=.int i/\Q (some i) H1
theorem intsAre_of{ns:List Int}:∀{us:List Value},Vals (ns.map V.int) us->IntsAre us ns:=by
 induction ns with
 |nil=>intro us r;rw[eP]at r;cases r;exact .nil
 |cons n ns ih=>
  intro us r;rw[ce]at r;cases r with
  |cons r1 r2=>
   obtain ⟨t,e⟩:=r1;subst e;exact .cons n t (ih r2)
section
variable {X:Cx} {e:Expr} {te:TE} {lo hi:Option Expr} {tl th:TO} {pos p2:Pos}
theorem Wn:PO X none Wl:=by intro pins s σ H Q I h;rw[evalPart_none];exact aS ⟨none,H,I,.none,h⟩
theorem Wo(h:PE X e te):PO X (some e) (Wm te):=by intro pins s σ H Q I hw;rw[evalPart_some];refine thn (h pins s σ H _ I hw) λu s1 ⟨x,H1,I1,r1,q1⟩=>?_;obtain ⟨i,rfl,q⟩:=q1;obtain ⟨t,rfl⟩:=r1;exact ⟨some i,H1,I1,.int i t,q⟩
def SlR(X:Cx)(r:V->Option Int->Option Int->Hp->VK->Prop):Prop:=
 ∀(pins:List (Addr×Obj))(s:Shared)(σ:St)(H:Hp)(x:V)(v vl vu:Value)(lo hi:Option Int)(sl:Addr)(Q:VK),Inv X pins σ H s->RelV x v->s.heap.IsSliceOf sl vl vu .none->IsPart vl lo->IsPart vu hi->r x lo hi H Q->
  ∃T id,typeLookup (.type T) "__getitem__"=pure (some (.builtin id))/\s.TypeIs v T/\wpAny (model X.prog X.w) X.A (getItem v (.ref sl)) (EP X pins σ Q) X.xe s
def tSl(r:V->Option Int->Option Int->Hp->VK->Prop)(te:TE)(tl th:TO):TE:=λσ H Q=>te σ H λx H1=>tl σ H1 λl H2=>th σ H2 λu H3=>r x l u H3 Q
theorem Wq{r:V->Option Int->Option Int->Hp->VK->Prop}(hr:SlR X r)(he:PE X e te)(hl:PO X lo tl)(hu:PO X hi th):PE X (.Subscript e (.Slice lo hi none p2) pos) (tSl r te tl th):=by intro pins s σ H Q I h;refine Subscript_ (thn (he pins s σ H _ I h) λv s1 ⟨x,H1,I1,r1,q1⟩=>?_);refine wpAny_Slice (thn (hl pins s1 σ H1 _ I1 q1) λvl s2 ⟨l,H2,I2,pl,q2⟩=>thn (hu pins s2 σ H2 _ I2 q2) λvu s3 ⟨u,H3,I3,pu,q3⟩=>?_);rw[evalPart_none];refine aS ?_;have I4:Inv X pins σ H3 { s3 with heap:=s3.heap.push { cls:=.type "slice",data:=.fields #[vl,vu,.none] } }:=I3.kept (t':=s3.toks) λb ob q=>ah _ q;obtain ⟨T,id,hT,ht,hg⟩:=hr pins { s3 with heap:=s3.heap.push { cls:=.type "slice",data:=.fields #[vl,vu,.none] } } σ H3 x v vl vu l u s3.heap.objs.size Q I4 r1 (Heap.IsSliceOf.new ..) pl pu q3;show wpAny (model X.prog X.w) X.A (subscriptTail e (.Slice lo hi none p2) v (.ref s3.heap.objs.size)) (EP X pins σ Q) X.xe { s3 with heap:=s3.heap.push { cls:=.type "slice",data:=.fields #[vl,vu,.none] } };exact tail_any (ops:=[.ref s3.heap.objs.size,v]) ht hT hg (by with_unfolding_all rfl)
noncomputable def d7(xs:List V)(lo hi:Option Int):List V:=(xs.drop (HT.sIx xs.length 0 lo)).take (HT.sIx xs.length xs.length hi - HT.sIx xs.length 0 lo)
theorem Bk(xs:List V)(lo hi:Option Int):(d7 xs lo hi).length<=xs.length:=by unfold d7;rw[dE,de];omega
noncomputable def Wr(K:PF):V->Option Int->Option Int->Hp->VK->Prop:=λx lo hi H Q=>∃a xs,x=.ref a/\SqT K H a xs/\
 ¬(HT.sIx xs.length 0 lo=0/\HT.sIx xs.length xs.length hi=xs.length)/\∀p,H p=none->Q (.ref p) (upd H p (.tup (d7 xs lo hi)))
theorem Ws:SlR X (Wr X.K):=by
 intro pins s σ H x v vl vu lo hi sl Q I rx hs pl pu h;obtain ⟨a,xs,rfl,hx,hw,q⟩:=h;cases rx;obtain ⟨its,r,ht,hz⟩:=I.tuple hx;have hlen:its.toArray.size=xs.length:=by rw[ar];exact r.length.symm
 refine ⟨"tuple",_,eT.lookup,ht.typeIs,?_⟩;refine HT.Wj ht hs pl pu (by rw[hlen];exact hw) ?_ (by rw[hlen];exact hz);rw[hlen];refine ⟨.ref s.heap.objs.size,_,I.laid (t':=s.toks) (o:=.tup (d7 xs lo hi)) (λb ob q=>ah _ q) (aw _) ?_,rfl,q _ (I.hok.fresh (aw _))⟩;exact ⟨cb (Bk xs lo hi) hz,_,(r.drop (HT.sIx xs.length 0 lo)).take (HT.sIx xs.length xs.length hi - HT.sIx xs.length 0 lo),IsTup.new _ _⟩
def Wt(K:PF):R2:=λx y H Q=>∃a b xs ys,x=.ref a/\y=.ref b/\SqT K H a xs/\SqT K H b ys/\xs≠[]/\xs.length+ys.length<=sizeLine/\
 (ys=[]->Q (.ref a) H)/\(ys≠[]->∀p,H p=none->Q (.ref p) (upd H p (.tup (xs++ys))))
theorem Vals.nil_iff{xs:List V}{us:List Value}(r:Vals xs us):us=[]↔xs=[]:=by
 cases r with
 |nil=>simp
 |cons _ _=>simp
theorem Wu:OpR X (binaryOp .Add) (Wt X.K):=by intro pins s σ H x y v u Q I rx ry h;obtain ⟨a,b,xs,ys,rfl,rfl,ha,hb,hx,hz,q1,q2⟩:=h;cases rx;cases ry;obtain ⟨its,r1,p1,_⟩:=I.tuple ha;obtain ⟨its2,r2,p2,_⟩:=I.tuple hb;refine HT.Wf p1 p2 (λz=>hx (r1.nil_iff.mp z)) (λz=>⟨.ref a,H,I,rfl,q1 (r2.nil_iff.mp z)⟩) (λz=>?_) (by rw[<-r1.length,<-r2.length];exact hz);refine ⟨.ref s.heap.objs.size,_,I.laid (t':=s.toks) (o:=.tup (xs++ys)) (λb ob q=>ah _ q) (aw _) ?_,rfl,q2 (λw=>z (r2.nil_iff.mpr w)) _ (I.hok.fresh (aw _))⟩;exact ⟨by rw[bq];exact hz,_,r1.append r2,IsTup.new _ _⟩
end
noncomputable def ixN(n:Nat)(i:Int):Option Nat:=if 0<=i then (if i < n then some i.toNat else none) else if -(n:Int)<=i then some (i+n).toNat else none
def atI{α:Type}(xs:List α)(i:Int):Option α:=(ixN xs.length i).bind λj=>xs[j]?
theorem Bl{n:Nat}{i:Int}{j:Nat}(h:ixN n i=some j):seqIndex? i n=some j/\j < n/\-(n:Int)<=i/\i < n:=by
 unfold ixN at h;by_cases h0:0<=i
 ·rw[if_pos h0]at h;by_cases h1:i < n
  ·rw[if_pos h1]at h;have e:i.toNat=j:=dy h;exact ⟨by rw[seqIndex_of h0 h1,e],by omega,by omega,h1⟩
  ·rw[if_neg h1]at h;cases h
 ·rw[if_neg h0]at h;by_cases h1:-(n:Int)<=i
  ·rw[if_pos h1]at h;have e:(i+n).toNat=j:=dy h;exact ⟨by rw[seqIndex_neg (by omega) h1,e],by omega,h1,by omega⟩
  ·rw[if_neg h1]at h;cases h
theorem vI{α:Type}{xs:List α}{i:Int}{v:α}(h:atI xs i=some v):∃j,seqIndex? i xs.length=some j/\xs[j]?=some v/\j < xs.length/\-(xs.length:Int)<=i/\i < xs.length:=by
 unfold atI at h;cases e:ixN xs.length i with
 |none=>rw[e]at h;cases h
 |some j=>
  rw[e]at h;obtain ⟨h1,h2,h3,h4⟩:=Bl e;exact ⟨j,h1,h,h2,h3,h4⟩
theorem b8{α:Type}{xs:List α}{j:Nat}{v:α}(h:xs[j]?=some v):atI xs (j:Int)=some v:=by
 have hj:j < xs.length:=(am.mp h).1;have e:ixN xs.length (j:Int)=some j:=by unfold ixN;rw[if_pos (by omega),if_pos (by omega)];simp
 unfold atI;rw[e];exact h
theorem Bm{α:Type}(xs:List α)(v:α):atI (xs++[v]) (-1)=some v:=by
 have hl:(xs++[v]).length=xs.length+1:=by simp
 have e:ixN (xs++[v]).length (-1)=some xs.length:=by unfold ixN;rw[hl,if_neg (by decide),if_pos (by omega)];congr 1;omega
 unfold atI;rw[e];show (xs++[v])[xs.length]?=some v;simp
def Bo(b:Expr):Prop:=∀o i,subscripted b false o i=operate [o,i] (getItem o i)
def IxR(X:Cx)(r:R2):Prop:=
 ∀(value slice:Expr)(pins:List (Addr×Obj))(s:Shared)(σ:St)(H:Hp)(x y:V)(v u:Value)(Q:VK),Inv X pins σ H s->RelV x v->RelV y u->r x y H Q->
  subscripted slice false v u=operate [v,u] (getItem v u)->wpAny (model X.prog X.w) X.A (subscriptTail value slice v u) (EP X pins σ Q) X.xe s
def MtR(X:Cx)(id:String)(r:V->List V->Hp->VK->Prop):Prop:=
 ∀(pins:List (Addr×Obj))(s:Shared)(σ:St)(H:Hp)(x:V)(xs:List V)(v:Value)(us:List Value)(Q:VK),Inv X pins σ H s->RelV x v->Vals xs us->r x xs H Q->
  wpAny (model X.prog X.w) X.A (call (.builtin id) (v::us)) (EP X pins σ Q) X.xe s
section
variable {X:Cx} {a b:Expr} {ta tb:TE} {pos:Pos}
theorem Wv{r:R2}(hr:IxR X r)(ha:PE X a ta)(hb:PE X b tb)(hs:Bo b):PE X (.Subscript a b pos) (tOp r ta tb):=by intro pins s σ H Q I h;exact Subscript_ (vG ha hb I h λv u s2 x y H2 I2 rx ry q=>hr a b pins s2 σ H2 x y v u Q I2 rx ry q (hs _ _))
def Ww(K:PF):R2:=λx y H Q=>∃p xs i v,x=.ref p/\y=.int i/\SqL K H p xs/\atI xs i=some v/\Q v H
def Wx(K:PF):R2:=λx y H Q=>∃p xs i v,x=.ref p/\y=.int i/\SqT K H p xs/\atI xs i=some v/\Q v H
def Wy:R2:=λx y H Q=>∃z i c,x=.str z/\y=.int i/\z.length<=sizeLine/\atI z.cps.toList i=some c/\Q (.str ⟨#[c]⟩) H
theorem Wz:IxR X (Ww X.K):=by
 intro value slice pins s σ H x y v u Q I rx ry h hs;obtain ⟨p,xs,i,z,rfl,rfl,hq,he,q⟩:=h;cases rx;obtain ⟨t,rfl⟩:=ry;obtain ⟨its,r,pl,hz⟩:=I.list hq;obtain ⟨j,h1,h2,h3,h4,h5⟩:=vI he;obtain ⟨w,ew,rw'⟩:=r.get h2;have hl:=r.length;have hn:=iz;have fin:EP X pins σ Q w s:=⟨z,H,I,rw',q⟩;by_cases h0:0<=i
 ·have hj:i.toNat=j:=by
   rw[seqIndex_of h0 h5]at h1;exact dy h1
  exact item_listR pl.isList h0 (by omega) (by rw[hj];simpa using ew) fin hs
 ·have hj:(i+(its.toArray.size:Int)).toNat=j:=by
   rw[seqIndex_neg (by omega) h4]at h1;rw[ar,<-hl];exact dy h1
  exact subscriptTail_builtinR (x:=w) pl.isList.typeIs slot_list_getitem.lookup
   (wpAny_getItem_list_neg (Q:=λr s'=>r=w/\EP X pins σ Q r s') pl.isList (by omega) (by rw[ar] <;> omega) (by omega) (by rw[hj];simpa using ew) ⟨rfl,fin⟩) hs
theorem WD:IxR X (Wx X.K):=by
 intro value slice pins s σ H x y v u Q I rx ry h hs;obtain ⟨p,xs,i,z,rfl,rfl,hq,he,q⟩:=h;cases rx;obtain ⟨t,rfl⟩:=ry;obtain ⟨its,r,pl,hz⟩:=I.tuple hq;obtain ⟨j,h1,h2,h3,h4,h5⟩:=vI he;obtain ⟨w,ew,rw'⟩:=r.get h2;have hl:=r.length;have hn:=iz;have fin:EP X pins σ Q w s:=⟨z,H,I,rw',q⟩;exact subscriptTail_builtinR (x:=w) pl.typeIs slot_tuple_getitem.lookup
  (getItem_tuple (j:=j) (Q:=λr s'=>r=w/\EP X pins σ Q r s') pl (by omega) (by omega) (by rw[ar,<-hl];exact h1) (by simpa using ew) ⟨rfl,fin⟩) hs
theorem WF:IxR X Wy:=by
 intro value slice pins s σ H x y v u Q I rx ry h hs;obtain ⟨z,i,c,rfl,rfl,hz,he,q⟩:=h;obtain ⟨t,rfl⟩:=rx;obtain ⟨t',rfl⟩:=ry;obtain ⟨j,h1,h2,h3,h4,h5⟩:=vI he;have hl:z.cps.toList.length=z.length:=by simp[Str.length]
 rw[hl]at h1 h4 h5;have hn:=iz;exact tail_any (typeIs_str s z t) slot_str_getitem.lookup (getItem_str (c:=c) (by
  have e1:decide (i < -(2 ^ 63:Int))=false:=bX (by omega);have e2:decide (i≥2 ^ 63)=false:=bX (by omega);rw[e1,e2,Bool.or_false]) (by rw[h1];simpa using h2) ⟨.str ⟨#[c]⟩,H,I.tok _,⟨_,rfl⟩,q⟩) hs
theorem WK (its:List Value) (n j:Nat) (u:Value):Obj.mapSeq (·.setIfInBounds j u) { cls:=.type "list",data:=.seq its.toArray n }={ cls:=.type "list",data:=.seq (its.set j u).toArray n }:=by simp[Obj.mapSeq]
theorem Inv.lst{pins:List (Addr×Obj)}{σ:St}{H:Hp}{s:Shared}{p:Addr}{xs:List V}(I:Inv X pins σ H s)(h:H p=some (.lst xs)):
  ∃(its:List Value) (n:Nat),Vals xs its/\s.heap.get? p=some { cls:=.type "list",data:=.seq its.toArray n }/\xs.length<=sizeLine:=by
 obtain ⟨z,its,n,r,e⟩:=I.hok p _ h;exact ⟨its,n,r,e,z⟩
theorem Inv.lstUpd{pins:List (Addr×Obj)}{σ:St}{H:Hp}{s:Shared}{p:Addr}{xs ys:List V}{its its':List Value}{n n':Nat}{f:Obj->Obj}(I:Inv X pins σ H s)(h:H p=some (.lst xs))
  (ho:s.heap.get? p=some { cls:=.type "list",data:=.seq its.toArray n }) (hf:f { cls:=.type "list",data:=.seq its.toArray n }={ cls:=.type "list",data:=.seq its'.toArray n' }) (r:Vals ys its') (hz:ys.length<=sizeLine) (t:Nat):
  Inv X pins σ (upd H p (.lst ys)) { s with heap:=s.heap.update p f,toks:=t }:=by
 have e:(s.heap.update p f).get? p=some { cls:=.type "list",data:=.seq its'.toArray n' }:=by rw[Heap.get?_update_self f ho (by rw[hf] <;> rfl),hf]
 refine I.write (x:=p) (e:=p) (by rw[h];trivial) (.inl rfl) (λb u hb q=>(Heap.get?_update_other _ _ (Ne.symm hb)).trans q) ⟨_,e⟩ ?_;exact ⟨hz,its',n',r,e⟩
def WL:V->V->V->Hp->(Hp->Prop)->Prop:=λo i v H Q=>∃p xs k j,o=.ref p/\i=.int k/\H p=some (.lst xs)/\ixN xs.length k=some j/\Q (upd H p (.lst (xs.set j v)))
theorem set_list:vC X WL:=by
 intro pins s σ H o i v ov iv u Q I ro ri rv h;obtain ⟨p,xs,k,j,rfl,rfl,hp,hj,q⟩:=h;cases ro;obtain ⟨t,rfl⟩:=ri;obtain ⟨its,n,r,ho,hz⟩:=I.lst hp;obtain ⟨h1,h2,h3,h4⟩:=Bl hj;have hl:=r.length;have hn:=iz;have I':Inv X pins σ (upd H p (.lst (xs.set j v))) { s with heap:=s.heap.update p (Obj.mapSeq (·.setIfInBounds j u)) }:=
  I.lstUpd hp ho (WK its n j u) (r.set rv j) (by rw[cm];exact hz) s.toks
 by_cases h0:0<=k
 ·have hk:k.toNat=j:=by
   rw[seqIndex_of h0 h4]at h1;exact dy h1
  exact PySem.W.ki_setAt ho h0 (by omega) (by rw[ar,<-hl];exact h4) (by rw[hk];exact ⟨_,I',q⟩)
 ·have hk:(k+(its.toArray.size:Int)).toNat=j:=by
   rw[seqIndex_neg (by omega) h3]at h1;rw[ar,<-hl];exact dy h1
  exact PySem.W.ki_setBack ho (by omega) (by rw[ar,<-hl];exact h3) (by omega) (by rw[hk];exact ⟨_,I',q⟩)
theorem Bp(lo hi:Option Int)(n:Nat):(sliceBounds lo hi none n).1=((HT.sIx n 0 lo:Nat):Int)/\(sliceBounds lo hi none n).2.1=((HT.sIx n n hi:Nat):Int)/\(sliceBounds lo hi none n).2.2=1:=by
 refine ⟨?_,?_,rfl⟩
 ·cases lo with
  |none=>simp[sliceBounds,HT.sIx]
  |some i=>
   simp only[sliceBounds,HT.sIx,Option.getD_none,show (1:Int) > 0 by decide,if_true];by_cases h:i < 0
   ·simp only[h,if_true] <;> omega
   ·simp only[h,if_false] <;> omega
 ·cases hi with
  |none=>simp[sliceBounds,HT.sIx]
  |some i=>
   simp only[sliceBounds,HT.sIx,Option.getD_none,show (1:Int) > 0 by decide,if_true];by_cases h:i < 0
   ·simp only[h,if_true] <;> omega
   ·simp only[h,if_false] <;> omega
theorem WM(its:List Value)(lo hi:Option Int):slicePick its.toArray lo hi none=((its.drop (HT.sIx its.length 0 lo)).take (HT.sIx its.length its.length hi - HT.sIx its.length 0 lo)).toArray:=by obtain ⟨h1,h2,h3⟩:=Bp lo hi its.toArray.size;unfold slicePick;rw[h1,h2,h3];simp only[sliceRange_one,pick_run,ar] <;> rfl
noncomputable def WN(K:PF):V->Option Int->Option Int->Hp->VK->Prop:=λx lo hi H Q=>∃a xs,x=.ref a/\SqL K H a xs/\∀p,H p=none->Q (.ref p) (upd H p (.lst (d7 xs lo hi)))
theorem Bq:SlR X (WN X.K):=by intro pins s σ H x v vl vu lo hi sl Q I rx hs pl pu h;obtain ⟨a,xs,rfl,hx,q⟩:=h;cases rx;obtain ⟨its,r,ht,hz⟩:=I.list hx;have hlen:=r.length;refine ⟨"list",_,slot_list_getitem.lookup,ht.isList.typeIs,?_⟩;refine wpAny_getItem_list_slice ht.isList hs pl pu .none (by simp) ?_ (by rw[ar] <;> omega);rw[WM,<-hlen];refine ⟨.ref s.heap.objs.size,_,I.laid (t':=s.toks) (o:=.lst (d7 xs lo hi)) (λb ob q=>ah _ q) (aw _) ?_,rfl,q _ (I.hok.fresh (aw _))⟩;exact ⟨cb (Bk xs lo hi) hz,_,0,(r.drop (HT.sIx xs.length 0 lo)).take (HT.sIx xs.length xs.length hi - HT.sIx xs.length 0 lo),a9 _ rfl⟩
theorem Br:bH X (.builtin "len") (λxs H Q=>∃p ys,xs=[.ref p]/\(SqL X.K H p ys\/SqT X.K H p ys)/\Q (.int ys.length) H):=by
 intro pins s σ H xs us Q I r h;obtain ⟨p,ys,rfl,hq,q⟩:=h;obtain ⟨u,rfl,rx⟩:=vals1 r;cases rx;have hn:=iz;rcases hq with hq |hq
 ·obtain ⟨its,r',pl,hz⟩:=I.list hq;have hlen:=r'.length;exact Calls.call_len_list pl.isList (by simp only[ar] <;> omega) ⟨.int ys.length,H,I.tok _,⟨s.toks+1,by rw[ar,hlen]⟩,q⟩
 ·obtain ⟨its,r',pl,hz⟩:=I.tuple hq;have hlen:=r'.length;exact len_tuple pl (by simp only[ar] <;> omega) ⟨.int ys.length,H,I.tok _,⟨s.toks+1,by rw[ar,hlen]⟩,q⟩
theorem WP:bH X (.builtin "len") (λxs H Q=>∃z,xs=[.str z]/\z.length<=sizeLine/\Q (.int z.length) H):=by intro pins s σ H xs us Q I r h;obtain ⟨z,rfl,hz,q⟩:=h;obtain ⟨u,rfl,t,rfl⟩:=vals1 r;have hn:=iz;exact len_str (by omega) ⟨.int z.length,H,I.tok _,⟨_,rfl⟩,q⟩
theorem Bt:bH X (.type "list") (λxs H Q=>∃p ys,xs=[.ref p]/\(SqL X.K H p ys\/SqT X.K H p ys)/\∀l,H l=none->Q (.ref l) (upd H l (.lst ys))):=by
 intro pins s σ H xs us Q I r h;obtain ⟨p,ys,rfl,hq,q⟩:=h;obtain ⟨u,rfl,rx⟩:=vals1 r;cases rx;have fin:∀(its:List Value),Vals ys its->ys.length<=sizeLine->∀(h':Heap)(c':Nat),(∀b o',s.heap.get? b=some o'->h'.get? b=some o')->
   h'.get? s.heap.objs.size=some { cls:=.type "list",dict:=none,data:=.seq its.toArray c',slots:=#[] }->EP X pins σ Q (.ref s.heap.objs.size) { s with heap:=h' }:=λits r' hz h' c' kp e=>
  ⟨.ref s.heap.objs.size,_,I.laid (t':=s.toks) kp (aw _) (show ObjOk X.prog X.w _ h' _ (.lst ys) from ⟨hz,its,c',r',e⟩),rfl,q _ (I.hok.fresh (aw _))⟩
 rcases hq with hq |hq
 ·obtain ⟨its,r',pl,hz⟩:=I.list hq;have hlen:=r'.length;obtain ⟨o,ho,hc,n,hd⟩:=pl.isList;exact call_list_seq p (.inl rfl) ho hc hd (λh' c' kp e=>fin its r' hz h' c' kp e) (by simp only[ar] <;> omega)
 ·obtain ⟨its,r',pl,hz⟩:=I.tuple hq;have hlen:=r'.length;obtain ⟨o,ho,hc,n,hd⟩:=pl;exact call_list_seq p (.inr rfl) ho hc hd (λh' c' kp e=>fin its r' hz h' c' kp e) (by simp only[ar] <;> omega)
theorem Bu:bH X (.type "tuple") (λxs H Q=>∃p ys,xs=[.ref p]/\((SqL X.K H p ys/\∀l,H l=none->Q (.ref l) (upd H l (.tup ys)))\/(SqT X.K H p ys/\Q (.ref p) H))):=by
 intro pins s σ H xs us Q I r h;obtain ⟨p,ys,rfl,h⟩:=h;obtain ⟨u,rfl,rx⟩:=vals1 r;cases rx;rcases h with ⟨hq,q⟩ |⟨hq,q⟩
 ·obtain ⟨its,r',pl,hz⟩:=I.list hq;have hlen:=r'.length;refine call_tuple_list pl.isList (λh' kp=>?_) (by simp only[ar] <;> omega);have I1:Inv X pins σ H { s with heap:=h' }:=I.kept (t':=s.toks) kp;have I2:Inv X pins σ (upd H h'.objs.size (.tup ys)) { s with heap:=h'.push { cls:=.type "tuple",data:=.seq its.toArray } }:=
   I1.laid (t':=s.toks) (λb o e=>ah _ e) (aw _) (show ObjOk X.prog X.w _ _ _ (.tup ys) from ⟨hz,its,r',IsTup.new _ _⟩)
  exact ⟨.ref h'.objs.size,_,I2,rfl,q _ (I1.hok.fresh (aw _))⟩
 ·obtain ⟨its,r',pl,hz⟩:=I.tuple hq;exact call_tuple_same pl ⟨.ref p,H,I,rfl,q⟩
def tyV(K:PF)(T:String)(x:V)(H:Hp):Prop:=match x with
 |.str _=>T="str"
 |.int _=>T="int"
 |.ref p=>(T="list"/\∃xs,SqL K H p xs)\/(T="tuple"/\∃o,K.lookup p=some o/\o.cls=.type "tuple"/\o.dict=none)\/
   (T="dict"/\((∃kvs,H p=some (.dK kvs))\/∃kvs,H p=some (.dT kvs)))\/(T="set"/\∃S n,H p=some (.set S n))
 |_=>False
theorem WQ{pins:List (Addr×Obj)}{σ:St}{H:Hp}{s:Shared}{T:String}{x:V}{v:Value}(I:Inv X pins σ H s)(r:RelV x v)(ty:tyV X.K T x H):
  s.TypeIs v T/\∀a,v=.ref a->∃ob,s.heap.get? a=some ob/\ob.dict=none:=by
 cases x with
 |str z=>
  obtain ⟨t,rfl⟩:=r;cases (show T="str" from ty);exact ⟨typeIs_str s z t,λ_ e=>nomatch e⟩
 |int i=>
  obtain ⟨t,rfl⟩:=r;cases (show T="int" from ty);exact ⟨typeIs_int s i t,λ_ e=>nomatch e⟩
 |ref p=>
  cases r;rcases ty with ⟨rfl,xs,hq⟩ |⟨rfl,o,hk,hc,hd⟩ |⟨rfl,hk⟩ |⟨rfl,S,n,hk⟩
  ·obtain ⟨its,_,pl,_⟩:=I.list hq;refine ⟨pl.isList.typeIs,λa e=>?_⟩;cases e;obtain ⟨o,n,e,c,hd,_⟩:=pl;exact ⟨o,e,hd⟩
  ·refine ⟨⟨o,I.kIn p o hk,hc⟩,λa e=>?_⟩;cases e;exact ⟨o,I.kIn _ o hk,hd⟩
  ·have z:∃o,s.heap.get? p=some o/\o.ExactDict:=by
    rcases hk with ⟨kvs,hk⟩ |⟨kvs,hk⟩
    ·obtain ⟨_,_,_,_,o,_,_,e,ex,_⟩:=I.hok p _ hk;exact ⟨o,e,ex⟩
    ·obtain ⟨_,_,_,_,o,_,_,e,ex,_⟩:=I.hok p _ hk;exact ⟨o,e,ex⟩
   obtain ⟨o,e,ex⟩:=z;refine ⟨⟨o,e,ex.1⟩,λa e2=>?_⟩;cases e2;exact ⟨o,e,ex.2.1⟩
  ·obtain ⟨o,_,_,_,e,ex,_⟩:=I.hok p _ hk;refine ⟨⟨o,e,ex.1⟩,λa e2=>?_⟩;cases e2;exact ⟨o,e,ex.2.1⟩
 |_=>exact False.elim ty
def tBM(K:PF)(T:String)(r:V->List V->Hp->VK->Prop)(to:TE)(t:TA):TE:=λσ H Q=>to σ H λx H1=>tyV K T x H1/\t σ H1 λxs H2=>r x xs H2 Q
variable {o e:Expr} {es:List Expr} {to:TE} {t:TA} {name:Str} {apos cpos:Pos} {T id:String} {r:V->List V->Hp->VK->Prop}
theorem iB (pa:PlainAttrs T) (slot:Slot T name id) (hty:typeOf (.builtin id)=pure (.type "method_descriptor")) (hm:MtR X id r) (ho:PE X o to) (ha:PA X (e::es) t)
  (hbase:attributeBase o name X.env (eval o X.env)=eval o X.env:=by rfl)
  (hfew:((backTo cpos (starEach (e::es) X.env)).all (λx=>!x.1)&&(backToKw cpos (keywordEach [] X.env)).all (λx=>x.1.isSome)
  &&decide ((e::es).length+([]:List Keyword).length+(if ([]:List Keyword).isEmpty then 0 else 1) < 30))=true:=by rfl)
  (hline:(apos.endLine==cpos.line)=true:=by rfl) (hs:starEach (e::es) X.env=(false,eval e X.env)::starEach es X.env:=by rfl) (hplain:(backTo cpos (starEach es X.env)).any (·.1)=false:=by rfl):
  PE X (.Call (.Attribute o name apos) (e::es) [] cpos) (tBM X.K T r to t):=by
 intro pins s σ H Q I h;refine wpAny_Call_method_late hbase hfew hline rfl (thn (ho pins s σ H _ I h) λv s1 ⟨x,H1,I1,r1,ty,q1⟩=>?_);obtain ⟨h1,h2⟩:=WQ I1 r1 ty;refine ⟨T,id,pa,slot,hty,h1,h2,?_⟩;have hA:=ha cpos pins s1 σ H1 _ I1 q1;rw[hs]at hA ⊢;refine Calls.callWith_builtin (by show (false||(backTo cpos (starEach es X.env)).any (·.1))=false;rw[hplain] <;> rfl) (Calls.evalArgs_plain ?_);exact thn hA λus s2 ⟨vs,H2,I2,r2,q2⟩=>hm pins s2 σ H2 x vs v us Q I2 r1 r2 q2
end
def MtM(X:Cx)(id:String)(r:V->List V->Hp->VK->Prop):Prop:=
 ∀(pins:List (Addr×Obj))(s:Shared)(σ:St)(H:Hp)(x:V)(xs:List V)(v:Value)(us:List Value)(Q:VK),Inv X pins σ H s->RelV x v->Vals xs us->r x xs H Q->
  wpAny (model X.prog X.w) X.A (call (.builtin id) (v::us)) (EP X pins σ Q) X.xe s
theorem Vals.one:∀{x:V}{us:List Value},Vals [x] us->∃u,us=[u]/\RelV x u
 |_,_,.cons r .nil=>⟨_,rfl,r⟩
theorem Vals.eraseIdx:∀{xs:List V}{us:List Value}(i:Nat),Vals xs us->Vals (xs.eraseIdx i) (us.eraseIdx i)
 |_,_,_,.nil=>.nil
 |_,_,0,.cons _ t=>t
 |_,_,i+1,.cons r t=>.cons r (Vals.eraseIdx i t)
theorem Vals.rep{xs:List V}{us:List Value}(h:Vals xs us):∀k:Nat,Vals (List.replicate k xs).flatten (List.replicate k us).flatten
 |0=>.nil
 |k+1=>by
  rw[ci,ci,eR,eR];exact Vals.append h (Vals.rep h k)
theorem Bv{α:Type}:∀(l:List α)(i:Nat),(l.eraseIdx i).length<=l.length
 |[],_=>aw _
 |_::_,0=>Nat.le_succ _
 |_::r,i+1=>Nat.succ_le_succ (Bv r i)
theorem foldl_rep(its:List Value):∀(k:Nat)(acc:List Value),
  List.foldl (λx1 x2=>x1++x2) acc.toArray (List.replicate k its.toArray)=(acc++(List.replicate k its).flatten).toArray
 |0,acc=>by simp
 |k+1,acc=>by
  have e:acc.toArray++its.toArray=(acc++its).toArray:=by simp
  have e2:(acc++its)++(List.replicate k its).flatten=acc++(List.replicate (k+1) its).flatten:=by rw[ci,eR,gg]
  rw[<-e2,<-foldl_rep its k (acc++its),<-e,ci,List.foldl_cons]
section
variable {X:Cx} {pins:List (Addr×Obj)} {σ:St} {H:Hp} {s:Shared} {l b:Addr} {xs ys zs:List V}
theorem Inv.lset{its its':List Value}{n:Nat}{f:Array Value->Array Value}{t':Nat}(I:Inv X pins σ H s)(hH:H l=some (.lst xs))
  (e:s.heap.get? l=some { cls:=.type "list",data:=.seq its.toArray n }) (hf:f its.toArray=its'.toArray) (hv:Vals ys its') (hz:ys.length<=sizeLine):
  Inv X pins σ (upd H l (.lst ys)) { s with heap:=s.heap.update l (Obj.mapSeq f),toks:=t' }:=by
 have q:=PySem.IsL.update e f;rw[hf]at q;refine I.write (x:=l) (e:=l) (by rw[hH];exact trivial) (.inl rfl) (λb' u hb hu=>(Heap.get?_update_other s.heap (Obj.mapSeq f) (Ne.symm hb)).trans hu) ⟨_,q⟩ ?_;exact ⟨hz,its',_,hv,q⟩
theorem Inv.lnew{its:List Value}{t':Nat}(I:Inv X pins σ H s)(hv:Vals ys its)(hz:ys.length<=sizeLine):
  Inv X pins σ (upd H s.heap.objs.size (.lst ys)) { s with heap:=s.heap.push { cls:=.type "list",data:=.seq its.toArray },toks:=t' }:=
 I.laid (λ_ _ q=>ah _ q) (aw _) ⟨hz,its,0,hv,a9 _ rfl⟩
theorem Inv.fresh(I:Inv X pins σ H s):H s.heap.objs.size=none:=I.hok.fresh (aw _)
theorem Inv.lstM (I:Inv X pins σ H s) (hH:H l=some (.lst xs)):xs.length<=sizeLine/\∃(its:List Value) (n:Nat),Vals xs its/\xs.length=its.length/\s.heap.get? l=some { cls:=.type "list",data:=.seq its.toArray n }:=by obtain ⟨z,its,n,r,e⟩:=I.hok l _ hH;exact ⟨z,its,n,r,r.length,e⟩
theorem Bw{n:Nat}(h:n<=sizeLine):Builtin.List.listTooLong n=false:=by unfold Builtin.List.listTooLong;exact bX (by omega)
end
section
variable {X:Cx}
noncomputable def WR:V->List V->Hp->VK->Prop:=λx vs H Q=>∃l xs y,x=.ref l/\vs=[y]/\H l=some (.lst xs)/\xs.length < sizeLine/\Q .non (upd H l (.lst (xs++[y])))
theorem WT:MtM X "list.append" WR:=by intro pins s σ H x vs v us Q I rx rv h;obtain ⟨l,xs,y,rfl,rfl,hH,hz,q⟩:=h;cases rx;obtain ⟨u,rfl,ru⟩:=rv.one;obtain ⟨z,its,n,r,hl,e⟩:=I.lstM hH;refine fy F.slot_list_append ⟨_,e,rfl⟩ F.entry_list_append (F.args_list_append_2 _ _) (PySem.list_append l its.toArray n u (by rw[ar];omega)) ⟨e,?_⟩;refine ⟨.non,_,I.lset (its':=its++[u]) hH e (by simp) (r.append (.cons ru .nil)) ?_,rfl,q⟩;rw[bq,List.length_singleton];omega
noncomputable def WX:V->List V->Hp->VK->Prop:=λx vs H Q=>∃l b xs zs,x=.ref l/\vs=[.ref b]/\H l=some (.lst xs)/\H b=some (.lst zs)/\xs.length+zs.length<=sizeLine/\Q .non (upd H l (.lst (xs++zs)))
theorem WY:MtM X "list.extend" WX:=by
 intro pins s σ H x vs v us Q I rx rv h;obtain ⟨l,b,xs,zs,rfl,rfl,hH,hB,hz,q⟩:=h;cases rx;obtain ⟨u,rfl,ru⟩:=rv.one;cases ru;obtain ⟨z,its,n,r,hl,e⟩:=I.lstM hH;obtain ⟨z2,its2,n2,r2,hl2,e2⟩:=I.lstM hB;have hsz:its.toArray.size+its2.toArray.size<=sizeLine:=by rw[ar,ar];omega
 have hlong:¬(!its.toArray.isEmpty&&Builtin.List.listTooLong (its.toArray.size+its2.toArray.size))=true:=by rw[Bw hsz,e8];exact bi
 refine fy F.slot_list_extend ⟨_,e,rfl⟩ F.entry_list_extend (F.args_list_extend_2 _ _)
  (AutoSeq1.list_extend_list_list_0 l its.toArray n b its2.toArray n2 hlong (by rw[ar];omega) (by omega)) ⟨e,e2,?_⟩
 refine ⟨.non,_,I.lset (its':=its++its2) hH e (by simp) (r.append r2) ?_,rfl,q⟩;rw[bq];omega
noncomputable def W0:V->List V->Hp->VK->Prop:=λx vs H Q=>∃l xs i k y,x=.ref l/\vs=[.int i]/\H l=some (.lst xs)/\-(2 ^ 63)<=i/\i < 2 ^ 63/\seqIndex? i xs.length=some k/\xs[k]?=some y/\Q y (upd H l (.lst (xs.eraseIdx k)))
theorem W2:MtM X "list.pop" W0:=by
 intro pins s σ H x vs v us Q I rx rv h;obtain ⟨l,xs,i,k,y,rfl,rfl,hH,h1,h2,hk,hy,q⟩:=h;cases rx;obtain ⟨u,rfl,ru⟩:=rv.one;obtain ⟨t,rfl⟩:=ru;obtain ⟨z,its,n,r,hl,e⟩:=I.lstM hH;obtain ⟨w,hw,rw'⟩:=r.get hy;refine fy F.slot_list_pop ⟨_,e,rfl⟩ F.entry_list_pop (F.args_list_pop_2 _ _)
  (MeetsSeq.list_pop_at l its.toArray n i t k w (fitsIndex_both h1 h2) (by rw[ar,<-hl];exact hk) (by rw[<-gp];exact hw) (by rw[ar];omega)) ⟨e,?_⟩
 refine ⟨y,_,I.lset (its':=its.eraseIdx k) hH e ?_ (r.eraseIdx k) ?_,rw',q⟩
 ·show its.toArray.eraseIdxIfInBounds k=(its.eraseIdx k).toArray;rw[List.eraseIdxIfInBounds_toArray]
 ·have:=Bv xs k;omega
theorem len_rep{α:Type}(xs:List α)(k:Nat):(List.replicate k xs).flatten.length=k * xs.length:=by
 induction k with
 |zero=>simp
 |succ k ih=>rw[ci,eR,bq,ih,Nat.succ_mul,Nat.add_comm]
end
end L2
namespace Att
open PySem PySem.W PySem.Calls PyProof.Rows
theorem W3{P:Params}{h:Heap}:∀(ns:List Int)(vs:List Value),WellAll P h vs (ns.map WData.int)->IntsAre vs ns:=by
 intro ns;induction ns with
 |nil=>
  intro vs w;rw[List.map_nil]at w;cases w;exact .nil
 |cons n ns ih=>
  intro vs w;rw[List.map_cons]at w;cases w with
  |cons a b=>
   cases a;exact .cons _ _ (ih _ b)
theorem W4{l:OpenLaw}{n:Nat}(hn:l.most=some n){P:Params}{h:Heap}{args:List WData}{vals:List Value}
  (hpre:l.row.toRowW.claim.pre args=true) (hwl:WellAll P h vals args):
  ∃a vs ns,vals=[Value.ref a]/\args=[WData.list (ns.map WData.int)]/\h.get? a=some { cls:=.type "list",data:=.seq vs.toArray }/\IntsAre vs ns/\ns.length<=n:=by
 have hsh:WShape.hasAll [] args [.list .int]=true:=(pre_splitW hpre).1;have hc:l.pre.holds [] { args:=args }=true:=(pre_splitW hpre).2;obtain ⟨d,r,rfl,h1,h2⟩:=hasAllW_cons hsh;obtain rfl:=hasAllW_nil h2;obtain ⟨xs,rfl,h3⟩:=hasW_list h1;obtain ⟨ns,rfl⟩:=items_int h3;have hlen:ns.length<=n:=by
  unfold OpenLaw.pre at hc;have h4:(WTm.not (.lt (.lit (.int (n:Int))) (.len (.arg 0)))).holds [] { args:=[.list (ns.map .int)] }=true:=by have h4:=(holds_andW hc).1;rw[hn]at h4;exact h4
  have h5:=condW_of h4 (w_not (w_lt w_lit (w_len_list (w_arg rfl))));rw[List.length_map]at h5;refine Nat.le_of_not_lt λq=>?_;have q':(n:Int) < ((ns.length:Nat):Int):=by omega
  first
   | (rw[decide_eq_true q']at h5;exact absurd h5 (by decide))
   | (simp at h5;omega)
 cases hwl with
 |cons w1 w2=>
  cases w2;cases w1 with
  |list ho hall=>exact ⟨_,_,ns,rfl,rfl,ho,W3 ns _ hall,hlen⟩
theorem W5(l:OpenLaw)(args:List WData):l.row.toRowW.claim.post args (.bool true) args=true:=
 postW_of (r:=l.row.toRowW) (X:=(true==true))
  (show WShape.has [] (.bool true) .bool=true by first |rfl |decide |simp[WShape.has,WShape.arms,WShape.armsAll])
  (show (WTm.eq .res (.lit (.bool true))).value [] { args:=args,res:=some (.bool true),after:=args }=some (.bool (true==true)) from w_eq_bool (w_res rfl) w_lit) rfl
theorem attach_call{l:OpenLaw}{n:Nat}{q:Program}{loose:List Str}{XP:(Str->Option Value)->Heap->Prop}{YP:World->Heap->Prop}{d:DefRec}
  (hn:l.most=some n) (hdf:d.params.defaults=[])
  (call:∀(w:World)(s₀ s₁:Shared)(mg mb:Str->Option Value)(fa:Addr)(o:Obj)(pm cd doc:Value)(a:Addr)(vs:List Value)(ns:List Int),
   Ground q loose [] XP w s₀ mg mb s₁.heap->YP w s₁.heap->
   s₁.heap.get? fa=some o->o.data=.func (docDef d.name d.params d.body d.scope pm cd doc)->s₁.heap.CodeRec cd d.name->mg d.name=some (.ref fa)->
   s₁.heap.get? a=some { cls:=.type "list",data:=.seq vs.toArray }->IntsAre vs ns->ns.length<=n->s₁.gens=#[]->
   codeAny (model l.prog w) callerA (.call (.ref fa) ⟨[.ref a],[]⟩) (λr s'=>r=.ok (.ret (.bool true))/\OldK s₁.heap s'.heap/\s'.os=s₁.os/\AllBare s'.gens) s₁):
  WalkO q loose XP YP l.row.toRowW d [] (λf vs=>PySem.call f vs):=by
 intro w s₀ s₁ mg mb G Y fa o pm cd doc dV kV ho hd hcd hD hmg hg args vals as hpre hlay hrd hwl hlo;obtain rfl:dV=.none:=Dflts.none hD hdf;obtain rfl:kV=.none:=Dflts.noKw hD;obtain ⟨a,vs,ns,rfl,rfl,hobj,hints,hlen⟩:=W4 hn hpre hwl;refine enter_call (codeAny_mono (call w s₀ s₁ mg mb fa o pm cd doc a vs ns G Y ho (fd_plain hd) hcd hmg hobj hints hlen hg) λr s' hq=>?_);obtain ⟨rfl,h2,h3,h4⟩:=hq;exact ⟨.inl ⟨.bool true,.bool true,[],rfl,λ_=>rfl,.bool true,W5 l _,λ_=>⟨List.Pairwise.nil,λ_ hm=>(nomatch hm)⟩⟩,h2,h3,h4⟩
end Att
namespace L2
open PySem PySem.Spec PyProof.Rows
theorem vJ:∀{vs:List Value}{ns:List Int},IntsAre vs ns->Vals (ns.map V.int) vs
 |_,_,.nil=>.nil
 |_,_,.cons n t h=>.cons ⟨t,rfl⟩ (vJ h)
def Only(H:Hp):Prop:=∀b,H b=none\/∃o xs,H b=some (.frz o (.lst xs))
theorem W6{P:Program}{w:World}{K:PF}{mg mb:Str->Option Value}{CX:CXT}{k:Nat}{fa a:Addr}{fd:FuncData}{x:Str}{sp:Sp}{s₁:Shared}{vs:List Value}{ns:List Int}
  (KX:K.In s₁.heap) (hns:s₁.heap.Ns mainGlobals mg) (hb:s₁.heap.Ns builtinsNs mb) (hbb:∀x:Str,x≠"__name__"->mb x=bootBuiltins x) (hlim:s₁.heap.NoLimit) (hg:s₁.gens=#[])
  (ha:s₁.heap.get? a=some { cls:=.type "list",data:=.seq vs.toArray }) (hi:IntsAre vs ns) (hl:ns.length<=sizeLine) (hr:Room k callerA)
  (F:∀base:Heap,K.In base->base.Ns mainGlobals mg->FnOk P w K mg base CX k fa fd [x] sp) (hbind:∀(s:Shared)(u:Value),BindsTo s fd ⟨[u],[]⟩ [(x,u)])
  (hsp:∀H:Hp,Only H->SqL K H a (ns.map V.int)->sp [.ref a] H (λv _=>v=.bl true) λ_ _ _=>False)
  (hCX:∀H e s',CX [] H s₁ (λ_ _ _=>False) e s'->False):
  codeAny (model P w) callerA (.call (.ref fa) ⟨[.ref a],[]⟩) (λr s'=>r=.ok (.ret (.bool true))/\OldK s₁.heap s'.heap/\s'.os=s₁.os/\AllBare s'.gens) s₁:=by
 have rv:=vJ hi;have lenV:=hi.length
 -- from an abstract heap in which nothing but the script may be tracked
 have core:∀H:Hp,Only H->SqL K H a (ns.map V.int)->HOk P w H s₁.heap->(∀b,H b≠none->b=a)->(H a≠none->K.lookup a=none)->
   codeAny (model P w) callerA (.call (.ref fa) ⟨[.ref a],[]⟩) (λr s'=>r=.ok (.ret (.bool true))/\OldK s₁.heap s'.heap/\s'.os=s₁.os/\AllBare s'.gens) s₁:=by
  intro H hO hS hok hA hK;have base_of:∀{b:Addr}{o:Obj},s₁.heap.get? b=some o->H b=none->(fQ s₁.heap H).get? b=some o:=λe n=>T6 e n;have noA:∀{b:Addr}{o:Obj}{es:Array DictEntry}{ep:Nat},s₁.heap.get? b=some o->o.data=.dict es ep->H b=none:=λ{b o es ep} e d=>by
   cases q:H b with
   |none=>rfl
   |some u=>
    have e':b=a:=hA b (by rw[q];simp);subst e';rw[ha]at e;cases e;have d':Data.seq vs.toArray _=Data.dict es ep:=d;cases d'
  have nsK:∀{b:Addr}{m:Str->Option Value},s₁.heap.Ns b m->(fQ s₁.heap H).Ns b m:=λ{b m} ⟨o,es,ep,e,d,r⟩=>⟨o,es,ep,base_of e (noA e d),d,r⟩;have hKb:K.In (fQ s₁.heap H):=λb o e=>base_of (KX b o e) (by
   cases q:H b with
   |none=>rfl
   |some u=>
    have e':b=a:=hA b (by rw[q];simp);subst e';rw[hK (by rw[q];simp)]at e;cases e)
  have hM:Mod K mg (fQ s₁.heap H):=⟨hKb,nsK hns,⟨mb,nsK hb,hbb⟩,let ⟨mc,h1,h2⟩:=hlim;⟨mc,nsK h1,h2⟩⟩;have e0:Env0 P w K mg (fQ s₁.heap H) callerA [] s₁ H:=⟨rfl,hM,λb o e=>T7 e,Nat.le_of_eq (T5 _ _),trivial,λb hb=>absurd (show b∈([]:List Addr) from hb) (by simp),hok,.of_eq hg⟩;refine codeAny_mono ((F _ hKb (nsK hns)).run callerA [] s₁ H ⟨[.ref a],[]⟩ [.ref a] [.ref a] _ _ hr e0 (hbind s₁ (.ref a)) (.cons rfl .nil) (hsp H hO hS)) λr s' h=>?_;cases r with
  |error e=>exact (hCX H e s' h).elim
  |ok fl=>
   cases fl with
   |next=>exact False.elim h
   |brk=>exact False.elim h
   |cont=>exact False.elim h
   |ret u=>
    obtain ⟨v,H',os,bare,un,hok',r',q⟩:=h;have q':v=.bl true:=q;subst q';obtain rfl:u=Value.bool true:=r';refine ⟨rfl,OldK.of_keep λb o e=>?_,os,bare⟩;cases q:H b with
    |none=>exact un.keep b o e q (by intro z;exact absurd (show b∈([]:List Addr) from z) (by simp)) (by simp)
    |some u=>
     rcases hO b with z |⟨ob,xs,z⟩
     ·rw[q]at z;cases z
     ·have z2:=un.frzs b ob _ z;obtain ⟨e1,_⟩:=hok b _ z;obtain ⟨e2,_⟩:=hok' b _ z2;rw[e]at e1;cases e1;exact e2
 cases hk:K.lookup a with
 |some o=>
  -- the script is one of the module's own objects
  have e:=KX a o hk;rw[ha]at e;cases e;refine core (λ_=>none) (λ_=>.inl rfl) (.inr ⟨_,vs.toArray,_,hk,rfl,rfl,rfl,by rw[ar,lenV];exact hl,by simpa using rv⟩) (λb u z=>by have z':(none:Option HO)=some u:=z;cases z') (λb z=>absurd rfl z) λz=>absurd rfl z
 |none=>
  refine core (λb=>if b=a then some (.frz { cls:=.type "list",data:=.seq vs.toArray } (.lst (ns.map V.int))) else none) (λb=>?_) (.inl (.inr ⟨{ cls:=.type "list",data:=.seq vs.toArray },if_pos rfl⟩)) (λb u z=>?_) (λb z=>?_) λ_=>hk
  ·by_cases hb:b=a
   ·exact .inr ⟨_,_,if_pos hb⟩
   ·exact .inl (if_neg hb)
  ·by_cases hb:b=a
   ·have z':=(if_pos hb).symm.trans z;cases z';subst hb;exact ⟨ha,by rw[al];exact hl,vs,_,rv,ha⟩
   ·have z':=(if_neg hb).symm.trans z;cases z'
  ·by_cases hb:b=a
   ·exact hb
   ·exact absurd (if_neg hb) z
theorem W7{l:PySem.W.OpenLaw}{n k:Nat}{q:Program}{loose:List Str}{XP:(Str->Option Value)->Heap->Prop}{YP:World->Heap->Prop}{d:DefRec}{K:Params->PF}{CX:World->CXT}{sp:World->Sp}{x:Str}
  (hn:l.most=some n) (hn2:n<=sizeLine) (hdf:d.params.defaults=[]) (hr:Room k callerA)
  (hY:∀(w:World)(h:Heap),YP w h->(K w.params).In h)
  (F:∀(w:World)(mg:Str->Option Value)(fa:Addr)(h:Heap),(K w.params).In h->h.Ns mainGlobals mg->mg d.name=some (.ref fa)->
   ∃fd:FuncData,(∀(s:Shared)(u:Value),BindsTo s fd ⟨[u],[]⟩ [(x,u)])/\
    ∀base:Heap,(K w.params).In base->base.Ns mainGlobals mg->FnOk l.prog w (K w.params) mg base (CX w) k fa fd [x] (sp w))
  (hsp:∀(w:World)(H:Hp)(a:Addr)(ns:List Int),ns.length<=n->Only H->SqL (K w.params) H a (ns.map V.int)->sp w [.ref a] H (λv _=>v=.bl true) λ_ _ _=>False)
  (hCX:∀(w:World)(H:Hp)(s:Shared)(e:Value)(s':Shared),CX w [] H s (λ_ _ _=>False) e s'->False):
  PySem.W.WalkO q loose XP YP l.row.toRowW d [] (λf vs=>PySem.call f vs):=by
 refine Att.attach_call hn hdf λw s₀ s₁ mg mb fa o pm cd doc a vs ns G Y ho hd hcd hmg hobj hints hlen hg=>?_;have KX:=hY w _ Y;obtain ⟨fd,hb,hF⟩:=F w mg fa _ KX G.T.g hmg;exact W6 KX G.T.g G.T.b G.T.builtins G.T.nolimit hg hobj hints (cb hlen hn2) hr hF hb (λH hO hS=>hsp w H a ns hlen hO hS) λH e s'=>hCX w H s₁ e s'
def lA(s:Stmt):Arguments:=match s with
 |.FunctionDef _ a _ _ _ _ _ _ _ _=>a
 |_=>{ posonlyargs:=[],args:=[],vararg:=none,kwonlyargs:=[],kw_defaults:=[],kwarg:=none,defaults:=[] }
def aF(s:Stmt):List Stmt:=match s with
 |.FunctionDef _ _ b _ _ _ _ _ _ _=>b
 |_=>[]
def aq(s:Stmt):Scope:=match s with
 |.FunctionDef _ _ _ _ _ _ sc _ _ _=>sc
 |_=>{ kind:=.function,names:=[],isGenerator:=false,isCoroutine:=false }
abbrev CX0:CXT:=λ_ _ _ _ _ _=>False
structure Fun(K:PF)(x qual:Str)(st:Stmt)(f:Addr)(fd:FuncData):Prop where
 ex:∃(oc:Value)(od:Option Addr)(kV doc pm:Value)(an:Option Addr)(cdv ct:Value)(osl:Array (Option Value)),
  fd=PySem.W.fnOf x qual (lA st) (aF st) (aq st) .none kV doc pm an cdv ct/\K.lookup f=some ⟨oc,od,.func fd,osl⟩/\PySem.W.codeIn K cdv qual=true
 kp:PySem.W.keepIn K (.ref f)=true
section
variable {P:Program} {w:World} {K:PF} {mg:Str->Option Value} {base:Heap}
theorem Fun.binds{x qual:Str}{st:Stmt}{f:Addr}{fd:FuncData}{ps:List Str}(F:Fun K x qual st f fd)
  (h:∀(kV doc pm:Value)(an:Option Addr)(cdv ct:Value)(us:List Value),us.length=ps.length->bindArgs (PySem.W.fnOf x qual (lA st) (aF st) (aq st) .none kV doc pm an cdv ct) ⟨us,[]⟩=pure (ps.zip us)):Binds K fd ps []:=by
 obtain ⟨oc,od,kV,doc,pm,an,cdv,ct,osl,rfl,lk,hcd⟩:=F.ex;exact .all (h kV doc pm an cdv ct)
theorem W8{x qual:Str}{st:Stmt}{f:Addr}{oc:Value}{od an:Option Addr}{osl:Array (Option Value)}{kV doc pm cdv ct:Value}(l:K.lookup f=some ⟨oc,od,.func (PySem.W.fnOf x qual (lA st) (aF st) (aq st) .none kV doc pm an cdv ct),osl⟩)
  (c:PySem.W.codeIn K cdv qual=true) (k:PySem.W.keepIn K (.ref f)=true):Fun K x qual st f (PySem.W.fnOf x qual (lA st) (aF st) (aq st) .none kV doc pm an cdv ct):=⟨⟨oc,od,kV,doc,pm,an,cdv,ct,osl,rfl,l,c⟩,k⟩
end
section
variable {X:Cx}
theorem pv (i:Nat) {x:Str} {pos:Pos} (hN:X.N[i]?=some x:=by rfl) (hv:Vis X.env.scope x:=by first |exact Or.inl rfl |exact Or.inr (Or.inl rfl) |exact Or.inr (Or.inr rfl)) (hd:(x==("__debug__":Str))=false:=by decide)
  (hcd:(x==("__classdict__":Str))=false:=by decide):PE X (.Name x pos) (Ac i):=vA hN hv hd hcd
end
end L2
set_option maxHeartbeats 4000000
namespace L2
open PySem PySem.Spec PyProof.Rows
section
variable {X:Cx} {pins:List (Addr×Obj)} {σ:St} {H:Hp} {s:Shared} {h':Heap}
theorem Inv.turnedL{t':Nat}{ch:List Addr}(I:Inv X pins σ H s)(hf:∀b∈ch,dY X pins H b)(k:∀b o,b∉ch->s.heap.get? b=some o->h'.get? b=some o):
  Inv X pins σ H { s with heap:=h',toks:=t' }:=by
 have nit:∀b u,H b=some u->b∉ch:=λb u e z=>by
  have q:=(hf b z).1;rw[q]at e;cases e
 refine I.step (g':=s.gens) (d':=s.drawn) (ch:=ch) (λb hb=>?_) (λb o _ _ hc e _=>k b o hc e) (λb o _ _ hc e _=>⟨o.slots,k b o hc e⟩) (λ_ _ _ _ n=>n)
  (λb o hc e=>⟨o,k b o hc e⟩) (λ_ _ e=>e) (λ_ _ _ e=>e) (λb ps e=>⟨#[],by rw[e];simp⟩) (λm hm=>?_) (λb u e=>?_) I.bare
 ·obtain ⟨_,f1,_,f3,f4,f5⟩:=hf b hb;exact ⟨f3,f1,f4,f5⟩
 ·obtain ⟨o,es,ep,ho,r⟩:=hm;exact ⟨o,es,ep,k _ o (λz=>(hf _ z).2.1 rfl) ho,r⟩
 ·refine (I.hok b u e).stay (λc v hc q=>k c v ?_ q) (λ_ q=>q) λ_ _ q=>q;rcases hc with z |z
  ·rw[z];exact nit b u e
  ·exact nit c _ z
theorem Inv.track{T:Addr}{o:HO}(I:Inv X pins σ H s)(hT:dY X pins H T)(new:ObjOk X.prog X.w (upd H T o) s.heap T o):Inv X pins σ (upd H T o) s:=by
 have hn:=hT.1;have hok:HOk X.prog X.w (upd H T o) s.heap:=λb u e=>by
  by_cases hb:b=T
  ·subst hb;rw[dJ]at e;cases e;exact new
  ·rw[aL hb]at e;exact (I.hok b u e).stay (λc v _ q=>q) (λc q=>by rw[aL (bj q hn)];exact q) λc xs q=>by rw[aL (bj q hn)];exact q
 obtain ⟨hp,g,d,tk,os⟩:=s;refine I.step (h':=hp) (g':=g) (d':=d) (t':=tk) (ch:=[T]) (λb hb=>?_) (λb o _ _ _ e _=>e) (λb o _ _ _ e _=>⟨o.slots,e⟩) (λb u hc _ n=>?_)
  (λb o _ e=>⟨o,e⟩) (λb xs e=>by rw[aL (bj e hn)];exact e) (λb u v e=>by rw[aL (bj e hn)];exact e) (λb ps e=>⟨#[],by rw[aL (bj e hn),e];simp⟩) (λm hm=>hm) hok I.bare
 ·have e:b=T:=by simpa using hb
  subst e;obtain ⟨_,f1,_,f3,f4,f5⟩:=hT;exact ⟨f3,f1,f4,f5⟩
 ·rw[aL (by simpa using hc)];exact n
end
def Its(x:Str):It:=⟨λi _=>i < x.cps.size,λi H v H'=>H'=H/\∃c,x.cps[i]?=some c/\v=.str ⟨#[c]⟩,λi _=>i=x.cps.size⟩
theorem Bx{prog:Program}{w:World}{A:Around}(hh:A.handled=none)(I:Addr)(x:Str)(t:Tok):
  Walks prog w A I [I] [I] x.cps.size (SignAt x) (λi h=>h.IsStrIter I (strIterType x) x t i):=by
 unfold strIterType;split
 ·exact Walks.strAscii hh I x t
 ·exact Walks.strWide hh I x t
theorem vK{P:Program}{w:World}{K:PF}{tg:Expr}(it:Addr)(x:Str)(t:Tok):Turn P w K tg (Its x) [it] it (λi h=>h.IsStrIter it (strIterType x) x t i) where
 mem:=by simp
 obj:=λi h st b hb=>by
  have e:b=it:=by simpa using hb
  subst e;obtain ⟨o,e,c,d⟩:=st;exact ⟨o,e,λv z=>by rw[d]at z;cases z⟩
 keep:=λi h h' st k=>let ⟨o,ho,r⟩:=st;⟨o,k it (by simp) o ho,r⟩
 item:=by intro X hP hw hK hc i pins s σ H E I hf st hg;subst hP hw hK;obtain ⟨f0,f1,f2,f3,f4,f5⟩:=hf it (by simp);have W:=Bx (prog:=X.prog) (w:=X.w) (I.ok.hd hc) it x t;refine W.item i s _ _ hg st λv h' tk hv st' kk=>?_;obtain ⟨c,u,e,rfl⟩:=hv;have I1:Inv X pins σ H { s with heap:=h',toks:=tk }:=I.turned (λb o hb e=>kk b o (by simpa using hb) e) f0 f1 f3 f4 f5;obtain ⟨o,eo,cc,d⟩:=id st';exact ⟨_,rfl,lw (s:={ s with heap:=h',toks:=tk }) (n:=strIterType x) eo cc d (by unfold strIterType;split <;> decide) ⟨.str ⟨#[c]⟩,H,I1,⟨u,rfl⟩,⟨rfl,c,e,rfl⟩,st',λb hb=>(hf b hb).1⟩⟩
 done:=by intro X hP hw hK hc i pins s σ H E I hf st hg;subst hP hw hK;obtain ⟨f0,f1,f2,f3,f4,f5⟩:=hf it (by simp);have W:=Bx (prog:=X.prog) (w:=X.w) (I.ok.hd hc) it x t;have hg':i=x.cps.size:=hg;subst hg';exact W.done s _ _ st λh' tk kk=>⟨rfl,I.turned (λb o hb e=>kk b o (by simpa using hb) e) f0 f1 f3 f4 f5⟩
 self:=λA i s Q E st h=>by
  unfold strIterType at st;split at st
  ·exact wpAny_pyIter_striter_ascii st h
  ·exact wpAny_pyIter_striter_wide st h
noncomputable def cH(env:Env):List (Str×NameKind)->List (Str×Addr)->List (Str×Addr)
 |[],cs=>cs
 | (n,k)::r,cs=>cH env r (if (k==.free)=true then (match env.cells.lookup n with |some c=>(n,c)::cs |none=>cs) else cs)
theorem By{env:Env}:∀{l:List (Str×NameKind)}{cs:List (Str×Addr)},(∀x c,cs.lookup x=some c->env.cells.lookup x=some c)->∀x c,(cH env l cs).lookup x=some c->env.cells.lookup x=some c
 |[],_,h,x,c,e=>h x c e
 | (n,k)::r,cs,h,x,c,e=>by
  refine By (l:=r) (cs:=_) ?_ x c e;intro y d q;by_cases hk:(k==NameKind.free)=true
  ·rw[if_pos hk]at q;cases hn:env.cells.lookup n with
   |none=>rw[hn]at q;exact h y d q
   |some c'=>
    rw[hn]at q;simp only[List.lookup_cons]at q;cases hy:y==n with
    |true=>
     rw[hy]at q;have e1:y=n:=eq_of_beq hy;rw[e1,hn];exact q
    |false=>rw[hy]at q;exact h y d q
  ·rw[if_neg hk]at q;exact h y d q
theorem BJ{env:Env}{x:Str}:∀{l:List (Str×NameKind)}{cs:List (Str×Addr)},(cs.lookup x).isSome=true->((cH env l cs).lookup x).isSome=true
 |[],_,h=>h
 | (n,k)::r,cs,h=>by
  refine BJ (l:=r) (cs:=_) ?_;by_cases hk:(k==NameKind.free)=true
  ·rw[if_pos hk];cases hn:env.cells.lookup n with
   |none=>exact h
   |some c'=>
    simp only[List.lookup_cons];cases hy:x==n with
    |true=>rfl
    |false=>exact h
  ·rw[if_neg hk];exact h
theorem BK{env:Env}{x:Str}(hx:(env.cells.lookup x).isSome=true):∀{l:List (Str×NameKind)}{cs:List (Str×Addr)},(x,NameKind.free)∈l->((cH env l cs).lookup x).isSome=true
 | (n,k)::r,cs,h=>by
  rcases bo.mp h with e |h
  ·cases e;refine BJ (l:=r) (cs:=_) ?_;rw[if_pos (show (NameKind.free==NameKind.free)=true by decide)];obtain ⟨c,hc⟩:=ck.mp hx;rw[hc];simp
  ·exact BK hx (l:=r) h
theorem BL{scope:Scope}{env:Env}(h:∀y∈scope.names,y.2=NameKind.free->(env.cells.lookup y.1).isSome=true):closureFor scope env=pure (cH env scope.names []):=by
 simp only[closureFor];generalize ([]:List (Str×Addr))=cs;generalize scope.names=l at h;induction l generalizing cs with
 |nil=>rfl
 |cons y r ih=>
  obtain ⟨n,k⟩:=y;have ih':=λcs=>ih cs λy hy=>h y (ba _ hy);rw[List.forIn_cons];by_cases hk:(k==NameKind.free)=true
  ·have hk':k=NameKind.free:=eq_of_beq hk;obtain ⟨c,hc⟩:=ck.mp (h (n,k) br hk');have e1:cH env ((n,k)::r) cs=cH env r ((n,c)::cs):=by
    rw[cH,if_pos hk];show cH env r (match env.cells.lookup n with |some c=>(n,c)::cs |none=>cs)=_;have hc':env.cells.lookup n=some c:=hc;rw[hc']
   have e2:cellOf env n=pure c:=by unfold cellOf;have hc':env.cells.lookup n=some c:=hc;rw[hc']
   rw[e1,<-ih' ((n,c)::cs)];simp only[hk,if_true,e2];rfl
  ·have e1:cH env ((n,k)::r) cs=cH env r cs:=by rw[cH,if_neg hk]
   rw[e1,<-ih' cs];simp only[hk,if_false];rfl
theorem vL{env:Env}{x:Str}:∀{names:List (Str×NameKind)},
  (names.map λ(n,k)=>if (k==NameKind.free&&env.scope.kind==.function&&env.kindOf n==some .cell) then (n,NameKind.cell) else (n,k)).lookup x=
   (names.lookup x).map λk=>if (k==NameKind.free&&env.scope.kind==.function&&env.kindOf x==some .cell)=true then NameKind.cell else k
 |[]=>rfl
 | (n,k)::r=>by
  have ih:=@vL env x r;rw[ce];have hh:∀(c:Prop)[Decidable c],(if c then (n,NameKind.cell) else (n,k))=(n,if c then NameKind.cell else k):=λc _=>by split <;> rfl
  show List.lookup x ((if (k==NameKind.free&&env.scope.kind==.function&&env.kindOf n==some .cell)=true then (n,NameKind.cell) else (n,k))::_)=_;rw[hh];simp only[List.lookup_cons];cases hx:x==n with
  |true=>
   have e1:x=n:=eq_of_beq hx;subst e1;rfl
  |false=>exact ih
abbrev Cx.comp(X:Cx)(N':List Str)(scope:Scope)(cl:List (Str×Addr))(C:Addr)(s₁:Shared)(H₁:Hp)(fp:List Addr)(pn:List (Addr×Obj)):Cx where
 prog:=X.prog
 w:=X.w
 K:=X.K
 mg:=X.mg
 base:=X.base
 A:=X.A
 N:=N'
 s₀:=s₁
 H₀:=H₁
 env:=compEnvC scope cl C X.env
 outer:=X.stack
 stack:=X.stack
 ex:=fp
 fn:=λ_=>false
 calm:=X.calm
 pn:=pn
 xe:=λ_ _=>False
def PIf(X:Cx)(ifs:List Expr)(t:TT):Prop:=
 ∀(pins:List (Addr×Obj))(s:Shared)(σ:St)(H:Hp)(Q:Bool->Hp->Prop),Inv X pins σ H s->t σ H Q->
  wpAny (model X.prog X.w) X.A (forIn ifs true λc r=>if r=true then do let ok <-isTrue c X.env (eval c X.env);pure (ForInStep.yield ok) else pure (ForInStep.yield r)) (TP X pins σ Q) X.xe s
def W9:TT:=λ_ H Q=>Q true H
theorem Xa{X:Cx}:PIf X [] W9:=λ_ _ _ H _ I h=>wpAny_tests_nil ⟨H,I,h⟩
theorem Xb{X:Cx}{c:Expr}{t:TT}(h:PT X c t):PIf X [c] t:=λpins s σ H Q I q=>wpAny_tests_one (h pins s σ H Q I q)
def dM(cap:List (Option Nat))(σ:St):St:=cap.map λo=>match o with |none=>none |some j=>(σ[j]?).join
noncomputable def Caps(X:Cx)(scope:Scope):List Str->List (Option Nat)->Prop
 |[],[]=>True
 |_::N',none::cap=>Caps X scope N' cap
 |x::N',some j::cap=>(X.N[j]?=some x/\scope.names.lookup x=some NameKind.free)/\Caps X scope N' cap
 |_,_=>False
theorem Caps.len{X:Cx}{scope:Scope}:∀{N':List Str}{cap:List (Option Nat)},Caps X scope N' cap->cap.length=N'.length
 |[],[],_=>rfl
 |_::N',none::cap,h=>by
  have:=Caps.len (N':=N') (cap:=cap) h;simp[this]
 |_::N',some _::cap,h=>by
  have:=Caps.len (N':=N') (cap:=cap) h.2;simp[this]
 |[],_::_,h=>False.elim h
 |_::_,[],h=>False.elim h
theorem Caps.at{X:Cx}{scope:Scope}:∀{N':List Str}{cap:List (Option Nat)}{i:Nat}{x:Str}{v:V}{σ:St},Caps X scope N' cap->N'[i]?=some x->(dM cap σ)[i]?=some (some v)->
  ∃j:Nat,X.N[j]?=some x/\scope.names.lookup x=some NameKind.free/\σ[j]?=some (some v)
 |[],[],i,x,v,σ,_,e,_=>by simp at e
 |y::N',none::cap,0,x,v,σ,h,e,q=>by simp[dM]at q
 |y::N',some j::cap,0,x,v,σ,h,e,q=>by
  have e1:y=x:=by simpa using e
  subst e1;have q1:(σ[j]?).join=some v:=by simpa [dM] using q
  refine ⟨j,h.1.1,h.1.2,?_⟩;cases z:σ[j]? with
  |none=>rw[z]at q1;cases q1
  |some o=>rw[z]at q1;exact fe some q1
 |y::N',none::cap,i+1,x,v,σ,h,e,q=>Caps.at (N':=N') (cap:=cap) (i:=i) h (by simpa using e) (by simpa [dM] using q)
 |y::N',some _::cap,i+1,x,v,σ,h,e,q=>Caps.at (N':=N') (cap:=cap) (i:=i) h.2 (by simpa using e) (by simpa [dM] using q)
 |[],_::_,_,_,_,_,h,_,_=>False.elim h
 |_::_,[],_,_,_,_,h,_,_=>False.elim h
abbrev tx(l:List Nat):Str:=⟨l.toArray⟩
theorem bQ(l:List Nat):(tx l).length=l.length:=by simp[Str.length]
theorem qz(a b:List Nat):tx a++tx b=tx (a++b):=by show (⟨a.toArray++b.toArray⟩:Str)=⟨(a++b).toArray⟩;simp
theorem BP{a b:List Nat}(h:tx a=tx b):a=b:=by have:=fe (λx:Str=>x.cps.toList) h;simpa using this
theorem vM(x:Str):x=tx x.cps.toList:=by cases x;simp
section
variable {X:Cx}
theorem BR:∀{ys:List Str}{us:List Value},Vals (ys.map V.str) us->StrsAre us ys
 |[],us,r=>by
  rw[eP]at r;cases r;exact .nil
 |y::ys,us,r=>by
  rw[ce]at r;cases r with
  |cons r1 r2=>
   obtain ⟨t,e⟩:=r1;subst e;exact .cons y t (BR r2)
noncomputable def rJoin(K:PF):V->List V->Hp->VK->Prop:=λx vs H Q=>∃z p ys,x=.str z/\vs=[.ref p]/\SqL K H p (ys.map V.str)/\(ys.map (·.length)).sum+ys.length * z.length<=16777216/\Q (.str (Str.join z ys)) H
theorem Xc:MtR X "str.join" (rJoin X.K):=by intro pins s σ H x xs v us Q I rx rs h;obtain ⟨z,p,ys,rfl,rfl,hq,hb,q⟩:=h;obtain ⟨t,rfl⟩:=rx;obtain ⟨u,rfl,ru⟩:=vals1 rs;cases ru;obtain ⟨its,rv,pl,hz⟩:=I.list hq;refine join_list pl.isList (by simpa using BR rv) hb λt' k=>⟨.str _,H,I.tok _,⟨_,rfl⟩,?_⟩;have e:Txt.join z ys=Str.join z ys:=StrLaws.glued_eq_join z ys;rw[e];exact q
noncomputable def Xd(K:PF):List V->Hp->VK->Prop:=λxs H Q=>∃x n t b,xs=[x,.ty n]/\TyOf K H x t/\PySem.W.kitOne K t (.type n)=some b/\Q (.bl b) H
theorem Xe:bH X (.builtin "isinstance") (Xd X.K):=by intro pins s σ H xs us Q I r h;obtain ⟨x,n,t,b,rfl,ty,e,q⟩:=h;obtain ⟨u,w',rfl,rx,ry⟩:=vals2 r;cases ry;exact V2 I rx ty e λtk=>⟨.bl b,H,I.tok _,rfl,q⟩
theorem Xf:bootBuiltins "bool"=some (.type "bool"):=by ac_rfl
theorem BV:bootBuiltins "int"=some (.type "int"):=by ac_rfl
theorem BW:bootBuiltins "str"=some (.type "str"):=by ac_rfl
theorem BX:bootBuiltins "list"=some (.type "list"):=by ac_rfl
theorem BZ:bootBuiltins "isinstance"=some (.builtin "isinstance"):=by ac_rfl
theorem Ca {x:Str} {T:String} {pos:Pos} (hg:Gl X x) (hm:X.mg x=none) (hv:bootBuiltins x=some (.type T)) (hn:x≠"__name__":=by decide) (hd:(x==("__debug__":Str))=false:=by decide):PE X (.Name x pos) (tC (.ty T)):=
 Uc hg hm hv (v:=.ty T) rfl hn hd
theorem Xg:OpR X (binaryOp .Mult) (λx y H Q=>∃i n,x=.str i/\y=.int n/\MulOk i n/\Q (.str (Txt.mul i n)) H):=by intro pins s σ H x y v u Q I rx ry h;obtain ⟨i,n,rfl,rfl,hok,q⟩:=h;obtain ⟨t,rfl⟩:=rx;obtain ⟨t',rfl⟩:=ry;exact SB.mul hok λt' k=>⟨.str _,H,I.tok _,⟨_,rfl⟩,q⟩
end
def vN(X:Cx)(st:List Stmt)(t:TS):Prop:=
 ∀(pins:List (Addr×Obj))(s:Shared)(σ:St)(H:Hp)(D:Ends),1<=s.toks->Inv X pins σ H s->t D σ H->wpAny (model X.prog X.w) X.A (execs st X.env) (SP X pins D) X.xe s
def PE1(X:Cx)(e:Expr)(t:TE):Prop:=
 ∀(pins:List (Addr×Obj))(s:Shared)(σ:St)(H:Hp)(Q:VK),1<=s.toks->Inv X pins σ H s->t σ H Q->wpAny (model X.prog X.w) X.A (eval e X.env) (EP X pins σ Q) X.xe s
theorem Xh{X:Cx}{e:Expr}{te:TE}{pos:Pos}(he:PE1 X e te):vN X [.Return (some e) pos] (Ai te):=by intro pins s σ H D h1 I h;refine fF (wpAny_Return_some (thn (he pins s σ H _ h1 I h) λv s1 ⟨x,H1,I1,r1,q1⟩=>?_));exact ⟨x,σ,H1,I1,r1,q1⟩
theorem vO{c d:Nat}:∀l:List Nat,c∉l->l.map (λa=>if a=c then d else a)=l
 |[],_=>rfl
 |a::r,h=>by
  have h1:a≠c:=λe=>h (by rw[e];exact br);rw[ce,if_neg h1,vO r λz=>h (ba _ z)]
theorem Cd(c d:Nat):∀parts:List Str,(∀p∈parts,c∉p.cps.toList)->(Str.join ⟨#[c]⟩ parts).cps.toList.map (λa=>if a=c then d else a)=(Str.join ⟨#[d]⟩ parts).cps.toList
 |[],_=>rfl
 |[x],h=>by
  simp only[Str.join];exact vO _ (h x br)
 |x::y::r,h=>by
  have ih:=Cd c d (y::r) λp hp=>h p (ba _ hp);have e:∀z:Str,Str.join z (x::y::r)=x++z++Str.join z (y::r):=λz=>by simp only[Str.join]
  have ap:∀u v:Str,(u++v).cps.toList=u.cps.toList++v.cps.toList:=λu v=>by
   show (u.cps++v.cps).toList=_;simp
  rw[e,e,ap,ap,ap,ap,cS,cS,ih,vO _ (h x br)];simp
theorem Xi(l:List Nat)(c d:Nat):Txt.replace (tx l) (tx [c]) (tx [d])=tx (l.map λa=>if a=c then d else a):=by
 have e:(Txt.replace (tx l) ⟨#[c]⟩ ⟨#[d]⟩).cps.toList=l.map λa=>if a=c then d else a:=by rw[StrLaws.replace_one,<-Cd c d _ (StrLaws.split_free (tx l) c),StrLaws.join_split]
 rw[vM (Txt.replace (tx l) (tx [c]) (tx [d]))];exact fe tx e
section
variable {X:Cx}
theorem Xj{o:Expr}{to:TE}{y z:Str}{ky kz:Nat}{py pz apos cpos:Pos}(ho:PE X o to)(hyz:(y==z)=false)
  (hbase:attributeBase o "replace" X.env (eval o X.env)=eval o X.env:=by rfl)
  (hfew:((backTo cpos (starEach [.Constant (.str y) ky py,.Constant (.str z) kz pz] X.env)).all (λx=>!x.1)&&(backToKw cpos (keywordEach [] X.env)).all (λx=>x.1.isSome)
  &&decide (([.Constant (.str y) ky py,.Constant (.str z) kz pz]:List Expr).length+([]:List Keyword).length+(if ([]:List Keyword).isEmpty then 0 else 1) < 30))=true:=by rfl)
  (hline:(apos.endLine==cpos.line)=true:=by rfl):
  PE1 X (.Call (.Attribute o "replace" apos) [.Constant (.str y) ky py,.Constant (.str z) kz pz] [] cpos)
   (λσ H Q=>to σ H λv H1=>∃x,v=.str x/\x.length+(x.length+1) * z.length<=16777216/\Q (.str (Txt.replace x y z)) H1):=by
 intro pins s σ H Q h1 I h;refine wpAny_Call_method_late hbase hfew hline rfl (b9 (wpAny_toks_of (n:=1) h1 (ho pins s σ H _ I h)) (λv s1 h2=>?_) (λ_ _ e=>e.2));obtain ⟨t1,v',H1,I1,r1,x,e,hb,q⟩:=h2;subst e;obtain ⟨t,rfl⟩:=r1;refine ⟨"str","str.replace",F.plainAttrs_str,F.slot_str_replace,F.type_str_replace,typeIs_str _ _ _,(λ_ e=>nomatch e),?_⟩;refine Calls.callWith_builtin (by rfl) (Calls.evalArgs_plain ?_);show wpAny _ _ (spliced [(false,eval (.Constant (.str y) ky py) X.env),(false,eval (.Constant (.str z) kz pz) X.env)]) _ _ s1;refine Calls.spliced_cons (Calls.Constant_str (Calls.spliced_cons (Calls.Constant_str (Calls.spliced_nil ?_))));exact SC.replace (by show @Ne Nat s1.toks 0;omega) (by show @Ne Nat (s1.toks+1) 0;omega) (by show @Ne Nat s1.toks (s1.toks+1);omega) hyz hb λt' k=>⟨.str _,H1,I1.tok _,⟨_,rfl⟩,q⟩
end
theorem Xk{CX:CXT}{P:Program}{w:World}{K:PF}{mg:Str->Option Value}{base:Heap}{k:Nat}{f:Addr}{name qual:Str}{params:Arguments}{body:List Stmt}{scope:Scope}{dV kV doc pm cdv ct oc:Value}{an od:Option Addr}
  {osl:Array (Option Value)} {N:List Str} {x:Str} {sp:Sp} (lk:K.lookup f=some ⟨oc,od,.func (PySem.W.fnOf name qual params body scope dV kV doc pm an cdv ct),osl⟩) (hcd:PySem.W.codeIn K cdv qual=true) (S:FnScope N [x] scope)
  (hx:scope.names.lookup x=some .local) (hnc:∀y∈scope.names,y.2≠NameKind.cell) (hcf:∀n,cellsFrom n scope.names []=[])
  (len:∀vs H Q E,sp vs H Q E->vs.length=[x].length)
  (hbody:∀(A:Around)(outer:List Env)(s:Shared)(H:Hp)(vs:List V)(Q:VK)(E:XK),Room k (A.deeper (envOfC qual scope s.heap.objs.size f cdv))->sp vs H Q E->
   ∃t,vN (cR CX P w K mg base N qual scope f cdv A outer s H E) body t/\t { nx:=λ_ H'=>Q .non H',rt:=Q } (start N vs) H):
  FnOk P w K mg base CX (k+1) f (PySem.W.fnOf name qual params body scope dV kV doc pm an cdv ct) [x] sp:=by
 refine ⟨len,λA outer s H args us vs Q E hr e0 hb r hsp=>?_⟩;have hl:=len _ _ _ _ hsp;have KX:K.In s.heap:=e0.mod.kin.keeps λb o e=>(e0.bs b o e).1;have lim:s.heap.NoLimit:=e0.mod.nolimit.keeps λb o e=>(e0.bs b o e).1;obtain ⟨u,rfl⟩:∃u,us=[u]:=by
  have h2:=r.length;rw[hl]at h2;match us,h2 with
  |[u],_=>exact ⟨u,rfl⟩
 refine codeAny_call_function hr.depth (KX _ _ lk) rfl S.co S.gen rfl (PySem.W.codeRec_of KX hcd) (hb _ _ _ _ ?_);refine wpAny_newFunctionEnv (binds:=[x].zip [u]) hnc (λy hy=>?_) (λh' hns hsb=>?_) S.kind
 ·have e:y=(x,u):=by simpa using hy
  rw[e];exact hx
 have envEq:newEnv scope s.heap.objs.size mainGlobals [] (qual++Str.ofString ".<locals>.") (some f) cdv none builtinsNs=envOfC qual scope s.heap.objs.size f cdv:=by unfold envOfC newEnv;rw[hcf]
 have kp:∀b o,s.heap.get? b=some o->h'.get? b=some o:=λb o e=>hsb.extBut b o (ca (ay e)) (ah _ e);have mEq:bindL (envOfC qual scope s.heap.objs.size f cdv).kindOf ([x].zip [u]) (λ_=>none)=λy=>(([x].zip [u]).reverse).lookup y:=by
  funext y;have hk:(envOfC qual scope s.heap.objs.size f cdv).kindOf x=some .local:=hx;show bindL (envOfC qual scope s.heap.objs.size f cdv).kindOf [(x,u)] (λ_=>none) y=List.lookup y [(x,u)];unfold bindL;rw[if_pos hk];unfold bindL;by_cases hy:y=x
  ·subst hy;simp
  ·have:(y==x)=false:=by simpa using hy
   simp[hy,List.lookup_cons,this]
 have xx:InCallC s s.heap.objs.size (bindL (envOfC qual scope s.heap.objs.size f cdv).kindOf ([x].zip [u]) λ_=>none) (cellsFrom (s.heap.objs.size+1) scope.names []) (bindC (envOfC qual scope s.heap.objs.size f cdv).kindOf ([x].zip [u]) λ_=>none)
   { s with heap:=h',toks:=s.toks+([x].zip [u]).length }:=by
  rw[mEq,hcf];exact ⟨⟨⟨h',_,rfl⟩,hns,kp,aw _⟩,(λn c e=>by simp at e),List.Pairwise.nil,(λn c e=>nomatch e)⟩
 show _/\codeAny (model P w) A (.func body (newEnv scope s.heap.objs.size mainGlobals [] (qual++Str.ofString ".<locals>.") (some f) cdv none builtinsNs)) _ _;rw[envEq];refine ⟨lim.keeps kp,codeAny_func ?_⟩;obtain ⟨t,ht,hq⟩:=hbody A outer s H vs Q E (hr.deeper _) hsp;have I:Inv (cR CX P w K mg base N qual scope f cdv A outer s H E) [] (start N vs) H { s with heap:=h',toks:=s.toks+([x].zip [u]).length }:=Bc S hr.hd e0 hl r xx;refine b9 (ht [] _ (start N vs) H _ (Nat.le_add_left 1 s.toks) I hq) (λfl s' hs=>?_) λe s' hs=>hs;have fin:∀{σ':St}{H':Hp}{v:V}{u:Value},Inv (cR CX P w K mg base N qual scope f cdv A outer s H E) [] σ' H' s'->RelV v u->Q v H'->CE outer P w H s Q u s':=
  λ{σ' H' v u} J rv q=>⟨v,H',J.os,J.bare,J.base,J.hok,rv,q⟩
 cases fl with
 |ret u=>
  obtain ⟨v,σ',H',J,rv,q⟩:=hs;exact fin J rv q
 |next=>
  obtain ⟨σ',H',J,q⟩:=hs;exact fin (v:=V.non) (u:=Value.none) J rfl q
 |brk=>
  obtain ⟨_,_,_,q⟩:=hs;exact False.elim q
 |cont=>
  obtain ⟨_,_,_,q⟩:=hs;exact False.elim q
theorem Fun.ok1{P:Program}{w:World}{K:PF}{mg:Str->Option Value}{base:Heap}{x qual:Str}{st:Stmt}{f:Addr}{fd:FuncData}{N:List Str}{y:Str}{k:Nat}{sp:Sp}(F:Fun K x qual st f fd)(S:FnScope N [y] (aq st))
  (hx:(aq st).names.lookup y=some .local) (hnc:∀z∈(aq st).names,z.2≠NameKind.cell) (hcf:∀n,cellsFrom n (aq st).names []=[]) (len:∀vs H Q E,sp vs H Q E->vs.length=[y].length)
  (hbody:∀(cdv:Value)(A:Around)(outer:List Env)(s:Shared)(H:Hp)(vs:List V)(Q:VK)(E:XK),Room k (A.deeper (envOfC qual (aq st) s.heap.objs.size f cdv))->sp vs H Q E->
   ∃t,vN (cR CX0 P w K mg base N qual (aq st) f cdv A outer s H E) (aF st) t/\t { nx:=λ_ H'=>Q .non H',rt:=Q } (start N vs) H):FnOk P w K mg base CX0 (k+1) f fd [y] sp:=by
 obtain ⟨oc,od,kV,doc,pm,an,cdv,ct,osl,rfl,lk,hcd⟩:=F.ex;exact Xk lk hcd S hx hnc hcf len λA outer s H vs Q E hr hsp=>hbody cdv A outer s H vs Q E hr hsp
open Builtin Builtin.Str
theorem Xl{prog:Program}{w:World}{A:Around}(hh:A.handled=none)(it:Addr)(x:Str)(t:Tok):
  Draws prog w A it [it] x.cps.size (λi v=>∃c u,x.cps[i]?=some c/\v=.str ⟨#[c]⟩ u) (λi h=>h.IsStrIter it (strIterType x) x t i):=by
 unfold strIterType;split
 ·exact Draws.strAscii hh it x t
 ·exact Draws.strWide hh it x t
structure ZApart(z TI TO i1 i2:Addr):Prop where
 TIz:TI≠z
 TOz:TO≠z
 i1z:i1≠z
 i2z:i2≠z
 TITO:TI≠TO
 TIi1:TI≠i1
 TIi2:TI≠i2
 TOi1:TO≠i1
 TOi2:TO≠i2
 i12:i1≠i2
section
variable {X:Cx}
theorem Ce:∀{bs:List Bool}{us:List Value}{i:Nat}{v:Value},Vals (bs.map V.bl) us->us[i]?=some v->∃b,bs[i]?=some b/\v=.bool b
 |[],us,i,v,r,e=>by
  rw[eP]at r;cases r;simp at e
 |b::bs,us,i,v,r,e=>by
  rw[ce]at r;cases r with
  |cons r1 r2=>
   cases i with
   |zero=>
    cases (show _=Value.bool b from r1);exact ⟨b,rfl,by simpa using e.symm⟩
   |succ i=>exact Ce (i:=i) r2 (by simpa using e)
theorem Xm:bootBuiltins "all"=some (.builtin "all"):=by ac_rfl
theorem Xo:bootBuiltins "zip"=some (.type "zip"):=by ac_rfl
theorem all_range(bs:List Bool)(n:Nat)(hn:n=bs.length):((List.range n).all λi=>(bs[i]?).getD true)=bs.all id:=by
 subst hn;rw[Bool.eq_iff_iff,bv,bv];constructor
 ·intro h b hb;obtain ⟨i,hi,e⟩:=List.mem_iff_getElem.mp hb;have:=h i (List.mem_range.mpr hi);rw[bS hi,e]at this;simpa using this
 ·intro h i hi;have hi':=List.mem_range.mp hi;rw[bS hi'];simpa using h _ (ee hi')
theorem Xp (hc:X.calm=true):bH X (.builtin "all") (λxs H Q=>∃(p:Addr) (bs:List Bool),xs=[.ref p]/\SqL X.K H p (bs.map V.bl)/\Q (.bl (bs.all id)) H):=by
 intro pins s σ H xs us Q I r h;obtain ⟨p,bs,rfl,hq,q⟩:=h;obtain ⟨u,rfl,ru⟩:=vals1 r;cases ru;obtain ⟨its,rv,pl,hz⟩:=I.list hq;have hl:=pl.isList;have hlt:p < s.heap.objs.size:=by obtain ⟨_,e,_⟩:=hl;exact ay e
 refine call_all_walk (wpAny_pyIter_list hl ?_);refine ⟨s.heap.objs.size,[s.heap.objs.size,p],[s.heap.objs.size],its.toArray.size,_,_,λi=>(bs[i]?).getD true,rfl,Walks.list (A:=X.A.in1) (I.ok.hd hc) _ p (ca hlt) its.toArray,
  ⟨⟨_,a9 _ rfl,rfl,rfl⟩,hl.push _⟩,λi v s' Q' E' hP hQ=>?_,λh' tk hk=>?_⟩
 ·obtain ⟨b,e,rfl⟩:=Ce rv (i:=i) (v:=v) (by simpa using hP);simp only[e,Option.getD_some]at hQ;exact eh hQ
 ·have e:=all_range bs its.toArray.size (by rw[ar,<-rv.length,al]);rw[e];exact ⟨.bl _,H,I.kept (λb o q=>hk b o (λhm=>by rw[bg.mp hm]at q;exact en _ (ay q)) (ah _ q)),rfl,q⟩
theorem Xq:OpR X (compareOp .Is) (λx y H Q=>∃i j,x=.bl i/\y=.bl j/\Q (.bl (i==j)) H):=by intro pins s σ H x y v u Q I rx ry h;obtain ⟨i,j,rfl,rfl,q⟩:=h;cases rx;cases ry;exact is_bool ⟨.bl _,H,I,rfl,q⟩
theorem Xr:bH X (.type "int") (λxs H Q=>∃z n,xs=[.str z]/\PySem.intText? z=some n/\z.length<=640/\Q (.int n) H):=by intro pins s σ H xs us Q I r h;obtain ⟨z,n,rfl,hn,hl,q⟩:=h;obtain ⟨u,rfl,t,rfl⟩:=vals1 r;exact PySem.W.KIN.call_text hn hl ⟨.int n,H,I.tok _,⟨_,rfl⟩,q⟩
noncomputable def Xu:V->Option Int->Option Int->Hp->VK->Prop:=λx lo hi H Q=>∃z,x=.str z/\z.length<=sizeLine/\Q (.str (Txt.slice z lo hi)) H
theorem Xv:SlR X Xu:=by
 intro pins s σ H x v vl vu lo hi sl Q I rx hs pl pu h;obtain ⟨z,rfl,hz,q⟩:=h;obtain ⟨t,rfl⟩:=rx;refine ⟨"str",_,slot_str_getitem.lookup,typeIs_str _ _ _,?_⟩;obtain ⟨l,el,e1⟩:∃l:Option (Int×Tok),vl=partValue l/\l.map (·.1)=lo:=by
  cases pl with
  |none=>exact ⟨none,rfl,rfl⟩
  |int i t=>exact ⟨some (i,t),rfl,rfl⟩
 obtain ⟨u,eu,e2⟩:∃u:Option (Int×Tok),vu=partValue u/\u.map (·.1)=hi:=by
  cases pu with
  |none=>exact ⟨none,rfl,rfl⟩
  |int i t=>exact ⟨some (i,t),rfl,rfl⟩
 subst el eu e1 e2;refine wpAny_getItem_str_slice (l:=l) (u:=u) (st:=none) hs rfl ?_;unfold sliceMade;unfold Txt.slice at q;show (if ((1:Int)==1&&(slicePicked z l u none).length==z.length)=true then Made.val (.str z t) else Made.str ⟨((slicePicked z l u none).filterMap (z.cps[·]?)).toArray⟩).post _ _;have ep:slicePicked z l u none=Builtin.Str.strSliceIndices (l.map (·.1)) (u.map (·.1)) 1 z.length:=rfl;rw[ep];by_cases hc:((1:Int)==1&&(Builtin.Str.strSliceIndices (l.map (·.1)) (u.map (·.1)) 1 z.length).length==z.length)=true
 ·rw[if_pos hc]at q ⊢;exact ⟨.str z,H,I,⟨t,rfl⟩,q⟩
 ·rw[if_neg hc]at q ⊢;refine ⟨?_,⟨.str _,H,I.tok _,⟨_,rfl⟩,q⟩⟩;show (List.filterMap _ _).toArray.size<=sizeLine;rw[ar];have h1:=sliceIndices_le (l.map (·.1)) (u.map (·.1)) z.length;have h2:=List.length_filterMap_le (λx=>z.cps[x]?) (Builtin.Str.strSliceIndices (l.map (·.1)) (u.map (·.1)) 1 z.length);omega
end
section
variable {X:Cx}
theorem Xw:OpR X (compareOp .IsNot) (λx y H Q=>∃i j,x=.bl i/\y=.bl j/\Q (.bl (i != j)) H):=by intro pins s σ H x y v u Q I rx ry h;obtain ⟨i,j,rfl,rfl,q⟩:=h;cases rx;cases ry;exact isnot_bool ⟨.bl _,H,I,rfl,q⟩
end
def noStar:Expr->Bool
 |.Starred ..=>false
 |_=>true
theorem bK(e:Expr)(es:List Expr)(env:Env)(h:noStar e=true):starEach (e::es) env=(false,eval e env)::starEach es env:=by cases e <;> first |rfl |cases h
section
variable {prog:Program} {w:World} {A:Around} {E:Value->Shared->Prop} {s:Shared}
def rIt (a n c:Int):Obj:={ cls:=.type "range_iterator",data:=.fields #[rawInt a,rawInt n,rawInt c] }
theorem Xx{r:Addr}{n:Int}{t u v:Tok}{Q:Value->Shared->Prop}(hr:IsRange s.heap r 0 n 1 t u v)(h1:-(2 ^ 62)<=n)(h2:n < 2 ^ 62)
  (h:Q (.ref s.heap.objs.size) { s with heap:=s.heap.push (rIt (0+(Builtin.Range.rangeSize 0 n 1 - 1) * 1) (Builtin.Range.rangeSize 0 n 1) (-1)) }):wpAny (model prog w) A (call (.builtin "range.__reversed__") [.ref r]) Q E s:=by
 have hT:s.TypeIs (.ref r) "range":=⟨_,hr,rfl⟩;refine fI F.slot_range_reversed hT F.entry_range_reversed ?_ (F.args_range_reversed_1 _);have hsm:(Builtin.Range.rangeFitsLong 0&&Builtin.Range.rangeFitsLong n&&Builtin.Range.rangeFitsLong 1&&Builtin.Range.rangeFitsLong (-1)&&Builtin.Range.rangeFitsLong (0 - 1)&&Builtin.Range.rangeFitsLong (Builtin.Range.rangeSize 0 n 1))=true:=by rw[rangeSize_one];simp only[Builtin.Range.rangeFitsLong,ae,cp,decide_eq_true_eq,av];split <;> omega
 obtain ⟨hp,g,d,tk,os⟩:=s;wp_walk using wpAny_loadPart' hr
 rw[if_neg (by rw[hsm];decide)];simp only[hsm,if_true];wp_walk
 exact ⟨_,rfl,h⟩
theorem Xy{r:Addr}{n:Int}{t u v:Tok}{Q₁:Value->Shared->Prop}(hr:IsRange s.heap r 0 n 1 t u v)(h1:-(2 ^ 62)<=n)(h2:n < 2 ^ 62)
  (h:Q₁ (.ref s.heap.objs.size) { s with heap:=s.heap.push (rIt (0+(Builtin.Range.rangeSize 0 n 1 - 1) * 1) (Builtin.Range.rangeSize 0 n 1) (-1)) }):
  codeAny (model prog w) A (.call (.builtin "reversed.__new__") ⟨[.type "reversed",.ref r],[]⟩) (wants Q₁ E) s:=by
 have hT:s.TypeIs (.ref r) "range":=⟨_,hr,rfl⟩;refine codeAny_of_tree ?_;show wpAny _ A.in1 (do checkBuiltinCall "reversed.__new__" ⟨[.type "reversed",.ref r],[]⟩;again (.builtin "reversed.__new__" ⟨[.type "reversed",.ref r],[]⟩)) _ _ s;refine ag (wpAny_of_eq (F.newCall_reversed_1 _) (aS ⟨plainId_quiet F.plain_reversed_new _,codeAny_builtin F.entry_reversed_new ?_⟩));rw[Around.under_plainId F.plain_reversed_new _];unfold Builtin.«reversed.__new__»;refine ag (wpAny_of_eq (newClass_reversed _) ?_);try dsimp only
 refine ag (wpAny_of_eq (a:=()) (by first |rfl |rfl') ?_);refine ag (wpAny_of_eq (a:=()) (by first |rfl |rfl') ?_);try dsimp only
 refine ag (wpAny_specialOf hT F.slot_range_reversed.lookup ?_);try dsimp only
 refine ag (wpAny_of_eq (F.slot_range_reversed.bind _) ?_);try dsimp only
 first
 |rw[if_neg (show ¬((Value.builtin "range.__reversed__"==Value.none)=true) from bi)]
 | (show wpAny _ _ (if (Value.builtin "range.__reversed__"==Value.none)=true then _ else _) _ _ _;rw[if_neg (show ¬((Value.builtin "range.__reversed__"==Value.none)=true) from bi)])
 refine ag (fx ?_);refine ag (m:=runValue (.call (.builtin "range.__reversed__") ⟨[.ref r],[]⟩)) (show wpAny _ _ (call (.builtin "range.__reversed__") [.ref r]) _ _ _ from Xx hr h1 h2 ?_);first
 |exact aS h
 |exact ag (aS (aS h))
theorem Xz{r:Addr}{n:Int}{t u v:Tok}{Q:Value->Shared->Prop}(hr:IsRange s.heap r 0 n 1 t u v)(h1:-(2 ^ 62)<=n)(h2:n < 2 ^ 62)
  (h:Q (.ref s.heap.objs.size) { s with heap:=s.heap.push (rIt (0+(Builtin.Range.rangeSize 0 n 1 - 1) * 1) (Builtin.Range.rangeSize 0 n 1) (-1)) }):wpAny (model prog w) A (call (.type "reversed") [.ref r]) Q E s:=by
 refine callType_other (U:="range_iterator") (Q₁:=λobj s₁=>obj=.ref s.heap.objs.size/\s₁={ s with heap:=s.heap.push (rIt (0+(Builtin.Range.rangeSize 0 n 1 - 1) * 1) (Builtin.Range.rangeSize 0 n 1) (-1)) }) (by ac_rfl) F.create_reversed ⟨_,_,F.mro_reversed⟩ F.made_reversed (by rw[isSubtype_type];rfl') (F.typeCall_reversed_1 _) (Xy hr h1 h2 ⟨rfl,rfl⟩) ?_;rintro obj s₁ ⟨rfl,rfl⟩;exact ⟨⟨_,a9 _ rfl,rfl⟩,h⟩
end
def Itd(lo:Int)(n:Nat):It:=⟨λi _=>i < n,λi H x H'=>H'=H/\x=.int (lo - i),λi _=>n<=i⟩
theorem XC{P:Program}{w:World}{K:PF}{tg:Expr}(it:Addr)(lo:Int)(n:Nat):Turn P w K tg (Itd lo n) [it] it (λi h=>IsRangeIter h it (lo+(i:Nat) * (-1)) ((n:Int) - (i:Nat)) (-1)) where
 mem:=by simp
 obj:=λi h st b hb=>by
  have e:b=it:=by simpa using hb
  subst e;exact ⟨_,st,λv z=>by
   have z':Data.fields _=Data.cell v:=z;cases z'⟩
 keep:=λi h h' st k=>k it (by simp) _ st
 item:=by intro X hP hw hK hc i pins s σ H E I hf st hg;subst hP hw hK;obtain ⟨f0,f1,f2,f3,f4,f5⟩:=hf it (by simp);have W:=Walks.range (prog:=X.prog) (w:=X.w) (I.ok.hd hc) it lo (-1) n;refine W.item i s _ _ hg st λv h' tk hv st' kk=>?_;obtain ⟨t,rfl⟩:=hv;have I1:Inv X pins σ H { s with heap:=h',toks:=tk }:=I.turned (λb o hb e=>kk b o (by simpa using hb) e) f0 f1 f3 f4 f5;refine ⟨_,rfl,lw (s:={ s with heap:=h',toks:=tk }) (n:="range_iterator") st' rfl rfl (by decide) ⟨.int (lo - i),H,I1,⟨t,?_⟩,⟨rfl,rfl⟩,st',λb hb=>(hf b hb).1⟩⟩;rw[show lo+(i:Int) * (-1)=lo - i by omega]
 done:=by intro X hP hw hK hc i pins s σ H E I hf st hg;subst hP hw hK;obtain ⟨f0,f1,f2,f3,f4,f5⟩:=hf it (by simp);exact wpAny_pyNext_range_end (I.ok.hd hc) st (by have:n<=i:=hg;omega) λh' eb=>⟨rfl,I.turned (t':=s.toks) (λb o hb e=>eb b o hb e) f0 f1 f3 f4 f5⟩
 self:=λ_ _ _ _ _ st h=>wpAny_pyIter_rangeiter st h
section
variable {X:Cx} {tg:Expr}
theorem XD(j:Int):Builtin.Range.rangeSize 0 j 1=(j.toNat:Int):=by rw[rangeSize_one];split <;> omega
theorem XF:bootBuiltins "reversed"=some (.type "reversed"):=by ac_rfl
def XH(ta:TA):TI:=λσ H R=>ta σ H λvs H1=>∃j:Int,vs=[.int j]/\-(2 ^ 62)<=j/\j < 2 ^ 62/\R (Itd ((j.toNat:Int) - 1) j.toNat) H1
theorem XJ {a:Expr} {ta:TA} {p q pos pos':Pos} (hgR:Gl X "reversed") (hmR:X.mg "reversed"=none) (hg:Gl X "range") (hm:X.mg "range"=none) (ha:PA X [a] ta) (hs:starEach [a] X.env=[(false,eval a X.env)]:=by rfl):
  PI X tg (.Call (.Name "reversed" q) [.Call (.Name "range" p) [a] [] pos] [] pos') (XH ta):=by
 intro pins s σ H R I h;refine Call_ (fU I hgR hmR XF (cw (?_) rfl rfl));show wpAny _ _ (spliced ((false,eval (.Call (.Name "range" p) [a] [] pos) X.env)::[])) _ _ s;refine Calls.spliced_cons (Call_ (fU I hg hm boot_range (cw (thn (ha pos pins s σ H _ I h) λus s1 ⟨vs,H1,I1,r1,q1⟩=>?_) hs rfl)));obtain ⟨j,e,q1,q2,qq⟩:=q1;subst e;cases r1 with
 |cons r rr=>
  cases rr;obtain ⟨t,rfl⟩:=r;refine call_range_1 (Calls.spliced_nil (Xz (IsRange.new ..) q1 q2 ?_));rw[XD];have I2:Inv X pins σ H1 { s1 with heap:=s1.heap.push { cls:=Value.type "range",data:=Data.fields #[Value.int 0 s1.toks,Value.int j t,Value.int 1 (s1.toks+1)] },toks:=s1.toks+1+1 }:=I1.kept λb o e=>ah _ e;generalize s1.heap.push { cls:=Value.type "range",data:=Data.fields #[Value.int 0 s1.toks,Value.int j t,Value.int 1 (s1.toks+1)] }=hp1 at I2 ⊢;have st:IsRangeIter (hp1.push (rIt (0+((j.toNat:Int) - 1) * 1) j.toNat (-1))) hp1.objs.size (0+((j.toNat:Int) - 1) * 1) j.toNat (-1):=a9 _ rfl;refine wpAny_pyIter_rangeiter (s:={ s1 with heap:=hp1.push (rIt (0+((j.toNat:Int) - 1) * 1) j.toNat (-1)),toks:=s1.toks+1+1 }) st ?_;refine ⟨hp1.objs.size,[hp1.objs.size],_,_,H1,rfl,I2.kept (t':=s1.toks+1+1) λb o e=>ah _ e,XC _ ((j.toNat:Int) - 1) j.toNat,?_,λb hb=>?_,qq⟩
  ·show IsRangeIter _ _ (((j.toNat:Int) - 1)+((0:Nat):Int) * (-1)) ((j.toNat:Int) - ((0:Nat):Int)) (-1);rw[show ((j.toNat:Int) - 1)+((0:Nat):Int) * (-1)=0+((j.toNat:Int) - 1) * 1 by omega,show (j.toNat:Int) - ((0:Nat):Int)=j.toNat by omega];exact st
  ·have e:b=hp1.objs.size:=by simpa using hb
   subst e;exact I2.fpOk (aw _) (I2.hok.fresh (aw _))
end
variable {X:Cx} {e st:Expr} {te ts:TE} {p2 pos:Pos}
noncomputable def holes(h:Heap)(l:List Addr):Heap:={ h with objs:=h.objs.mapIdx λi o=>if l.contains i then { o with data:=.freed } else o }
theorem Cg{h:Heap}{l:List Addr}{b:Addr}:(holes h l).get? b=if l.contains b then none else h.get? b:=by
 unfold holes Heap.get?;simp only[Array.getElem?_mapIdx];cases hb:h.objs[b]? with
 |none=>simp
 |some o=>
  cases hc:l.contains b with
  |true=>simp[hc]
  |false=>simp[hc]
theorem gH{h:Heap}{l:List Addr}{b:Addr}(hb:b∈l):(holes h l).get? b=none:=by rw[Cg,a7.mpr hb];rfl
theorem vP{h:Heap}{l:List Addr}{b:Addr}(hb:b∉l):(holes h l).get? b=h.get? b:=by
 rw[Cg];cases hc:l.contains b with
 |true=>exact absurd (a7.mp hc) hb
 |false=>rfl
theorem qC{h:Heap}{l:List Addr}:(holes h l).StaysIn h:=λb o e=>by
 by_cases hb:b∈l
 ·rw[gH hb]at e;cases e
 ·rw[vP hb]at e;exact e
theorem ObjOk.at{P:Program}{w:World}{H:Hp}{h:Heap}{a:Addr}{o:HO}(x:ObjOk P w H h a o):∃u,h.get? a=some u:=by
 cases o with
 |lst xs=>obtain ⟨_,_,_,_,e⟩:=x;exact ⟨_,e⟩
 |tup xs=>obtain ⟨_,_,_,o,e,_⟩:=x;exact ⟨_,e⟩
 |dK kvs=>obtain ⟨_,_,_,_,o,_,_,e,_⟩:=x;exact ⟨_,e⟩
 |dT kvs=>obtain ⟨_,_,_,_,o,_,_,e,_⟩:=x;exact ⟨_,e⟩
 |set S n=>obtain ⟨o,_,_,_,e,_⟩:=x;exact ⟨_,e⟩
 |ins C dx fs=>obtain ⟨_,_,_,e,_⟩:=x;exact ⟨_,e⟩
 |own y=>exact x
 |xd fs=>obtain ⟨_,⟨_,_,_,e,_⟩,_⟩:=x;exact ⟨_,e⟩
 |rng lo hi=>obtain ⟨_,_,_,e⟩:=x;exact ⟨_,e⟩
 |frz ob u=>obtain ⟨e,_⟩:=x;exact ⟨_,e⟩
 |tbl ps=>exact ⟨_,(show h.get? a=some _ from x)⟩
 |met f y=>exact ⟨_,(show h.get? a=some _ from x)⟩
 |ext φ=>obtain ⟨_,e,_⟩:=x;exact e
theorem HOk.gone{P:Program}{w:World}{H:Hp}{h:Heap}{a:Addr}(x:HOk P w H h)(e:h.get? a=none):H a=none:=by
 cases q:H a with
 |none=>rfl
 |some u=>obtain ⟨o,ho⟩:=(x a u q).at;rw[ho]at e;cases e
theorem vQ{h base:Heap}:∀{l:List Env},h.FunFrames base l->∀b∈frs l,∃o,h.get? b=some o/\∀vs,o.data≠.fields vs
 |[],_,b,hb=>by cases hb
 |env::l,hf,b,hb=>by
  unfold Heap.FunFrames at hf;obtain ⟨_,⟨L,o,e1,_,e3,e4⟩,hr⟩:=hf;unfold frs at hb;rw[fv,e1]at hb;rcases bo.mp hb with rfl |hb
  ·exact ⟨o,e3,e4⟩
  ·exact vQ hr b hb
theorem lB{h base:Heap}{x:List Addr}:∀{l:List Env},h.FunFrames base l->(∀b∈frs l,b∈x)->h.FunFrames (holes h x) l
 |[],_,_=>by unfold Heap.FunFrames;trivial
 |env::l,hf,hx=>by
  unfold Heap.FunFrames at hf ⊢;obtain ⟨h1,⟨L,o,e1,_,e3,e4⟩,hr⟩:=hf;have hL:L∈frs (env::l):=by unfold frs;rw[fv,e1];exact br
  refine ⟨h1,⟨L,o,e1,gH (hx L hL),e3,e4⟩,lB hr λb hb=>hx b ?_⟩;unfold frs at hb ⊢;rw[fv,e1];exact ba _ hb
theorem vR{h base:Heap}{env:Env}{l:List Env}(hf:h.FunFrames base (env::l)):∃L,env.frame=some L:=by unfold Heap.FunFrames at hf;obtain ⟨_,⟨L,o,e1,_⟩,_⟩:=hf;exact ⟨L,e1⟩
def Tr(h0:Heap)(H:Hp)(h:Heap)(a:Addr)(c:Value):Prop:=
 ∃oe vs T oT ts,h.get? a=some oe/\oe.cls=c/\oe.data=.fields vs/\vs[1]?=some (.ref T)/\T≠a/\h.get? T=some oT/\oT.data=.fields ts/\ts[3]?=some .none/\
  h0.get? a=none/\h0.get? T=none/\H a=none/\H T=none
def CX1(P:Program)(w:World):CXT:=λouter H s E e s'=>
 ∃(a:Addr)(c:Value)(H':Hp),e=.ref a/\s'.os=s.os/\AllBare s'.gens/\Un (frs outer) [] H H' s.heap s'.heap/\HOk P w H' s'.heap/\Tr s.heap H' s'.heap a c/\E c none H'
theorem Ci{P:Program}{w:World}{fs st:List Addr}{H0 H:Hp}{h0 h h':Heap}{l:List Env}{a:Addr}{xs:List Addr}{c:Value}(un:Un fs [] H0 H h0 h)(hok:HOk P w H h)
  (up:∀b∈fs,b∈st) (old:∀b o,h0.get? b=some o->b∉fs->b∉st) (fr:∀b∈st,H b=none/\∃o,h.get? b=some o/\∀vs,o.data≠.fields vs)
  (ha:h0.get? a=none) (hHa:H a=none) (hxs:∀x∈xs,h0.get? x=none/\H x=none)
  (L:(holes h (st++a::xs)).Left l a c h h'):Un fs [] H0 H h0 h'/\HOk P w H h'/\Tr h0 H h' a c:=by
 obtain ⟨stay,_,tr,slots⟩:=L;have old:∀b o,h0.get? b=some o->b∉fs->b∉st++a::xs:=by
  intro b o hb hf hin;rcases bn.mp hin with hin |hin
  ·exact old b o hb hf hin
  ·rcases bo.mp hin with e |e
   ·rw[e,ha]at hb;cases hb
   ·rw[(hxs b e).1]at hb;cases hb
 have kept:∀b o,h.get? b=some o->b∉st++a::xs->h'.get? b=some o:=λb o e hn=>stay b o (by rw[vP hn];exact e);have trk:∀b o,H b=some o->b∉st++a::xs:=by
  intro b o hb hin;rcases bn.mp hin with hin |hin
  ·rw[(fr b hin).1]at hb;cases hb
  ·rcases bo.mp hin with e |e
   ·rw[e,hHa]at hb;cases hb
   ·rw[(hxs b e).2]at hb;cases hb
 have noex:∀b:Addr,b∉([]:List Addr):=λb hb=>by cases hb
 have frd:∀b∈st,∀o,h.get? b=some o->∀vs,o.data≠.fields vs:=by intro b hb o ho vs;obtain ⟨_,o',e1,e2⟩:=fr b hb;rw[e1]at ho;cases ho;exact e2 vs
 refine ⟨⟨?_,?_,?_,?_,un.tups,un.frzs,un.tbls⟩,?_,?_⟩
 ·intro b o hb hn hf _;exact kept b o (un.keep b o hb hn hf (noex b)) (old b o hb hf)
 ·intro b o hb hn hf _;obtain ⟨sl,e⟩:=un.slot b o hb hn hf (noex b);obtain ⟨sl',e'⟩:=slots b _ e (frd b (up b hf) _ e);exact ⟨sl',e'⟩
 ·intro b o hb hn _;exact un.free b o hb hn (noex b)
 ·intro b o hb _;obtain ⟨o',e⟩:=un.there b o hb (noex b);by_cases hin:b∈st++a::xs
  ·rcases bn.mp hin with h1 |h1
   ·obtain ⟨sl',e'⟩:=slots b _ e (frd b h1 _ e);exact ⟨_,e'⟩
   ·rcases bo.mp h1 with e2 |e2
    ·rw[e2,ha]at hb;cases hb
    ·rw[(hxs b e2).1]at hb;cases hb
  ·exact ⟨_,kept b o' e hin⟩
 ·intro b o hb;refine (hok b o hb).stay (λb' u hb' e=>kept b' u e ?_) (λ_ z=>z) λ_ _ z=>z;rcases hb' with rfl |hb'
  ·exact trk _ _ hb
  ·exact trk _ _ hb'
 ·obtain ⟨oe,vs,T,oT,ts,t1,t2,t3,t4,t5,t6,t7,t8,t9⟩:=tr;have hT:T∈xs\/h.get? T=none:=by
   by_cases hin:T∈st++a::xs
   ·rcases bn.mp hin with h1 |h1
    ·exfalso;obtain ⟨_,o,e1,e2⟩:=fr T h1;obtain ⟨sl,e3⟩:=slots T o e1 e2;rw[e3]at t7;cases t7;exact e2 ts t8
    ·rcases bo.mp h1 with e2 |e2
     ·exact absurd e2 t6
     ·exact .inl e2
   ·rw[vP hin]at t5;exact .inr t5
  refine ⟨oe,vs,T,oT,ts,t1,t2,t3,t4,t6,t7,t8,t9,ha,?_,hHa,?_⟩
  ·rcases hT with h1 |h1
   ·exact (hxs T h1).1
   ·cases e:h0.get? T with
    |none=>rfl
    |some o=>obtain ⟨o',e'⟩:=un.there T o e (noex T);rw[e']at h1;cases h1
  ·rcases hT with h1 |h1
   ·exact (hxs T h1).2
   ·exact hok.gone h1
section
variable {X:Cx} {pins:List (Addr×Obj)} {σ:St} {H:Hp} {s:Shared}
theorem Cj(J:Inv X pins σ H s)(hst:X.stack=X.env::X.outer)(hex:X.ex=[]){a:Addr}{xs:List Addr}{c:Value}{E:XK}
  (ha:X.s₀.heap.get? a=none) (hHa:H a=none) (hxs:∀x∈xs,X.s₀.heap.get? x=none/\H x=none)
  {h':Heap} (L:(holes s.heap (frs X.stack++a::xs)).Left (X.env::X.outer) a c s.heap h') (q:E c none H):
  CX1 X.prog X.w X.outer X.H₀ X.s₀ E (.ref a) { s with heap:=h' }:=by
 have sub:=J.stkSub;have hb0:=J.base;rw[hex]at hb0;have up:∀b∈X.fs,b∈frs X.stack:=by
  intro b hb;rw[hst];unfold Cx.fs at hb;unfold frs at hb ⊢;rw[fv];split
  ·exact hb
  ·exact ba _ hb
 have old:∀b o,X.s₀.heap.get? b=some o->b∉X.fs->b∉frs X.stack:=by
  intro b o hb hf hin;rcases bo.mp (sub b hin) with e |e
  ·have h1:=ay hb;have h2:=J.ok.above;rw[e]at h1;exact absurd h1 (Nat.not_lt.mpr h2)
  ·exact hf e
 obtain ⟨u,k,t⟩:=Ci hb0 J.hok up old (λb hb=>⟨J.stkFree b hb,vQ J.stack b hb⟩) ha hHa hxs L;exact ⟨a,c,H,rfl,J.os,J.bare,u,k,t,q⟩
theorem XM(J:Inv X pins σ H s)(hst:X.stack=X.env::X.outer)(hex:X.ex=[]){a:Addr}{c:Value}{E:XK}(t:Tr X.s₀.heap H s.heap a c)(q:E c none H){E':Value->Shared->Prop}:
  wpAny (model X.prog X.w) X.A (leaving X.env (.ref a)) (λ_ s''=>CX1 X.prog X.w X.outer X.H₀ X.s₀ E (.ref a) s'') E' s:=by
 obtain ⟨oe,vs,T,oT,ts,t1,t2,t3,t4,t6,t7,t8,t9,n1,n2,n3,n4⟩:=t;have hfr:=J.stack;rw[hst]at hfr;obtain ⟨L,hL⟩:=vR hfr;have sub:∀b∈frs (X.env::X.outer),b∈frs X.stack++a::[T]:=λb hb=>by rw[hst];exact cK _ hb
 refine wpAny_leaving_next (base:=holes s.heap (frs X.stack++a::[T])) (cls:=c) (by rw[J.ok.frames,hst]) (lB hfr sub) hL ?_ qC (gH (by simp)) λh' hl=>?_
 ·exact ⟨oe,vs,T,oT,ts,t1,t2,t3,t4,gH (by simp),t6,t7,t8,t9⟩
 ·exact Cj J hst hex n1 n3 (λx hx=>by rw[bg.mp hx];exact ⟨n2,n4⟩) hl q
theorem XN{h':Heap}(I:Inv X pins σ H s)(hst:X.stack=X.env::X.outer)(hex:X.ex=[]){a:Addr}{c:Value}{args:List Value}{E:XK}(m:s.heap.MadeExcOf h' a c args)(q:E c none H){E':Value->Shared->Prop}:
  wpAny (model X.prog X.w) X.A (leaving X.env (.ref a)) (λ_ s''=>CX1 X.prog X.w X.outer X.H₀ X.s₀ E (.ref a) s'') E' { s with heap:=h' }:=by
 have J:Inv X pins σ H { s with heap:=h' }:=I.kept (t':=s.toks) m.keeps;have hfr:=J.stack;rw[hst]at hfr;obtain ⟨L,hL⟩:=vR hfr;have sub:∀b∈frs (X.env::X.outer),b∈frs X.stack++a::[]:=λb hb=>by rw[hst];exact cK _ hb
 obtain ⟨t,e,_,_⟩:=m.there;have n1:X.s₀.heap.get? a=none:=by
  cases e:X.s₀.heap.get? a with
  |none=>rfl
  |some o=>
   obtain ⟨o',e'⟩:=I.base.there a o e (by rw[hex];simp);rw[m.new]at e';cases e'
 refine wpAny_leaving_first (base:=holes h' (frs X.stack++a::[])) (by rw[J.ok.frames,hst]) (lB hfr sub) hL e qC (gH (by simp)) rfl rfl λh'' hl=>?_;exact Cj J hst hex n1 (I.hok.gone m.new) (λx hx=>by cases hx) hl q
theorem XQ{E:XK}(hst:X.stack=X.env::X.outer)(hex:X.ex=[])(hxe:∀e s',wpAny (model X.prog X.w) X.A (leaving X.env e) (λ_ s''=>CX1 X.prog X.w X.outer X.H₀ X.s₀ E e s'') (λe' s''=>CX1 X.prog X.w X.outer X.H₀ X.s₀ E e' s'') s'->X.xe e s'):
  jA (CX1 X.prog X.w) X E:=by
 intro pins σ H s e s' I h;obtain ⟨a,c,H',rfl,ho,hg,un,hok,tr,q⟩:=h;have J:Inv X pins σ H' s':=I.call' (ch:=[]) ho un hok hg (λb z=>absurd z (by simp));refine hxe _ _ (XM J hst hex ?_ q);obtain ⟨oe,vs,T,oT,ts,t1,t2,t3,t4,t6,t7,t8,t9,n1,n2,n3,n4⟩:=tr;have old:∀b,s.heap.get? b=none->X.s₀.heap.get? b=none:=λb hb=>by
  cases e:X.s₀.heap.get? b with
  |none=>rfl
  |some o=>
   obtain ⟨o',e'⟩:=I.base.there b o e (by rw[hex];simp);rw[hb]at e';cases e'
 exact ⟨oe,vs,T,oT,ts,t1,t2,t3,t4,t6,t7,t8,t9,old a n1,old T n2,n3,n4⟩
theorem Ck{P:Program}{w:World}(Y:Cx):jA (CX1 P w) Y λ_ _ _=>False:=λ_ _ _ _ _ _ _ h=>by
 obtain ⟨_,_,_,_,_,_,_,_,_,q⟩:=h;exact q.elim
end
abbrev veM:List Value:=[.type "ValueError",.type "Exception",.type "BaseException",.type "object"]
noncomputable def vU:List Value->Bool
 |[.type a,.type b,.type c,.type d]=>a=="ValueError"&&b=="Exception"&&c=="BaseException"&&d=="object"
 |_=>false
theorem XS{l:List Value}(h:vU l=true):l=veM:=by
 unfold vU at h;split at h
 ·simp only[ae,av]at h;obtain ⟨⟨⟨rfl,rfl⟩,rfl⟩,rfl⟩:=h;rfl
 ·cases h
def Cm:Value->Bool
 |.str _ _=>true
 |_=>false
noncomputable def nsB(K:PF)(N:Addr):Bool:=match K.lookup N with
 |some ⟨_,_,.dict es _,_⟩=>es.toList.all (λe=>Cm e.key)&&quietNames.all λn=>(nsFind es n).isNone
 |_=>false
theorem Cp{K:PF}{N:Addr}{h:Heap}(KX:K.In h)(b:nsB K N=true):∃m,h.Ns N m/\∀n∈quietNames,m n=none:=by
 unfold nsB at b;split at b
 ·rename_i c d es ep sl e;rw[ae,bv,bv]at b;refine ⟨nsFind es,⟨_,es,ep,KX _ _ e,rfl,λx hx=>?_,λ_=>rfl⟩,λn hn=>by simpa using b.2 n hn⟩;have:=b.1 x (Array.mem_toList_iff.mpr hx);unfold Cm at this;split at this
  ·rename_i y t e;exact ⟨_,_,e⟩
  ·cases this
 ·cases b
noncomputable def Cq(K:PF)(A:Addr):Bool:=match K.lookup A with
 |some ⟨_,_,.cls cd,_⟩=>nsB K cd.ns
 |_=>false
noncomputable def qD(K:PF):List Value->Bool
 |[]=>false
 |v::tl=>(match v with |.ref A=>Cq K A&&qD K tl |_=>vU (v::tl))
theorem Cr{K:PF}{h:Heap}(KX:K.In h):∀{l:List Value},qD K l=true->OwnTailQ h veM l
 |[],b=>by cases b
 |v::tl,b=>by
  unfold qD at b;split at b
  ·rename_i A;rw[ae]at b;have b1:=b.1;unfold Cq at b1;split at b1
   ·rename_i c d cd sl e;obtain ⟨m,hm,hq⟩:=Cp KX b1;exact .own (KX _ _ e) hm hq (Cr KX b.2)
   ·cases b1
  ·rw[XS b];exact .base
def isRef(C:Addr):Value->Bool
 |.ref a=>a==C
 |_=>false
def isNew:Option Value->Bool
 |some (.builtin s)=>s=="ValueError.__new__"
 |_=>false
def Cu:Value->Bool
 |.type s=>s=="type"
 |_=>false
noncomputable def iC(K:PF)(C:Addr):Bool:=match K.lookup C with
 |some ⟨ty,_,.cls cd,⟨[_,_,_,_,k,_]⟩⟩=>Cu ty&&isNew k&&nsB K cd.ns&&!cd.hasDel&&(match cd.mro with |v::tl=>isRef C v&&qD K tl |[]=>false)
 |_=>false
theorem XX {K:PF} {C:Addr} {h:Heap} {mg:Str->Option Value} {x:Str} (KX:K.In h) (b:iC K C=true) (hm:mg x=some (.ref C)):OwnClsQ x C veM "ValueError.__new__" mg h:=by
 unfold iC at b;split at b
 ·rename_i ty dd cd k0 k1 k2 k3 k k5 e;simp only[ae]at b;obtain ⟨⟨⟨⟨b1,b2⟩,b3⟩,b5⟩,b4⟩:=b;obtain ⟨m,hns,hq⟩:=Cp KX b3;have e1:ty=.type "type":=by
   unfold Cu at b1;split at b1
   ·rw[av]at b1;rw[b1]
   ·cases b1
  have e2:k=some (.builtin "ValueError.__new__"):=by
   unfold isNew at b2;split at b2
   ·rw[av]at b2;rw[b2]
   ·cases b2
  obtain ⟨nm,bs,mro,ns,q,hd,sn,sub,ab,col,del⟩:=cd;dsimp only at b4 hns b5;have e4:del=false:=by simpa using b5
  subst e4;split at b4
  ·rename_i v tl;rw[ae]at b4;have e3:v=.ref C:=by
    have:=b4.1;unfold isRef at this;split at this
    ·rw[av]at this;rw[this]
    ·cases this
   subst e1 e2 e3;exact ⟨hm,tl,ns,nm,q,bs,hd,sn,sub,ab,col,dd,k0,k1,k2,k3,k5,m,KX _ _ e,hns,hq,Cr KX b4.2⟩
  ·cases b4
 ·cases b
theorem X3{h:Heap}{bmB bm:List Value}(t:OwnTail h bmB bm){v:Value}(hv:bmB.contains v=true):bm.contains v=true:=by
 induction t with
 |base=>exact hv
 |own _ _ _ _ ih=>rw[List.contains_cons,ih,Bool.or_true]
theorem Cv{h h':Heap}(k:∀b o,h.get? b=some o->h'.get? b=some o){N:Addr}{m:Str->Option Value}(n:h.Ns N m):h'.Ns N m:=by obtain ⟨o,es,ep,e,r⟩:=n;exact ⟨o,es,ep,k _ _ e,r⟩
theorem X4{h h':Heap}(k:∀b o,h.get? b=some o->h'.get? b=some o){bmB bm:List Value}(t:OwnTail h bmB bm):OwnTail h' bmB bm:=by
 induction t with
 |base=>exact .base
 |own e n i _ ih=>exact .own (k _ _ e) (Cv k n) i ih
section
variable {X:Cx}
abbrev TJ:=St->Hp->(Hp->Prop)->Prop
def PJ(X:Cx)(es:List Expr)(t:TJ)(n:Nat):Prop:=∀(pins:List (Addr×Obj))(s:Shared)(σ:St)(H:Hp)(Q:Hp->Prop)(out:Str),Inv X pins σ H s->out.length+n<=100000->t σ H Q->
 wpAny (model X.prog X.w) X.A (joinParts out (evalEach es X.env)) (EP X pins σ λv H'=>(∃x,v=.str x)/\Q H') X.xe s
theorem X5:PJ X [] (λ_ H Q=>Q H) 0:=λpins s σ H Q out I hl q=>by
 refine joinParts_nil ⟨.str out,H,I.tok _,⟨_,rfl⟩,⟨_,rfl⟩,q⟩ ?_;have:sizeLine≥100000:=by decide
 omega
theorem qF(x y:Str):(x++y).length=x.length+y.length:=by show (x.cps++y.cps).size=_;rw[Array.size_append];rfl
theorem X6{y:Str}{k:Nat}{p:Pos}{es:List Expr}{t:TJ}{n:Nat}(h:PJ X es t n):PJ X (.Constant (.str y) k p::es) t (y.length+n):=λpins s σ H Q out I hl q=>by
 have hz:sizeLine≥100000:=by decide
 refine joinParts_consE (joinParts_cons (Calls.Constant_str ?_));dsimp only;refine ⟨by rw[qF];omega,h pins _ σ H Q _ (I.tok _) (by rw[qF];omega) q⟩
theorem digits_le:∀n:Fin 100,(Str.ofString (toString (n.val:Int))).length<=3:=by ac_rfl
theorem X7{e:Expr}{te:TE}{p:Pos}{es:List Expr}{t:TJ}{n:Nat}(he:PE X e te)(h:PJ X es t n):PJ X (.FormattedValue e (-1) none p::es) (λσ H Q=>te σ H λv H1=>(∃m:Nat,v=.int m/\m < 100)/\t σ H1 Q) (3+n):=λpins s σ H Q out I hl q=>by
 have hz:sizeLine≥100000:=by decide
 refine joinParts_consE (joinParts_cons (FormattedValue_plain (thn (he pins s σ H _ I q) λv s1 hy=>?_)));obtain ⟨x,H1,I1,r1,⟨m,rfl,hm⟩,q1⟩:=hy;obtain ⟨tk,rfl⟩:=r1;have hd:(Str.ofString (toString (m:Int))).length<=3:=digits_le ⟨m,hm⟩;refine formatField_int_small ?_ ?_
 ·have:(m:Int).natAbs=m:=Int.natAbs_natCast m;rw[this];exact Nat.lt_of_le_of_lt (Nat.log2_le_self m) (by omega)
 ·dsimp only;exact ⟨by rw[qF];omega,h pins _ σ H1 Q _ ((I1.tok _)) (by rw[qF];omega) q1⟩
theorem X8{v1 v2:Expr}{es:List Expr}{t:TJ}{n:Nat}{pos:Pos}(h:PJ X (v1::v2::es) t n)(hn:n<=100000):PE X (.JoinedStr (v1::v2::es) pos) (λσ H Q=>t σ H λH1=>∀x,Q (.str x) H1):=λpins s σ H Q I q=>by
 refine JoinedStr_many ?_;refine b9 (h pins s σ H _ Str.empty I (by show 0+n<=_;omega) q) (λv s1 hy=>?_) λ_ _ z=>z;obtain ⟨x,H1,I1,r1,⟨y,rfl⟩,q1⟩:=hy;exact ⟨_,H1,I1,r1,q1 y⟩
def Throws(X:Cx)(E:XK):Prop:=∀(pins:List (Addr×Obj))(σ:St)(H:Hp)(s:Shared)(h':Heap)(a:Addr)(c:Value)(args:List Value),Inv X pins σ H s->s.heap.MadeExcOf h' a c args->E c none H->X.xe (.ref a) { s with heap:=h' }
theorem Yb{E:XK}(hst:X.stack=X.env::X.outer)(hex:X.ex=[])(hxe:∀e s',wpAny (model X.prog X.w) X.A (leaving X.env e) (λ_ s''=>CX1 X.prog X.w X.outer X.H₀ X.s₀ E e s'') (λe' s''=>CX1 X.prog X.w X.outer X.H₀ X.s₀ E e' s'') s'->X.xe e s'):Throws X E:=
 λ_ _ _ _ _ _ _ _ I m q=>hxe _ _ (XN I hst hex m q)
theorem Cw{x:Str}{C:Addr}{np cpos pos:Pos}{e:Expr}{es:List Expr}{ta:TA}{E:XK}(hc:X.calm=true)(hg:Gl X x)(hm:X.mg x=some (.ref C))(hb:iC X.K C=true)(hE:Throws X E)(ha:PA X (e::es) ta)
  (hdb:(x==("__debug__":Str))=false:=by decide) (he:starEach (e::es) X.env=(false,eval e X.env)::starEach es X.env:=by rfl) (hpl:(backTo cpos (starEach es X.env)).any (·.1)=false:=by rfl):
  PS X (.Raise (some (.Call (.Name x np) (e::es) [] cpos)) none pos) (λ_ σ H=>ta σ H λvs H1=>vs.length<=sizeLine/\E (.ref C) none H1):=by
 intro pins s σ H D I h;have kb:=I.ok.mod.kin;obtain ⟨bm,N,nm,q,bs,hd,sn,sub,ab,col,dd,k0,k1,k2,k3,k5,mN,b1,b2,b3,b4⟩:=(XX kb hb hm:OwnClsQ x C veM "ValueError.__new__" X.mg X.base).own.obj;refine wpAny_Raise_call_subT (nm:=nm) (q:=q) (N:=N) (bs:=bs) (hdct:=hd) (sn:=sn) (sub:=sub) (ab:=ab) (col:=col) (dd:=dd) (k0:=k0) (k1:=k1) (k2:=k2) (k3:=k3) (k5:=k5) (F.excBase_ValueError) (X3 b4 (by decide)) (I.ok.hd hc) ?_ b3 (iy I hg hm ⟨rfl,?_⟩ hdb)
 ·rw[he];exact hpl
 ·have hsp:=ha cpos pins s σ H _ I h;rw[he]at hsp ⊢;refine Calls.evalArgs_plain (b9 hsp (λvs s2 hy=>?_) λ_ _ z=>z);obtain ⟨ws,H2,I2,r2,hl,q2⟩:=hy;refine ⟨rfl,by rw[<-r2.length];exact hl,I2.bk _ _ b1,Cv I2.bk b2,X4 I2.bk b4,λh' a m=>hE pins σ H2 s2 h' a _ _ I2 m q2⟩
end
section
variable {X:Cx}
abbrev Cx.marked(X:Cx)(a:Addr)(E:Value->Shared->Prop):Cx:={ X with A:=X.A.mark (some (.ref a)),calm:=false,xe:=E }
theorem Cx.Ok.marked{X:Cx}(ok:X.Ok)(a:Addr)(E:Value->Shared->Prop):(X.marked a E).Ok:=
 ⟨ok.mod,ok.kind,ok.glob,ok.blt,ok.above,ok.inj,ok.has,ok.cab,λh=>(by cases h),ok.frames,ok.stk,ok.exf,ok.bs,ok.bsz,ok.noex,ok.exfs,ok.funs,ok.frf⟩
variable {pins:List (Addr×Obj)} {σ:St} {H:Hp} {s:Shared}
theorem Inv.marked(I:Inv X pins σ H s)(a:Addr)(E:Value->Shared->Prop):Inv (X.marked a E) pins σ H s:=⟨I.ok.marked a E,I.os,I.bare,I.base,I.loc,I.cell,I.free,I.freeC,I.pin,I.hok,I.len⟩
theorem Inv.unmarked{a:Addr}{E:Value->Shared->Prop}(I:Inv (X.marked a E) pins σ H s)(ok:X.Ok):Inv X pins σ H s:=⟨ok,I.os,I.bare,I.base,I.loc,I.cell,I.free,I.freeC,I.pin,I.hok,I.len⟩
theorem SP.unmarked{a:Addr}{E:Value->Shared->Prop}{D:Ends}{f:Flow}{s':Shared}(ok:X.Ok)(h:SP (X.marked a E) pins D f s'):SP X pins D f s':=by
 cases f with
 |next=>obtain ⟨σ',H',I,q⟩:=h;exact ⟨σ',H',I.unmarked ok,q⟩
 |brk=>obtain ⟨σ',H',I,q⟩:=h;exact ⟨σ',H',I.unmarked ok,q⟩
 |cont=>obtain ⟨σ',H',I,q⟩:=h;exact ⟨σ',H',I.unmarked ok,q⟩
 |ret u=>obtain ⟨v,σ',H',I,r,q⟩:=h;exact ⟨v,σ',H',I.unmarked ok,r,q⟩
structure Caught(X:Cx)(H:Hp)(s:Shared)(H':Hp)(a:Addr)(c:Value)(s':Shared):Prop where
 os:s'.os=s.os
 bare:AllBare s'.gens
 un:Un (frs X.stack) [] H H' s.heap s'.heap
 hok:HOk X.prog X.w H' s'.heap
 tr:Tr s.heap H' s'.heap a c
variable {H':Hp} {a:Addr} {c:Value} {s':Shared}
theorem Caught.inv(K:Caught X H s H' a c s')(I:Inv X pins σ H s):Inv X pins σ H' s':=I.call' (ch:=[]) K.os K.un K.hok K.bare (λb z=>absurd z (by simp))
theorem Caught.left(K:Caught X H s H' a c s')(I:Inv X pins σ H s){T:Addr}{h':Heap}{l:List Env}(hT:s.heap.get? T=none/\H' T=none)(L:(holes s'.heap (frs X.stack++a::[T])).Left l a c s'.heap h'):Caught X H s H' a c { s' with heap:=h' }:=by have J:=K.inv I;obtain ⟨_,_,_,_,_,_,_,_,_,_,_,_,_,n1,_,n3,_⟩:=K.tr;obtain ⟨u,k,t⟩:=Ci K.un K.hok (λb hb=>hb) (λb o _ hn=>hn) (λb hb=>⟨J.stkFree b hb,vQ J.stack b hb⟩) n1 n3 (λx hx=>by rw[bg.mp hx];exact hT) L;exact ⟨K.os,K.bare,u,k,t⟩
theorem Caught.note(K:Caught X H s H' a c s')(I:Inv X pins σ H s)(hst:X.stack=X.env::X.outer){Q:Shared->Prop}{E1 E2:Value->Shared->Prop}(hQ:∀h2,Caught X H s H' a c { s' with heap:=h2 }->Q { s' with heap:=h2 }):
  wpAny (model X.prog X.w) X.A (noteFrame (.ref a) X.env) (λ_ s2=>wpAny (model X.prog X.w) X.A (setFlight (.ref a) none) (λ_ s3=>Q s3) E1 s2) E2 s':=by
 have J:=K.inv I;obtain ⟨oe,vs,T,oT,ts,t1,t2,t3,t4,t6,t7,t8,t9,n1,n2,n3,n4⟩:=K.tr;have hfr:=J.stack;rw[hst]at hfr;obtain ⟨L,hL⟩:=vR hfr;have sub:∀b∈frs (X.env::X.outer),b∈frs X.stack++a::[T]:=λb hb=>by rw[hst];exact cK _ hb
 obtain ⟨a0,h0⟩:∃a0,vs[0]?=some a0:=by obtain ⟨hi,_⟩:=ft.mp t4;exact ⟨vs[0],Array.getElem?_eq_getElem (by omega)⟩
 refine wpAny_noteFrame_onW (base:=holes s'.heap (frs X.stack++a::[T])) (cls:=c) (a0:=a0) (by rw[J.ok.frames,hst]) (lB hfr sub) hL ?_ qC (gH (by simp)) λh1 hn=>?_
 ·exact ⟨oe,vs,T,oT,ts,t1,⟨t2,h0⟩,t3,t4,gH (by simp),t6,t7,t8,t9⟩
 ·obtain ⟨m1,m2,m3,m4⟩:=hn;refine wpAny_setFlight_noneW m1 m2 m3 λh2 p1 p2 p3 p4=>?_;refine hQ h2 (K.left I ⟨n2,n4⟩ (l:=X.env::X.outer) ⟨p1,p2,?_,λb o e d=>?_⟩)
  ·obtain ⟨oe,vs,T,oT,ts,t1,⟨t2,_⟩,r⟩:=p3;exact ⟨oe,vs,T,oT,ts,t1,t2,r⟩
  ·obtain ⟨sl,e'⟩:=m4 b o e d;exact ⟨sl,p4 b _ e' d⟩
theorem Caught.flight(K:Caught X H s H' a c s')(I:Inv X pins σ H s){A:Around}{Q:Shared->Prop}{E1:Value->Shared->Prop}(hQ:∀h2,Caught X H s H' a c { s' with heap:=h2 }->Q { s' with heap:=h2 }):
  wpAny (model X.prog X.w) A (setFlight (.ref a) none) (λ_ s3=>Q s3) E1 s':=by
 have J:=K.inv I;obtain ⟨oe,vs,T,oT,ts,t1,t2,t3,t4,t6,t7,t8,t9,n1,n2,n3,n4⟩:=K.tr;obtain ⟨a0,h0⟩:∃a0,vs[0]?=some a0:=by obtain ⟨hi,_⟩:=ft.mp t4;exact ⟨vs[0],Array.getElem?_eq_getElem (by omega)⟩
 refine wpAny_setFlight_noneW (base:=holes s'.heap (frs X.stack++a::[T])) (l:=X.stack) (cls:=c) (a0:=a0) (fl:=.none) qC (lB J.stack λb hb=>cK _ hb) ?_ λh2 p1 p2 p3 p4=>?_
 ·exact ⟨oe,vs,T,oT,ts,t1,⟨t2,h0⟩,t3,t4,gH (by simp),t6,t7,t8,t9⟩
 ·refine hQ h2 (K.left I ⟨n2,n4⟩ (l:=X.stack) ⟨p1,p2,?_,λb o e d=>⟨o.slots,p4 b o e d⟩⟩);obtain ⟨oe,vs,T,oT,ts,t1,⟨t2,_⟩,r⟩:=p3;exact ⟨oe,vs,T,oT,ts,t1,t2,r⟩
end
open Builtin.ObjectAttr Builtin.Getset_descriptor
open PySem.W (findIn mroIn clsIn typeIn Looks InstAt looks_findIn looks_mroIn looks_typeIn)
noncomputable def lC(K:PF)(D:Addr):Bool:=
 findIn K (.ref D) "__class__"==some (some (.builtin "object.__class__"))&&findIn K (.ref D) "__getattribute__"==some (some (.builtin "BaseException.__getattribute__"))&&findIn K (.ref D) "__getattr__"==some none &&
  mroIn K D (.type "object")==some true&&mroIn K D (.type "BaseException")==some true&&(clsIn K D).isSome
structure Xin(K:PF)(D:Addr):Prop where
 c:findIn K (.ref D) "__class__"=some (some (.builtin "object.__class__"))
 ga:findIn K (.ref D) "__getattribute__"=some (some (.builtin "BaseException.__getattribute__"))
 g:findIn K (.ref D) "__getattr__"=some none
 o:mroIn K D (.type "object")=some true
 b:mroIn K D (.type "BaseException")=some true
 d:(clsIn K D).isSome=true
theorem Yc{K:PF}{D:Addr}(h:lC K D=true):Xin K D:=by unfold lC at h;simp only[ae,av]at h;obtain ⟨⟨⟨⟨⟨h1,h2⟩,h3⟩,h4⟩,h5⟩,h6⟩:=h;exact ⟨h1,h2,h3,h4,h5,h6⟩
section
variable {prog:Program} {w:World} {A:Around} {E:Value->Shared->Prop} {h:Heap} {g:Array GenState} {d:Drawn} {t:Nat} {os:OsState} {a:Addr} {o:Obj} {K:PF} {D:Addr}
theorem Cy{M:Model}(hx:h.get? a=some o)(hc:o.cls=.ref D):Looks M h (typeOf (.ref a)) (.ref D):=by have:=(Looks.ld (M:=M) (part:=none) hx).andThen (f:=λo=>pure o.cls) (b:=.ref D) (by rw[hc];exact .now);exact this
theorem Yd {s:Shared} {R:Result->Shared->Prop} {tp:Value} (X:K.In s.heap) (hx:s.heap.get? a=some o) (hc:o.cls=.ref D) (hm:mroIn K D (.type "object")=some true)
  (h:R (.ok (.ret (.ref D))) s):codeAny (model prog w) A (.call (.builtin "getset_descriptor.__get__") ⟨[.builtin "object.__class__",.ref a,tp],[]⟩) R s:=by
 obtain ⟨hh,g,dr,t,os⟩:=s;have L0:=Cy (M:=model prog w) hx hc;have L1:=looks_mroIn (M:=model prog w) X hm;refine codeAny_call_builtin PySem.W.KF.slot_gs.plain PySem.W.KF.entry_gs (PySem.W.KF.slot_gs.check _ _ _ _ _ _ _ _ PySem.W.KF.type_class (PySem.W.KF.args_gs _ _ _) ?_);unfold Builtin.«getset_descriptor.__get__» descrGet;rw[PySem.W.dga_obj];refine ag (aS ?_);unfold descrGetter descrCheckInstance descrNameAndClass isInstance;simp only[PySem.W.KF.owner_class];repeat lk
 refine ⟨Code.quiet_builtin _ (by ac_rfl),codeAny_builtin PySem.W.KF.entry_class ?_⟩;unfold Builtin.«object.__class__» shownTypeOf;repeat lk
 exact h
theorem Ye{tk:Tok}{Q:Fin->Shared->Prop}(X:K.In h)(x:Xin K D)(hx:h.get? a=some o)(hc:o.cls=.ref D)(hq:Q (.done (.ret (.ref D))) ⟨h,g,d,t,os⟩):
  wpAny (model prog w) A (Builtin.«object.__getattribute__» ⟨[.ref a,.str "__class__" tk],[]⟩) Q E ⟨h,g,d,t,os⟩:=by
 have hT5:(⟨h,g,d,t,os⟩:Shared).TypeIs (.builtin "object.__class__") "getset_descriptor":=F.typeOf_object_class;have f5:=F.typeOf_object_class;have f6:=F.slot_gs_get.lookup;have f7:=F.slot_gs_set.lookup;have L1:=looks_findIn (M:=model prog w) X x.c;repeat (any_goals (first |assumption | (with_reducible refine gu hx ?_;rw[hc]) |with_reducible refine L1.at ?_ |wp_step))
 refine Yd (s:=⟨h,g,d,t,os⟩) X hx hc x.o ?_;repeat (any_goals (first |assumption |wp_step))
theorem Yg{M:Model}{nameV:Value}{Q:Unit->Shared->Prop}(X:K.In h)(x:Xin K D)(hx:h.get? a=some o)(hc:o.cls=.ref D)(hq:Q () ⟨h,g,d,t,os⟩):
  wpAny M A (checkBuiltinCall "BaseException.__getattribute__" ⟨[.ref a,nameV],[]⟩) Q E ⟨h,g,d,t,os⟩:=by
 have hk:builtinKind "BaseException.__getattribute__"=some .slot:=by ac_rfl
 have hsplit:splitId "BaseException.__getattribute__"=some ("BaseException","__getattribute__"):=by ac_rfl
 have L1:=looks_mroIn (M:=M) X x.b;have ha:=F.args_bexc_ga (.ref a) nameV;simp only[checkBuiltinCall,hk,hsplit];refine ag ?_
 ·unfold isInstance;repeat (first | (with_reducible refine gu hx ?_;rw[hc]) |with_reducible refine L1.at ?_ |wp_step)
  exact hq
theorem Yh{tk:Tok}{R:Result->Shared->Prop}(X:K.In h)(x:Xin K D)(hx:h.get? a=some o)(hc:o.cls=.ref D)(hq:R (.ok (.ret (.ref D))) ⟨h,g,d,t,os⟩):
  codeAny (model prog w) A (.call (.builtin "BaseException.__getattribute__") ⟨[.ref a,.str "__class__" tk],[]⟩) R ⟨h,g,d,t,os⟩:=
 codeAny_call_builtin (by ac_rfl) F.entry_bexc_ga (Yg X x hx hc (Ye X x hx hc hq))
theorem Yi{Q:Option Value->Shared->Prop}(X:K.In h)(x:Xin K D)(hx:h.get? a=some o)(hc:o.cls=.ref D)(hq:Q (some (.ref D)) ⟨h,g,d,t+1,os⟩):
  wpAny (model prog w) A (getAttr? (.ref a) "__class__") Q E ⟨h,g,d,t,os⟩:=by
 have L1:=looks_findIn (M:=model prog w) X x.ga;have L2:=looks_findIn (M:=model prog w) X x.g;have f3:bindSpecial (.builtin "BaseException.__getattribute__") (.ref a)=pure (.builtin "BaseException.__getattribute__",[.ref a]):=(PySem.F.excAttr_ValueError).ga.bind (.ref a);have hx2:(Value.builtin "BaseException.__getattribute__"==Value.builtin "object.__getattribute__")=false:=by ac_rfl
 have hx1:(onTheHeap (Value.ref D)&&Value.builtin "BaseException.__getattribute__"==Value.builtin "object.__getattribute__")=false:=by rw[hx2];rfl
 unfold getAttr? getAttrBy? getAttrBy;repeat (any_goals (first |assumption | (with_reducible refine gu hx ?_;rw[hc]) |with_reducible refine L1.at ?_ |with_reducible refine L2.at ?_ |wp_step))
 refine Yh X x hx hc ?_;repeat (any_goals (first |assumption |wp_step))
noncomputable def jB(K:PF)(c:Value):Bool:=match c with
 |.ref C=>(clsIn K C).isSome&&typeIn K (.ref C)==some (.type "type")
 |.type T=>T=="ValueError"
 |_=>false
theorem ty_ValueError:typeOf (.type "ValueError")=pure (.type "type"):=by rfl'
theorem Yj {M:Model} {c:Value} (X:K.In h) (e:jB K c=true):Looks M h (typeOf c) (.type "type")/\Looks M h (isType c) true:=by
 unfold jB at e;split at e
 ·rename_i C;rw[ae,av]at e;obtain ⟨e0,e1⟩:=e;refine ⟨looks_typeIn X e1,?_⟩;unfold clsIn at e0;split at e0
  ·rename_i c' d' cd' sl' ho;intro A' Q' E' s' k q;unfold isType loadHead;exact ag (wpAny_loadPart (k _ _ (X _ _ ho)) (aS q))
  ·cases e0
 ·rename_i T;rw[av]at e;subst e;exact ⟨Looks.of_pure ty_ValueError,Looks.of_pure rfl⟩
 ·cases e
theorem Yk{c:Value}{b:Bool}{dep:Int}{tk:Tok}{Q:Fin->Shared->Prop}(X:K.In h)(x:Xin K D)(hx:h.get? a=some o)(hc:o.cls=.ref D)(hk:jB K c=true)
  (hm:mroIn K D c=some b) (hne:b=false->(Value.ref D==c)=false) (hq:∀t',Q (.done (.ret (.bool b))) ⟨h,g,d,t',os⟩):
  wpAny (model prog w) A (Builtin.«isinstance.nested» ⟨[.ref a,c,.int dep tk],[]⟩) Q E ⟨h,g,d,t,os⟩:=by
 obtain ⟨hty,his⟩:=Yj (M:=model prog w) X hk;have hsub:=looks_mroIn (M:=model prog w) X hm;have L0:=Cy (M:=model prog w) hx hc;have LI:Looks (model prog w) h (isInstance (.ref a) c) b:=L0.andThen hsub;have hisD:Looks (model prog w) h (isType (.ref D)) true:=by
  have e0:=x.d;unfold clsIn at e0;split at e0
  ·rename_i c' d' cd' sl' ho;intro A' Q' E' s' k q;unfold isType loadHead;exact ag (wpAny_loadPart (k _ _ (X _ _ ho)) (aS q))
  ·cases e0
 unfold Builtin.«isinstance.nested»;refine ag (L0.at ?_);by_cases he:(Value.ref D==c)=true
 ·rw[if_pos he];cases b with
  |false=>rw[hne rfl]at he;cases he
  |true=>
   repeat (first |refine aS ?_ |refine fx ?_ |refine ag ?_)
   exact hq t
 ·rw[if_neg he];refine ag (hty.at ?_);rw[if_pos (by decide)]
  k_delta "plainIsInstance"
  refine ag (ag (his.at ?_));simp only[gt,fN,if_false];refine ag (LI.at ?_);cases b with
  |true=>
   simp only[if_true];repeat (first |refine aS ?_ |refine fx ?_ |refine ag ?_)
   exact hq t
  |false=>
   simp only[fN,if_false];refine ag (Yi X x hx hc ?_);refine ag (hisD.at ?_);simp only[gt,fN,if_false];refine ag (fx ?_);refine hsub.at ?_;first
    |exact aS (hq _)
    |exact aS (aS (hq _))
    |exact ag (aS (aS (hq _)))
theorem Yl{c:Value}{b:Bool}{Q:Value->Shared->Prop}{s:Shared}(X:K.In s.heap)(x:Xin K D)(hx:s.heap.get? a=some o)(hc:o.cls=.ref D)(hk:jB K c=true)
  (hm:mroIn K D c=some b) (hne:b=false->(Value.ref D==c)=false) (hq:∀t',Q (.bool b) { s with toks:=t' }):wpAny (model prog w) A (call (.builtin "isinstance") [.ref a,c]) Q E s:=by
 obtain ⟨hh,g,d,t,os⟩:=s;exact call_isinstance_of (Yk X x hx hc hk hm hne λt'=>hq t') (by intro e;cases e)
end
open PySem.W (findIn mroIn clsIn typeIn Looks looks_findIn looks_mroIn looks_typeIn)
section
variable {X:Cx}
def XO(H:Hp)(a c:Addr):Prop:=∃o y,H a=some (.frz o (.own y))/\o.cls=.ref c
def valOf:V->Value
 |.ref a=>.ref a
 |.ty n=>.type n
 |_=>.none
noncomputable def Ym(K:PF):List V->Hp->VK->Prop:=λxs H Q=>∃a c cv b,xs=[.ref a,cv]/\XO H a c/\lC K c=true/\jB K (valOf cv)=true/\mroIn K c (valOf cv)=some b/\(b=false->(Value.ref c==valOf cv)=false)/\Q (.bl b) H
theorem Yn:bH X (.builtin "isinstance") (Ym X.K):=by
 intro pins s σ H xs us Q I r h;obtain ⟨a,c,cv,b,rfl,⟨o,y,ho,hc⟩,hx,hk,hm,hne,q⟩:=h;obtain ⟨u,w',rfl,rx,ry⟩:=vals2 r;cases rx;have e2:w'=valOf cv:=by
  cases cv with
  |ref a=>exact ry
  |ty n=>exact ry
  |_=>cases hk
 subst e2;have hob:=(show ObjOk X.prog X.w H s.heap a (.frz o (.own y)) from I.hok a _ ho).1;exact Yl I.kIn (Yc hx) hob hc hk hm hne λt'=>⟨.bl b,H,I.tok _,rfl,q⟩
end
section
variable {M:Model} {A:Around} {E:Value->Shared->Prop} {h:Heap} {g:Array GenState} {d:Drawn} {t:Nat} {os:OsState} {e:Addr} {oe:Obj} {K:PF} {D C:Addr}
theorem Cz {Q:Bool->Shared->Prop} (X:K.In h) (he:h.get? e=some oe) (hcls:oe.cls=.ref D) (hC:typeIn K (.ref C)=some (.type "type")) (hk:(clsIn K C).isSome=true) (hB:mroIn K C (.type "BaseException")=some true) (hm:mroIn K D (.ref C)=some true)
  (hq:Q true ⟨h,g,d,t,os⟩):wpAny M A (excMatches (.ref e) (.ref C)) Q E ⟨h,g,d,t,os⟩:=by
 have f:=tc_notTuple;have L0:=looks_typeIn (M:=M) X hC;have L1:=looks_mroIn (M:=M) X hB;have L2:=looks_mroIn (M:=M) X hm;unfold clsIn at hk;split at hk
 ·rename_i c' d' cd' sl' ho;have hoC:=X _ _ ho;unfold excMatches;have hC2:(K.lookup C).map (·.cls)=some (.type "type"):=hC;rw[ho]at hC2;have ec:c'=.type "type":=by simpa using hC2
  subst ec;repeat (first | (with_reducible refine gu he ?_;rw[hcls]) |with_reducible refine gu hoC ?_ |with_reducible refine L1.at ?_ |with_reducible refine L2.at ?_ |wp_step)
  exact hq
 ·cases hk
end
section
variable {X:Cx} {pins:List (Addr×Obj)} {σ:St} {H:Hp} {s:Shared}
theorem Inv.tell(I:Inv X pins σ H s){a:Addr}{o:Obj}{vs:Array Value}(h0:X.s₀.heap.get? a=none)(hH:H a=none)(ho:s.heap.get? a=some o)(hd:o.data=.fields vs)(hp:∀p∈X.pn++pins,p.1≠a):
  Inv X pins σ (upd H a (.frz o (.own a))) s:=by
 have nl:X.env.locals≠a:=by intro e;obtain ⟨m,⟨o',es,ep,e1,e2,_⟩,_⟩:=I.loc;rw[e,ho]at e1;cases e1;rw[hd]at e2;cases e2
 have nc:∀x c,X.env.cells.lookup x=some c->c≠a:=by intro x c hc e;obtain ⟨v,o',e1,e2⟩:=I.cell x c hc;rw[e,ho]at e1;cases e1;rw[hd]at e2;cases e2
 refine ⟨I.ok,I.os,I.bare,⟨I.base.keep,I.base.slot,λb u q n hx=>?_,I.base.there,λb xs q=>?_,λb u v q=>?_,λb ps q=>?_⟩,I.loc,I.cell,by rw[aL nl];exact I.free,λx c e=>by rw[aL (nc x c e)];exact I.freeC x c e,λp hpp=>?_,λb u q=>?_,I.len⟩
 ·rw[aL (λe=>by rw[e,h0]at q;cases q)];exact I.base.free b u q n hx
 ·have q':=I.base.tups b xs q;rw[aL (bj q' hH)];exact q'
 ·have q':=I.base.frzs b u v q;rw[aL (bj q' hH)];exact q'
 ·obtain ⟨m,q'⟩:=I.base.tbls b ps q;exact ⟨m,by rw[aL (bj q' hH)];exact q'⟩
 ·obtain ⟨p1,p2,p3⟩:=I.pin p hpp;exact ⟨p1,by rw[aL (hp p hpp)];exact p2,p3⟩
 ·by_cases hb:b=a
  ·subst hb;rw[dJ]at q;cases q;exact ⟨ho,o,ho⟩
  ·rw[aL hb]at q;exact (I.hok b u q).stay (λ_ _ _ z=>z) (λc z=>by rw[aL (bj z hH)];exact z) λc xs z=>by rw[aL (bj z hH)];exact z
end
section
variable {X:Cx}
abbrev TX:=(St->Hp->Prop)->(Value->St->Hp->Prop)->St->Hp->Prop
def XP(X:Cx)(pins:List (Addr×Obj))(ex:Value->St->Hp->Prop)(σ:St)(e:Value)(s1:Shared):Prop:=∃a c H1 s0 H',e=.ref a/\Inv X pins σ H1 s0/\Caught X H1 s0 H' a c s1/\ex c σ H'
def NP(X:Cx)(pins:List (Addr×Obj))(nx:St->Hp->Prop)(f:Flow)(s1:Shared):Prop:=f=.next/\∃σ' H',Inv X pins σ' H' s1/\nx σ' H'
def PXs(X:Cx)(sts:List Stmt)(t:TX):Prop:=
 ∀(pins:List (Addr×Obj))(s:Shared)(σ:St)(H:Hp)(nx:St->Hp->Prop)(ex:Value->St->Hp->Prop)(E':Value->Shared->Prop),Inv X pins σ H s->PassesOwn (model X.prog X.w) X.A X.env E'->(∀e s1,XP X pins ex σ e s1->E' e s1)->t nx ex σ H->
  wpAny (model X.prog X.w) X.A (execs sts X.env) (NP X pins nx) E' s
theorem Yo{k:Nat}{f:Addr}{fd:FuncData}{ps:List Str}{sp:Sp}{x:Str}{p cpos p0:Pos}{e:Expr}{es:List Expr}{ta:TA}
  (F:FnOk X.prog X.w X.K X.mg X.base (CX1 X.prog X.w) k f fd ps sp) (hr:Room k X.A) (hg:Gl X x) (hm:X.mg x=some (.ref f)) (hk:PySem.W.keepIn X.K (.ref f)=true) (hbd:Binds X.K fd ps [])
  (ha:∀E':Value->Shared->Prop,PassesOwn (model X.prog X.w) X.A X.env E'->PA (X.wish E') (e::es) ta)
  (hs:swapsWith (.Call (.Name x p) (e::es) [] cpos) none p0.line X.env=pure false)
  (hdb:(x==("__debug__":Str))=false:=by decide) (he:starEach (e::es) X.env=(false,eval e X.env)::starEach es X.env:=by rfl) (hpl:(backTo cpos (starEach es X.env)).any (·.1)=false:=by rfl):
  PXs X [.Expr (.Call (.Name x p) (e::es) [] cpos) p0] (λnx ex σ H=>ta σ H λvs H1=>sp vs H1 (λ_ H2=>nx σ H2) (λc _ H2=>ex c σ H2)):=by
 intro pins s σ H nx ex E' I hpo hE h;refine fF (wpAny_Expr_any (gi (iy (X:=X.wish E') (I.wish E') hg hm ?_ hdb)) I.quiet hs);refine PySem.W.callWith_K (h₀:=X.base) I.ok.mod.kin hk (thn (ha _ hpo cpos pins s σ H _ (I.wish _) h) λus s1 hy=>?_) he hpl;obtain ⟨vs,H1,I1,r,q⟩:=hy;have I1:=I1.unwish;refine ⟨I1.kIn,?_⟩;have hl:us.length=ps.length:=by rw[<-r.length];exact F.len _ _ _ _ q
 have hb2:=hbd s1 us I1.kIn (by rw[d4];exact hl);rw[d4]at hb2;refine wpAny_call (codeAny_mono (F.run X.A X.stack s1 H1 ⟨us,[]⟩ us vs _ _ hr I1.env0 hb2 r q) λrr s2 hq=>?_);cases rr with
 |error ev=>
  obtain ⟨a,c,H2,rfl,ho,hgn,un,hok,tr,qn⟩:=hq;exact hE _ _ ⟨a,c,H1,s1,H2,rfl,I1,⟨ho,hgn,un,hok,tr⟩,qn⟩
 |ok fl=>
  cases fl with
  |ret u=>
   obtain ⟨v,H2,I2,r2,q2⟩:=I1.after hq;exact ey ⟨rfl,σ,H2,I2,q2⟩
  |next=>exact False.elim hq
  |brk=>exact False.elim hq
  |cont=>exact False.elim hq
theorem Yp{k:Nat}{f:Addr}{fd:FuncData}{ps:List Str}{sp:Sp}{x y:Str}{i:Nat}{p cpos p0 p2:Pos}{e:Expr}{es:List Expr}{ta:TA}
  (F:FnOk X.prog X.w X.K X.mg X.base (CX1 X.prog X.w) k f fd ps sp) (hr:Room k X.A) (hg:Gl X x) (hm:X.mg x=some (.ref f)) (hk:PySem.W.keepIn X.K (.ref f)=true) (hbd:Binds X.K fd ps [])
  (hN:X.N.Nodup) (hi:X.N[i]?=some y) (hx:Loc X.env.scope y) (hf:X.fn y=true\/X.env.scope.names.lookup y=some .local)
  (ha:∀E':Value->Shared->Prop,PassesOwn (model X.prog X.w) X.A X.env E'->PA (X.wish E') (e::es) ta)
  (hs:swapsWith (.Call (.Name x p) (e::es) [] cpos) (some (.Name y p2)) p0.line X.env=pure false)
  (hdb:(x==("__debug__":Str))=false:=by decide) (he:starEach (e::es) X.env=(false,eval e X.env)::starEach es X.env:=by rfl) (hpl:(backTo cpos (starEach es X.env)).any (·.1)=false:=by rfl):
  PXs X [.Assign [.Name y p2] (.Call (.Name x p) (e::es) [] cpos) p0] (λnx ex σ H=>ta σ H λvs H1=>sp vs H1 (λv H2=>nx (σ.set i (some v)) H2) (λc _ H2=>ex c σ H2)):=by
 intro pins s σ H nx ex E' I hpo hE h;refine fF (wpAny_Assign_Name (gi (iy (X:=X.wish E') (I.wish E') hg hm ?_ hdb)) hs);refine PySem.W.callWith_K (h₀:=X.base) I.ok.mod.kin hk (thn (ha _ hpo cpos pins s σ H _ (I.wish _) h) λus s1 hy=>?_) he hpl;obtain ⟨vs,H1,I1,r,q⟩:=hy;have I1:=I1.unwish;refine ⟨I1.kIn,?_⟩;have hl:us.length=ps.length:=by rw[<-r.length];exact F.len _ _ _ _ q
 have hb2:=hbd s1 us I1.kIn (by rw[d4];exact hl);rw[d4]at hb2;refine wpAny_call (codeAny_mono (F.run X.A X.stack s1 H1 ⟨us,[]⟩ us vs _ _ hr I1.env0 hb2 r q) λrr s2 hq=>?_);cases rr with
 |error ev=>
  obtain ⟨a,c,H2,rfl,ho,hgn,un,hok,tr,qn⟩:=hq;exact hE _ _ ⟨a,c,H1,s1,H2,rfl,I1,⟨ho,hgn,un,hok,tr⟩,qn⟩
 |ok fl=>
  cases fl with
  |ret u=>
   obtain ⟨v,H2,I2,r2,q2⟩:=I1.after hq;exact jx I2 hN hi hx r2 (λs3 I3=>ey ⟨rfl,_,H2,I3,q2⟩) hf
  |next=>exact False.elim hq
  |brk=>exact False.elim hq
  |cont=>exact False.elim hq
theorem Yq{c:Expr}{a b:List Stmt}{pos:Pos}{tc:TT}{ta tb:TX}(hc:∀E':Value->Shared->Prop,PassesOwn (model X.prog X.w) X.A X.env E'->PT (X.wish E') c tc)(ha:PXs X a ta)(hb:PXs X b tb):
  PXs X [.If c a b pos] (λnx ex σ H=>tc σ H λd H1=>if d=true then ta nx ex σ H1 else tb nx ex σ H1):=by
 intro pins s σ H nx ex E' I hpo hE h;refine fF (wpAny_If (thn (hc E' hpo pins s σ H _ (I.wish _) h) λd s1 ⟨H1,I1,q1⟩=>?_));have I1:=I1.unwish;have fin:∀f s2,NP X pins nx f s2->(match f with |.next=>wpAny (model X.prog X.w) X.A (execs [] X.env) (NP X pins nx) E' s2 |f=>NP X pins nx f s2):=by rintro f s2 ⟨rfl,q⟩;exact ey ⟨rfl,q⟩
 cases d with
 |true=>exact thn (ha pins s1 σ H1 nx ex E' I1 hpo hE q1) fin
 |false=>exact thn (hb pins s1 σ H1 nx ex E' I1 hpo hE q1) fin
theorem Yr{prog:Program}{w:World}{A:Around}{E:Value->Shared->Prop}{s:Shared}{env:Env}{K:PF}{e C D:Addr}{t:Expr}{b₀:Stmt}{suite:List Stmt}{pos:Pos}{rest:List ExceptHandler}{Q:Flow->Shared->Prop}
  (hC:typeIn K (.ref C)=some (.type "type")) (hk:(clsIn K C).isSome=true) (hB:mroIn K C (.type "BaseException")=some true) (hm:mroIn K D (.ref C)=some true)
  (h:wpAny (model prog w) (A.mark (some (.ref e))) (eval t env) (λc s₁=>c=.ref C/\K.In s₁.heap/\(∃oe,s₁.heap.get? e=some oe/\oe.cls=.ref D)/\
   wpAny (model prog w) (A.mark (some (.ref e))) (setFlight (.ref e) none) (λ_ s₂=>wpAny (model prog w) (A.mark (some (.ref e))) (execs (b₀::suite) env) Q (notedBy (model prog w) (A.mark (some (.ref e))) env (cameBackBy (model prog w) A env E)) s₂) (notedBy (model prog w) (A.mark (some (.ref e))) env (cameBackBy (model prog w) A env E)) s₁) (notedBy (model prog w) (A.mark (some (.ref e))) env (cameBackBy (model prog w) A env E)) s):
  wpAny (model prog w) A (handleBy (.ref e) env (.ExceptHandler (some t) none (b₀::suite) pos::rest)) Q E s:=by
 refine wpAny_handleBy_cons (codeAny_handlers_test (b9 h (λc s₁ h₁=>?_) λ_ _ y=>y)) (by intro q;cases q);obtain ⟨rfl,O,⟨oe,he,hcls⟩,hkk⟩:=h₁;obtain ⟨hh,g,d,tk,os⟩:=s₁;exact Cz O he hcls hC hk hB hm (codeAny_handlers_suite hkk)
theorem Ys{prog:Program}{w:World}{A:Around}{E:Value->Shared->Prop}{s:Shared}{env:Env}{K:PF}{e C D:Addr}{t:Expr}{n:Str}{b₀:Stmt}{suite:List Stmt}{pos:Pos}{rest:List ExceptHandler}{Q:Flow->Shared->Prop}
  (hC:typeIn K (.ref C)=some (.type "type")) (hk:(clsIn K C).isSome=true) (hB:mroIn K C (.type "BaseException")=some true) (hm:mroIn K D (.ref C)=some true)
  (h:wpAny (model prog w) (A.mark (some (.ref e))) (eval t env) (λc s₁=>c=.ref C/\K.In s₁.heap/\(∃oe,s₁.heap.get? e=some oe/\oe.cls=.ref D)/\
   wpAny (model prog w) (A.mark (some (.ref e))) (setFlight (.ref e) none) (λ_ s₂=>
     wpAny (model prog w) (A.mark (some (.ref e))) (storeName env n (.ref e)) (λ_ s₃=>
      wpAny (model prog w) (A.mark (some (.ref e))) (execs (b₀::suite) env)
       (λf s₄=>wpAny (model prog w) A (do bindName env n .none;unbindBehindTheSuite env n pos) (λ_ s₅=>Q f s₅) E s₄)
       (AsSuiteRaised (model prog w) (A.mark (some (.ref e))) env n pos (notedBy (model prog w) (A.mark (some (.ref e))) env (cameBackBy (model prog w) A env E))) s₃) (notedBy (model prog w) (A.mark (some (.ref e))) env (cameBackBy (model prog w) A env E)) s₂) (notedBy (model prog w) (A.mark (some (.ref e))) env (cameBackBy (model prog w) A env E)) s₁) (notedBy (model prog w) (A.mark (some (.ref e))) env (cameBackBy (model prog w) A env E)) s):
  wpAny (model prog w) A (handleBy (.ref e) env (.ExceptHandler (some t) (some n) (b₀::suite) pos::rest)) Q E s:=by
 refine wpAny_handleBy_cons (codeAny_handlers_test (b9 h (λc s₁ h₁=>?_) λ_ _ y=>y)) (by intro q;cases q);obtain ⟨rfl,O,⟨oe,he,hcls⟩,hkk⟩:=h₁;obtain ⟨hh,g,d,tk,os⟩:=s₁;exact Cz O he hcls hC hk hB hm (codeAny_handlers_suite_as hkk)
structure Cat(K:PF)(C:Addr):Prop where
 t:typeIn K (.ref C)=some (.type "type")
 c:(clsIn K C).isSome=true
 b:mroIn K C (.type "BaseException")=some true
noncomputable def qG (K:PF) (C:Addr):Bool:=typeIn K (.ref C)==some (.type "type")&&(clsIn K C).isSome&&mroIn K C (.type "BaseException")==some true
theorem CG{K:PF}{C:Addr}(h:qG K C=true):Cat K C:=by unfold qG at h;rw[ae,ae,av,av]at h;exact ⟨h.1.1,h.1.2,h.2⟩
theorem Yt{C:Addr}{cx y:Str}{i:Nat}{b:Bool}{j:Nat}{p1 p2 p3 p4 p5 pos:Pos}{body:List Stmt}{t:TX}(hb:PXs X body t)(hst:X.stack=X.env::X.outer)
  (hcg:Gl X cx) (hcm:X.mg cx=some (.ref C)) (hcb:Cat X.K C) (hN:X.N.Nodup) (hi:X.N[i]?=some y) (hx:Loc X.env.scope y) (hf:X.fn y=true\/X.env.scope.names.lookup y=some .local)
  (hs2:swapsWith (.Constant (.bool b) j p3) (some (.Name y p2)) p4.line X.env=pure false:=by rfl) (hdc:(cx==("__debug__":Str))=false:=by decide):
  PS X (.Try body [.ExceptHandler (some (.Name cx p1)) none [.Assign [.Name y p2] (.Constant (.bool b) j p3) p4] p5] [] [] pos)
   (λD σ H=>t D.nx (λc σ' H2=>∃d,c=.ref d/\mroIn X.K d (.ref C)=some true/\D.nx (σ'.set i (some (.bl b))) H2) σ H):=by
 intro pins s σ H D I h;refine wpAny_Try_except (b9 (hb pins s σ H _ _ _ I PassesOwn.looking (λe s1 q=>?_) h) (λf s1 q=>?_) λ_ _ q=>q)
 ·obtain ⟨a,c,H1,s0,H2,rfl,I1,K,d,rfl,hm,qn⟩:=q;refine K.note I1 hst λh3 K3=>Yr (K:=X.K) (C:=C) (D:=d) hcb.t hcb.c hcb.b hm ?_;have J3:=K3.inv I1;have hcl:∃oe,h3.get? a=some oe/\oe.cls=.ref d:=by
   obtain ⟨oe,_,_,_,_,t1,t2,_⟩:=K3.tr;exact ⟨oe,t1,t2⟩
  refine iy (X:=X.marked a X.xe) (J3.marked a X.xe) hcg hcm ⟨rfl,J3.kIn,hcl,?_⟩ hdc;refine K3.flight I1 λh4 K4=>?_;have J4:=K4.inv I1;exact b9 (Ah (lu (X:=X.marked a _) hN hi hx Ad hs2 hf) pins _ σ H2 D (J4.marked a _) qn) (λf s5 z=>z.unmarked J4.ok) λ_ _ z=>z
 ·obtain ⟨rfl,σ',H',I',q'⟩:=q;exact ey ⟨σ',H',I',q'⟩
theorem Yu{M:Model}{A:Around}{E:Value->Shared->Prop}{pins:List (Addr×Obj)}{σ:St}{H:Hp}{s:Shared}{i:Nat}{x:Str}{pos:Pos}{Q:Unit->Shared->Prop}(I:Inv X pins σ H s)(hN:X.N.Nodup)(hi:X.N[i]?=some x)(hk:X.env.kindOf x=some .local)
  (h:∀s',Inv X pins (σ.set i none) H s'->Q () s'):wpAny M A (do bindName X.env x .none;unbindBehindTheSuite X.env x pos) Q E s:=by
 obtain ⟨m,hn,hl⟩:=id I.loc;have hcls:(X.env.scope.kind==.class||(X.env.scope.kind==.module&&X.env.locals != X.env.globals))=false:=by rw[I.ok.kind];rfl
 have hiσ:i < σ.length:=by rw[I.len];exact (am.mp hi).1
 have cne:=I.cne;have tracked:∀{a:Addr}{h':Heap},(∃o,s.heap.get? a=some o/\H a=none)->Heap.SameBut a s.heap h'->HOk X.prog X.w H h':=λ{a h'} ha hs b ob e=>by
  obtain ⟨_,_,hfree⟩:=ha;refine (I.hok b ob e).stay (λc w' hc q=>(hs.2 c ?_).trans q) (λ_ q=>q) λ_ _ q=>q;rintro rfl;rcases hc with rfl |hc
  ·rw[hfree]at e;cases e
  ·rw[hfree]at hc;cases hc
 refine wpAny_nameGoes_keeps hk hn hcls λh' v hn' hs=>?_;obtain ⟨oL,_,_,hoL,_⟩:=id hn;refine h _ ⟨I.ok,I.os,I.bare,⟨λb o e n hb hx=>?_,λb o e n hb hx=>?_,I.base.free,λb o e hx=>?_,I.base.tups,I.base.frzs,I.base.tbls⟩,⟨_,hn',λj y v' e1 e2 e3=>?_⟩,λy c e=>?_,I.free,I.freeC,λp hp=>?_,tracked ⟨oL,hoL,I.free⟩ hs,by simpa using I.len⟩
 ·exact (hs.2 b (ca (bb (ay e) I.ok.above))).trans (I.base.keep b o e n hb hx)
 ·obtain ⟨sl,e1⟩:=I.base.slot b o e n hb hx;exact ⟨sl,(hs.2 b (ca (bb (ay e) I.ok.above))).trans e1⟩
 ·obtain ⟨o',e1⟩:=I.base.there b o e hx;exact ⟨o',(hs.2 b (ca (bb (ay e) I.ok.above))).trans e1⟩
 ·by_cases hj:j=i
  ·subst hj;rw[ge hiσ]at e2;cases e2
  ·rw[List.getElem?_set_ne (Ne.symm hj)]at e2;obtain ⟨u',r',q⟩:=hl j y v' e1 e2 e3;refine ⟨u',r',?_⟩;rcases q with ⟨k,e⟩ |⟨k,c,e,z⟩
   ·refine .inl ⟨k,?_⟩;have:y≠x:=λe=>hj (vz hN e1 (e ▸ hi));simp[this,e]
   ·exact .inr ⟨k,c,e,z.sameBut hs (cne y c e)⟩
 ·obtain ⟨w',z⟩:=I.cell y c e;exact ⟨w',z.sameBut hs (cne y c e)⟩
 ·obtain ⟨e,n,ne,nf,d⟩:=I.pin p hp;exact ⟨(hs.2 p.1 ne).trans e,n,ne,nf,d⟩
theorem Yv{C:Addr}{cx y n:Str}{i jn:Nat}{p1 p2 p3 p4 p5 pos:Pos}{body:List Stmt}{t:TX}(hb:PXs X body t)(hst:X.stack=X.env::X.outer)(hex:X.ex=[])
  (hcg:Gl X cx) (hcm:X.mg cx=some (.ref C)) (hcb:Cat X.K C) (hN:X.N.Nodup) (hi:X.N[i]?=some y) (hx:Loc X.env.scope y) (hf:X.fn y=true\/X.env.scope.names.lookup y=some .local)
  (hj:X.N[jn]?=some n) (hnk:X.env.kindOf n=some .local) (hnl:X.env.scope.names.lookup n=some .local) (hnd:(n==("__debug__":Str))=false) (hnc:(n==("__classdict__":Str))=false)
  (hs2:swapsWith (.Name n p3) (some (.Name y p2)) p4.line X.env=pure false) (hdc:(cx==("__debug__":Str))=false:=by decide):
  PS X (.Try body [.ExceptHandler (some (.Name cx p1)) (some n) [.Assign [.Name y p2] (.Name n p3) p4] p5] [] [] pos)
   (λD σ H=>t D.nx (λc σ' H2=>∃d,c=.ref d/\mroIn X.K d (.ref C)=some true/\∀a o,H2 a=none->o.cls=.ref d->D.nx (((σ'.set jn (some (.ref a))).set i (some (.ref a))).set jn none) (upd H2 a (.frz o (.own a)))) σ H):=by
 intro pins s σ H D I h;refine wpAny_Try_except (b9 (hb pins s σ H _ _ _ I PassesOwn.looking (λe s1 q=>?_) h) (λf s1 q=>?_) λ_ _ q=>q)
 ·obtain ⟨a,c,H1,s0,H2,rfl,I1,K,d,rfl,hm,qn⟩:=q;refine K.note I1 hst λh3 K3=>Ys (K:=X.K) (C:=C) (D:=d) hcb.t hcb.c hcb.b hm ?_;have J3:=K3.inv I1;have hcl:∃oe,h3.get? a=some oe/\oe.cls=.ref d:=by
   obtain ⟨oe,_,_,_,_,t1,t2,_⟩:=K3.tr;exact ⟨oe,t1,t2⟩
  refine iy (X:=X.marked a X.xe) (J3.marked a X.xe) hcg hcm ⟨rfl,J3.kIn,hcl,?_⟩ hdc;refine K3.flight I1 λh4 K4=>?_;have J4:=K4.inv I1;obtain ⟨oe,vs,T,oT,ts,t1,t2,t3,t4,t6,t7,t8,t9,n1,n2,n3,n4⟩:=K4.tr;have n0:X.s₀.heap.get? a=none:=by
   cases e:X.s₀.heap.get? a with
   |none=>rfl
   |some o=>
    obtain ⟨o',e'⟩:=I1.base.there a o e (by rw[hex];simp);rw[n1]at e';cases e'
  have J5:=J4.tell n0 n3 t1 t3 (λp hp e=>by
   obtain ⟨e1,_⟩:=I1.pin p hp;rw[e,n1]at e1;cases e1)
  have q5:=qn a oe n3 t2;refine jx (X:=X.marked a X.xe) (J5.marked a X.xe) hN hj (.inl hnl) (v:=.ref a) rfl (λs6 J6=>?_) (.inr hnl);have J6':Inv X pins (σ.set jn (some (.ref a))) (upd H2 a (.frz oe (.own a))) s6:=J6.unmarked J4.ok;have hl6:jn < σ.length:=by rw[I1.len];exact (am.mp hj).1
  refine b9 (Ah (lu (X:=X.marked a _) hN hi hx (vA (i:=jn) hj (.inl hnl) hnd hnc) hs2 hf) pins s6 _ _ { nx:=λσ' H'=>D.nx (σ'.set jn none) H',rt:=λ_ _=>False,bk:=λ_ _=>False,ct:=λ_ _=>False } (J6'.marked a _) ⟨.ref a,ge hl6,q5⟩) (λf s7 z=>?_) λ_ _ z=>z;have z':=z.unmarked (X:=X) J4.ok;cases f with
  |next=>
   obtain ⟨σ7,H7,I7,q7⟩:=z';exact Yu I7 hN hj hnk λs8 I8=>⟨_,H7,I8,q7⟩
  |brk=>obtain ⟨_,_,_,q⟩:=z';exact q.elim
  |cont=>obtain ⟨_,_,_,q⟩:=z';exact q.elim
  |ret u=>obtain ⟨_,_,_,_,_,q⟩:=z';exact q.elim
 ·obtain ⟨rfl,σ',H',I',q'⟩:=q;exact ey ⟨σ',H',I',q'⟩
end
open PySem.SeqAt
section
variable {X:Cx}
theorem vV:∀{bs:List Bool}{us:List Value},Vals (bs.map V.bl) us->us=bs.map Value.bool
 |[],us,r=>by cases r;rfl
 |b::bs,us,r=>by
  cases r with
  |cons r1 r2=>
   have e:_=Value.bool b:=r1;rw[e,vV r2];rfl
theorem CJ(k:Bool){bs:List Bool}:∀y,y∈(bs.map Value.bool)->∀(A:Around)(s:Shared),EqAt A s y (.bool k) (isBoolOf k y):=by intro y hy A s;obtain ⟨b,_,rfl⟩:=cr.mp hy;exact EqAt.bool_bool b k
theorem Yw(k:Bool)(bs:List Bool):(bs.map Value.bool).countP (isBoolOf k)=bs.count k:=by
 induction bs with
 |nil=>rfl
 |cons b bs ih=>
  rw[ce,List.countP_cons,ih,List.count_cons];rfl
noncomputable def Yx(K:PF):V->List V->Hp->VK->Prop:=λx vs H Q=>∃(p:Addr)(bs:List Bool),x=.ref p/\vs=[.bl true]/\SqL K H p (bs.map V.bl)/\Q (.int (bs.count true:Nat)) H
theorem Yy:MtR X "list.count" (Yx X.K):=by intro pins s σ H x xs v us Q I rx rs h;obtain ⟨p,bs,rfl,rfl,hq,q⟩:=h;cases rx;obtain ⟨u,rfl,ru⟩:=vals1 rs;cases ru;obtain ⟨its,rv,⟨o,n,ho,hc,hd,hdd⟩,hz⟩:=I.list hq;obtain ⟨cls,dd,data,sl⟩:=o;simp only at hc hd hdd;subst hc hd hdd;have e:=vV rv;subst e;refine fy PySem.F.slot_list_count ⟨_,ho,rfl⟩ PySem.F.entry_list_count (PySem.F.args_list_count_2 _ _) (list_countAt p _ n _ sl (.bool true) (isBoolOf true)) ⟨ho,λy hy=>CJ true y (by simpa using hy) _ _,?_⟩;refine ⟨.int _,H,I.tok _,⟨_,rfl⟩,?_⟩;rw[show ((bs.map Value.bool).toArray).toList=bs.map Value.bool from rfl,Yw];exact q
noncomputable def Yz(K:PF):V->List V->Hp->VK->Prop:=λx vs H Q=>∃(p:Addr)(bs:List Bool),x=.ref p/\vs=[.bl true]/\SqL K H p (bs.map V.bl)/\true∈bs/\Q (.int (bs.idxOf true:Nat)) H
theorem CK(bs:List Bool)(j:Nat)(h:j < (bs.map Value.bool).length)(h':j < bs.length):isBoolOf true (bs.map Value.bool)[j]=(bs[j]==true):=by rw[List.getElem_map];rfl
theorem YB:MtR X "list.index" (Yz X.K):=by
 intro pins s σ H x xs v us Q I rx rs h;obtain ⟨p,bs,rfl,rfl,hq,hin,q⟩:=h;cases rx;obtain ⟨u,rfl,ru⟩:=vals1 rs;cases ru;obtain ⟨its,rv,⟨o,n,ho,hc,hd,hdd⟩,hz⟩:=I.list hq;obtain ⟨cls,dd,data,sl⟩:=o;simp only at hc hd hdd;subst hc hd hdd;have e:=vV rv;subst e;have hj:bs.idxOf true < bs.length:=List.idxOf_lt_length_iff.mpr hin;have hz':bs.length<=sizeLine:=by rw[al]at hz;exact hz
 have hs:sizeLine < 2 ^ 63 - 1:=by decide
 refine fy PySem.F.slot_list_index ⟨_,ho,rfl⟩ PySem.F.entry_list_index (PySem.F.args_list_index_2 _ _) (list_indexAt p _ n _ sl (.bool true) (isBoolOf true) (bs.idxOf true) (by simpa using hj) (by omega) ?_ ?_) ⟨ho,λy hy=>CJ true y (by simpa using hy) _ _,?_⟩
 ·have h3:bs.idxOf true < (bs.map Value.bool).length:=by rw[al];exact hj
  show isBoolOf true ((bs.map Value.bool)[bs.idxOf true]'h3)=true;rw[CK bs _ h3 hj];simpa using List.getElem_idxOf hj
 ·intro j hjs hlt;have h2:j < bs.length:=by omega
  have h3:j < (bs.map Value.bool).length:=by rw[al];exact h2
  show isBoolOf true ((bs.map Value.bool)[j]'h3)=false;rw[CK bs j h3 h2];have h4:j < bs.findIdx (·==true):=hlt;simpa using List.not_of_lt_findIdx h4
 ·exact ⟨.int _,H,I.tok _,⟨_,rfl⟩,q⟩
end
section
variable {X:Cx}
theorem YC:OpR X (binaryOp .FloorDiv) (rI (λ_ j=>0 < j/\j < 1152921504606846976) λi j=>.int (i / j)):=opI λi j _ _ _ _ _ hc q=>by
 have h1:(0:Int) < j:=hc.1;have h2:j < 1152921504606846976:=hc.2;refine floordiv_int (by omega) (by rw[Int.fdiv_eq_ediv_of_nonneg i (by omega)];exact q) (.inl (PyProof.noPylong_of_log2 ?_));have:j.natAbs.log2 < 60:=(Nat.log2_lt (by omega)).mpr (by show j.natAbs < 1152921504606846976;omega);omega
def vW(m:Nat):Str:=Str.ofString (toString (m:Int))
theorem YD{m:Nat}(h:m < 100):(m:Int).natAbs.log2 < 1920:=by have:(m:Int).natAbs=m:=Int.natAbs_natCast m;rw[this];exact Nat.lt_of_le_of_lt (Nat.log2_le_self m) (by omega)
theorem YF:bH X (.type "str") (λxs H Q=>∃m:Nat,xs=[.int m]/\m < 100/\Q (.str (vW m)) H):=by intro pins s σ H xs us Q I r h;obtain ⟨m,rfl,hm,q⟩:=h;obtain ⟨u,rfl,ru⟩:=vals1 r;obtain ⟨t,rfl⟩:=ru;exact PySem.P.str_of_int (YD hm) ⟨.str _,H,I.tok _,⟨_,rfl⟩,q⟩
end
end L2
namespace HT
open PySem PySem.Spec PyProof.Rows Builtin
theorem YG:fillsNumberSlot (.type "tuple") "mul"=pure false:=
 PySem.fillsNumberSlot_seq (id:="tuple.__mul__") (r:=some (.builtin "tuple.__rmul__")) PySem.F.slot_tuple_mul.lookup (by ac_rfl) PySem.F.slot_tuple_rmul.lookup (by ac_rfl)
theorem YH:seqRepeat? (.type "tuple")=pure (some (.builtin "tuple.__mul__")):=by unfold seqRepeat?;rw[PySem.seqSlot_of (T:="tuple") (name:="__mul__") (id:="tuple.__mul__") PySem.F.slot_tuple_mul.lookup (by ac_rfl),PySem.seqSlot_of (T:="tuple") (name:="__rmul__") (id:="tuple.__rmul__") PySem.F.slot_tuple_rmul.lookup (by ac_rfl)];rfl
theorem YJ(a:Int)(t:Tok)(l:Addr)(items:Array Value)(n:Nat)(dd:Option Addr)(sl:Array (Option Value)):
  Meets (Builtin.«int.__rmul__» ⟨[.int a t,.ref l],[]⟩) (λ_ R s=>s.heap.get? l=some { cls:=.type "tuple",dict:=dd,data:=.seq items n,slots:=sl }/\R (.ok (.ret Value.notImplemented)) s):=
 .of_wp λprog w A R s h=>by obtain ⟨hp,g,d,tk,os⟩:=s;obtain ⟨hl,h⟩:=h;wp_walk;exact ⟨_,rfl,h⟩
theorem YK(l:Addr)(items:Array Value)(n:Nat)(dd:Option Addr)(sl:Array (Option Value))(k:Int)(t:Tok)(h2:2<=k)(hk:k<=1000)(hne:items.isEmpty=false)(hz:items.size * k.toNat<=sizeLine)(hz2:(List.foldl (λx1 x2=>x1++x2) #[] (List.replicate k.toNat items)).size<=sizeLine):
  Meets (Builtin.«tuple.__mul__» ⟨[.ref l,.int k t],[]⟩) (λ_ R s=>s.heap.get? l=some { cls:=.type "tuple",dict:=dd,data:=.seq items n,slots:=sl }/\
   R (.ok (.ret (.ref s.heap.objs.size))) { s with heap:=s.heap.push { cls:=.type "tuple",data:=.seq ((List.replicate k.toNat items).foldl (· ++ ·) #[]) } }):=
 .of_wp λprog w A R s h=>by
  obtain ⟨hp,g,d,tk,os⟩:=s;obtain ⟨hl,h⟩:=h;have a1:(decide (k < -(2 ^ 63))||decide (k≥2 ^ 63))=false:=by rw[decide_eq_false (by omega),decide_eq_false (by omega)];rfl
  have a2:(items.isEmpty||k==1)=false:=by rw[hne,Bool.false_or,beq_eq_false_iff_ne];omega
  have a3:(decide (k<=0)||items.isEmpty)=false:=by rw[decide_eq_false (by omega),hne];rfl
  have hs:(items.size:Int) * k=((items.size * k.toNat:Nat):Int):=by rw[Int.natCast_mul,Int.toNat_of_nonneg (by omega)]
  have hsl:sizeLine<=1152921504606846975:=by decide
  have a4:¬((items.size:Int) * k > (2 ^ 63 - 1) / 8):=by rw[hs];omega
  have a5:¬(Tuple.tupleTooMany ((items.size:Int) * k)=true):=by unfold Tuple.tupleTooMany;rw[decide_eq_true_iff,hs];omega
  wp_walk
  rw[if_neg (by rw[a1];exact Bool.false_ne_true)];wp_walk
  rw[if_neg (by rw[a2];exact Bool.false_ne_true)];dsimp only;rw[if_neg (by rw[a3];exact Bool.false_ne_true),if_neg a4,if_neg a5];unfold Tuple.tupleExact;wp_walk
  exact ⟨_,rfl,h⟩
end HT
namespace L2
open PySem PySem.Spec PyProof.Rows
section
variable {X:Cx}
def YL(K:PF):R2:=λx y H Q=>∃(l:Addr)(k:Int)(xs:List V),x=.ref l/\y=.int k/\SqT K H l xs/\xs≠[]/\2<=k/\k<=1000/\xs.length * k.toNat<=sizeLine/\∀p,H p=none->Q (.ref p) (upd H p (.tup (List.replicate k.toNat xs).flatten))
theorem YM:OpR X (binaryOp .Mult) (YL X.K):=by
 intro pins s σ H x y v u Q I rx ry h;obtain ⟨l,k,xs,rfl,rfl,hT,hne,h2,hk,hz,q⟩:=h;cases rx;obtain ⟨t,rfl⟩:=ry;obtain ⟨its,r,pt,_⟩:=I.tuple hT;obtain ⟨⟨cls,dd,data,sl⟩,ho,hc,n,hd⟩:=id pt;simp only at hc hd;subst hc hd;have hl:=r.length;have hz':its.toArray.size * k.toNat<=sizeLine:=by rw[ar,<-hl];exact hz
 have he:its.toArray.isEmpty=false:=by
  cases its with
  |nil=>exact absurd (cy.mp hl) hne
  |cons _ _=>rfl
 have hnew:List.foldl (λx1 x2=>x1++x2) #[] (List.replicate k.toNat its.toArray)=(List.replicate k.toNat its).flatten.toArray:=by have:=foldl_rep its k.toNat [];rw[List.nil_append]at this;exact this
 refine wpAny_binaryOp_repeat_ref (T:="tuple") (U:="int") (by decide) ⟨_,ho,rfl⟩ (λs'=>typeIs_int s' k t) HT.YG F.fills_int_mul F.slot_int_rmul HT.YH F.slot_int_index.lookup
  (fy F.slot_int_rmul (typeIs_int s k t) F.entry_int_rmul (F.args_int_rmul_2 _ _) (HT.YJ k t l its.toArray n dd sl)
   ⟨ho,rfl,⟨_,ho,rfl⟩,fy PySem.F.slot_tuple_mul ⟨_,ho,rfl⟩ PySem.F.entry_tuple_mul (PySem.F.args_tuple_mul_2 _ _) (HT.YK l its.toArray n dd sl k t h2 hk he hz' (by rw[hnew,ar,len_rep,Nat.mul_comm,<-hl];exact hz)) ⟨ho,?_⟩⟩)
 rw[hnew];refine ⟨.ref s.heap.objs.size,_,I.laid (t':=s.toks) (o:=.tup (List.replicate k.toNat xs).flatten) (λb ob q=>ah _ q) (aw _) ?_,rfl,q _ (I.hok.fresh (aw _))⟩;exact ⟨by rw[len_rep,Nat.mul_comm];exact hz,_,r.rep k.toNat,IsTup.new _ _⟩
end
end L2
namespace HT
open PySem PySem.Spec PyProof.Rows Builtin
theorem YQ(a:Int)(t:Tok)(l:Addr)(items:Array Value)(n:Nat)(dd:Option Addr)(sl:Array (Option Value)):
  Meets (Builtin.«int.__rmul__» ⟨[.int a t,.ref l],[]⟩) (λ_ R s=>s.heap.get? l=some { cls:=.type "list",dict:=dd,data:=.seq items n,slots:=sl }/\R (.ok (.ret Value.notImplemented)) s):=
 .of_wp λprog w A R s h=>by obtain ⟨hp,g,d,tk,os⟩:=s;obtain ⟨hl,h⟩:=h;wp_walk;exact ⟨_,rfl,h⟩
theorem YS(l:Addr)(items:Array Value)(n:Nat)(dd:Option Addr)(sl:Array (Option Value))(x:Int)(u:Tok)(hc0:¬(!Builtin.List.listFitsIndex x)=true)(hc1:¬items.size * x.toNat > (2 ^ 63 - 1) / 8)(hc2:¬Builtin.List.listTooLong (items.size * x.toNat)=true):
  Meets (Builtin.«list.__mul__» ⟨[.ref l,.int x u],[]⟩) (λ_ R s=>s.heap.get? l=some { cls:=.type "list",dict:=dd,data:=.seq items n,slots:=sl }/\R (.ok (.ret (Value.ref s.heap.objs.size))) { s with heap:=s.heap.push { cls:=Value.type "list",data:=Data.seq (List.foldl (λx1 x2=>x1++x2) #[] (List.replicate (if items.isEmpty=true then 0 else x.toNat) items)) },toks:=s.toks }):=
 .of_wp λprog w A R s h=>by
  obtain ⟨hp,g,d,tk,os⟩:=s;obtain ⟨hl,h⟩:=h;have hsz:=AutoListH.joined_fits hc2;wp_walk;refine wpAny_ite_false (decide_eq_false (Nat.not_lt.mpr hsz)) ?_;wp_walk;exact ⟨_,rfl,h⟩
end HT
namespace L2
open PySem PySem.Spec PyProof.Rows
section
variable {X:Cx}
def YT(K:PF):R2:=λx y H Q=>∃(l:Addr)(k:Int)(xs:List V),x=.ref l/\y=.int k/\SqL K H l xs/\0<=k/\k<=1000/\xs.length * k.toNat<=sizeLine/\∀p,H p=none->Q (.ref p) (upd H p (.lst (List.replicate k.toNat xs).flatten))
theorem YW:OpR X (binaryOp .Mult) (YT X.K):=by
 intro pins s σ H x y v u Q I rx ry h;obtain ⟨l,k,xs,rfl,rfl,hH,h1,h2,hz,q⟩:=h;cases rx;obtain ⟨t,rfl⟩:=ry;obtain ⟨its,r,⟨⟨cls,dd,data,sl⟩,n,e,c1,c2,c3⟩,_⟩:=I.list hH;simp only at c1 c2 c3;have hl:=r.length;have hlen:its.toArray.size * k.toNat<=sizeLine:=by rw[ar,<-hl];exact hz
 have hcap:¬its.toArray.size * k.toNat > (2 ^ 63 - 1) / 8:=by
  have:(sizeLine:Nat)<=(2 ^ 63 - 1) / 8:=by decide
  omega
 have hfit:¬(!Builtin.List.listFitsIndex k)=true:=by rw[fitsIndex_both (by omega) (by omega)];exact bi
 have hlong:¬Builtin.List.listTooLong (its.toArray.size * k.toNat)=true:=by rw[Bw hlen];exact bi
 have hnew:List.foldl (λx1 x2=>x1++x2) #[] (List.replicate (if its.toArray.isEmpty=true then 0 else k.toNat) its.toArray)=(List.replicate k.toNat its).flatten.toArray:=by
  have f0:∀m:Nat,List.foldl (λx1 x2=>x1++x2) #[] (List.replicate m its.toArray)=(List.replicate m its).flatten.toArray:=λm=>by
   have:=foldl_rep its m [];rw[List.nil_append]at this;exact this
  rw[f0];cases its with
  |nil=>simp
  |cons a r'=>rw[if_neg (by simp)]
 subst c1 c3;refine wpAny_binaryOp_repeat_ref (T:="list") (U:="int") (by decide) ⟨_,e,rfl⟩ (λs'=>typeIs_int s' k t) noFill_list_mul F.fills_int_mul F.slot_int_rmul repeat_list F.slot_int_index.lookup
  (fy F.slot_int_rmul (typeIs_int s k t) F.entry_int_rmul (F.args_int_rmul_2 _ _) (HT.YQ k t l its.toArray n dd sl)
   ⟨e,rfl,⟨_,e,rfl⟩,fy F.slot_list_mul ⟨_,e,rfl⟩ F.entry_list_mul (F.args_list_mul_2 _ _) (HT.YS l its.toArray n dd sl k t hfit hcap hlong) ⟨e,?_⟩⟩)
 rw[hnew];exact ⟨.ref _,_,I.lnew (t':=s.toks) (r.rep k.toNat) (by rw[len_rep,Nat.mul_comm];exact hz),rfl,q _ I.fresh⟩
end
end L2
namespace PySem
end PySem
namespace L2
open PySem PySem.Spec PyProof.Rows
end L2
namespace PyProof.Rows
open PySem
theorem YX {prog:Program} {w:World} {A:Around} {E:Value->Shared->Prop} {s:Shared} {it:Addr} {T:String} {o:Obj} {items:List Value} {n:Nat} {ns:List Int} {Q:Value->Shared->Prop} (hT:T="list"\/T="tuple")
  (ho:s.heap.get? it=some o) (hc:o.cls=.type T) (hd:o.data=.seq items.toArray n) (hI:IntsAre items ns) (h64:items.length < 64)
  (h:∀(h1 h':Heap) (e:Nat) (out:Array Value) (ns':List Int),IntsAre out.toList ns'->ns'.Perm ns->ns'.Pairwise (·<=·)->(∀b o',s.heap.get? b=some o'->h1.get? b=some o')->(∀b o',h1.get? b=some o'->h'.get? b=some o')->h'.get? h1.objs.size=some (seqObj "list" out e)->Q (.ref h1.objs.size) { s with heap:=h' }):
  wpAny (model prog w) A (call (.builtin "sorted") [.ref it]) Q E s:=by
 refine Calls.call_function_entry kind_sorted plain_sorted entry_sorted (args_sorted1 _) ?_;unfold Builtin.«sorted»;refine wpAny_bind (m:=checkCount "sorted" 1 1 _) (wpAny_pure ?_);refine wpAny_bind (wpAny_collect_seq it hT ho hc hd (λh1 k1=>?_) (by rw[List.size_toArray,sizeLine_eq];omega));refine wpAny_bind (wpAny_newList ?_);have e1:items.toArray.toList=items:=by simp
 rw[e1];have hoL:(h1.push (seqObj "list" items.toArray 0)).get? h1.objs.size=some (seqObj "list" items.toArray 0):=Heap.get?_push_size _ rfl;show wpAny _ _ _ _ _ { s with heap:=h1.push (seqObj "list" items.toArray 0) };refine wpAny_bind (wpAny_holding (wpAny_call_entry slot_list_sort ⟨_,hoL,rfl⟩ entry_list_sort (list_sort_tree hoL hI h64 λout ns' a1 a2 a3=>⟨_,rfl,?_⟩) (args_list_sort _)));obtain ⟨e,he⟩:=sortedHeap_at (vs:=items) (out:=out) hoL;refine wpAny_pure ⟨_,rfl,h h1 _ e out ns' a1 a2 a3 k1 (λb o' hb1=>?_) he⟩;rw[sortedHeap_old (Nat.ne_of_lt (Heap.lt_size hb1)) (by rw[size_push'];exact Nat.lt_succ_of_lt (Heap.lt_size hb1))];exact Heap.get?_push_of_some _ hb1
end PyProof.Rows
namespace L2
open PySem PySem.Spec PyProof.Rows
theorem aii {X:Cx}:bH X (.builtin "sorted") (λxs H Q=>∃(p:Addr) (ns:List Int),xs=[.ref p]/\SqT X.K H p (ns.map V.int)/\ns.length < 64/\∀ns':List Int,ns'.Perm ns->ns'.Pairwise (·<=·)->∀l,H l=none->Q (.ref l) (upd H l (.lst (ns'.map V.int)))):=by
 intro pins s σ H xs us Q I r h;obtain ⟨p,ns,rfl,hq,h64,q⟩:=h;obtain ⟨u,rfl,ru⟩:=vals1 r;cases ru;obtain ⟨its,rv,⟨o,ho,hc,n,hd⟩,hz⟩:=I.tuple hq;have hlen:its.length=ns.length:=by rw[<-rv.length];simp
 refine YX (.inr rfl) ho hc hd (intsAre_of rv) (by omega) λh1 h' e out ns' a1 a2 a3 k1 k2 he=>?_;have I1:Inv X pins σ H { s with heap:=h1 }:=I.kept (t':=s.toks) k1;have hsz:(ns'.map V.int).length<=sizeLine:=by rw[al,a2.length_eq,sizeLine_eq];omega
 exact ⟨.ref h1.objs.size,_,I1.laid (t':=s.toks) k2 (aw _) (show ObjOk X.prog X.w _ _ _ (.lst (ns'.map V.int)) from ⟨hsz,out.toList,e,vJ a1,by rw[Array.toArray_toList];exact he⟩),rfl,q ns' a2 a3 _ (I1.hok.fresh (aw _))⟩
section
variable {prog:Program} {w:World} {A:Around} {R:Result->Shared->Prop} {s:Shared}
def fV(e:Expr)(d:Nat)(target iter:Expr)(em:Value->Env->Sem Fin->Sem Fin):Prop:=
 ∀it acc env,compTurn e d it acc env=(standAt iter.pos >>= λ_=>pyNext it >>= λr=>match r with
   |none=>pure (.done .next)
   |some v=>letOwnedTupleGo target it v >>= λ_=>assign target env v >>= λ_=>em acc env (again (.compLoop e d it acc env)))
def emE (elt:Expr) (acc:Value) (env:Env) (k:Sem Fin):Sem Fin:=(eval elt env >>= λx=>call (.builtin "list.append") [acc,x] >>= λ_=>pure ()) >>= λ_=>k
def emG(e:Expr)(d:Nat)(iter:Expr)(acc:Value)(env:Env)(k:Sem Fin):Sem Fin:=
 eval iter env >>= λx=>standAt iter.pos >>= λ_=>foldedSetIterable iter env x >>= λx=>holding [x] (pyIter x) >>= λit=>runOwn (.compStart e d it acc env) env >>= λ_=>k
theorem YZ(elt t1 i1 t2 i2 t3 i3:Expr)(scope:Scope)(pos:Pos):fV (.ListComp elt [⟨t1,i1,[],0⟩,⟨t2,i2,[],0⟩,⟨t3,i3,[],0⟩] scope pos) 2 t3 i3 (emE elt):=λ_ _ _=>rfl
theorem Y0(elt t1 i1 t2 i2 t3 i3:Expr)(scope:Scope)(pos:Pos):fV (.ListComp elt [⟨t1,i1,[],0⟩,⟨t2,i2,[],0⟩,⟨t3,i3,[],0⟩] scope pos) 1 t2 i2 (emG (.ListComp elt [⟨t1,i1,[],0⟩,⟨t2,i2,[],0⟩,⟨t3,i3,[],0⟩] scope pos) 2 i3):=λ_ _ _=>rfl
theorem CN(elt t1 i1 t2 i2 t3 i3:Expr)(scope:Scope)(pos:Pos):fV (.ListComp elt [⟨t1,i1,[],0⟩,⟨t2,i2,[],0⟩,⟨t3,i3,[],0⟩] scope pos) 0 t1 i1 (emG (.ListComp elt [⟨t1,i1,[],0⟩,⟨t2,i2,[],0⟩,⟨t3,i3,[],0⟩] scope pos) 1 i2):=λ_ _ _=>rfl
theorem CP{elt:Expr}{gens:List Comprehension}{scope:Scope}{pos:Pos}{d:Nat}{target iter:Expr}{em:Value->Env->Sem Fin->Sem Fin}{it acc:Value}{env:Env}(hT:fV (.ListComp elt gens scope pos) d target iter em)(I:Nat->Shared->Prop)
  (turn:∀n s,I n s->wpAny (model prog w) A (pyNext it) (λr s₁=>match r with
   |none=>R (.ok .next) s₁
   |some v=>wpAny (model prog w) A (letOwnedTupleGo target it v) (λ_ s₁'=>wpAny (model prog w) A (assign target env v) (λ_ s₂=>
     ∀(k:Sem Fin)(Q:Fin->Shared->Prop)(E:Value->Shared->Prop),(∀s₅,(∃m,m < n/\I m s₅)->wpAny (model prog w) A k Q E s₅)->wpAny (model prog w) A (em acc env k) Q E s₂) (λ_ _=>False) s₁') (λ_ _=>False) s₁) (λ_ _=>False) s)
  (n:Nat) (h:I n s):codeAny (model prog w) A (.compLoop (.ListComp elt gens scope pos) d it acc env) R s:=by
 refine codeAny_loop rfl I (λn s hI=>?_) n h;show wpAny _ A ((compTurn (.ListComp elt gens scope pos) d it acc env).onRaise (λx=>do noteFrame x env;theTreesLotGoes x)) _ _ s;refine wpAny_noted ?_;rw[hT];refine ag (gv (ag (b9 (turn n s hI) (λr s₁ h₁=>?_) λ_ _ h'=>False.elim h')));cases r with
 |none=>exact aS h₁
 |some v=>
  refine ag (b9 h₁ (λ_ s₁' h₁'=>?_) λ_ _ h'=>False.elim h');exact ag (b9 h₁' (λ_ s₂ h₂=>h₂ _ _ _ λs₃ h₃=>aS ⟨rfl,h₃⟩) λ_ _ h'=>False.elim h')
theorem Y4{elt:Expr}{gens:List Comprehension}{scope:Scope}{pos:Pos}{d:Nat}{t i:Expr}{it acc:Value}{env:Env}(hg:gens[d]?=some ⟨t,i,[],0⟩)
  (h0:codeAny (model prog w) A (.compLoop (.ListComp elt gens scope pos) d it acc env) R s)
  (h:wpAny (model prog w) A (pyIter it) (λit' s'=>codeAny (model prog w) A (.compLoop (.ListComp elt gens scope pos) d it' acc env) R s') (λ_ _=>False) s):
  codeAny (model prog w) A (.compStart (.ListComp elt gens scope pos) d it acc env) R s:=by
 refine codeAny_of_tree ?_;show wpAny _ _ ((compStart (.ListComp elt gens scope pos) d it acc env).onRaise (λx=>do noteFrame x env;standAt theWindowsPlace)) _ _ s;refine wpAny_notedAt ?_;unfold compStart;have e:(clausesOf (.ListComp elt gens scope pos))[d]?=some ⟨t,i,[],0⟩:=hg;rw[e];show wpAny _ _ (ask >>= _) _ _ s;refine ag (wpAny_askSetting (wpAny_ite ?_));split
 ·exact aS (af rfl h0)
 ·refine ag (fx ?_);show wpAny _ _ (standAt i.pos >>= _) _ _ s;exact ag (gv (ag (b9 h (λit' s' h'=>aS (af rfl h')) λ_ _ x=>False.elim x)))
end
abbrev TM:=List V->St->Hp->(List V->St->Hp->Prop)->Prop
def lob (its:List Value) (n:Nat):Obj:={ cls:=.type "list",data:=.seq its.toArray n }
structure AccOk(X:Cx)(a:Addr):Prop where
 new:a∈X.ex\/X.s₀.heap.objs.size<=a
 cel:∀x c,X.env.cells.lookup x=some c->c≠a
 pin:∀p∈X.pn,p.1≠a
def PM(X:Cx)(lim:Bool)(a:Addr)(em:Sem Fin->Sem Fin)(t:TM):Prop:=
 ∀(pins:List (Addr×Obj))(its:List Value)(n:Nat)(ys:List V)(σ:St)(H:Hp)(s:Shared)(K:List V->St->Hp->Prop),Inv X ((a,lob its n)::pins) σ H s->(∀p∈pins,p.1≠a)->Vals ys its->(lim=true->ys.length < sizeLine)->t ys σ H K->
  ∀(k:Sem Fin)(Q:Fin->Shared->Prop)(E:Value->Shared->Prop),(∀s' its' n' ys' σ' H',Inv X ((a,lob its' n')::pins) σ' H' s'->Vals ys' its'->K ys' σ' H'->wpAny (model X.prog X.w) X.A k Q E s')->wpAny (model X.prog X.w) X.A (em k) Q E s
def tmE(te:TE):TM:=λys σ H K=>ys.length < sizeLine/\te σ H λy H'=>K (ys++[y]) σ H'
theorem CQ{X:Cx}{a:Addr}{elt:Expr}{te:TE}(hx:X.xe=λ_ _=>False)(ha:AccOk X a)(he:PE X elt te):PM X false a (emE elt (.ref a) X.env) (tmE te):=by
 intro pins its n ys σ H s K I hp rv _ h kk Q E hk;obtain ⟨hz,h⟩:=h;have h0:=he _ s σ H _ I h;rw[hx]at h0;refine ag (ag (b9 h0 (λv s8 h8=>?_) λ_ _ z=>False.elim z));obtain ⟨y,H8,I8,r8,k8⟩:=h8;obtain ⟨pD,nD,lD,fD,cD⟩:=I8.pin (a,lob its n) (ax _ br);have hl:=rv.length;refine ag (append_at (hsz:=by rw[ar];omega) pD λh9 hs9 hD9=>aS ?_);have I8a:Inv X pins σ H8 s8:=I8.pins_of λp hp=>I8.pin p (ax _ (ba _ hp));have I9:Inv X pins σ H8 { s8 with heap:=h9 }:=I8a.turned (t':=s8.toks) (it:=a) (λb o hb e=>hs9.extBut b o hb e) nD lD ha.new ha.cel (λp hp'=>by
  rcases bn.mp hp' with z |z
  ·exact ha.pin p z
  ·exact hp p z)
 have hD9':h9.get? a=some (lob (its++[v]) (n+1)):=by rw[hD9,List.push_toArray];rfl
 refine hk _ (its++[v]) (n+1) (ys++[y]) σ H8 (I9.pins_of λp hp'=>?_) (rv.append (.cons r8 .nil)) k8;rcases bo.mp hp' with e |z
 ·subst e;exact ⟨hD9',nD,lD,fD,λv z=>by have z':Data.seq _ _=Data.cell v:=z;cases z'⟩
 ·exact I9.pin p (ax _ z)
def emT(ifs:List Expr)(elt:Expr)(acc:Value)(env:Env)(k:Sem Fin):Sem Fin:=
 (forIn ifs true λc r=>if r=true then do let ok <-isTrue c env (eval c env);pure (ForInStep.yield ok) else pure (ForInStep.yield r)) >>= λok=>if ok=true then emE elt acc env k else k
theorem CW(elt tg iter:Expr)(ifs:List Expr)(scope:Scope)(pos:Pos):fV (.ListComp elt [⟨tg,iter,ifs,0⟩] scope pos) 0 tg iter (emT ifs elt):=λ_ _ _=>rfl
def tmT(tt:TT)(te:TE):TM:=λys σ H K=>tt σ H λb H4=>if b=true then te σ H4 λy H5=>K (ys++[y]) σ H5 else K ys σ H4
theorem Y5{X:Cx}{a:Addr}{elt:Expr}{ifs:List Expr}{tt:TT}{te:TE}(hx:X.xe=λ_ _=>False)(ha:AccOk X a)(ht:PIf X ifs tt)(he:PE X elt te):PM X true a (emT ifs elt (.ref a) X.env) (tmT tt te):=by
 intro pins its n ys σ H s K I hp rv hl h kk Q E hk;have h0:=ht _ s σ H _ I h;rw[hx]at h0;refine ag (b9 h0 (λb s4 h4=>?_) λ_ _ z=>False.elim z);obtain ⟨H4,I4,q4⟩:=h4;cases b with
 |false=>exact hk s4 its n ys σ H4 I4 rv q4
 |true=>exact CQ hx ha he pins its n ys σ H4 s4 K I4 hp rv (λz=>nomatch z) ⟨hl rfl,q4⟩ kk Q E hk
def CZ(J:It)(g:TG)(tm:TM)(ys:List V)(σ0:St)(H1:Hp)(K:List V->St->Hp->Prop):Prop:=
 ∃W:Nat->Nat->List V->St->Hp->Prop,(∃m,W 0 m ys σ0 H1)/\∀i m ys σ' H',W i m ys σ' H'->
  (J.stop i H'/\K ys σ' H')\/(J.go i H'/\∀x H2,J.yld i H' x H2->g x σ' H2 λσ3 H3=>tm ys σ3 H3 λys' σ4 H4=>∃m',m' < m/\W (i+1) m' ys' σ4 H4)
def tmG(wi:TI)(g:TG)(tm:TM):TM:=λys σ H K=>wi σ H λJ H1=>CZ J g tm ys σ H1 K
theorem Dc{X:Cx}{a:Addr}{elt:Expr}{gens:List Comprehension}{scope:Scope}{pos:Pos}{d:Nat}{t i:Expr}{em:Value->Env->Sem Fin->Sem Fin}{wi:TI}{g:TG}{tm:TM}(hx:X.xe=λ_ _=>False)(hc:X.calm=true)
  (hg:gens[d]?=some ⟨t,i,[],0⟩) (hT:fV (.ListComp elt gens scope pos) d t i em) (hi:PI X t i wi) (hG:PG X t g) (hs:∀x,foldedSetIterable i X.env x=pure x) (hm:PM X false a (em (.ref a) X.env) tm):
  PM X false a (emG (.ListComp elt gens scope pos) d i (.ref a) X.env) (tmG wi g tm):=by
 intro pins its n ys σ H s K I hp rv _ h kk Q E hk;have h0:=hi _ s σ H _ I h;rw[hx]at h0;refine ag (b9 h0 (λxv s1 h1=>?_) λ_ _ z=>False.elim z);refine ag (gv (ag (wpAny_of_eq (hs xv) ?_)));refine ag (eI (b9 h1 (λitv s2 h2=>?_) λ_ _ z=>False.elim z));obtain ⟨it,fp,tn,J,H2,e,I2,T,st2,f2,W,⟨m0,w0⟩,turn⟩:=h2;subst e;have fpok:∀{H':Hp}{o:Obj},(∀b∈fp,H' b=none)->∀b∈fp,dY X ((a,o)::pins) H' b:=λhn b hb=>by
  obtain ⟨_,q1,q2,q3,q4,q5⟩:=f2 b hb;refine ⟨hn b hb,q1,q2,q3,q4,λp hp=>?_⟩;rcases bn.mp hp with z |z
  ·exact q5 p (cK _ z)
  ·rcases bo.mp z with z |z
   ·subst z;exact q5 (a,lob its n) (ax _ br)
   ·exact q5 p (ax _ (ba _ z))
 have hap:∀b∈fp,a≠b:=λb hb=>(f2 b hb).2.2.2.2.2 (a,lob its n) (ax _ br);have loop:codeAny (model X.prog X.w) X.A (.compLoop (.ListComp elt gens scope pos) d (.ref it) (.ref a) X.env) (λr s'=>match r with |.ok f=>wpAny (model X.prog X.w) X.A kk Q E s' |.error e=>cameBackBy (model X.prog X.w) X.A X.env E e s') s2:=by
  refine CP hT (λm s'=>∃(i:Nat)(ys:List V)(its:List Value)(n:Nat)(σ':St)(H':Hp),Inv X ((a,lob its n)::pins) σ' H' s'/\Vals ys its/\tn i s'.heap/\(∀b∈fp,H' b=none)/\W i m ys σ' H') ?_ m0 ⟨0,ys,its,n,σ,H2,I2,rv,st2,λb hb=>(f2 b hb).1,w0⟩;rintro m s3 ⟨i,ys,its,n,σ3,H3,I3,rv3,st3,fr3,w3⟩;rcases turn i m ys σ3 H3 w3 with ⟨stop,qn⟩ |⟨go,step⟩
  ·refine thn (T.done X rfl rfl rfl hc i _ s3 σ3 H3 _ I3 (fpok fr3) st3 stop) λr s4 ⟨hr,I4⟩=>?_;subst hr;exact hk s4 its n ys σ3 H3 I4 rv3 qn
  ·refine thn (T.item X rfl rfl rfl hc i _ s3 σ3 H3 _ I3 (fpok fr3) st3 go) λr s4 ⟨u,hr,h4⟩=>?_;subst hr;refine thn h4 λ_ s5 ⟨x,H5,I5,r5,y5,st5,fr5⟩=>?_;have I5':=I5.pinned (fpok fr5) (T.obj _ _ st5);have h6:=hG _ s5 σ3 H5 x u _ I5' r5 (step x H5 y5);rw[hx]at h6;refine thn h6 λ_ s6 ⟨σ6,H6,I6,q6⟩=>?_;intro k Q' E' hk';refine hm (pins++jy fp s5.heap) its n ys σ6 H6 s6 _ I6 (λp hp'=>?_) rv3 (λz=>nomatch z) q6 k Q' E' λs7 its' n' ys' σ7 H7 I7 rv7 ⟨m',hm',w7⟩=>hk' s7 ⟨m',hm',i+1,ys',its',n',σ7,H7,I7.pins_of λp hp'=>?_,rv7,?_,λb hb=>?_,w7⟩
   ·rcases bn.mp hp' with z |z
    ·exact hp p z
    ·exact λe=>hap p.1 (vD z).1 e.symm
   ·refine I7.pin p (ax _ ?_);rcases bo.mp hp' with z |z
    ·rw[z];exact br
    ·exact ba _ (cK _ z)
   ·exact T.keep _ _ _ st5 λb hb o e=>(I7.pin (b,o) (ax _ (ba _ (ax _ (jz hb e))))).1
   ·obtain ⟨o,e,_⟩:=T.obj _ _ st5 b hb;exact (I7.pin (b,o) (ax _ (ba _ (ax _ (jz hb e))))).2.1
 exact ag (wpAny_runOwn (Y4 hg loop (T.self X.A 0 _ _ _ st2 loop)))
def vX(lim:Bool)(X:Cx)(N':List Str)(scope:Scope)(tg:Expr)(em:Value->Env->Sem Fin->Sem Fin)(J:It)(σ0:St)(H1:Hp)(Q:VK):Prop:=
 ∃W:Nat->Nat->List V->St->Hp->Prop,(∃m,W 0 m [] σ0 H1)/\∀i m ys σ' H',W i m ys σ' H'->
  (J.stop i H'/\ys.length<=sizeLine/\∀D,H' D=none->Q (.ref D) (upd H' D (.lst ys)))\/
  (J.go i H'/\(lim=true->ys.length < sizeLine)/\∀cl C s₁ H₁ fp pn,∃g tm,PG (X.comp N' scope cl C s₁ H₁ fp pn) tg g/\(∀a,AccOk (X.comp N' scope cl C s₁ H₁ fp pn) a->PM (X.comp N' scope cl C s₁ H₁ fp pn) lim a (em (.ref a) (X.comp N' scope cl C s₁ H₁ fp pn).env) tm)/\
   ∀x H2,J.yld i H' x H2->g x σ' H2 λσ3 H3=>tm ys σ3 H3 λys' σ4 H4=>∃m',m' < m/\W (i+1) m' ys' σ4 H4)
def vY(lim:Bool)(X:Cx)(N':List Str)(scope:Scope)(tg:Expr)(em:Value->Env->Sem Fin->Sem Fin)(wi:TI)(cap:List (Option Nat)):TE:=λσ H Q=>wi σ H λJ H1=>vX lim X N' scope tg em J (dM cap σ) H1 Q
theorem Dd{X:Cx}{elt tg iter:Expr}{ifs:List Expr}{lim:Bool}{rest:List Comprehension}{em:Value->Env->Sem Fin->Sem Fin}{scope:Scope}{pos:Pos}{wi:TI}{pins:List (Addr×Obj)}{s:Shared}{σ:St}{H:Hp}{Q:VK}{RR:Value->Addr->Result->Shared->Prop}(N':List Str)(cap:List (Option Nat))(hc:X.calm=true)(hi:PI X tg iter wi)(hcap:Caps X scope N' cap)
  (hcell:scope.names.all (λy=>y.2 != NameKind.cell)=true)
  (hfr:scope.names.all (λy=>y.2 != NameKind.free||(X.env.kindOf y.1==some NameKind.cell||X.env.kindOf y.1==some NameKind.free))=true)
  (hkind:scope.kind=.function) (hT:fV (.ListComp elt (⟨tg,iter,ifs,0⟩::rest) scope pos) 0 tg iter em) (I:Inv X pins σ H s) (h:vY lim X N' scope tg em wi cap σ H Q)
  (fin:∀(D C:Addr)(H':Hp)(s4:Shared)(m:Str->Option Value),Inv X pins σ H' s4->Q (.ref D) H'->s4.heap.Ns C m->dY X pins H' C->RR (.ref D) C (.ok .next) s4):
  wpAny (model X.prog X.w) X.A (eval iter X.env) (λx s₁=>wpAny (model X.prog X.w) X.A (pyIter x) (λit s₂=>wpAny (model X.prog X.w) X.A (newList []) (λacc s₃=>
   wpAny (model X.prog X.w) X.A (newFunctionEnv scope X.env.globals (cH X.env scope.names []) [] X.env.qual none .none (some X.env)) (λcenv s₄=>
    codeAny (model X.prog X.w) X.A (.compStart (.ListComp elt (⟨tg,iter,ifs,0⟩::rest) scope pos) 0 it acc { cenv with scope:=relabel scope X.env }) (RR acc cenv.locals) s₄) X.xe s₃) X.xe s₂) X.xe s₁) X.xe s:=by
 have hcell':∀y∈scope.names,y.2≠NameKind.cell:=λy hy=>by
  have:=bv.mp hcell y hy;simpa using this
 have hfr':∀y∈scope.names,y.2=NameKind.free->(X.env.kindOf y.1=some NameKind.cell\/X.env.kindOf y.1=some NameKind.free):=λy hy hl=>by
  have:=bv.mp hfr y hy;simpa [hl] using this
 have hcs:∀y∈scope.names,y.2=NameKind.free->(X.env.cells.lookup y.1).isSome=true:=λy hy hl=>by
  obtain ⟨c,e⟩:=I.ok.has y.1 (hfr' y hy hl);rw[e];rfl
 have clsub:∀x c,(cH X.env scope.names []).lookup x=some c->X.env.cells.lookup x=some c:=By (λx c e=>by simp at e);have clhas:∀x,scope.names.lookup x=some NameKind.free->∃c,(cH X.env scope.names []).lookup x=some c:=λx e=>by
  have hm:=dS e;exact ck.mp (BK (hcs _ hm rfl) hm)
 have rel:∀x,(relabel scope X.env).names.lookup x=(scope.names.lookup x).map λk=>if (k==NameKind.free&&X.env.scope.kind==.function&&X.env.kindOf x==some .cell)=true then NameKind.cell else k:=λx=>vL
 have relfree:∀x,((relabel scope X.env).names.lookup x=some NameKind.cell\/(relabel scope X.env).names.lookup x=some NameKind.free)->scope.names.lookup x=some NameKind.free:=λx e=>by
  rw[rel x]at e;cases z:scope.names.lookup x with
  |none=>rw[z]at e;rcases e with e |e <;> cases e
  |some k=>
   have nk:=hcell' _ (dS z);rw[z]at e;cases k with
   |free=>rfl
   |cell=>exact absurd rfl nk
   | «local»=>rcases e with e |e <;> simp[show (NameKind.«local»==NameKind.free)=false by decide]at e
   |globalExplicit=>rcases e with e |e <;> simp[show (NameKind.globalExplicit==NameKind.free)=false by decide]at e
   |globalImplicit=>rcases e with e |e <;> simp[show (NameKind.globalImplicit==NameKind.free)=false by decide]at e
 generalize hcl:cH X.env scope.names []=cl at clsub clhas;refine thn (hi pins s σ H _ I h) λxv s0 h0=>thn h0 λitv s2 h2=>?_;obtain ⟨it,fp,tn,J,H2,e,I2,T,st2,f2,W,⟨m0,w0⟩,turn⟩:=h2;subst e;refine wpAny_newObj_type (wpAny_newFunctionEnv hcell' (by intro y hy;simp at hy) (λh₁ hns₁ hsb₁=>?_) hkind);dsimp only at hns₁ hsb₁ ⊢;generalize hH2:s2.heap.push { cls:=.type "list",dict:=none,data:=.seq ([]:List Value).toArray }=HP at hns₁ hsb₁ ⊢;have hC:HP.objs.size=s2.heap.objs.size+1:=by rw[<-hH2,dL]
 have hDC:s2.heap.objs.size≠HP.objs.size:=by rw[hC];exact ca (gs _)
 have below:∀b,b < s2.heap.objs.size->b≠HP.objs.size/\b≠s2.heap.objs.size:=λb hb=>⟨by rw[hC];exact ca (Nat.lt_succ_of_lt hb),ca hb⟩;have old:∀b o,s2.heap.get? b=some o->h₁.get? b=some o:=λb o e=>hsb₁.extBut b o (below b (ay e)).1 (ah _ (hH2 ▸ ah _ e));have hacc:h₁.get? s2.heap.objs.size=some { cls:=.type "list",data:=.seq ([]:List Value).toArray 0 }:=hsb₁.extBut _ _ hDC (ah _ (hH2 ▸ a9 _ rfl));have hst₁:tn 0 h₁:=T.keep _ _ _ st2 λb _ o e=>old b o e;have fplt:∀b∈fp,b < s2.heap.objs.size:=λb hb=>by
  obtain ⟨o,e,_⟩:=T.obj _ _ st2 b hb;exact ay e
 have fslt:∀b∈frs X.stack,b < s2.heap.objs.size:=λb hb=>by
  obtain ⟨_,o,e,_⟩:=I2.stack.mem hb;exact ay e
 have celllt:∀x c,cl.lookup x=some c->c < s2.heap.objs.size:=λx c e=>by
  obtain ⟨v,q⟩:=I2.cell x c (clsub x c e);exact q.lt
 have hDf:H2 s2.heap.objs.size=none:=I2.hok.fresh (aw _);have hCf:H2 HP.objs.size=none:=I2.hok.fresh (by rw[hC];exact Nat.le_succ _);have nofs:∀b∈fp,b∉frs X.stack:=λb hb z=>by
  obtain ⟨_,f1,f2',_⟩:=f2 b hb;rcases bo.mp (I2.stkSub b z) with e |e
  ·exact f1 e
  ·exact f2' e
 have ok':(X.comp N' scope cl HP.objs.size s2 H2 fp (X.pn++pins)).Ok:=
  ⟨I2.ok.mod,hkind,I2.ok.glob,I2.ok.blt,(by show s2.heap.objs.size<=HP.objs.size;rw[hC];exact Nat.le_succ _),
   λx y c e1 e2=>I2.ok.inj x y c (clsub x c e1) (clsub y c e2),λx hx=>clhas x (relfree x hx),λx c hf _=>(by cases hf),I2.ok.hd,I2.ok.frames,.inl rfl,
   λb hb=>⟨(below b (fplt b hb)).1,λx c e=>(f2 b hb).2.2.2.2.1 x c (clsub x c e)⟩,I2.bs,cb I2.ok.bsz I2.sz,
   λb o e hb=>(by
    rcases (f2 b hb).2.2.2.1 with z |z
    ·exact I2.ok.noex b o e z
    ·exact absurd (bb (ay e) (cb I2.ok.bsz z)) (en _)),
   nofs,I2.stack,I2.stkFree⟩
 have pnOk:∀p∈X.pn++pins,p.1 < s2.heap.objs.size/\p.1∉frs X.stack:=λp hp=>by
  obtain ⟨e,_,n1,n2,_⟩:=I2.pin p hp;refine ⟨ay e,λz=>?_⟩;rcases bo.mp (I2.stkSub _ z) with e |e
  ·exact n1 e
  ·exact n2 e
 have I0:∀t,Inv (X.comp N' scope cl HP.objs.size s2 H2 fp (X.pn++pins)) [(s2.heap.objs.size,{ cls:=.type "list",data:=.seq ([]:List Value).toArray 0 })] (dM cap σ) H2 { s2 with heap:=h₁,toks:=t }:=λt=>
  ⟨ok',rfl,I2.bare,Un.kept old,⟨_,hns₁,λi x v e1 e2 _=>by
    obtain ⟨j,nj,fr,sj⟩:=hcap.at e1 e2;obtain ⟨m,_,hl⟩:=I2.loc;have hk:=hfr' (x,NameKind.free) (dS fr) rfl;obtain ⟨u,r,l⟩:=hl j x v nj sj (by rcases hk with hk |hk;exact .inr (.inl hk);exact .inr (.inr hk));refine ⟨u,r,.inr ⟨?_,?_⟩⟩
    ·show (relabel scope X.env).names.lookup x=some .cell\/(relabel scope X.env).names.lookup x=some .free;rw[rel x,fr,Option.map_some];by_cases hh:(NameKind.free==NameKind.free&&X.env.scope.kind==ScopeKind.function&&X.env.kindOf x==some NameKind.cell)=true
     ·exact .inl (by rw[if_pos hh])
     ·exact .inr (by rw[if_neg hh])
    ·obtain ⟨c,ec⟩:=clhas x fr;have ec':=clsub x c ec;rcases l with ⟨k1,_⟩ |⟨_,c',e',q⟩
     ·rcases hk with hk |hk <;> (rw[hk]at k1;cases k1)
     ·have ecc:X.env.cells.lookup x=some c:=ec';rw[e']at ecc;cases ecc;obtain ⟨o,ho,hd⟩:=q;exact ⟨_,ec,o,old _ _ ho,hd⟩⟩,
   λx c e=>(by obtain ⟨v,o,ho,hd⟩:=I2.cell x c (clsub x c e);exact ⟨v,o,old _ _ ho,hd⟩),hCf,λx c e=>I2.freeC x c (clsub x c e),
   λp hp=>by
    rcases bn.mp hp with z |z
    ·obtain ⟨e,n0,_,_,d⟩:=I2.pin p z;exact ⟨old _ _ e,n0,(below _ (pnOk p z).1).1,(pnOk p z).2,d⟩
    ·have e:p=_:=bg.mp z;subst e;exact ⟨hacc,hDf,hDC,λz=>absurd (fslt _ z) (en _),λv z=>by have z':Data.seq _ _=Data.cell v:=z;cases z'⟩,
   I2.hok.kept old,by show (dM cap σ).length=N'.length;unfold dM;rw[al];exact hcap.len⟩
 have fpok:∀{H':Hp}{o:Obj},(∀b∈fp,H' b=none)->∀b∈fp,dY (X.comp N' scope cl HP.objs.size s2 H2 fp (X.pn++pins)) [(s2.heap.objs.size,o)] H' b:=λhn b hb=>
  ⟨hn b hb,(below b (fplt b hb)).1,nofs b hb,.inl hb,λx c e=>(f2 b hb).2.2.2.2.1 x c (clsub x c e),λp hp=>by
   rcases bn.mp hp with z |z
   ·exact (f2 b hb).2.2.2.2.2 p z
   ·have e:p=_:=bg.mp z;subst e;exact Ne.symm (below b (fplt b hb)).2⟩
 have loop:∀s₃:Shared,s₃={ s2 with heap:=h₁,toks:=s2.toks+([]:List (Str×Value)).length }->
   codeAny (model X.prog X.w) X.A (.compLoop (.ListComp elt (⟨tg,iter,ifs,0⟩::rest) scope pos) 0 (.ref it) (.ref s2.heap.objs.size) (compEnvC scope cl HP.objs.size X.env))
    (RR (.ref s2.heap.objs.size) HP.objs.size) s₃:=by
  rintro s₃ rfl;refine CP hT
   (λk s'=>∃(i:Nat) (ys:List V) (its:List Value) (n:Nat) (σ':St) (H':Hp),Inv (X.comp N' scope cl HP.objs.size s2 H2 fp (X.pn++pins)) [(s2.heap.objs.size,{ cls:=.type "list",data:=.seq its.toArray n })] σ' H' s'/\Vals ys its/\
    tn i s'.heap/\(∀b∈fp,H' b=none)/\W i k ys σ' H') ?_ m0 ⟨0,[],[],0,_,H2,I0 _,.nil,hst₁,λb hb=>(f2 b hb).1,w0⟩
  rintro k s3 ⟨i,ys,its,n,σ3,H3,I3,rv3,st3,fr3,w3⟩;rcases turn i k ys σ3 H3 w3 with ⟨stop,hz,qn⟩ |⟨go,hlim,step⟩
  ·refine thn (T.done (X.comp N' scope cl HP.objs.size s2 H2 fp (X.pn++pins)) rfl rfl rfl hc i _ s3 σ3 H3 _ I3 (fpok fr3) st3 stop) λr s4 ⟨hr,I4⟩=>?_;subst hr;obtain ⟨m,hn,_⟩:=I4.loc;obtain ⟨pD,nD,_,_,_⟩:=I4.pin (s2.heap.objs.size,{ cls:=.type "list",data:=.seq its.toArray n }) (ax _ (bg.mpr rfl));have nC:H3 HP.objs.size=none:=I4.free;have u:Un (frs X.stack) fp H2 H3 s2.heap s4.heap:=I4.base;refine fin s2.heap.objs.size HP.objs.size (upd H3 s2.heap.objs.size (.lst ys)) s4 m ?_ (qn _ nD) hn ?_
   ·refine I2.call' (s':=s4) (ch:=fp) I4.os ?_ ?_ I4.bare λb hb=>⟨(f2 b hb).2.2.2.1,(f2 b hb).2.1,(f2 b hb).2.2.2.2.1,(f2 b hb).2.2.2.2.2⟩
    ·refine ⟨λb o e n0 hb hx=>u.keep b o e n0 hb hx,λb o e n0 hb hx=>u.slot b o e n0 hb hx,λb o e n0 hx=>?_,λb o e hx=>u.there b o e hx,λb xs e=>?_,λb o v e=>?_,λb ps e=>?_⟩
     ·rw[aL (below b (ay e)).2];exact u.free b o e n0 hx
     ·rw[aL (bj e hDf)];exact u.tups b xs e
     ·rw[aL (bj e hDf)];exact u.frzs b o v e
     ·rw[aL (bj e hDf)];exact u.tbls b ps e
    ·intro b o e;by_cases hb:b=s2.heap.objs.size
     ·subst hb;rw[dJ]at e;cases e;exact ⟨hz,its,n,rv3,pD⟩
     ·rw[aL hb]at e;exact (I4.hok b o e).stay (λc v _ q=>q) (λc q=>by rw[aL (bj q nD)];exact q) λc xs q=>by rw[aL (bj q nD)];exact q
   ·have hle:s2.heap.objs.size<=HP.objs.size:=by rw[hC];exact Nat.le_succ _
    exact I2.fpOk hle (by rw[aL (Ne.symm hDC)];exact nC)
  ·refine thn (T.item (X.comp N' scope cl HP.objs.size s2 H2 fp (X.pn++pins)) rfl rfl rfl hc i _ s3 σ3 H3 _ I3 (fpok fr3) st3 go) λr s4 ⟨u,hr,h4⟩=>?_;subst hr;refine thn h4 λ_ s5 ⟨x,H5,I5,r5,y5,st5,fr5⟩=>?_;obtain ⟨g,tm,hg,hm,body⟩:=step cl HP.objs.size s2 H2 fp (X.pn++pins);have acc:AccOk (X.comp N' scope cl HP.objs.size s2 H2 fp (X.pn++pins)) s2.heap.objs.size:=
    ⟨.inr (aw _),λx c e z=>absurd (celllt x c e) (by rw[z];exact en _),λp hp z=>absurd (pnOk p hp).1 (by rw[z];exact en _)⟩
   have I5':=I5.pinned (fpok fr5) (T.obj _ _ st5);refine thn (hg _ s5 σ3 H5 x u _ I5' r5 (body x H5 y5)) λ_ s6 ⟨σ6,H6,I6,q6⟩=>?_;intro kk Q' E' hk';refine hm _ acc (jy fp s5.heap) its n ys σ6 H6 s6 _ I6 (λp hp' e=>?_) rv3 hlim q6 kk Q' E' λs7 its' n' ys' σ7 H7 I7 rv7 ⟨m',hm',w7⟩=>hk' s7 ⟨m',hm',i+1,ys',its',n',σ7,H7,I7.pins_of λp hp'=>?_,rv7,?_,λb hb=>?_,w7⟩
   ·exact (below p.1 (fplt p.1 (vD hp').1)).2 e
   ·refine I7.pin p (ax _ ?_);rw[bg.mp hp'];exact br
   ·exact T.keep _ _ _ st5 λb hb o e=>(I7.pin (b,o) (ax _ (ba _ (jz hb e)))).1
   ·obtain ⟨o,e,_⟩:=T.obj _ _ st5 b hb;exact (I7.pin (b,o) (ax _ (ba _ (jz hb e)))).2.1
 exact codeAny_compStart_list (loop _ rfl) (T.self X.A 0 _ _ _ hst₁ (loop _ rfl))
theorem De{X:Cx}{elt tg iter:Expr}{ifs:List Expr}{lim:Bool}{rest:List Comprehension}{em:Value->Env->Sem Fin->Sem Fin}{scope:Scope}{pos:Pos}{wi:TI}(N':List Str)(cap:List (Option Nat))(hc:X.calm=true)(hi:PI X tg iter wi)(hcap:Caps X scope N' cap)
  (hcell:scope.names.all (λy=>y.2 != NameKind.cell)=true) (hnames:scope.names.all (λy=>y.2 != NameKind.local||scope.names.lookup y.1==some NameKind.local)=true)
  (hfr:scope.names.all (λy=>y.2 != NameKind.free||(X.env.kindOf y.1==some NameKind.cell||X.env.kindOf y.1==some NameKind.free))=true)
  (hkind:scope.kind=.function) (hs:∀x,foldedSetIterable iter X.env x=pure x) (hT:fV (.ListComp elt (⟨tg,iter,ifs,0⟩::rest) scope pos) 0 tg iter em):
  PE X (.ListComp elt (⟨tg,iter,ifs,0⟩::rest) scope pos) (vY lim X N' scope tg em wi cap):=by
 intro pins s σ H Q I h;have hnames':∀y∈scope.names,y.2=NameKind.local->scope.names.lookup y.1=some NameKind.local:=λy hy hl=>by
  have:=bv.mp hnames y hy;simpa [hl] using this
 have hcs:∀y∈scope.names,y.2=NameKind.free->(X.env.cells.lookup y.1).isSome=true:=λy hy hl=>by
  have:=bv.mp hfr y hy;obtain ⟨c,e⟩:=I.ok.has y.1 (by simpa [hl] using this);rw[e];rfl
 rw[eval_ListComp];refine wpAny_comprehension_free (use:=none) (Q:=EP X pins σ Q) rfl hs (BL hcs) hkind hnames'
  (Dd (RR:=λacc C=>compPost (model X.prog X.w) X.A X.xe none (EP X pins σ Q) acc C) N' cap hc hi hcap hcell hfr hkind hT I h λL C H' s4 m I4 q hn fC=>?_)
 obtain ⟨f0,f1,f2,f3,f4,f5⟩:=fC;exact ⟨m,hn,λh' hs'=>⟨.ref L,H',I4.turned (t':=s4.toks) (it:=C) (λb o hb e=>hs'.extBut b o hb e) f0 f1 f3 f4 f5,rfl,q⟩⟩
theorem Df{X:Cx}{elt tg iter:Expr}{ifs:List Expr}{lim:Bool}{rest:List Comprehension}{em:Value->Env->Sem Fin->Sem Fin}{scope:Scope}{pos py spos:Pos}{wi:TI}{i:Nat}{y:Str}(hT:fV (.ListComp elt (⟨tg,iter,ifs,0⟩::rest) scope pos) 0 tg iter em)(hN:X.N.Nodup)(hiy:X.N[i]?=some y)(hy:Loc X.env.scope y)(N':List Str)(cap:List (Option Nat))(hc:X.calm=true)(hi:PI X tg iter wi)(hcap:Caps X scope N' cap)
  (hcell:scope.names.all (λy=>y.2 != NameKind.cell)=true:=by rfl) (hnames:scope.names.all (λy=>y.2 != NameKind.local||scope.names.lookup y.1==some NameKind.local)=true:=by rfl)
  (hfr:scope.names.all (λy=>y.2 != NameKind.free||(X.env.kindOf y.1==some NameKind.cell||X.env.kindOf y.1==some NameKind.free))=true:=by rfl)
  (hkind:scope.kind=.function:=by rfl) (hs:∀x,foldedSetIterable iter X.env x=pure x:=by intro _;rfl)
  (hsw:swapsWith (.ListComp elt (⟨tg,iter,ifs,0⟩::rest) scope pos) (some (.Name y py)) spos.line X.env=pure true:=by rfl)
  (hf:X.fn y=true\/X.env.scope.names.lookup y=some .local:=by first |exact .inl rfl |exact .inr rfl |assumption):
  PS X (.Assign [.Name y py] (.ListComp elt (⟨tg,iter,ifs,0⟩::rest) scope pos) spos) (qt (vY lim X N' scope tg em wi cap) (qp i)):=by
 intro pins s σ H D I h;have hnames':∀y∈scope.names,y.2=NameKind.local->scope.names.lookup y.1=some NameKind.local:=λy hy hl=>by
  have:=bv.mp hnames y hy;simpa [hl] using this
 have hcs:∀y∈scope.names,y.2=NameKind.free->(X.env.cells.lookup y.1).isSome=true:=λy hy hl=>by
  have:=bv.mp hfr y hy;obtain ⟨c,e⟩:=I.ok.has y.1 (by simpa [hl] using this);rw[e];rfl
 rw[exec_Assign_Name_used _ _ _ _ hsw];refine ag (gv (ag ?_));show wpAny _ X.A (do let _ <-comprehension (.ListComp elt (⟨tg,iter,ifs,0⟩::rest) scope pos) scope X.env _ (newList []) false (eval iter X.env) (some (assign (.Name y py) X.env))) _ _ s;refine ag (b9 (wpAny_comprehension_free (use:=some (assign (.Name y py) X.env)) (Q:=λ_ s'=>SP X pins D .next s') rfl hs (BL hcs) hkind hnames'
  (Dd (RR:=λacc C=>compPost (model X.prog X.w) X.A X.xe (some (assign (.Name y py) X.env)) (λ_ s'=>SP X pins D .next s') acc C) N' cap hc hi hcap hcell hfr hkind hT I h λL C H' s4 m I4 q hn fC=>?_)) (λ_ s' hq=>aS (aS hq)) λ_ _ e=>e)
 obtain ⟨oC,es,ep,eC,rC⟩:=id hn;obtain ⟨f0,f1,f2,f3,f4,f5⟩:=fC;have ncell:∀v,oC.data≠.cell v:=λv z=>by rw[rC.1]at z;cases z
 have I5:Inv X (pins++[(C,oC)]) σ H' s4:=I4.pins_of λp hp=>by
  rcases bn.mp hp with z |z
  ·exact I4.pin p (ax _ z)
  ·have e:p=_:=bg.mp z;subst e;exact ⟨eC,f0,f1,f2,ncell⟩
 refine wpAny_assign_Name (jx I5 hN hiy hy (v:=.ref L) (u:=.ref L) rfl (λs5 I6=>?_) hf);have eC5:s5.heap.get? C=some oC:=(I6.pin (C,oC) (ax _ (ax _ (bg.mpr rfl)))).1;have I7:Inv X pins (σ.set i (some (.ref L))) H' s5:=I6.pins_of λp hp=>I6.pin p (ax _ (cK _ hp));refine ⟨m,⟨oC,es,ep,eC5,rC⟩,λh'' hs''=>?_⟩;exact ⟨_,H',I7.turned (t':=s5.toks) (it:=C) (λb o hb e=>hs''.extBut b o hb e) f0 f1 f3 f4 f5,q⟩
end L2
namespace RF
open PySem PySem.Spec PyProof.Rows L2
inductive D where
 |non |bl (b:Bool) |int (i:Int) |str (l:List Nat) |tup (xs:List D) |lst (xs:List D) |ref (a:Addr) |scr (ns:List Int) |exn (C:String) |obj (C f:String) (q:Addr)
 deriving Inhabited
inductive DO where
 |lst (xs:List D)
 deriving Inhabited
abbrev DH:=Addr->Option DO
def aQ(G:DH)(a:Addr)(o:DO):DH:=λb=>if b=a then some o else G b
def iD(G:DH)(a:Addr):DH:=λb=>if b=a then none else G b
theorem bO{G:DH}{a:Addr}{o:DO}:aQ G a o a=some o:=if_pos rfl
theorem dN{G:DH}{a b:Addr}{o:DO}(h:b≠a):aQ G a o b=G b:=if_neg h
theorem vZ{G:DH}{a:Addr}:iD G a a=none:=if_pos rfl
theorem Dg{G:DH}{a b:Addr}(h:b≠a):iD G a b=G b:=if_neg h
theorem Y6{G:DH}{a:Addr}{o u:DO}:aQ (aQ G a o) a u=aQ G a u:=by funext b;unfold aQ;split <;> rfl
theorem Dh{G:DH}{a:Addr}{o:DO}(h:G a=none):iD (aQ G a o) a=G:=by
 funext b;unfold aQ iD;split
 ·rename_i e;rw[e,h]
 ·rename_i e;exact if_neg e
theorem v6{G:DH}{a b:Addr}{o:DO}(h:G a=some o)(h':G b=none):a≠b:=by intro e;subst e;rw[h]at h';cases h'
abbrev sz:Nat:=1000000
abbrev FZ:=Addr->Prop
def FzL(H:Hp)(F:FZ)(a:Addr)(vs:List V):Prop:=F a/\H a=some (.lst vs)
theorem FzL.sq{K:PF}{H:Hp}{F:FZ}{a:Addr}{vs:List V}(h:FzL H F a vs):SqL K H a vs:=.inl (.inl h.2)
structure TpT(K:PF)(H:Hp)(a:Addr)(vs:List V):Prop where
 it:H a=some (.tup vs)
theorem TpT.sq{K:PF}{H:Hp}{a:Addr}{vs:List V}(h:TpT K H a vs):SqT K H a vs:=.inl (.inl h.it)
def ScL(K:PF)(H:Hp)(a:Addr)(vs:List V):Prop:=
 (∃o,H a=some (.frz o (.lst vs)))\/
  ∃(o:Obj) (its:Array Value) (n:Nat),K.lookup a=some o/\o.cls=.type "list"/\o.dict=none/\o.data=.seq its n/\its.size<=sizeLine/\Vals vs its.toList
theorem ScL.sq{K:PF}{H:Hp}{a:Addr}{vs:List V}(h:ScL K H a vs):SqL K H a vs:=by
 rcases h with ⟨o,h⟩ |h
 ·exact .inl (.inr ⟨o,h⟩)
 ·exact .inr h
def FzO(H:Hp)(F:FZ)(a c dx:Addr)(f:Str)(q:Addr):Prop:=F a/\H a=some (.ins c dx [(f,.ref q)])
mutual
noncomputable def Rep(K:PF)(H:Hp)(F:FZ):D->V->Prop
 |.non,v=>v=.non
 |.bl b,v=>v=.bl b
 |.int i,v=>v=.int i
 |.str l,v=>v=.str (tx l)/\l.length<=sz
 |.tup ds,v=>∃a vs,v=.ref a/\TpT K H a vs/\Reps K H F ds vs
 |.lst ds,v=>∃a vs,v=.ref a/\FzL H F a vs/\Reps K H F ds vs
 |.ref a,v=>v=.ref a
 |.scr ns,v=>∃a,v=.ref a/\ScL K H a (ns.map V.int)
 |.obj C f q,v=>∃a c dx,v=.ref a/\FzO H F a c dx (Str.ofString f) q/\PySem.W.nsIn K mainGlobals (Str.ofString C)=some (some (.ref c))
 |.exn C,v=>∃a c,v=.ref a/\XO H a c/\PySem.W.nsIn K mainGlobals (Str.ofString C)=some (some (.ref c))
noncomputable def Reps(K:PF)(H:Hp)(F:FZ):List D->List V->Prop
 |[],vs=>vs=[]
 |d::ds,vs=>∃v r,vs=v::r/\Rep K H F d v/\Reps K H F ds r
end
structure Ext(H:Hp)(F:FZ)(H':Hp)(F':FZ):Prop where
 sub:∀a,F a->F' a
 keep:∀a,F a->H' a=H a
 tups:∀a xs,H a=some (.tup xs)->H' a=some (.tup xs)
 frzs:∀a o u,H a=some (.frz o u)->H' a=some (.frz o u)
theorem Ext.refl(H:Hp)(F:FZ):Ext H F H F:=⟨λ_ h=>h,λ_ _=>rfl,λ_ _ h=>h,λ_ _ _ h=>h⟩
theorem Ext.trans{H H1 H2:Hp}{F F1 F2:FZ}(a:Ext H F H1 F1)(b:Ext H1 F1 H2 F2):Ext H F H2 F2:=
 ⟨λc h=>b.sub c (a.sub c h),λc h=>(b.keep c (a.sub c h)).trans (a.keep c h),λc xs h=>b.tups c xs (a.tups c xs h),λc o u h=>b.frzs c o u (a.frzs c o u h)⟩
section
variable {K:PF} {H H':Hp} {F F':FZ}
theorem TpT.ext{a:Addr}{vs:List V}(x:Ext H F H' F')(h:TpT K H a vs):TpT K H' a vs:=⟨x.tups _ _ h.it⟩
theorem FzL.ext{a:Addr}{vs:List V}(x:Ext H F H' F')(h:FzL H F a vs):FzL H' F' a vs:=⟨x.sub _ h.1,(x.keep _ h.1).trans h.2⟩
theorem ScL.ext{a:Addr}{vs:List V}(x:Ext H F H' F')(h:ScL K H a vs):ScL K H' a vs:=by
 rcases h with ⟨o,h⟩ |h
 ·exact .inl ⟨o,x.frzs _ _ _ h⟩
 ·exact .inr h
mutual
theorem Rep.ext(x:Ext H F H' F'):∀{d:D}{v:V},Rep K H F d v->Rep K H' F' d v
 |.non,_,h=>h
 |.bl _,_,h=>h
 |.int _,_,h=>h
 |.str _,_,h=>h
 |.tup _,_,⟨a,vs,e,q,r⟩=>⟨a,vs,e,TpT.ext x q,Reps.ext x r⟩
 |.lst _,_,⟨a,vs,e,q,r⟩=>⟨a,vs,e,FzL.ext x q,Reps.ext x r⟩
 |.ref _,_,h=>h
 |.scr _,_,⟨a,e,q⟩=>⟨a,e,ScL.ext x q⟩
 |.obj _ _ _,_,⟨a,c,dx,e,⟨hf,hh⟩,n⟩=>⟨a,c,dx,e,⟨x.sub _ hf,(x.keep _ hf).trans hh⟩,n⟩
 |.exn _,_,⟨a,c,e,⟨o,y,q,hc⟩,n⟩=>⟨a,c,e,⟨o,y,x.frzs _ _ _ q,hc⟩,n⟩
theorem Reps.ext(x:Ext H F H' F'):∀{ds:List D}{vs:List V},Reps K H F ds vs->Reps K H' F' ds vs
 |[],_,h=>h
 |_::_,_,⟨v,r,e,h,t⟩=>⟨v,r,e,Rep.ext x h,Reps.ext x t⟩
end
theorem Reps.nil:Reps K H F [] []:=rfl
theorem Reps.cons{d:D}{v:V}{ds:List D}{vs:List V}(h:Rep K H F d v)(t:Reps K H F ds vs):Reps K H F (d::ds) (v::vs):=⟨v,vs,rfl,h,t⟩
theorem Reps.length:∀{ds:List D}{vs:List V},Reps K H F ds vs->ds.length=vs.length
 |[],_,h=>by cases h;rfl
 |_::_,_,⟨v,r,e,_,t⟩=>by subst e;simp[Reps.length t]
theorem Reps.append:∀{ds es:List D}{vs us:List V},Reps K H F ds vs->Reps K H F es us->Reps K H F (ds++es) (vs++us)
 |[],_,_,_,h,t=>by cases h;exact t
 |_::_,_,_,_,⟨v,r,e,h,t⟩,t'=>by subst e;exact ⟨v,_,rfl,h,Reps.append t t'⟩
theorem Reps.get:∀{ds:List D}{vs:List V}{i:Nat}{d:D},Reps K H F ds vs->ds[i]?=some d->∃v,vs[i]?=some v/\Rep K H F d v
 |[],_,_,_,_,e=>by simp at e
 |_::_,_,0,_,⟨v,r,e,h,t⟩,q=>by subst e;simp at q;subst q;exact ⟨v,rfl,h⟩
 |_::_,_,i+1,d,⟨v,r,e,h,t⟩,q=>by
  subst e;obtain ⟨u,h1,h2⟩:=Reps.get (i:=i) (d:=d) t (by simpa using q);exact ⟨u,by simpa using h1,h2⟩
theorem Reps.set{d:D}{v:V}(r:Rep K H F d v):∀{ds:List D}{vs:List V}(i:Nat),Reps K H F ds vs->Reps K H F (ds.set i d) (vs.set i v)
 |[],_,_,h=>by cases h;exact rfl
 |_::_,_,0,⟨v',r',e,h,t⟩=>by subst e;exact ⟨_,_,rfl,r,t⟩
 |_::_,_,i+1,⟨v',r',e,h,t⟩=>by subst e;exact ⟨_,_,rfl,h,Reps.set r i t⟩
theorem Reps.take:∀{ds:List D}{vs:List V}(n:Nat),Reps K H F ds vs->Reps K H F (ds.take n) (vs.take n)
 |_,_,0,_=>rfl
 |[],_,_+1,h=>by cases h;exact rfl
 |_::_,_,n+1,⟨v',r',e,h,t⟩=>by subst e;exact ⟨_,_,rfl,h,Reps.take n t⟩
theorem Reps.drop:∀{ds:List D}{vs:List V}(n:Nat),Reps K H F ds vs->Reps K H F (ds.drop n) (vs.drop n)
 |_,_,0,h=>h
 |[],_,_+1,h=>by cases h;exact rfl
 |_::_,_,n+1,⟨v',r',e,h,t⟩=>by subst e;exact Reps.drop n t
theorem Reps.cut{ds:List D}{vs:List V}(h:Reps K H F ds vs)(lo hi:Option Int):
  Reps K H F ((ds.drop (HT.sIx ds.length 0 lo)).take (HT.sIx ds.length ds.length hi - HT.sIx ds.length 0 lo)) (d7 vs lo hi):=by
 unfold d7;rw[<-h.length];exact (h.drop _).take _
theorem Reps.rep{ds:List D}{vs:List V}(h:Reps K H F ds vs):∀k:Nat,Reps K H F (List.replicate k ds).flatten (List.replicate k vs).flatten
 |0=>rfl
 |k+1=>by
  rw[ci,ci,eR,eR];exact Reps.append h (Reps.rep h k)
end
def Y7(K:PF)(H:Hp)(F:FZ)(a:Addr):DO->Prop
 |.lst ds=>∃vs,H a=some (.lst vs)/\Reps K H F ds vs
structure R(K:PF)(H:Hp)(F:FZ)(G:DH):Prop where
 fz:∀a,F a->G a=none/\∃o,H a=some o
 ob:∀a o,G a=some o->Y7 K H F a o
section
variable {K:PF} {H:Hp} {F:FZ} {G:DH} {p:Addr} {vs:List V} {ds:List D}
theorem R.lst(r:R K H F G)(h:G p=some (.lst ds)):∃vs,H p=some (.lst vs)/\Reps K H F ds vs:=r.ob p _ h
theorem R.free(r:R K H F G)(h:H p=none):G p=none:=by
 cases e:G p with
 |none=>rfl
 |some o=>
  cases o with
  |lst ds=>obtain ⟨vs,q,_⟩:=r.lst e;rw[h]at q;cases q
theorem R.notF(r:R K H F G)(h:H p=none):¬F p:=λf=>by
 obtain ⟨_,vs,q⟩:=r.fz p f;rw[h]at q;cases q
theorem d8{o:HO}(r:R K H F G)(h:H p=none):Ext H F (upd H p o) F:=
 ⟨λ_ f=>f,λa f=>aL λe=>r.notF h (by rw[<-e];exact f),λa xs q=>by rw[aL (bj q h)];exact q,λa ob u q=>by rw[aL (bj q h)];exact q⟩
theorem R.new{o:HO}(r:R K H F G)(h:H p=none):R K (upd H p o) F G:=by
 have x:Ext H F (upd H p o) F:=d8 r h;refine ⟨λa f=>⟨(r.fz a f).1,?_⟩,λa u e=>?_⟩
 ·obtain ⟨_,vs,q⟩:=r.fz a f;exact ⟨vs,by rw[x.keep a f];exact q⟩
 ·cases u with
  |lst ds=>
   obtain ⟨vs,q,t⟩:=r.lst e;exact ⟨vs,by rw[aL (bj q h)];exact q,Reps.ext x t⟩
theorem R.newL(r:R K H F G)(h:H p=none)(t:Reps K H F ds vs):R K (upd H p (.lst vs)) F (aQ G p (.lst ds)):=by
 have x:Ext H F (upd H p (.lst vs)) F:=d8 r h;have r':R K (upd H p (.lst vs)) F G:=r.new h;refine ⟨λa f=>⟨?_,(r'.fz a f).2⟩,λa u e=>?_⟩
 ·rw[dN λe=>r.notF h (by rw[<-e];exact f)];exact (r.fz a f).1
 ·by_cases ha:a=p
  ·subst ha;rw[bO]at e;cases e;exact ⟨vs,dJ,Reps.ext x t⟩
  ·rw[dN ha]at e;exact r'.ob a u e
theorem v7(r:R K H F G)(h:H p=none):Ext H F (upd H p (.lst vs)) (λa=>F a\/a=p):=
 ⟨λ_ f=>.inl f,(d8 r h).keep,(d8 r h).tups,(d8 r h).frzs⟩
theorem R.newF(r:R K H F G)(h:H p=none):R K (upd H p (.lst vs)) (λa=>F a\/a=p) G:=by
 have x:Ext H F (upd H p (.lst vs)) (λa=>F a\/a=p):=v7 r h;refine ⟨λa f=>?_,λa u e=>?_⟩
 ·rcases f with f |f
  ·obtain ⟨g,vs',q⟩:=r.fz a f;exact ⟨g,vs',by rw[x.keep a f];exact q⟩
  ·subst f;exact ⟨r.free h,_,dJ⟩
 ·cases u with
  |lst ds=>
   obtain ⟨vs',q,t⟩:=r.lst e;exact ⟨vs',by rw[aL (bj q h)];exact q,Reps.ext x t⟩
theorem Y8(r:R K H F G)(h:H p=none)(t:Reps K H F ds vs):Rep K (upd H p (.lst vs)) (λa=>F a\/a=p) (.lst ds) (.ref p):=
 ⟨p,vs,rfl,⟨.inr rfl,dJ⟩,Reps.ext (v7 r h) t⟩
theorem v8(r:R K H F G)(h:H p=none)(t:Reps K H F ds vs):Rep K (upd H p (.tup vs)) F (.tup ds) (.ref p):=
 ⟨p,vs,rfl,⟨dJ⟩,Reps.ext (d8 r h) t⟩
theorem iG{ds0:List D}{o:HO}(r:R K H F G)(h:G p=some (.lst ds0)):Ext H F (upd H p o) F:=by
 obtain ⟨vs0,q,_⟩:=r.lst h;refine ⟨λ_ f=>f,λa f=>aL λe=>?_,λa xs z=>?_,λa ob u z=>?_⟩
 ·subst e;rw[(r.fz a f).1]at h;cases h
 ·rw[aL (Ab z q (by intro w;cases w))];exact z
 ·rw[aL (Ab z q (by intro w;cases w))];exact z
theorem R.write{ds0:List D}(r:R K H F G)(h:G p=some (.lst ds0))(t:Reps K H F ds vs):R K (upd H p (.lst vs)) F (aQ G p (.lst ds)):=by
 have x:Ext H F (upd H p (.lst vs)) F:=iG r h;refine ⟨λa f=>⟨?_,?_⟩,λa u e=>?_⟩
 ·rw[dN λe=>by subst e;rw[(r.fz a f).1]at h;cases h];exact (r.fz a f).1
 ·obtain ⟨_,vs',q⟩:=r.fz a f;exact ⟨vs',by rw[x.keep a f];exact q⟩
 ·by_cases ha:a=p
  ·subst ha;rw[bO]at e;cases e;exact ⟨vs,dJ,Reps.ext x t⟩
  ·rw[dN ha]at e;cases u with
   |lst ds'=>
    obtain ⟨vs',q,t'⟩:=r.lst e;exact ⟨vs',by rw[aL ha];exact q,Reps.ext x t'⟩
theorem v9:Ext H F H (λa=>F a\/a=p):=⟨λ_ f=>.inl f,λ_ _=>rfl,λ_ _ h=>h,λ_ _ _ h=>h⟩
theorem R.frz(r:R K H F G)(h:G p=some (.lst ds)):R K H (λa=>F a\/a=p) (iD G p):=by
 have x:Ext H F H (λa=>F a\/a=p):=v9;refine ⟨λa f=>?_,λa u e=>?_⟩
 ·rcases f with f |f
  ·obtain ⟨g,vs',q⟩:=r.fz a f;refine ⟨?_,vs',q⟩;by_cases ha:a=p
   ·rw[ha];exact vZ
   ·rw[Dg ha];exact g
  ·subst f;obtain ⟨vs,q,_⟩:=r.lst h;exact ⟨vZ,_,q⟩
 ·by_cases ha:a=p
  ·rw[ha,vZ]at e;cases e
  ·rw[Dg ha]at e;cases u with
   |lst ds'=>
    obtain ⟨vs',q,t'⟩:=r.lst e;exact ⟨vs',q,Reps.ext x t'⟩
theorem Y9(r:R K H F G)(h:G p=some (.lst ds)):Rep K H (λa=>F a\/a=p) (.lst ds) (.ref p):=by obtain ⟨vs,q,t⟩:=r.lst h;exact ⟨p,vs,rfl,⟨.inr rfl,q⟩,Reps.ext v9 t⟩
end
def view(G:DH):D->D
 |.ref p=>match G p with |some (.lst ds)=>.lst ds |none=>.ref p
 |d=>d
theorem Rep.list{K:PF}{H:Hp}{F:FZ}{G:DH}{d:D}{v:V}{ds:List D}(r:R K H F G)(h:Rep K H F d v)(e:view G d=.lst ds):∃a vs,v=.ref a/\SqL K H a vs/\Reps K H F ds vs:=by
 cases d with
 |lst xs=>
  have e':D.lst xs=.lst ds:=e;cases e';obtain ⟨a,vs,e1,q,t⟩:=h;exact ⟨a,vs,e1,q.sq,t⟩
 |ref p=>
  have hv:v=.ref p:=h;unfold view at e;cases g:G p with
  |none=>simp only[g]at e;cases e
  |some o=>
   cases o with
   |lst xs=>
    simp only[g]at e;cases e;obtain ⟨vs,q,t⟩:=r.lst g;exact ⟨p,vs,hv,.inl (.inl q),t⟩
 |_=>cases (show _=D.lst ds from e)
theorem gJ{G:DH}{d:D}{ds:List D}(e:view G d=.tup ds):d=.tup ds:=by
 cases d with
 |ref p=>
  unfold view at e;cases g:G p with
  |none=>simp only[g]at e;cases e
  |some o=>cases o;simp only[g]at e;cases e
 |_=>exact e
theorem gK{G:DH}{d:D}{l:List Nat}(e:view G d=.str l):d=.str l:=by
 cases d with
 |ref p=>
  unfold view at e;cases g:G p with
  |none=>simp only[g]at e;cases e
  |some o=>cases o;simp only[g]at e;cases e
 |_=>exact e
theorem d9{G:DH}{d:D}{l:Int}(e:view G d=.int l):d=.int l:=by
 cases d with
 |ref p=>
  unfold view at e;cases g:G p with
  |none=>simp only[g]at e;cases e
  |some o=>cases o;simp only[g]at e;cases e
 |_=>exact e
theorem Za{G:DH}{d:D}{l:Bool}(e:view G d=.bl l):d=.bl l:=by
 cases d with
 |ref p=>
  unfold view at e;cases g:G p with
  |none=>simp only[g]at e;cases e
  |some o=>cases o;simp only[g]at e;cases e
 |_=>exact e
abbrev aj:=List (Option D)
def EnvR(K:PF)(H:Hp)(F:FZ):aj->L2.St->Prop
 |[],σ=>σ=[]
 |o::ρ,σ=>∃u τ,σ=u::τ/\(∀d,o=some d->∃v,u=some v/\Rep K H F d v)/\EnvR K H F ρ τ
section
variable {K:PF} {H H':Hp} {F F':FZ}
theorem EnvR.ext(x:Ext H F H' F'):∀{ρ:aj}{σ:L2.St},EnvR K H F ρ σ->EnvR K H' F' ρ σ
 |[],_,h=>h
 |_::_,_,⟨u,τ,e,h,t⟩=>⟨u,τ,e,λd q=>by obtain ⟨v,e1,r⟩:=h d q;exact ⟨v,e1,Rep.ext x r⟩,EnvR.ext x t⟩
theorem EnvR.get:∀{ρ:aj}{σ:L2.St}{i:Nat}{d:D},EnvR K H F ρ σ->ρ[i]?=some (some d)->∃v,σ[i]?=some (some v)/\Rep K H F d v
 |[],_,_,_,_,e=>by simp at e
 |_::_,_,0,d,⟨u,τ,e,h,t⟩,q=>by
  subst e;obtain ⟨v,e1,r⟩:=h d (by simpa using q);exact ⟨v,by simp[e1],r⟩
 |_::_,_,i+1,d,⟨u,τ,e,h,t⟩,q=>by
  subst e;obtain ⟨v,e1,r⟩:=EnvR.get (i:=i) (d:=d) t (by simpa using q);exact ⟨v,by simpa using e1,r⟩
theorem EnvR.set{d:D}{v:V}(r:Rep K H F d v):∀{ρ:aj}{σ:L2.St}(i:Nat),EnvR K H F ρ σ->EnvR K H F (ρ.set i (some d)) (σ.set i (some v))
 |[],_,_,h=>by cases h;exact rfl
 |_::_,_,0,⟨u,τ,e,h,t⟩=>by subst e;exact ⟨_,_,rfl,λd' q=>⟨v,rfl,by cases q;exact r⟩,t⟩
 |_::_,_,i+1,⟨u,τ,e,h,t⟩=>by subst e;exact ⟨_,_,rfl,h,EnvR.set r i t⟩
theorem EnvR.unset:∀{ρ:aj}{σ:L2.St}(i:Nat),EnvR K H F ρ σ->EnvR K H F (ρ.set i Option.none) (σ.set i Option.none)
 |[],_,_,h=>by cases h;exact rfl
 |_::_,_,0,⟨u,τ,e,h,t⟩=>by subst e;exact ⟨_,_,rfl,λd' q=>(nomatch q),t⟩
 |_::_,_,i+1,⟨u,τ,e,h,t⟩=>by subst e;exact ⟨_,_,rfl,h,EnvR.unset i t⟩
theorem EnvR.none:∀(n:Nat),EnvR K H F (List.replicate n Option.none) (List.replicate n Option.none)
 |0=>rfl
 |n+1=>⟨_,_,rfl,λd q=>(nomatch q),EnvR.none n⟩
theorem EnvR.start:∀{ds:List D}{vs:List V}(n:Nat),Reps K H F ds vs->EnvR K H F (ds.map some++List.replicate n Option.none) (vs.map some++List.replicate n Option.none)
 |[],_,n,h=>by cases h;exact EnvR.none n
 |d::ds,_,n,⟨v,r,e,h,t⟩=>by
  subst e;exact ⟨_,_,rfl,λd' q=>⟨v,rfl,by cases q;exact h⟩,EnvR.start n t⟩
theorem EnvR.cap{ρ:aj}{σ:L2.St}(h:EnvR K H F ρ σ):∀(cap:List (Option Nat)),EnvR K H F (cap.map λo=>match o with |Option.none=>Option.none |some j=>(ρ[j]?).join) (dM cap σ)
 |[]=>rfl
 |Option.none::cap=>⟨_,_,rfl,λd q=>(nomatch q),EnvR.cap h cap⟩
 |some j::cap=>by
  refine ⟨_,_,rfl,λd q=>?_,EnvR.cap h cap⟩;have q':(ρ[j]?).join=some d:=q;have z:ρ[j]?=some (some d):=by
   cases e:ρ[j]? with
   |none=>rw[e]at q';cases q'
   |some o=>rw[e]at q';exact fe some q'
  obtain ⟨v,e1,r⟩:=h.get z;exact ⟨v,by show (σ[j]?).join=some v;rw[e1];rfl,r⟩
end
mutual
noncomputable def deq:D->D->Bool
 |.non,.non=>true
 |.bl a,.bl b=>a==b
 |.bl a,.int b=>(if a then 1 else 0)==b
 |.int a,.bl b=>a==(if b then 1 else 0)
 |.int a,.int b=>a==b
 |.str a,.str b=>a==b
 |.tup a,.tup b=>bR a b
 |.lst a,.lst b=>bR a b
 |_,_=>false
noncomputable def bR:List D->List D->Bool
 |[],[]=>true
 |a::as,b::bs=>deq a b&&bR as bs
 |_,_=>false
end
mutual
/-- no tracked object within -/
noncomputable def nr:D->Bool
 |.tup a=>nrs a
 |.lst a=>nrs a
 |.ref _=>false
 |.scr _=>false
 |.exn _=>false
 |.obj _ _ _=>false
 |_=>true
noncomputable def nrs:List D->Bool
 |[]=>true
 |a::as=>nr a&&nrs as
end
mutual
def dpt:D->Nat
 |.tup a=>aW a+1
 |.lst a=>aW a+1
 |_=>0
def aW:List D->Nat
 |[]=>0
 |a::as=>max (dpt a) (aW as)
end
noncomputable def truth:D->Option Bool
 |.non=>some false
 |.bl b=>some b
 |.int i=>some (i != 0)
 |.str l=>some (!l.isEmpty)
 |.tup l=>some (!l.isEmpty)
 |.lst l=>some (!l.isEmpty)
 |_=>none
noncomputable def cut{α:Type}(xs:List α)(lo hi:Option Int):List α:=(xs.drop (HT.sIx xs.length 0 lo)).take (HT.sIx xs.length xs.length hi - HT.sIx xs.length 0 lo)
def reps{α:Type}(xs:List α)(n:Nat):List α:=(List.replicate n xs).flatten
def mk(fz:Bool)(xs:List D)(G:DH)(k:D->DH->Prop):Prop:=
 match fz with
 |true=>k (.lst xs) G
 |false=>∀p,G p=none->k (.ref p) (aQ G p (.lst xs))
def jC(fz:Bool)(a b:D)(G:DH)(k:D->DH->Prop):Prop:=
 match a with
 |.int i=>(match b with |.int j=>k (.int (i+j)) G |_=>False)
 |.str x=>(match b with |.str y=>x.length+y.length<=sz/\k (.str (x++y)) G |_=>False)
 |.lst x=>(match b with |.lst y=>x.length+y.length<=sz/\mk fz (x++y) G k |_=>False)
 |.tup x=>(match b with |.tup y=>x.length+y.length<=sz/\k (.tup (x++y)) G |_=>False)
 |_=>False
def gM(a b:D)(p:Int->Int->Prop):Prop:=
 match a with
 |.int i=>(match b with |.int j=>p i j |_=>False)
 |_=>False
def jD(fz:Bool)(a b:D)(G:DH)(k:D->DH->Prop):Prop:=
 match b with
 |.int n=>(match a with |.int i=>CMul i n/\k (.int (i * n)) G |.str x=>0<=n/\n<=1000/\x.length * n.toNat<=sz/\k (.str (reps x n.toNat)) G |.tup x=>2<=n/\n<=1000/\x≠[]/\x.length * n.toNat<=sz/\k (.tup (reps x n.toNat)) G |.lst x=>0<=n/\n<=1000/\x.length * n.toNat<=sz/\mk fz (reps x n.toNat) G k |_=>False)
 |_=>False
def cg(op:Operator)(fz:Bool)(a b:D)(G:DH)(k:D->DH->Prop):Prop:=
 match op with
 |.Add=>jC fz a b G k
 |.Sub=>gM a b λi j=>k (.int (i - j)) G
 |.Mult=>jD fz a b G k
 |.FloorDiv=>gM a b λi j=>(0 < j/\j < 1152921504606846976)/\k (.int (i / j)) G
 |.Mod=>gM a b λi j=>0 < j/\k (.int (i % j)) G
 |.Pow=>gM a b λi j=>qw i j/\k (.int (i ^ j.toNat)) G
 |_=>False
def isIn(x:D)(ys:List D):Bool:=ys.any λy=>deq y x
def Di(a b:D):Prop:=nr a=true/\nr b=true/\min (dpt a) (dpt b)<=60
def inG(a:D)(l:List D):Prop:=nr a=true/\nrs l=true/\aW l<=60
def jE(a b:D)(k:Bool->Prop):Prop:=
 match a,b with
 |.int i,.int j=>k (decide (i < j))
 |.str i,.str j=>k (decide (i < j))
 |_,_=>False
def jF(a b:D)(k:Bool->Prop):Prop:=
 match a,b with
 |.int i,.int j=>k (decide (i<=j))
 |.str i,.str j=>k (!decide (j < i))
 |_,_=>False
def jG(a b:D)(k:Bool->Prop):Prop:=
 match a,b with
 |.int i,.int j=>k (decide (j < i))
 |_,_=>False
def jH(a b:D)(k:Bool->Prop):Prop:=
 match a,b with
 |.int i,.int j=>k (decide (j<=i))
 |_,_=>False
def fW(a:D):Bool:=match a with |.non=>true |_=>false
def jJ(a b:D)(k:Bool->Prop):Prop:=
 match b with
 |.non=>k (fW a)
 |.bl b=>(match a with |.bl a=>k (a==b) |_=>False)
 |_=>False
def jK(a b:D)(k:Bool->Prop):Prop:=
 match b with
 |.non=>k (!fW a)
 |.bl b=>(match a with |.bl a=>k (a != b) |_=>False)
 |_=>False
def fX(a b:D)(k:Bool->Prop):Prop:=
 match b with
 |.str l=>(match a with |.str [c]=>k (l.contains c) |_=>False)
 |.lst l=>inG a l/\k (isIn a l)
 |.tup l=>inG a l/\k (isIn a l)
 |_=>False
def aX(op:CmpOp)(a b:D)(k:Bool->Prop):Prop:=
 match op with
 |.Eq=>Di a b/\k (deq a b)
 |.NotEq=>Di a b/\k (!deq a b)
 |.Lt=>jE a b k
 |.LtE=>jF a b k
 |.Gt=>jG a b k
 |.GtE=>jH a b k
 |.Is=>jJ a b k
 |.IsNot=>jK a b k
 |.In=>fX a b k
 |.NotIn=>fX a b λc=>k (!c)
def cj(a i:D)(k:D->Prop):Prop:=
 match a,i with
 |.lst ds,.int i=>match atI ds i with |some d=>k d |none=>False
 |.tup ds,.int i=>match atI ds i with |some d=>k d |none=>False
 |.str l,.int i=>match atI l i with |some c=>k (.str [c]) |none=>False
 |_,_=>False
def eE(fz:Bool)(a:D)(lo hi:Option Int)(G:DH)(k:D->DH->Prop):Prop:=
 match a with
 |.lst ds=>mk fz (cut ds lo hi) G k
 |.scr ns=>mk fz ((cut ns lo hi).map .int) G k
 |.tup ds=>k (.tup (cut ds lo hi)) G
 |.str l=>k (.str (cut l lo hi)) G
 |_=>False
def jL(fz:Bool)(a y:D)(G:DH)(k:D->DH->Prop):Prop:=
 match a with
 |.lst ds=>y=.int (-1)/\mk fz ds.reverse G k
 |_=>False
noncomputable def bools:List D->Option (List Bool)
 |[]=>some []
 |.bl b::r=>match bools r with |some s=>some (b::s) |none=>none
 |_=>none
noncomputable def cu:List D->Option (List Int)
 |[]=>some []
 |.int b::r=>match cu r with |some s=>some (b::s) |none=>none
 |_=>none
noncomputable def bw:List D->Option (List (List Nat))
 |[]=>some []
 |.str b::r=>match bw r with |some s=>some (b::s) |none=>none
 |_=>none
def eF(s:List Nat):List (List Nat)->List Nat
 |[]=>[]
 |[x]=>x
 |x::y::r=>x++s++eF s (y::r)
inductive Bf where
 |len |all |int |tuple |sum |min |max |str |abs |min2
inductive Lf where
 |list |sorted
inductive Mf where
 |join |append |extend |insert |count |index |pop
def wg(as:List D)(k:D->Prop):Prop:=
 match as with
 |[.lst ds]=>k (.int ds.length)
 |[.tup ds]=>k (.int ds.length)
 |[.str l]=>k (.int l.length)
 |_=>False
def qH(as:List D)(k:D->Prop):Prop:=
 match as with
 |[.lst ds]=>match bools ds with |some bs=>k (.bl (bs.all id)) |none=>False
 |_=>False
def qI(as:List D)(k:D->Prop):Prop:=
 match as with
 |[.bl b]=>k (.int (if b then 1 else 0))
 |[.int i]=>k (.int i)
 |[.str l]=>match PySem.intText? (tx l) with |some n=>l.length<=640/\k (.int n) |none=>False
 |_=>False
def wj(as:List D)(k:D->Prop):Prop:=
 match as with
 |[.lst ds]=>k (.tup ds)
 |[.tup ds]=>k (.tup ds)
 |_=>False
def wk(as:List D)(k:D->Prop):Prop:=
 match as with
 |[.lst ds]=>match cu ds with |some ns=>k (.int ns.sum) |none=>False
 |_=>False
def lE(as:List D)(k:D->Prop):Prop:=
 match as with
 |[.lst ds]=>match cu ds with
  |some ns=>ns≠[]/\∀m,m∈ns->(∀a,a∈ns->m<=a)->k (.int m)
  |none=>match bw ds with
   |some ls=>∀m,m∈ls->(∀a,a∈ls->¬a < m)->k (.str m)
   |none=>False
 |_=>False
def Dj(as:List D)(k:D->Prop):Prop:=match as with
 |[.int a]=>k (.int (if a < 0 then -a else a))
 |_=>False
def Dk(as:List D)(k:D->Prop):Prop:=match as with
 |[.int a,.int b]=>k (.int (if b < a then b else a))
 |_=>False
def Dl(as:List D)(k:D->Prop):Prop:=
 match as with
 |[.int a,.int b]=>k (.int (if b > a then b else a))
 |_=>False
def gO(m:Nat):List Nat:=(vW m).cps.toList
def wu(as:List D)(k:D->Prop):Prop:=
 match as with
 |[.int i]=>(0<=i/\i < 100)/\k (.str (gO i.toNat))
 |_=>False
noncomputable def opB:Bf->List D->(D->Prop)->Prop
 |.len=>wg
 |.all=>qH
 |.int=>qI
 |.tuple=>wj
 |.sum=>wk
 |.min=>lE
 |.max=>Dl
 |.abs=>Dj
 |.min2=>Dk
 |.str=>wu
def ww(as:List D)(k:List D->Prop):Prop:=
 match as with
 |[.lst ds]=>k ds
 |[.tup ds]=>k ds
 |[.str l]=>k (l.map λc=>.str [c])
 |_=>False
def qJ(as:List D)(k:List D->Prop):Prop:=
 match as with
 |[.lst ds]=>match bw ds with |some ls=>ls.length < 64/\∀ls':List (List Nat),ls'.Perm ls->PyProof.Rows.sortedS (ls'.map tx)=true->k (ls'.map D.str) |none=>False
 |[.tup ds]=>match cu ds with |some ns=>ns.length < 64/\∀ns':List Int,ns'.Perm ns->ns'.Pairwise (·<=·)->k (ns'.map D.int) |none=>False
 |_=>False
def cJ:Lf->List D->(List D->Prop)->Prop
 |.list=>ww
 |.sorted=>qJ
noncomputable def isT(t:String)(d:D):Option Bool:=
 match d with
 |.non=>some false
 |.bl _=>some (t=="bool"||t=="int")
 |.int _=>some (t=="int")
 |.str _=>some (t=="str")
 |.tup _=>some (t=="tuple")
 |.lst _=>some (t=="list")
 |_=>none
def fY (t:String):Bool:=t=="bool"||t=="int"||t=="str"||t=="tuple"||t=="list"
def qK(o:D)(as:List D)(G:DH)(k:D->DH->Prop):Prop:=
 match o,as with
 |.str s,[.lst ds]=>match bw ds with |some ls=>((ls.map (·.length)).sum+ls.length * s.length<=sz)/\k (.str (eF s ls)) G |none=>False
 |_,_=>False
def qL(o:D)(as:List D)(G:DH)(k:D->DH->Prop):Prop:=
 match o,as with
 |.ref p,[x]=>match G p with |some (.lst ds)=>ds.length < sz/\k .non (aQ G p (.lst (ds++[x]))) |none=>False
 |_,_=>False
def qM(o:D)(as:List D)(G:DH)(k:D->DH->Prop):Prop:=
 match o,as with
 |.ref p,[.lst xs]=>match G p with |some (.lst ds)=>ds.length+xs.length < sz/\k .non (aQ G p (.lst (ds++xs))) |none=>False
 |_,_=>False
def qN(o:D)(as:List D)(G:DH)(k:D->DH->Prop):Prop:=
 match o,as with
 |.ref p,[.int i,x]=>match G p with |some (.lst ds)=>ds.length < sz/\0<=i/\i<=1000000/\k .non (aQ G p (.lst (ds.take i.toNat++x::ds.drop i.toNat))) |none=>False
 |_,_=>False
def wy(o:D)(as:List D)(G:DH)(k:D->DH->Prop):Prop:=
 match o,as with
 |.ref p,[.int i]=>match G p with |some (.lst ds)=>0<=i/\i<=1000000/\(match ds[i.toNat]? with |some y=>k y (aQ G p (.lst (ds.eraseIdx i.toNat))) |none=>False) |none=>False
 |_,_=>False
def qO(o:D)(as:List D)(G:DH)(k:D->DH->Prop):Prop:=
 match o,as with
 |.lst ds,[.bl true]=>match bools ds with |some bs=>k (.int (bs.count true:Nat)) G |none=>False
 |_,_=>False
def qP(o:D)(as:List D)(G:DH)(k:D->DH->Prop):Prop:=
 match o,as with
 |.lst ds,[.bl true]=>match bools ds with |some bs=>true∈bs/\k (.int (bs.idxOf true:Nat)) G |none=>False
 |_,_=>False
def wz:D->Prop
 |.lst _=>True
 |_=>False
def recv(m:Mf)(o:D)(G:DH):Prop:=
 match m,o with
 |.join,.str _=>True
 |.append,.ref p=>match G p with |some (.lst _)=>True |none=>False
 |.extend,.ref p=>match G p with |some (.lst _)=>True |none=>False
 |.insert,.ref p=>match G p with |some (.lst _)=>True |none=>False
 |.pop,.ref p=>match G p with |some (.lst _)=>True |none=>False
 |.count,o=>wz (view G o)
 |.index,o=>wz (view G o)
 |_,_=>False
noncomputable def opM:Mf->D->List D->DH->(D->DH->Prop)->Prop
 |.join,o,as,G,k=>qK o (as.map (view G)) G k
 |.append,o,as,G,k=>qL o as G k
 |.extend,o,as,G,k=>qM o (as.map (view G)) G k
 |.insert,o,as,G,k=>qN o as G k
 |.pop,o,as,G,k=>wy o as G k
 |.count,o,as,G,k=>qO (view G o) as G k
 |.index,o,as,G,k=>qP (view G o) as G k
def bB (C C':String):Bool:=C==C'||C'=="SieveError"||C'=="ValueError"
mutual
inductive Tg where
 |nm (i:Nat)
 |tp (ts:Tgs)
inductive Tgs where
 |nil
 |cons (t:Tg) (r:Tgs)
end
mutual
inductive Ex where
 |var (i:Nat)
 |cst (d:D)
 |glb (x:String) (d:D)
 |bin (op:Operator) (fz:Bool) (a b:Ex)
 |neg (a:Ex)
 |cmp (op:CmpOp) (a b:Ex)
 |chn (op op':CmpOp) (a b c:Ex)
 |not (a:Ex)
 |boo (isAnd:Bool) (e:Ex) (es:Exs)
 |ife (c:Tx) (a b:Ex)
 |tup (es:Exs)
 |lst (fz:Bool) (es:Exs)
 |idx (a i:Ex)
 |slc (fz:Bool) (a:Ex) (lo hi:Ox)
 |rvs (fz:Bool) (a s:Ex)
 |call (f:String) (es:Exs)
 |bcl (f:Bf) (es:Exs)
 |lcl (fz:Bool) (f:Lf) (es:Exs)
 |isi (a:Ex) (t:String)
 |isx (a:Ex) (C:String) (xs:List String)
 |fst (es:Exs)
 |rgl (fz:Bool) (a:Ex)
 |rgt (a:Ex)
 |rpl (f:String) (a b ix:Ex)
 |fld (C f:String) (o:Ex)
 |mcl (f C m:String) (o:Ex) (es:Exs)
 |mko (C:String) (es:Exs)
 |pp0 (o:Ex)
 |mth (m:Mf) (o:Ex) (es:Exs)
 |comp (fz:Bool) (elt:Ex) (tg:Tg) (it:It') (cond:Tx) (N:List String) (cap:List (Option Nat))
 |cm3 (elt:Ex) (t1:Tg) (i1:It') (t2:Tg) (i2:It') (t3:Tg) (i3:It') (N:List String) (cap:List (Option Nat))
 |frz (a:Ex)
inductive Exs where
 |nil
 |cons (e:Ex) (es:Exs)
/-- a test -/
inductive Tx where
 |val (e:Ex)
 |not (t:Tx)
 |boo (isAnd:Bool) (t:Tx) (ts:Txs)
 |yes
inductive Txs where
 |nil
 |cons (t:Tx) (ts:Txs)
/-- a bound of a slice -/
inductive Ox where
 |no
 |ob (e:Ex)
/-- what a loop walks -/
inductive It' where
 |seq (e:Ex)
 |rng (a:Ex)
 |rng2 (a b:Ex)
 |rev (a:Ex)
 |dwn (a b c:Ex)
 |enm (e:Ex)
 |zip (a b:Ex)
end
inductive Tb where
 |call (f:String) (es:Exs)
 |asg (i:Nat) (f:String) (es:Exs)
 |pick (f g:String) (i:Nat) (es:Exs)
 |ite (c:Tx) (a b:Tb)
 |mcl (f C m:String) (o:Ex) (es:Exs)
 |mko (C:String) (es:Exs)
inductive Hd where
 |flag (i:Nat) (b:Bool)
 |bind (n i:Nat)
mutual
inductive Sx where
 |exp (e:Ex)
 |asg (t:Tg) (e:Ex)
 |set (o i e:Ex)
 |aug (i:Nat) (op:Operator) (e:Ex)
 |augs (o i:Ex) (op:Operator) (e:Ex)
 |ret (e:Ex)
 |rtn
 |ite (c:Tx) (a b:Sxs)
 |for_ (t:Tg) (it:It') (body:Sxs)
 |whl (c:Tx) (body:Sxs)
 |pas
 |brk
 |cnt
 |nev
 |rse (C:String) (es:Exs)
 |tryc (f:String) (es:Exs) (C:String) (i:Nat) (b:Bool)
 |tryx (b:Tb) (C:String) (h:Hd) (xs:List String)
inductive Sxs where
 |nil
 |cons (s:Sx) (r:Sxs)
end
structure Xn where
 cls:String
 fld:D
structure Spec where
 A:Type
 pre:List D->DH->A->Prop
 post:A->D->DH->Prop
 exc:A->Xn->DH->Prop
abbrev EK:=Xn->DH->Prop
def Spec.t(S:Spec)(ds:List D)(G:DH)(Q:D->DH->Prop)(E:EK):Prop:=
 ∃a,S.pre ds G a/\(∀d G',S.post a d G'->Q d G')/\∀x G',S.exc a x G'->E x G'
theorem Spec.mono{S:Spec}{ds:List D}{G:DH}{Q Q':D->DH->Prop}{E E':EK}(h:S.t ds G Q E)(hq:∀d G',Q d G'->Q' d G')(he:∀x G',E x G'->E' x G'):S.t ds G Q' E':=by obtain ⟨a,h1,h2,h3⟩:=h;exact ⟨a,h1,λd G' q=>hq _ _ (h2 d G' q),λx G' q=>he _ _ (h3 x G' q)⟩
abbrev aa:=String->Spec
def wA(C f:String)(d:D)(k:Addr->Prop):Prop:=match d with |.obj C' f' q=>C'=C/\f'=f/\k q |_=>False
def qQ(C m:String)(d:D):Prop:=match d with |.obj C' f' _=>C'=C/\(Str.ofString m==Str.ofString f')=false |_=>False
def wB(d:D)(G:DH)(k:D->DH->Prop):Prop:=match d with |.ref p=>(match G p with |some (.lst ds)=>(match ds[ds.length - 1]? with |some y=>k y (aQ G p (.lst ds.dropLast)) |none=>False) |none=>False) |_=>False
def wC(d:D)(k:List Nat->Prop):Prop:=match d with |.str l=>l.length<=1000/\k l |_=>False
def wD(i:D)(l:List Nat)(k:List Nat->Prop):Prop:=match i with |.int n=>(match atI [48,49] n with |some c=>k (l.map λa=>if a=42 then c else a) |none=>False) |_=>False
mutual
noncomputable def aP:Tg->D->aj->DH->(aj->Prop)->Prop
 |.nm i,d,ρ,_,k=>k (ρ.set i (some d))
 |.tp ts,d,ρ,G,k=>match d with |.tup ds=>bL ts ds ρ G k |.lst ds=>bL ts ds ρ G k |_=>False
noncomputable def bL:Tgs->List D->aj->DH->(aj->Prop)->Prop
 |.nil,ds,ρ,_,k=>match ds with |[]=>k ρ |_=>False
 |.cons t r,ds,ρ,G,k=>match ds with |d::ds=>aP t d ρ G (λρ'=>bL r ds ρ' G k) |[]=>False
end
abbrev Hld:=List (Addr×List D)
def held:Hld->DH->Prop
 |[],_=>True
 | (a,ds)::r,G=>G a=some (.lst ds)/\held r G
noncomputable def compLoop(step:D->aj->DH->(Option D->aj->DH->Prop)->Prop)(g:Hld):List D->List D->aj->DH->(List D->DH->Prop)->Prop
 |[],acc,_,G,k=>held g G/\acc.length<=sz/\k acc G
 |d::ds,acc,ρ,G,k=>held g G/\acc.length < sz/\step d ρ G (λo ρ' G'=>match o with |some y=>compLoop step g ds (acc++[y]) ρ' G' k |none=>compLoop step g ds acc ρ' G' k)
noncomputable def dm(step:D->List D->aj->DH->(List D->aj->DH->Prop)->Prop)(g:Hld):List D->List D->aj->DH->(List D->aj->DH->Prop)->Prop
 |[],acc,ρ,G,k=>held g G/\k acc ρ G
 |d::ds,acc,ρ,G,k=>held g G/\step d acc ρ G (λacc' ρ' G'=>dm step g ds acc' ρ' G' k)
def dO:Nat->List D->List D
 |_,[]=>[]
 |i,d::ds=>.tup [.int i,d]::dO (i+1) ds
def bT:List D->List D->List D
 |a::as,b::bs=>.tup [a,b]::bT as bs
 |_,_=>[]
noncomputable def itemsOf(G:DH):D->Option (List D×Hld)
 |.lst ds=>some (ds,[])
 |.tup ds=>some (ds,[])
 |.str l=>some (l.map λc=>.str [c],[])
 |.ref p=>match G p with |some (.lst ds)=>some (ds,[(p,ds)]) |none=>none
 |_=>none
def aR(lo:Int)(n:Nat):List D:=(List.range n).map λi=>.int (lo+(i:Nat))
def dq(lo:Int)(n:Nat):List D:=(List.range n).map λi=>.int (lo - (i:Nat))
def noE:EK:=λ_ _=>False
mutual
def wpE(Φ:aa):Ex->EK->aj->DH->(D->DH->Prop)->Prop
 |.var i,_,ρ,G,k=>match ρ[i]? with |some (some d)=>k d G |_=>False
 |.cst d,_,_,G,k=>k d G
 |.glb _ d,_,_,G,k=>k d G
 |.bin op fz a b,E,ρ,G,k=>wpE Φ a E ρ G λx G1=>wpE Φ b E ρ G1 λy G2=>cg op fz (view G2 x) (view G2 y) G2 k
 |.neg a,E,ρ,G,k=>wpE Φ a E ρ G λx G1=>match x with |.int i=>k (.int (-i)) G1 |_=>False
 |.cmp op a b,E,ρ,G,k=>wpE Φ a E ρ G λx G1=>wpE Φ b E ρ G1 λy G2=>aX op (view G2 x) (view G2 y) λc=>k (.bl c) G2
 |.chn op op' a b c,E,ρ,G,k=>wpE Φ a E ρ G λx G1=>wpE Φ b E ρ G1 λy G2=>aX op (view G2 x) (view G2 y) λt=>
   match t with
   |true=>wpE Φ c E ρ G2 λz G3=>aX op' (view G3 y) (view G3 z) λt'=>k (.bl t') G3
   |false=>k (.bl false) G2
 |.not a,E,ρ,G,k=>wpE Φ a E ρ G λx G1=>match truth (view G1 x) with |some b=>k (.bl (!b)) G1 |none=>False
 |.boo isAnd e es,E,ρ,G,k=>wpE Φ e E ρ G λd G1=>match d with |.bl b=>wpB Φ es isAnd b E ρ G1 (λc G2=>k (.bl c) G2) |_=>False
 |.ife c a b,E,ρ,G,k=>wpT Φ c E ρ G λt G1=>match t with |true=>wpE Φ a E ρ G1 k |false=>wpE Φ b E ρ G1 k
 |.tup es,E,ρ,G,k=>aM Φ es E ρ G λds G1=>ds.length<=sz/\k (.tup ds) G1
 |.lst fz es,E,ρ,G,k=>aM Φ es E ρ G λds G1=>ds.length<=sz/\mk fz ds G1 k
 |.idx a i,E,ρ,G,k=>wpE Φ a E ρ G λx G1=>wpE Φ i E ρ G1 λy G2=>cj (view G2 x) y λd=>k d G2
 |.slc fz a lo hi,E,ρ,G,k=>wpE Φ a E ρ G λx G1=>wpO Φ lo E ρ G1 λl G2=>wpO Φ hi E ρ G2 λh G3=>eE fz (view G3 x) l h G3 k
 |.rvs fz a s,E,ρ,G,k=>wpE Φ a E ρ G λx G1=>wpE Φ s E ρ G1 λy G2=>jL fz (view G2 x) y G2 k
 |.call f es,E,ρ,G,k=>aM Φ es E ρ G λds G1=>(Φ f).t ds G1 k E
 |.bcl f es,E,ρ,G,k=>aM Φ es E ρ G λds G1=>opB f (ds.map (view G1)) λd=>k d G1
 |.lcl fz f es,E,ρ,G,k=>aM Φ es E ρ G λds G1=>cJ f (ds.map (view G1)) λxs=>mk fz xs G1 k
 |.isi a t,E,ρ,G,k=>wpE Φ a E ρ G λx G1=>match isT t (view G1 x) with |some b=>k (.bl b) G1 |none=>False
 |.isx a C xs,E,ρ,G,k=>wpE Φ a E ρ G λx G1=>match x with |.exn c=>xs.contains c=true/\k (.bl (bB c C)) G1 |_=>False
 |.fst es,E,ρ,G,k=>wpF Φ es E ρ G λl G1=>l.length<=sz/\k (.str l) G1
 |.rgl fz a,E,ρ,G,k=>wpE Φ a E ρ G λd G1=>match d with |.int n=>(0<=n/\n<=1000)/\mk fz (aR 0 n.toNat) G1 k |_=>False
 |.rpl f a b ix,E,ρ,G,k=>wpE Φ a E ρ G λda G1=>wpE Φ b E ρ G1 λdb G2=>cj (view G2 db) (.int 0) λd0=>(Φ f).t [da,d0] G2 (λd G3=>wC d λl=>wpE Φ ix E ρ G3 λi G4=>wD i l λm=>k (.str m) G4) E
 |.fld C f o,E,ρ,G,k=>wpE Φ o E ρ G λd G1=>wA C f d λq=>k (.ref q) G1
 |.mcl f C m o es,E,ρ,G,k=>wpE Φ o E ρ G λd G1=>qQ C m d/\aM Φ es E ρ G1 λds G2=>(Φ f).t (d::ds) G2 k E
 |.mko C es,E,ρ,G,k=>aM Φ es E ρ G λds G1=>(Φ C).t ds G1 k E
 |.pp0 o,E,ρ,G,k=>wpE Φ o E ρ G λd G1=>wB d G1 k
 |.rgt a,E,ρ,G,k=>wpE Φ a E ρ G λd G1=>match d with |.int n=>(0<=n/\n<=1000)/\k (.tup (aR 0 n.toNat)) G1 |_=>False
 |.mth m o es,E,ρ,G,k=>wpE Φ o E ρ G λx G1=>recv m x G1/\aM Φ es E ρ G1 λds G2=>opM m x ds G2 k
 |.comp fz elt tg it cond _ cap,E,ρ,G,k=>wpI Φ it E ρ G λitems g G1=>
   compLoop (λd ρ' G' k'=>aP tg d ρ' G' λρ1=>wpT Φ cond noE ρ1 G' λb G2=>match b with |true=>wpE Φ elt noE ρ1 G2 λy G3=>k' (some y) ρ1 G3 |false=>k' none ρ1 G2)
    g items [] (cap.map λo=>match o with |none=>none |some j=>(ρ[j]?).join) G1 λds G2=>mk fz ds G2 k
 |.cm3 elt t1 i1 t2 i2 t3 i3 _ cap,E,ρ,G,k=>wpI Φ i1 E ρ G λitems g G1=>dm (λd acc ρ' G' k1=>aP t1 d ρ' G' λρ1=>wpI Φ i2 noE ρ1 G' λitems2 g2 G2=>dm (λd acc ρ' G' k2=>aP t2 d ρ' G' λρ1=>wpI Φ i3 noE ρ1 G' λitems3 g3 G3=>dm (λd acc ρ' G' k3=>aP t3 d ρ' G' λρ1=>acc.length < sz/\wpE Φ elt noE ρ1 G' λy G4=>k3 (acc++[y]) ρ1 G4) g3 items3 acc ρ1 G3 k2) g2 items2 acc ρ1 G2 k1) g items [] (cap.map λo=>match o with |none=>none |some j=>(ρ[j]?).join) G1 λds _ G2=>ds.length<=sz/\mk true ds G2 k
 |.frz a,E,ρ,G,k=>wpE Φ a E ρ G λx G1=>match x with |.ref p=>(match G1 p with |some (.lst ds)=>k (.lst ds) (iD G1 p) |none=>False) |d=>k d G1
/-- a test -/
def wpT(Φ:aa):Tx->EK->aj->DH->(Bool->DH->Prop)->Prop
 |.not a,E,ρ,G,k=>wpT Φ a E ρ G λb G1=>k (!b) G1
 |.boo isAnd e es,E,ρ,G,k=>wpT Φ e E ρ G λb G1=>fZ Φ es isAnd b E ρ G1 k
 |.yes,_,_,G,k=>k true G
 |.val x,E,ρ,G,k=>wpE Φ x E ρ G λd G1=>match truth (view G1 d) with |some b=>k b G1 |none=>False
def wpF(Φ:aa):Exs->EK->aj->DH->(List Nat->DH->Prop)->Prop
 |.nil,_,_,G,k=>k [] G
 |.cons e es,E,ρ,G,k=>wpE Φ e E ρ G λd G1=>match d with
  |.str l=>l.length<=1000/\wpF Φ es E ρ G1 λx G2=>k (l++x) G2
  |.int i=>(0<=i/\i < 100)/\wpF Φ es E ρ G1 λx G2=>k (gO i.toNat++x) G2
  |_=>False
def aM(Φ:aa):Exs->EK->aj->DH->(List D->DH->Prop)->Prop
 |.nil,_,_,G,k=>k [] G
 |.cons e es,E,ρ,G,k=>wpE Φ e E ρ G λd G1=>aM Φ es E ρ G1 λds G2=>k (d::ds) G2
/-- and,or as values:truths alone;b:the one ahead -/
def wpB(Φ:aa):Exs->Bool->Bool->EK->aj->DH->(Bool->DH->Prop)->Prop
 |.nil,_,b,_,_,G,k=>k b G
 |.cons e es,isAnd,b,E,ρ,G,k=>match isAnd,b with
  |true,false=>k false G
  |false,true=>k true G
  |_,_=>wpE Φ e E ρ G λd G1=>match d with |.bl b'=>wpB Φ es isAnd b' E ρ G1 k |_=>False
def fZ(Φ:aa):Txs->Bool->Bool->EK->aj->DH->(Bool->DH->Prop)->Prop
 |.nil,_,b,_,_,G,k=>k b G
 |.cons e es,isAnd,b,E,ρ,G,k=>match isAnd,b with
  |true,false=>k false G
  |false,true=>k true G
  |_,_=>wpT Φ e E ρ G λb' G1=>fZ Φ es isAnd b' E ρ G1 k
/-- a bound of a slice -/
def wpO(Φ:aa):Ox->EK->aj->DH->(Option Int->DH->Prop)->Prop
 |.no,_,_,G,k=>k none G
 |.ob x,E,ρ,G,k=>wpE Φ x E ρ G λd G1=>match d with |.int i=>k (some i) G1 |_=>False
def wpI(Φ:aa):It'->EK->aj->DH->(List D->Hld->DH->Prop)->Prop
 |.seq e,E,ρ,G,k=>wpE Φ e E ρ G λd G1=>match itemsOf G1 d with |some ds=>k ds.1 ds.2 G1 |none=>False
 |.rng a,E,ρ,G,k=>wpE Φ a E ρ G λd G1=>match d with |.int n=>(-(2 ^ 62)<=n/\n < 2 ^ 62)/\k (aR 0 n.toNat) [] G1 |_=>False
 |.rng2 a b,E,ρ,G,k=>wpE Φ a E ρ G λx G1=>wpE Φ b E ρ G1 λy G2=>match x,y with
  |.int m,.int n=>(-(2 ^ 62)<=m/\m < 2 ^ 62/\-(2 ^ 62)<=n/\n < 2 ^ 62)/\k (aR m (n - m).toNat) [] G2
  |_,_=>False
 |.rev a,E,ρ,G,k=>wpE Φ a E ρ G λd G1=>match d with |.int n=>(-(2 ^ 62)<=n/\n < 2 ^ 62)/\k (dq ((n.toNat:Int) - 1) n.toNat) [] G1 |_=>False
 |.dwn a b c,E,ρ,G,k=>wpE Φ a E ρ G λx G1=>wpE Φ b E ρ G1 λy G2=>wpE Φ c E ρ G2 λz G3=>match x,y,z with
  |.int m,.int n,.int s=>(s=-1/\-(2 ^ 62)<=m/\m < 2 ^ 62/\-(2 ^ 62)<=n/\n < 2 ^ 62)/\k (dq m (m - n).toNat) [] G3
  |_,_,_=>False
 |.enm e,E,ρ,G,k=>wpE Φ e E ρ G λd G1=>match itemsOf G1 d with |some ds=>k (dO 0 ds.1) ds.2 G1 |none=>False
 |.zip a b,E,ρ,G,k=>wpE Φ a E ρ G λx G1=>wpE Φ b E ρ G1 λy G2=>match itemsOf G2 x,itemsOf G2 y with |some ds,some es=>k (bT ds.1 es.1) (ds.2++es.2) G2 |_,_=>False
end
structure En where
 nx:aj->DH->Prop
 rt:D->DH->Prop
 bk:aj->DH->Prop
 ct:aj->DH->Prop
noncomputable def forLoop(step:D->aj->DH->(aj->DH->Prop)->Prop)(g:Hld):List D->aj->DH->(aj->DH->Prop)->Prop
 |[],ρ,G,k=>held g G/\k ρ G
 |d::ds,ρ,G,k=>held g G/\step d ρ G λρ' G'=>forLoop step g ds ρ' G' k
def whileLoop(test:aj->DH->(Bool->DH->Prop)->Prop)(body:aj->DH->(aj->DH->Prop)->Prop):Nat->aj->DH->(aj->DH->Prop)->Prop
 |0,_,_,_=>False
 |n+1,ρ,G,k=>test ρ G λb G1=>match b with |true=>body ρ G1 λρ' G'=>whileLoop test body n ρ' G' k |false=>k ρ G1
def eG(o i x:D)(G:DH)(k:DH->Prop):Prop:=
 match o,i with
 |.ref p,.int i=>match G p with |some (.lst ds)=>(match ixN ds.length i with |some j=>k (aQ G p (.lst (ds.set j x))) |none=>False) |none=>False
 |_,_=>False
def dR(op:Operator)(a b:D)(k:D->Prop):Prop:=
 match op,a,b with
 |.Add,.int i,.int j=>k (.int (i+j))
 |.Add,.str x,.str y=>x.length+y.length<=sz/\k (.str (x++y))
 |.Sub,.int i,.int j=>k (.int (i - j))
 |_,_,_=>False
def qR:D->Bool
 |.int i=>decide (0<=i)&&decide (i < 100)
 |_=>false
def wpM(Φ:aa):Exs->EK->aj->DH->(DH->Prop)->Prop
 |.nil,_,_,G,k=>k G
 |.cons e es,E,ρ,G,k=>wpE Φ e E ρ G λd G1=>qR d=true/\wpM Φ es E ρ G1 k
def wpX(Φ:aa):Tb->aj->DH->(aj->DH->Prop)->(Xn->aj->DH->Prop)->Prop
 |.call f es,ρ,G,nx,ex=>aM Φ es noE ρ G λds G1=>(Φ f).t ds G1 (λ_ G2=>nx ρ G2) λx G2=>ex x ρ G2
 |.asg i f es,ρ,G,nx,ex=>aM Φ es noE ρ G λds G1=>(Φ f).t ds G1 (λd G2=>nx (ρ.set i (some d)) G2) λx G2=>ex x ρ G2
 |.pick f g i es,ρ,G,nx,ex=>wpE Φ (.var i) noE ρ G λd G1=>∃b:Bool,d=.int (if b then 1 else 0)/\aM Φ es noE ρ G1 λds G2=>(Φ (if b then g else f)).t ds G2 (λ_ G3=>nx ρ G3) λx G3=>ex x ρ G3
 |.ite c a b,ρ,G,nx,ex=>wpT Φ c noE ρ G λt G1=>match t with |true=>wpX Φ a ρ G1 nx ex |false=>wpX Φ b ρ G1 nx ex
 |.mcl f C m o es,ρ,G,nx,ex=>wpE Φ o noE ρ G λd G1=>qQ C m d/\aM Φ es noE ρ G1 λds G2=>(Φ f).t (d::ds) G2 (λ_ G3=>nx ρ G3) λx G3=>ex x ρ G3
 |.mko C es,ρ,G,nx,ex=>aM Φ es noE ρ G λds G1=>(Φ C).t ds G1 (λ_ G2=>nx ρ G2) λx G2=>ex x ρ G2
def caught(h:Hd)(C:String)(ρ:aj):aj:=match h with
 |.flag i b=>ρ.set i (some (.bl b))
 |.bind n i=>((ρ.set n (some (.exn C))).set i (some (.exn C))).set n none
mutual
def wpS(Φ:aa):Sx->EK->aj->DH->En->Prop
 |.exp e,E,ρ,G,D=>wpE Φ e E ρ G λ_ G1=>D.nx ρ G1
 |.asg t e,E,ρ,G,D=>wpE Φ e E ρ G λd G1=>aP t d ρ G1 λρ'=>D.nx ρ' G1
 |.set o i e,E,ρ,G,D=>wpE Φ e E ρ G λx G1=>wpE Φ o E ρ G1 λa G2=>wpE Φ i E ρ G2 λy G3=>eG a y x G3 λG4=>D.nx ρ G4
 |.aug i op e,E,ρ,G,D=>match ρ[i]? with
  |some (some a)=>wpE Φ e E ρ G λb G1=>dR op a b λc=>D.nx (ρ.set i (some c)) G1
  |_=>False
 |.augs o i op e,E,ρ,G,D=>wpE Φ o E ρ G λa G1=>wpE Φ i E ρ G1 λy G2=>cj (view G2 a) y λold=>wpE Φ e E ρ G2 λb G3=>dR op old b λc=>eG a y c G3 λG4=>D.nx ρ G4
 |.ret e,E,ρ,G,D=>wpE Φ e E ρ G D.rt
 |.rtn,_,_,G,D=>D.rt .non G
 |.ite c a b,E,ρ,G,D=>wpT Φ c E ρ G λt G1=>match t with |true=>au Φ a E ρ G1 D |false=>au Φ b E ρ G1 D
 |.for_ t it body,E,ρ,G,D=>wpI Φ it E ρ G λitems g G1=>
   forLoop (λd ρ' G' k=>aP t d ρ' G' λρ1=>au Φ body E ρ1 G' { D with nx:=k,ct:=k,bk:=D.nx }) g items ρ G1 D.nx
 |.whl c body,E,ρ,G,D=>∃n,whileLoop (λρ' G' k=>wpT Φ c E ρ' G' k) (λρ' G' k=>au Φ body E ρ' G' { D with nx:=k,ct:=k,bk:=D.nx }) n ρ G D.nx
 |.pas,_,ρ,G,D=>D.nx ρ G
 |.brk,_,ρ,G,D=>D.bk ρ G
 |.cnt,_,ρ,G,D=>D.ct ρ G
 |.nev,_,_,_,_=>False
 |.rse C es,E,ρ,G,_=>wpM Φ es E ρ G λG1=>E ⟨C,.non⟩ G1
 |.tryc f es C i b,_,ρ,G,D=>aM Φ es noE ρ G λds G1=>(Φ f).t ds G1 (λ_ G2=>D.nx ρ G2) λx G2=>x.cls=C/\x.fld=.non/\D.nx (ρ.set i (some (.bl b))) G2
 |.tryx b C h xs,_,ρ,G,D=>wpX Φ b ρ G D.nx λx ρ' G'=>x.fld=.non/\xs.contains x.cls=true/\bB x.cls C=true/\D.nx (caught h x.cls ρ') G'
def au(Φ:aa):Sxs->EK->aj->DH->En->Prop
 |.nil,_,ρ,G,D=>D.nx ρ G
 |.cons s r,E,ρ,G,D=>wpS Φ s E ρ G { D with nx:=λρ' G'=>au Φ r E ρ' G' D }
end
theorem qT{Φ:aa}{a}{E}{ρ}{G}{k}:wpT Φ (.not a) E ρ G k=(wpT Φ a E ρ G λb G1=>k (!b) G1):=rfl
theorem qU{Φ:aa}{isAnd}{e}{es}{E}{ρ}{G}{k}:wpT Φ (.boo isAnd e es) E ρ G k=(wpT Φ e E ρ G λb G1=>fZ Φ es isAnd b E ρ G1 k):=rfl
theorem qW{Φ:aa}{E}{ρ}{G}{k}:wpT Φ .yes E ρ G k=(k true G):=rfl
theorem jM{Φ:aa}{x}{E}{ρ}{G}{k}:wpT Φ (.val x) E ρ G k=(wpE Φ x E ρ G λd G1=>match truth (view G1 d) with |some b=>k b G1 |none=>False):=rfl
theorem iH{Φ:aa}{E}{ρ}{G}{k}:aM Φ .nil E ρ G k=(k [] G):=rfl
theorem gP{Φ:aa}{e}{es}{E}{ρ}{G}{k}:aM Φ (.cons e es) E ρ G k=(wpE Φ e E ρ G λd G1=>aM Φ es E ρ G1 λds G2=>k (d::ds) G2):=rfl
theorem qX{Φ:aa}{isAnd:Bool}{b:Bool}{E}{ρ}{G}{k}:wpB Φ .nil isAnd b E ρ G k=(k b G):=rfl
theorem lF{Φ:aa}{e}{es}{isAnd:Bool}{b:Bool}{E}{ρ}{G}{k}:wpB Φ (.cons e es) isAnd b E ρ G k=(match isAnd,b with
  |true,false=>k false G
  |false,true=>k true G
  |_,_=>wpE Φ e E ρ G λd G1=>match d with |.bl b'=>wpB Φ es isAnd b' E ρ G1 k |_=>False):=rfl
theorem qY{Φ:aa}{isAnd:Bool}{b:Bool}{E}{ρ}{G}{k}:fZ Φ .nil isAnd b E ρ G k=(k b G):=rfl
theorem lG{Φ:aa}{e}{es}{isAnd:Bool}{b:Bool}{E}{ρ}{G}{k}:fZ Φ (.cons e es) isAnd b E ρ G k=(match isAnd,b with
  |true,false=>k false G
  |false,true=>k true G
  |_,_=>wpT Φ e E ρ G λb' G1=>fZ Φ es isAnd b' E ρ G1 k):=rfl
theorem qZ{Φ:aa}{E}{ρ}{G}{k}:wpO Φ .no E ρ G k=(k none G):=rfl
theorem q8{Φ:aa}{x}{E}{ρ}{G}{k}:wpO Φ (.ob x) E ρ G k=(wpE Φ x E ρ G λd G1=>match d with |.int i=>k (some i) G1 |_=>False):=rfl
theorem q9{Φ:aa}{e}{E}{ρ}{G}{k}:wpI Φ (.seq e) E ρ G k=(wpE Φ e E ρ G λd G1=>match itemsOf G1 d with |some ds=>k ds.1 ds.2 G1 |none=>False):=rfl
theorem rm{Φ:aa}{a}{E}{ρ}{G}{k}:wpI Φ (.rng a) E ρ G k=(wpE Φ a E ρ G λd G1=>match d with |.int n=>(-(2 ^ 62)<=n/\n < 2 ^ 62)/\k (aR 0 n.toNat) [] G1 |_=>False):=rfl
theorem rn{Φ:aa}{a}{b}{E}{ρ}{G}{k}:wpI Φ (.rng2 a b) E ρ G k=(wpE Φ a E ρ G λx G1=>wpE Φ b E ρ G1 λy G2=>match x,y with
  |.int m,.int n=>(-(2 ^ 62)<=m/\m < 2 ^ 62/\-(2 ^ 62)<=n/\n < 2 ^ 62)/\k (aR m (n - m).toNat) [] G2
  |_,_=>False):=rfl
theorem rz{Φ:aa}{a}{E}{ρ}{G}{k}:wpI Φ (.rev a) E ρ G k=(wpE Φ a E ρ G λd G1=>match d with |.int n=>(-(2 ^ 62)<=n/\n < 2 ^ 62)/\k (dq ((n.toNat:Int) - 1) n.toNat) [] G1 |_=>False):=rfl
theorem wF{Φ:aa}{a}{b}{c}{E}{ρ}{G}{k}:wpI Φ (.dwn a b c) E ρ G k=(wpE Φ a E ρ G λx G1=>wpE Φ b E ρ G1 λy G2=>wpE Φ c E ρ G2 λz G3=>match x,y,z with
  |.int m,.int n,.int s=>(s=-1/\-(2 ^ 62)<=m/\m < 2 ^ 62/\-(2 ^ 62)<=n/\n < 2 ^ 62)/\k (dq m (m - n).toNat) [] G3
  |_,_,_=>False):=rfl
theorem rA{Φ:aa}{e}{E}{ρ}{G}{k}:wpI Φ (.enm e) E ρ G k=(wpE Φ e E ρ G λd G1=>match itemsOf G1 d with |some ds=>k (dO 0 ds.1) ds.2 G1 |none=>False):=rfl
theorem rB{Φ:aa}{a}{b}{E}{ρ}{G}{k}:wpI Φ (.zip a b) E ρ G k=(wpE Φ a E ρ G λx G1=>wpE Φ b E ρ G1 λy G2=>match itemsOf G2 x,itemsOf G2 y with |some ds,some es=>k (bT ds.1 es.1) (ds.2++es.2) G2 |_,_=>False):=rfl
theorem jN{Φ:aa}{E}{ρ}{G}{D}:au Φ .nil E ρ G D=(D.nx ρ G):=rfl
theorem jO{Φ:aa}{s}{r}{E}{ρ}{G}{D}:au Φ (.cons s r) E ρ G D=(wpS Φ s E ρ G { D with nx:=λρ' G'=>au Φ r E ρ' G' D }):=rfl
theorem rD{Φ:aa}{i E ρ G k}:wpE Φ (.var i) E ρ G k=(match ρ[i]? with |some (some d)=>k d G |_=>False):=rfl
theorem iI{Φ:aa}{d E ρ G k}:wpE Φ (.cst d) E ρ G k=(k d G):=rfl
theorem rE{Φ:aa}{u0 d E ρ G k}:wpE Φ (.glb u0 d) E ρ G k=(k d G):=rfl
theorem rF{Φ:aa}{op fz a b E ρ G k}:wpE Φ (.bin op fz a b) E ρ G k=(wpE Φ a E ρ G λx G1=>wpE Φ b E ρ G1 λy G2=>cg op fz (view G2 x) (view G2 y) G2 k):=rfl
theorem rG{Φ:aa}{a E ρ G k}:wpE Φ (.neg a) E ρ G k=(wpE Φ a E ρ G λx G1=>match x with |.int i=>k (.int (-i)) G1 |_=>False):=rfl
theorem lH{Φ:aa}{op a b E ρ G k}:wpE Φ (.cmp op a b) E ρ G k=(wpE Φ a E ρ G λx G1=>wpE Φ b E ρ G1 λy G2=>aX op (view G2 x) (view G2 y) λc=>k (.bl c) G2):=rfl
theorem lJ{Φ:aa}{op op' a b c E ρ G k}:wpE Φ (.chn op op' a b c) E ρ G k=(wpE Φ a E ρ G λx G1=>wpE Φ b E ρ G1 λy G2=>aX op (view G2 x) (view G2 y) λt=>
   match t with
   |true=>wpE Φ c E ρ G2 λz G3=>aX op' (view G3 y) (view G3 z) λt'=>k (.bl t') G3
   |false=>k (.bl false) G2):=rfl
theorem rH{Φ:aa}{a E ρ G k}:wpE Φ (.not a) E ρ G k=(wpE Φ a E ρ G λx G1=>match truth (view G1 x) with |some b=>k (.bl (!b)) G1 |none=>False):=rfl
theorem rJ{Φ:aa}{isAnd e es E ρ G k}:wpE Φ (.boo isAnd e es) E ρ G k=(wpE Φ e E ρ G λd G1=>match d with |.bl b=>wpB Φ es isAnd b E ρ G1 (λc G2=>k (.bl c) G2) |_=>False):=rfl
theorem rK{Φ:aa}{c a b E ρ G k}:wpE Φ (.ife c a b) E ρ G k=(wpT Φ c E ρ G λt G1=>match t with |true=>wpE Φ a E ρ G1 k |false=>wpE Φ b E ρ G1 k):=rfl
theorem rM{Φ:aa}{es E ρ G k}:wpE Φ (.tup es) E ρ G k=(aM Φ es E ρ G λds G1=>ds.length<=sz/\k (.tup ds) G1):=rfl
theorem rN{Φ:aa}{fz es E ρ G k}:wpE Φ (.lst fz es) E ρ G k=(aM Φ es E ρ G λds G1=>ds.length<=sz/\mk fz ds G1 k):=rfl
theorem rO{Φ:aa}{a i E ρ G k}:wpE Φ (.idx a i) E ρ G k=(wpE Φ a E ρ G λx G1=>wpE Φ i E ρ G1 λy G2=>cj (view G2 x) y λd=>k d G2):=rfl
theorem wG{Φ:aa}{fz a s E ρ G k}:wpE Φ (.rvs fz a s) E ρ G k=(wpE Φ a E ρ G λx G1=>wpE Φ s E ρ G1 λy G2=>jL fz (view G2 x) y G2 k):=rfl
theorem rP{Φ:aa}{fz a lo hi E ρ G k}:wpE Φ (.slc fz a lo hi) E ρ G k=(wpE Φ a E ρ G λx G1=>wpO Φ lo E ρ G1 λl G2=>wpO Φ hi E ρ G2 λh G3=>eE fz (view G3 x) l h G3 k):=rfl
theorem rQ{Φ:aa}{f es E ρ G k}:wpE Φ (.call f es) E ρ G k=(aM Φ es E ρ G λds G1=>(Φ f).t ds G1 k E):=rfl
theorem rR{Φ:aa}{f es E ρ G k}:wpE Φ (.bcl f es) E ρ G k=(aM Φ es E ρ G λds G1=>opB f (ds.map (view G1)) λd=>k d G1):=rfl
theorem rT{Φ:aa}{fz f es E ρ G k}:wpE Φ (.lcl fz f es) E ρ G k=(aM Φ es E ρ G λds G1=>cJ f (ds.map (view G1)) λxs=>mk fz xs G1 k):=rfl
theorem rW{Φ:aa}{a t E ρ G k}:wpE Φ (.isi a t) E ρ G k=(wpE Φ a E ρ G λx G1=>match isT t (view G1 x) with |some b=>k (.bl b) G1 |none=>False):=rfl
theorem rY{Φ:aa}{a C xs E ρ G k}:wpE Φ (.isx a C xs) E ρ G k=(wpE Φ a E ρ G λx G1=>match x with |.exn c=>xs.contains c=true/\k (.bl (bB c C)) G1 |_=>False):=rfl
theorem wH{Φ:aa}{fz a E ρ G k}:wpE Φ (.rgl fz a) E ρ G k=(wpE Φ a E ρ G λd G1=>match d with |.int n=>(0<=n/\n<=1000)/\mk fz (aR 0 n.toNat) G1 k |_=>False):=rfl
theorem Zb{Φ:aa}{f a b ix E ρ G k}:wpE Φ (.rpl f a b ix) E ρ G k=(wpE Φ a E ρ G λda G1=>wpE Φ b E ρ G1 λdb G2=>cj (view G2 db) (.int 0) λd0=>(Φ f).t [da,d0] G2 (λd G3=>wC d λl=>wpE Φ ix E ρ G3 λi G4=>wD i l λm=>k (.str m) G4) E):=rfl
theorem wI{Φ:aa}{C f o E ρ G k}:wpE Φ (.fld C f o) E ρ G k=(wpE Φ o E ρ G λd G1=>wA C f d λq=>k (.ref q) G1):=rfl
theorem wJ{Φ:aa}{f C m o es E ρ G k}:wpE Φ (.mcl f C m o es) E ρ G k=(wpE Φ o E ρ G λd G1=>qQ C m d/\aM Φ es E ρ G1 λds G2=>(Φ f).t (d::ds) G2 k E):=rfl
theorem wK{Φ:aa}{C es E ρ G k}:wpE Φ (.mko C es) E ρ G k=(aM Φ es E ρ G λds G1=>(Φ C).t ds G1 k E):=rfl
theorem wL{Φ:aa}{o E ρ G k}:wpE Φ (.pp0 o) E ρ G k=(wpE Φ o E ρ G λd G1=>wB d G1 k):=rfl
theorem wM{Φ:aa}{a E ρ G k}:wpE Φ (.rgt a) E ρ G k=(wpE Φ a E ρ G λd G1=>match d with |.int n=>(0<=n/\n<=1000)/\k (.tup (aR 0 n.toNat)) G1 |_=>False):=rfl
theorem wN{Φ:aa}{es E ρ G k}:wpE Φ (.fst es) E ρ G k=(wpF Φ es E ρ G λl G1=>l.length<=sz/\k (.str l) G1):=rfl
theorem wO{Φ:aa}{E ρ G k}:wpF Φ .nil E ρ G k=k [] G:=rfl
theorem wQ{Φ:aa}{e es E ρ G k}:wpF Φ (.cons e es) E ρ G k=(wpE Φ e E ρ G λd G1=>match d with
  |.str l=>l.length<=1000/\wpF Φ es E ρ G1 λx G2=>k (l++x) G2
  |.int i=>(0<=i/\i < 100)/\wpF Φ es E ρ G1 λx G2=>k (gO i.toNat++x) G2
  |_=>False):=rfl
theorem eZ{Φ:aa}{m o es E ρ G k}:wpE Φ (.mth m o es) E ρ G k=(wpE Φ o E ρ G λx G1=>recv m x G1/\aM Φ es E ρ G1 λds G2=>opM m x ds G2 k):=rfl
theorem rZ{Φ:aa}{a E ρ G k}:wpE Φ (.frz a) E ρ G k=(wpE Φ a E ρ G λx G1=>match x with |.ref p=>(match G1 p with |some (.lst ds)=>k (.lst ds) (iD G1 p) |none=>False) |d=>k d G1):=rfl
theorem sr{Φ:aa}{e E ρ G D}:wpS Φ (.exp e) E ρ G D=(wpE Φ e E ρ G λ_ G1=>D.nx ρ G1):=rfl
theorem gQ{Φ:aa}{t e E ρ G D}:wpS Φ (.asg t e) E ρ G D=(wpE Φ e E ρ G λd G1=>aP t d ρ G1 λρ'=>D.nx ρ' G1):=rfl
theorem su{Φ:aa}{o i e E ρ G D}:wpS Φ (.set o i e) E ρ G D=(wpE Φ e E ρ G λx G1=>wpE Φ o E ρ G1 λa G2=>wpE Φ i E ρ G2 λy G3=>eG a y x G3 λG4=>D.nx ρ G4):=rfl
theorem sy{Φ:aa}{i op e E ρ G D}:wpS Φ (.aug i op e) E ρ G D=(match ρ[i]? with
  |some (some a)=>wpE Φ e E ρ G λb G1=>dR op a b λc=>D.nx (ρ.set i (some c)) G1
  |_=>False):=rfl
theorem wR{Φ:aa}{o i op e E ρ G D}:wpS Φ (.augs o i op e) E ρ G D=(wpE Φ o E ρ G λa G1=>wpE Φ i E ρ G1 λy G2=>cj (view G2 a) y λold=>wpE Φ e E ρ G2 λb G3=>dR op old b λc=>eG a y c G3 λG4=>D.nx ρ G4):=rfl
theorem sE{Φ:aa}{e E ρ G D}:wpS Φ (.ret e) E ρ G D=(wpE Φ e E ρ G D.rt):=rfl
theorem sG{Φ:aa}{E ρ G D}:wpS Φ .rtn E ρ G D=(D.rt .non G):=rfl
theorem sH{Φ:aa}{c a b E ρ G D}:wpS Φ (.ite c a b) E ρ G D=(wpT Φ c E ρ G λt G1=>match t with |true=>au Φ a E ρ G1 D |false=>au Φ b E ρ G1 D):=rfl
theorem sI{Φ:aa}{E ρ G D}:wpS Φ .pas E ρ G D=(D.nx ρ G):=rfl
theorem sJ{Φ:aa}{E ρ G D}:wpS Φ .brk E ρ G D=(D.bk ρ G):=rfl
theorem sO{Φ:aa}{E ρ G D}:wpS Φ .cnt E ρ G D=(D.ct ρ G):=rfl
theorem lK{Φ:aa}{C es E ρ G D}:wpS Φ (.rse C es) E ρ G D=(wpM Φ es E ρ G λG1=>E ⟨C,.non⟩ G1):=rfl
theorem wU{Φ:aa}{E ρ G k}:wpM Φ .nil E ρ G k=k G:=rfl
theorem sS{Φ:aa}{e es E ρ G k}:wpM Φ (.cons e es) E ρ G k=(wpE Φ e E ρ G λd G1=>qR d=true/\wpM Φ es E ρ G1 k):=rfl
theorem wV{Φ:aa}{f es C i b E ρ G D}:wpS Φ (.tryc f es C i b) E ρ G D=(aM Φ es noE ρ G λds G1=>(Φ f).t ds G1 (λ_ G2=>D.nx ρ G2) λx G2=>x.cls=C/\x.fld=.non/\D.nx (ρ.set i (some (.bl b))) G2):=rfl
theorem lL{Φ:aa}{b C h xs E ρ G D}:wpS Φ (.tryx b C h xs) E ρ G D=(wpX Φ b ρ G D.nx λx ρ' G'=>x.fld=.non/\xs.contains x.cls=true/\bB x.cls C=true/\D.nx (caught h x.cls ρ') G'):=rfl
theorem wW{Φ:aa}{f g i es ρ G nx ex}:wpX Φ (.pick f g i es) ρ G nx ex=(wpE Φ (.var i) noE ρ G λd G1=>∃b:Bool,d=.int (if b then 1 else 0)/\aM Φ es noE ρ G1 λds G2=>(Φ (if b then g else f)).t ds G2 (λ_ G3=>nx ρ G3) λx G3=>ex x ρ G3):=rfl
theorem wX{Φ:aa}{f C m o es ρ G nx ex}:wpX Φ (.mcl f C m o es) ρ G nx ex=(wpE Φ o noE ρ G λd G1=>qQ C m d/\aM Φ es noE ρ G1 λds G2=>(Φ f).t (d::ds) G2 (λ_ G3=>nx ρ G3) λx G3=>ex x ρ G3):=rfl
theorem wY{Φ:aa}{C es ρ G nx ex}:wpX Φ (.mko C es) ρ G nx ex=(aM Φ es noE ρ G λds G1=>(Φ C).t ds G1 (λ_ G2=>nx ρ G2) λx G2=>ex x ρ G2):=rfl
theorem sU{Φ:aa}{f es ρ G nx ex}:wpX Φ (.call f es) ρ G nx ex=(aM Φ es noE ρ G λds G1=>(Φ f).t ds G1 (λ_ G2=>nx ρ G2) λx G2=>ex x ρ G2):=rfl
theorem sV{Φ:aa}{i f es ρ G nx ex}:wpX Φ (.asg i f es) ρ G nx ex=(aM Φ es noE ρ G λds G1=>(Φ f).t ds G1 (λd G2=>nx (ρ.set i (some d)) G2) λx G2=>ex x ρ G2):=rfl
theorem sW{Φ:aa}{c a b ρ G nx ex}:wpX Φ (.ite c a b) ρ G nx ex=(wpT Φ c noE ρ G λt G1=>match t with |true=>wpX Φ a ρ G1 nx ex |false=>wpX Φ b ρ G1 nx ex):=rfl
theorem sX{Φ:aa}{E ρ G D}:wpS Φ .nev E ρ G D=(False):=rfl
theorem wZ{Φ:aa}{fz elt tg it cond N cap E ρ G k}:wpE Φ (.comp fz elt tg it cond N cap) E ρ G k=(wpI Φ it E ρ G λitems g G1=>
   compLoop (λd ρ' G' k'=>aP tg d ρ' G' λρ1=>wpT Φ cond noE ρ1 G' λb G2=>match b with |true=>wpE Φ elt noE ρ1 G2 λy G3=>k' (some y) ρ1 G3 |false=>k' none ρ1 G2)
    g items [] (cap.map λo=>match o with |none=>none |some j=>(ρ[j]?).join) G1 λds G2=>mk fz ds G2 k):=rfl
theorem w5{Φ:aa}{elt t1 i1 t2 i2 t3 i3 N cap E ρ G k}:wpE Φ (.cm3 elt t1 i1 t2 i2 t3 i3 N cap) E ρ G k=(wpI Φ i1 E ρ G λitems g G1=>dm (λd acc ρ' G' k1=>aP t1 d ρ' G' λρ1=>wpI Φ i2 noE ρ1 G' λitems2 g2 G2=>dm (λd acc ρ' G' k2=>aP t2 d ρ' G' λρ1=>wpI Φ i3 noE ρ1 G' λitems3 g3 G3=>dm (λd acc ρ' G' k3=>aP t3 d ρ' G' λρ1=>acc.length < sz/\wpE Φ elt noE ρ1 G' λy G4=>k3 (acc++[y]) ρ1 G4) g3 items3 acc ρ1 G3 k2) g2 items2 acc ρ1 G2 k1) g items [] (cap.map λo=>match o with |none=>none |some j=>(ρ[j]?).join) G1 λds _ G2=>ds.length<=sz/\mk true ds G2 k):=rfl
theorem Dm{Φ:aa}{t it body E ρ G D}:wpS Φ (.for_ t it body) E ρ G D=(wpI Φ it E ρ G λitems g G1=>
   forLoop (λd ρ' G' k=>aP t d ρ' G' λρ1=>au Φ body E ρ1 G' { D with nx:=k,ct:=k,bk:=D.nx }) g items ρ G1 D.nx):=rfl
theorem Do{Φ:aa}{c body E ρ G D}:wpS Φ (.whl c body) E ρ G D=(∃n,whileLoop (λρ' G' k=>wpT Φ c E ρ' G' k) (λρ' G' k=>au Φ body E ρ' G' { D with nx:=k,ct:=k,bk:=D.nx }) n ρ G D.nx):=rfl
section
variable {k k':D->DH->Prop} {G:DH}
theorem cT{fz:Bool}{xs:List D}(h:∀d G',k d G'->k' d G')(q:mk fz xs G k):mk fz xs G k':=by
 cases fz with
 |true=>exact h _ _ q
 |false=>exact λp hp=>h _ _ (q p hp)
theorem Dp{a b:D}{p:Int->Int->Prop}(h:gM a b p):∃i j,a=.int i/\b=.int j/\p i j:=by
 cases a with
 |int i=>cases b with
  |int j=>exact ⟨i,j,rfl,rfl,h⟩
  |_=>exact h.elim
 |_=>exact h.elim
theorem sY{a b:D}{p q:Int->Int->Prop}(h:∀i j,p i j->q i j)(z:gM a b p):gM a b q:=by obtain ⟨i,j,rfl,rfl,z⟩:=Dp z;exact h i j z
theorem Dq{op:Operator}{fz:Bool}{a b:D}(h:∀d G',k d G'->k' d G')(q:cg op fz a b G k):cg op fz a b G k':=by
 cases op with
 |Add=>
  have q:jC fz a b G k:=q;show jC fz a b G k';unfold jC at q ⊢;cases a with
  |int i=>cases b <;> first |exact h _ _ q |exact q
  |str i=>cases b <;> first |exact ⟨q.1,h _ _ q.2⟩ |exact q
  |lst i=>cases b <;> first |exact ⟨q.1,cT h q.2⟩ |exact q
  |tup i=>cases b <;> first |exact ⟨q.1,h _ _ q.2⟩ |exact q
  |_=>exact q
 |Sub=>exact sY (λ_ _ z=>h _ _ z) q
 |Mult=>
  have q:jD fz a b G k:=q;show jD fz a b G k';unfold jD at q ⊢;cases b with
  |int n=>cases a <;> first |exact ⟨q.1,h _ _ q.2⟩ |exact ⟨q.1,q.2.1,q.2.2.1,h _ _ q.2.2.2⟩ |exact ⟨q.1,q.2.1,q.2.2.1,cT h q.2.2.2⟩ |exact ⟨q.1,q.2.1,q.2.2.1,q.2.2.2.1,h _ _ q.2.2.2.2⟩ |exact q
  |_=>exact q
 |FloorDiv=>exact sY (λ_ _ z=>⟨z.1,h _ _ z.2⟩) q
 |Mod=>exact sY (λ_ _ z=>⟨z.1,h _ _ z.2⟩) q
 |Pow=>exact sY (λ_ _ z=>⟨z.1,h _ _ z.2⟩) q
 |_=>exact q
theorem Ds{a b:D}{k k':Bool->Prop}(h:∀c,k c->k' c)(q:fX a b k):fX a b k':=by
 unfold fX at q ⊢;split at q
 ·split at q
  ·exact h _ q
  ·exact q
 ·exact ⟨q.1,h _ q.2⟩
 ·exact ⟨q.1,h _ q.2⟩
 ·exact q
theorem iJ{op:CmpOp}{a b:D}{k k':Bool->Prop}(h:∀c,k c->k' c)(q:aX op a b k):aX op a b k':=by
 cases op with
 |Eq=>exact ⟨q.1,h _ q.2⟩
 |NotEq=>exact ⟨q.1,h _ q.2⟩
 |Lt=>have q:jE a b k:=q;show jE a b k';unfold jE at q ⊢;split at q <;> first |exact h _ q |exact q
 |LtE=>have q:jF a b k:=q;show jF a b k';unfold jF at q ⊢;split at q <;> first |exact h _ q |exact q
 |Gt=>have q:jG a b k:=q;show jG a b k';unfold jG at q ⊢;split at q <;> first |exact h _ q |exact q
 |GtE=>have q:jH a b k:=q;show jH a b k';unfold jH at q ⊢;split at q <;> first |exact h _ q |exact q
 |Is=>
  have q:jJ a b k:=q;show jJ a b k';unfold jJ at q ⊢;split at q
  ·exact h _ q
  ·split at q
   ·exact h _ q
   ·exact q
  ·exact q
 |IsNot=>
  have q:jK a b k:=q;show jK a b k';unfold jK at q ⊢;split at q
  ·exact h _ q
  ·split at q
   ·exact h _ q
   ·exact q
  ·exact q
 |In=>exact Ds h q
 |NotIn=>exact Ds (λc=>h _) q
theorem sZ{a i:D}{k k':D->Prop}(h:∀c,k c->k' c)(q:cj a i k):cj a i k':=by
 unfold cj at q ⊢;split at q
 ·split at q
  ·exact h _ q
  ·exact q
 ·split at q
  ·exact h _ q
  ·exact q
 ·split at q
  ·exact h _ q
  ·exact q
 ·exact q
theorem Dt{fz:Bool}{a:D}{lo hi:Option Int}(h:∀d G',k d G'->k' d G')(q:eE fz a lo hi G k):eE fz a lo hi G k':=by
 unfold eE at q ⊢;split at q <;> first
  |exact cT h q
  |exact h _ _ q
  |exact q.elim
theorem Zc{fz:Bool}{a y:D}(h:∀d G',k d G'->k' d G')(q:jL fz a y G k):jL fz a y G k':=by
 unfold jL at q ⊢;split at q
 ·exact ⟨q.1,cT h q.2⟩
 ·exact q.elim
theorem Du{f:Bf}{as:List D}{k k':D->Prop}(h:∀c,k c->k' c)(q:opB f as k):opB f as k':=by
 cases f with
 |len=>simp only[opB,wg]at q ⊢;split at q <;> first |exact h _ q |exact q.elim
 |all=>
  simp only[opB,qH]at q ⊢;split at q
  ·split at q
   ·exact h _ q
   ·exact q
  ·exact q
 |int=>
  simp only[opB,qI]at q ⊢;split at q
  ·exact h _ q
  ·exact h _ q
  ·split at q
   ·exact ⟨q.1,h _ q.2⟩
   ·exact q
  ·exact q
 |tuple=>simp only[opB,wj]at q ⊢;split at q <;> first |exact h _ q |exact q.elim
 |sum=>
  simp only[opB,wk]at q ⊢;split at q
  ·split at q
   ·exact h _ q
   ·exact q
  ·exact q
 |min=>
  simp only[opB,lE]at q ⊢;split at q
  ·split at q
   ·exact ⟨q.1,λm h1 h2=>h _ (q.2 m h1 h2)⟩
   ·split at q
    ·exact λm h1 h2=>h _ (q m h1 h2)
    ·exact q
  ·exact q
 |max=>simp only[opB,Dl]at q ⊢;split at q <;> first |exact h _ q |exact q.elim
 |abs=>simp only[opB,Dj]at q ⊢;split at q <;> first |exact h _ q |exact q.elim
 |min2=>simp only[opB,Dk]at q ⊢;split at q <;> first |exact h _ q |exact q.elim
 |str=>
  simp only[opB,wu]at q ⊢;split at q
  ·exact ⟨q.1,h _ q.2⟩
  ·exact q
theorem Dv{f:Lf}{as:List D}{k k':List D->Prop}(h:∀c,k c->k' c)(q:cJ f as k):cJ f as k':=by
 cases f with
 |list=>simp only[cJ,ww]at q ⊢;split at q <;> first |exact h _ q |exact q.elim
 |sorted=>
  simp only[cJ,qJ]at q ⊢;split at q
  ·split at q
   ·exact ⟨q.1,λls p z=>h _ (q.2 ls p z)⟩
   ·exact q
  ·split at q
   ·exact ⟨q.1,λls p z=>h _ (q.2 ls p z)⟩
   ·exact q
  ·exact q
theorem gR{m:Mf}{o:D}{as:List D}(h:∀d G',k d G'->k' d G')(q:opM m o as G k):opM m o as G k':=by
 cases m with
 |join=>
  simp only[opM,qK]at q ⊢;split at q
  ·split at q
   ·exact ⟨q.1,h _ _ q.2⟩
   ·exact q
  ·exact q
 |append=>
  simp only[opM,qL]at q ⊢;split at q
  ·split at q
   ·exact ⟨q.1,h _ _ q.2⟩
   ·exact q
  ·exact q
 |extend=>
  simp only[opM,qM]at q ⊢;split at q
  ·split at q
   ·exact ⟨q.1,h _ _ q.2⟩
   ·exact q
  ·exact q
 |insert=>
  simp only[opM,qN]at q ⊢;split at q
  ·split at q
   ·exact ⟨q.1,q.2.1,q.2.2.1,h _ _ q.2.2.2⟩
   ·exact q
  ·exact q
 |pop=>
  simp only[opM,wy]at q ⊢;split at q
  ·split at q
   ·refine ⟨q.1,q.2.1,?_⟩;have q2:=q.2.2;split at q2
    ·exact h _ _ q2
    ·exact q2
   ·exact q
  ·exact q
 |count=>
  simp only[opM,qO]at q ⊢;split at q
  ·split at q
   ·exact h _ _ q
   ·exact q
  ·exact q
 |index=>
  simp only[opM,qP]at q ⊢;split at q
  ·split at q
   ·exact ⟨q.1,h _ _ q.2⟩
   ·exact q
  ·exact q
theorem xf{o i x:D}{k k':DH->Prop}(h:∀G',k G'->k' G')(q:eG o i x G k):eG o i x G k':=by
 unfold eG at q ⊢;split at q
 ·split at q
  ·split at q
   ·exact h _ q
   ·exact q
  ·exact q
 ·exact q
theorem xg{op:Operator}{a b:D}{k k':D->Prop}(h:∀c,k c->k' c)(q:dR op a b k):dR op a b k':=by
 unfold dR at q ⊢;split at q <;> first
  |exact h _ q
  |exact ⟨q.1,h _ q.2⟩
  |exact q.elim
mutual
theorem du{k k':aj->Prop}(h:∀ρ,k ρ->k' ρ):∀(t:Tg){d:D}{ρ:aj},aP t d ρ G k->aP t d ρ G k'
 |.nm i,d,ρ,q=>h _ q
 |.tp ts,d,ρ,q=>by
  unfold aP at q ⊢;split at q
  ·exact xj h ts q
  ·exact xj h ts q
  ·exact q
theorem xj{k k':aj->Prop}(h:∀ρ,k ρ->k' ρ):∀(ts:Tgs){ds:List D}{ρ:aj},bL ts ds ρ G k->bL ts ds ρ G k'
 |.nil,ds,ρ,q=>by
  unfold bL at q ⊢;split at q
  ·exact h _ q
  ·exact q
 |.cons t r,ds,ρ,q=>by
  unfold bL at q ⊢;split at q
  ·exact du (λρ' q'=>xj h r q') t q
  ·exact q
end
theorem tu{step step':D->aj->DH->(Option D->aj->DH->Prop)->Prop}(hs:∀d ρ G (k k':Option D->aj->DH->Prop),(∀o ρ' G',k o ρ' G'->k' o ρ' G')->step d ρ G k->step' d ρ G k')
  {g:Hld} {k k':List D->DH->Prop} (h:∀ds G',k ds G'->k' ds G'):∀(ds acc:List D)(ρ:aj)(G:DH),compLoop step g ds acc ρ G k->compLoop step' g ds acc ρ G k'
 |[],acc,ρ,G,q=>⟨q.1,q.2.1,h _ _ q.2.2⟩
 |d::ds,acc,ρ,G,q=>by
  refine ⟨q.1,q.2.1,hs d ρ G _ _ (λo ρ' G' z=>?_) q.2.2⟩;cases o with
  |some y=>exact tu hs h ds (acc++[y]) ρ' G' z
  |none=>exact tu hs h ds acc ρ' G' z
theorem tB{step step':D->List D->aj->DH->(List D->aj->DH->Prop)->Prop}(hs:∀d acc ρ G (k k':List D->aj->DH->Prop),(∀a ρ' G',k a ρ' G'->k' a ρ' G')->step d acc ρ G k->step' d acc ρ G k')
  {g:Hld} {k k':List D->aj->DH->Prop} (h:∀a ρ G',k a ρ G'->k' a ρ G'):∀(ds acc:List D)(ρ:aj)(G:DH),dm step g ds acc ρ G k->dm step' g ds acc ρ G k'
 |[],acc,ρ,G,q=>⟨q.1,h _ _ _ q.2⟩
 |d::ds,acc,ρ,G,q=>⟨q.1,hs d acc ρ G _ _ (λa ρ' G' z=>tB hs h ds a ρ' G' z) q.2⟩
theorem Dw{step step':D->aj->DH->(aj->DH->Prop)->Prop}(hs:∀d ρ G (k k':aj->DH->Prop),(∀ρ' G',k ρ' G'->k' ρ' G')->step d ρ G k->step' d ρ G k')
  {g:Hld} {k k':aj->DH->Prop} (h:∀ρ G',k ρ G'->k' ρ G'):∀(ds:List D)(ρ:aj)(G:DH),forLoop step g ds ρ G k->forLoop step' g ds ρ G k'
 |[],ρ,G,q=>⟨q.1,h _ _ q.2⟩
 |d::ds,ρ,G,q=>⟨q.1,hs d ρ G _ _ (λρ' G' z=>Dw hs h ds ρ' G' z) q.2⟩
theorem Dy{test test':aj->DH->(Bool->DH->Prop)->Prop}{body body':aj->DH->(aj->DH->Prop)->Prop}
  (ht:∀ρ G (k k':Bool->DH->Prop),(∀b G',k b G'->k' b G')->test ρ G k->test' ρ G k') (hb:∀ρ G (k k':aj->DH->Prop),(∀ρ' G',k ρ' G'->k' ρ' G')->body ρ G k->body' ρ G k')
  {k k':aj->DH->Prop} (h:∀ρ G',k ρ G'->k' ρ G'):∀(n:Nat)(ρ:aj)(G:DH),whileLoop test body n ρ G k->whileLoop test' body' n ρ G k'
 |0,ρ,G,q=>q
 |n+1,ρ,G,q=>ht ρ G _ _ (λb G' z=>by
   cases b with
   |true=>exact hb ρ G' _ _ (λρ' G'' z'=>Dy ht hb h n ρ' G'' z') z
   |false=>exact h _ _ z) q
end
section
variable {Φ:aa} {G:DH}
mutual
theorem aC{E:EK}{ρ:aj}:∀(x:Ex){G:DH}{k k':D->DH->Prop},(∀d G',k d G'->k' d G')->wpE Φ x E ρ G k->wpE Φ x E ρ G k'
 |.var i,G,k,k',h,q=>by
  rw[rD]at q ⊢;split at q
  ·exact h _ _ q
  ·exact q
 |.cst d,G,k,k',h,q=>by rw[iI]at q ⊢;exact h _ _ q
 |.glb x d,G,k,k',h,q=>by rw[rE]at q ⊢;exact h _ _ q
 |.bin op fz a b,G,k,k',h,q=>by
  rw[rF]at q ⊢;exact aC a (λ_ _ q=>aC b (λ_ _ q=>Dq h q) q) q
 |.neg a,G,k,k',h,q=>by
  rw[rG]at q ⊢;refine aC a (λx _ q=>?_) q;split at q
  ·exact h _ _ q
  ·exact q
 |.cmp op a b,G,k,k',h,q=>by
  rw[lH]at q ⊢;exact aC a (λ_ _ q=>aC b (λ_ _ q=>iJ (λ_ q=>h _ _ q) q) q) q
 |.chn op op' a b c,G,k,k',h,q=>by
  rw[lJ]at q ⊢;refine aC a (λ_ _ q=>aC b (λ_ _ q=>iJ (λt q=>?_) q) q) q;cases t with
  |true=>exact aC c (λ_ _ q=>iJ (λ_ q=>h _ _ q) q) q
  |false=>exact h _ _ q
 |.not a,G,k,k',h,q=>by
  rw[rH]at q ⊢;refine aC a (λx _ q=>?_) q;split at q
  ·exact h _ _ q
  ·exact q
 |.boo isAnd e es,G,k,k',h,q=>by
  rw[rJ]at q ⊢;refine aC e (λx _ q=>?_) q;split at q
  ·exact tD es (λ_ _ q=>h _ _ q) q
  ·exact q
 |.ife c a b,G,k,k',h,q=>by
  rw[rK]at q ⊢;refine cL c (λt _ q=>?_) q;cases t with
  |true=>exact aC a h q
  |false=>exact aC b h q
 |.tup es,G,k,k',h,q=>by
  rw[rM]at q ⊢;exact cz es (λ_ _ q=>⟨q.1,h _ _ q.2⟩) q
 |.lst fz es,G,k,k',h,q=>by
  rw[rN]at q ⊢;exact cz es (λ_ _ q=>⟨q.1,cT h q.2⟩) q
 |.idx a i,G,k,k',h,q=>by
  rw[rO]at q ⊢;exact aC a (λ_ _ q=>aC i (λ_ _ q=>sZ (λ_ q=>h _ _ q) q) q) q
 |.slc fz a lo hi,G,k,k',h,q=>by
  rw[rP]at q ⊢;exact aC a (λ_ _ q=>xq lo (λ_ _ q=>xq hi (λ_ _ q=>Dt h q) q) q) q
 |.rvs fz a s,G,k,k',h,q=>by
  rw[wG]at q ⊢;exact aC a (λ_ _ q=>aC s (λ_ _ q=>Zc h q) q) q
 |.call f es,G,k,k',h,q=>by
  rw[rQ]at q ⊢;exact cz es (λ_ _ q=>Spec.mono q h λ_ _ z=>z) q
 |.bcl f es,G,k,k',h,q=>by
  rw[rR]at q ⊢;exact cz es (λ_ _ q=>Du (λ_ q=>h _ _ q) q) q
 |.lcl fz f es,G,k,k',h,q=>by
  rw[rT]at q ⊢;exact cz es (λ_ _ q=>Dv (λ_ q=>cT h q) q) q
 |.isi a t,G,k,k',h,q=>by
  rw[rW]at q ⊢;refine aC a (λx _ q=>?_) q;split at q
  ·exact h _ _ q
  ·exact q
 |.isx a C xs,G,k,k',h,q=>by
  rw[rY]at q ⊢;refine aC a (λx _ q=>?_) q;split at q
  ·exact ⟨q.1,h _ _ q.2⟩
  ·exact q
 |.rgl fz a,G,k,k',h,q=>by
  rw[wH]at q ⊢;refine aC a (λd _ q=>?_) q;split at q
  ·exact ⟨q.1,cT h q.2⟩
  ·exact q
 |.rpl f a b ix,G,k,k',h,q=>by
  rw[Zb]at q ⊢;refine aC a (λ_ _ q=>aC b (λ_ _ q=>sZ (λ_ q=>Spec.mono q (λd G3 q=>?_) λ_ _ z=>z) q) q) q;unfold wC at q ⊢;split at q
  ·refine ⟨q.1,aC ix (λi G4 q=>?_) q.2⟩;unfold wD at q ⊢;split at q
   ·split at q
    ·exact h _ _ q
    ·exact q
   ·exact q
  ·exact q
 |.fld C f o,G,k,k',h,q=>by
  rw[wI]at q ⊢;refine aC o (λd _ q=>?_) q;unfold wA at q ⊢;split at q
  ·exact ⟨q.1,q.2.1,h _ _ q.2.2⟩
  ·exact q
 |.mcl f C m o es,G,k,k',h,q=>by
  rw[wJ]at q ⊢;exact aC o (λd _ q=>⟨q.1,cz es (λ_ _ q=>Spec.mono q h λ_ _ z=>z) q.2⟩) q
 |.mko C es,G,k,k',h,q=>by
  rw[wK]at q ⊢;exact cz es (λ_ _ q=>Spec.mono q h λ_ _ z=>z) q
 |.pp0 o,G,k,k',h,q=>by
  rw[wL]at q ⊢;refine aC o (λd _ q=>?_) q;unfold wB at q ⊢;split at q
  ·split at q
   ·split at q
    ·exact h _ _ q
    ·exact q
   ·exact q
  ·exact q
 |.rgt a,G,k,k',h,q=>by
  rw[wM]at q ⊢;refine aC a (λd _ q=>?_) q;split at q
  ·exact ⟨q.1,h _ _ q.2⟩
  ·exact q
 |.fst es,G,k,k',h,q=>by
  rw[wN]at q ⊢;exact xm es (λ_ _ q=>⟨q.1,h _ _ q.2⟩) q
 |.mth m o es,G,k,k',h,q=>by
  rw[eZ]at q ⊢;exact aC o (λ_ _ q=>⟨q.1,cz es (λ_ _ q=>gR h q) q.2⟩) q
 |.comp fz elt tg it cond N cap,G,k,k',h,q=>by
  rw[wZ]at q ⊢;refine fu it (λitems g G1 q=>?_) q;refine tu ?_ (λds G2 z=>cT h z) items [] _ G1 q;intro d ρ' G' k k' hk z;refine du (λρ1 z=>?_) tg z;refine cL cond (λb G2 z=>?_) z;cases b with
  |true=>exact aC elt (λy G3 z=>hk _ _ _ z) z
  |false=>exact hk _ _ _ z
 |.cm3 elt t1 i1 t2 i2 t3 i3 N cap,G,k,k',h,q=>by
  rw[w5]at q ⊢;refine fu i1 (λitems g G1 q=>?_) q;refine tB ?_ (λds _ G2 z=>⟨z.1,cT h z.2⟩) items [] _ G1 q;intro d acc ρ' G' k k' hk z;refine du (λρ1 z=>fu i2 (λitems g G1 q=>?_) z) t1 z;refine tB ?_ hk items _ _ G1 q;intro d acc ρ' G' k k' hk z;refine du (λρ1 z=>fu i3 (λitems g G1 q=>?_) z) t2 z;refine tB ?_ hk items _ _ G1 q;intro d acc ρ' G' k k' hk z;exact du (λρ1 z=>⟨z.1,aC elt (λy G3 z=>hk _ _ _ z) z.2⟩) t3 z
 |.frz a,G,k,k',h,q=>by
  rw[rZ]at q ⊢;refine aC a (λx G1 q=>?_) q;split at q
  ·split at q
   ·exact h _ _ q
   ·exact q
  ·exact h _ _ q
theorem cL{E:EK}{ρ:aj}:∀(x:Tx){G:DH}{k k':Bool->DH->Prop},(∀d G',k d G'->k' d G')->wpT Φ x E ρ G k->wpT Φ x E ρ G k'
 |.not a,G,k,k',h,q=>by rw[qT]at q ⊢;exact cL a (λ_ _ q=>h _ _ q) q
 |.boo isAnd e es,G,k,k',h,q=>by rw[qU]at q ⊢;exact cL e (λ_ _ q=>tH es h q) q
 |.yes,G,k,k',h,q=>by rw[qW]at q ⊢;exact h _ _ q
 |.val a,G,k,k',h,q=>by
  rw[jM]at q ⊢;refine aC a (λx _ q=>?_) q;split at q
  ·exact h _ _ q
  ·exact q
theorem xm{E:EK}{ρ:aj}:∀(x:Exs){G:DH}{k k':List Nat->DH->Prop},(∀d G',k d G'->k' d G')->wpF Φ x E ρ G k->wpF Φ x E ρ G k'
 |.nil,G,k,k',h,q=>by rw[wO]at q ⊢;exact h _ _ q
 |.cons e es,G,k,k',h,q=>by
  rw[wQ]at q ⊢;refine aC e (λd _ q=>?_) q;split at q
  ·exact ⟨q.1,xm es (λ_ _ q=>h _ _ q) q.2⟩
  ·exact ⟨q.1,xm es (λ_ _ q=>h _ _ q) q.2⟩
  ·exact q
theorem cz{E:EK}{ρ:aj}:∀(x:Exs){G:DH}{k k':List D->DH->Prop},(∀d G',k d G'->k' d G')->aM Φ x E ρ G k->aM Φ x E ρ G k'
 |.nil,G,k,k',h,q=>by rw[iH]at q ⊢;exact h _ _ q
 |.cons e es,G,k,k',h,q=>by rw[gP]at q ⊢;exact aC e (λ_ _ q=>cz es (λ_ _ q=>h _ _ q) q) q
theorem tD{E:EK}{ρ:aj}:∀(x:Exs){isAnd b:Bool}{G:DH}{k k':Bool->DH->Prop},(∀d G',k d G'->k' d G')->wpB Φ x isAnd b E ρ G k->wpB Φ x isAnd b E ρ G k'
 |.nil,_,_,G,k,k',h,q=>by rw[qX]at q ⊢;exact h _ _ q
 |.cons e es,isAnd,b,G,k,k',h,q=>by
  rw[lF]at q ⊢;cases isAnd <;> cases b <;> first
   |exact h _ _ q
   | (refine aC e (λd _ q=>?_) q
      split at q
      ·exact tD es h q
      ·exact q)
theorem tH{E:EK}{ρ:aj}:∀(x:Txs){isAnd b:Bool}{G:DH}{k k':Bool->DH->Prop},(∀d G',k d G'->k' d G')->fZ Φ x isAnd b E ρ G k->fZ Φ x isAnd b E ρ G k'
 |.nil,_,_,G,k,k',h,q=>by rw[qY]at q ⊢;exact h _ _ q
 |.cons e es,isAnd,b,G,k,k',h,q=>by
  rw[lG]at q ⊢;cases isAnd <;> cases b <;> first
   |exact h _ _ q
   |exact cL e (λd _ q=>tH es h q) q
theorem xq{E:EK}{ρ:aj}:∀(x:Ox){G:DH}{k k':Option Int->DH->Prop},(∀d G',k d G'->k' d G')->wpO Φ x E ρ G k->wpO Φ x E ρ G k'
 |.no,G,k,k',h,q=>by rw[qZ]at q ⊢;exact h _ _ q
 |.ob a,G,k,k',h,q=>by
  rw[q8]at q ⊢;refine aC a (λx _ q=>?_) q;split at q
  ·exact h _ _ q
  ·exact q
theorem fu{E:EK}{ρ:aj}:∀(x:It'){G:DH}{k k':List D->Hld->DH->Prop},(∀d g G',k d g G'->k' d g G')->wpI Φ x E ρ G k->wpI Φ x E ρ G k'
 |.seq a,G,k,k',h,q=>by
  rw[q9]at q ⊢;refine aC a (λx _ q=>?_) q;split at q
  ·exact h _ _ _ q
  ·exact q
 |.rng a,G,k,k',h,q=>by
  rw[rm]at q ⊢;refine aC a (λx _ q=>?_) q;split at q
  ·exact ⟨q.1,h _ _ _ q.2⟩
  ·exact q
 |.rev a,G,k,k',h,q=>by
  rw[rz]at q ⊢;refine aC a (λx _ q=>?_) q;split at q
  ·exact ⟨q.1,h _ _ _ q.2⟩
  ·exact q
 |.dwn a b d,G,k,k',h,q=>by
  rw[wF]at q ⊢;refine aC a (λx _ q=>aC b (λy _ q=>aC d (λz _ q=>?_) q) q) q;split at q
  ·exact ⟨q.1,h _ _ _ q.2⟩
  ·exact q
 |.rng2 a b,G,k,k',h,q=>by
  rw[rn]at q ⊢;refine aC a (λx _ q=>aC b (λy _ q=>?_) q) q;split at q
  ·exact ⟨q.1,h _ _ _ q.2⟩
  ·exact q
 |.enm a,G,k,k',h,q=>by
  rw[rA]at q ⊢;refine aC a (λx _ q=>?_) q;split at q
  ·exact h _ _ _ q
  ·exact q
 |.zip a b,G,k,k',h,q=>by
  rw[rB]at q ⊢;refine aC a (λx _ q=>aC b (λy _ q=>?_) q) q;split at q
  ·exact h _ _ _ q
  ·exact q
end
structure En.Le(D D':En):Prop where
 nx:∀ρ G,D.nx ρ G->D'.nx ρ G
 rt:∀d G,D.rt d G->D'.rt d G
 bk:∀ρ G,D.bk ρ G->D'.bk ρ G
 ct:∀ρ G,D.ct ρ G->D'.ct ρ G
theorem jP:∀(b:Tb){ρ:aj}{G:DH}{nx nx':aj->DH->Prop}{ex ex':Xn->aj->DH->Prop},(∀ρ G,nx ρ G->nx' ρ G)->(∀x ρ G,ex x ρ G->ex' x ρ G)->wpX Φ b ρ G nx ex->wpX Φ b ρ G nx' ex'
 |.call f es,ρ,G,nx,nx',ex,ex',h,h',q=>by rw[sU]at q ⊢;exact cz es (λ_ _ q=>Spec.mono q (λ_ _ z=>h _ _ z) λ_ _ z=>h' _ _ _ z) q
 |.pick f g i es,ρ,G,nx,nx',ex,ex',h,h',q=>by
  rw[wW]at q ⊢;exact aC (.var i) (λ_ _ q=>let ⟨b,e,q⟩:=q;⟨b,e,cz es (λ_ _ q=>Spec.mono q (λ_ _ z=>h _ _ z) λ_ _ z=>h' _ _ _ z) q⟩) q
 |.mcl f C m o es,ρ,G,nx,nx',ex,ex',h,h',q=>by
  rw[wX]at q ⊢;exact aC o (λ_ _ q=>⟨q.1,cz es (λ_ _ q=>Spec.mono q (λ_ _ z=>h _ _ z) λ_ _ z=>h' _ _ _ z) q.2⟩) q
 |.mko C es,ρ,G,nx,nx',ex,ex',h,h',q=>by rw[wY]at q ⊢;exact cz es (λ_ _ q=>Spec.mono q (λ_ _ z=>h _ _ z) λ_ _ z=>h' _ _ _ z) q
 |.asg i f es,ρ,G,nx,nx',ex,ex',h,h',q=>by rw[sV]at q ⊢;exact cz es (λ_ _ q=>Spec.mono q (λ_ _ z=>h _ _ z) λ_ _ z=>h' _ _ _ z) q
 |.ite c a b,ρ,G,nx,nx',ex,ex',h,h',q=>by
  rw[sW]at q ⊢;refine cL c (λt _ q=>?_) q;cases t with
  |true=>exact jP a h h' q
  |false=>exact jP b h h' q
mutual
theorem wpS_mono{E:EK}:∀(x:Sx){ρ:aj}{G:DH}{D D':En},D.Le D'->wpS Φ x E ρ G D->wpS Φ x E ρ G D'
 |.exp e,ρ,G,D,D',h,q=>by rw[sr]at q ⊢;exact aC e (λ_ _ q=>h.nx _ _ q) q
 |.asg t e,ρ,G,D,D',h,q=>by rw[gQ]at q ⊢;exact aC e (λ_ _ q=>du (λ_ q=>h.nx _ _ q) t q) q
 |.set o i e,ρ,G,D,D',h,q=>by rw[su]at q ⊢;exact aC e (λ_ _ q=>aC o (λ_ _ q=>aC i (λ_ _ q=>xf (λ_ q=>h.nx _ _ q) q) q) q) q
 |.aug i op e,ρ,G,D,D',h,q=>by
  rw[sy]at q ⊢;split at q
  ·exact aC e (λ_ _ q=>xg (λ_ q=>h.nx _ _ q) q) q
  ·exact q
 |.augs o i op e,ρ,G,D,D',h,q=>by
  rw[wR]at q ⊢;exact aC o (λ_ _ q=>aC i (λ_ _ q=>sZ (λ_ q=>aC e (λ_ _ q=>xg (λ_ q=>xf (λ_ q=>h.nx _ _ q) q) q) q) q) q) q
 |.ret e,ρ,G,D,D',h,q=>by rw[sE]at q ⊢;exact aC e (λ_ _ q=>h.rt _ _ q) q
 |.rtn,ρ,G,D,D',h,q=>by rw[sG]at q ⊢;exact h.rt _ _ q
 |.ite c a b,ρ,G,D,D',h,q=>by
  rw[sH]at q ⊢;refine cL c (λt _ q=>?_) q;cases t with
  |true=>exact cU a h q
  |false=>exact cU b h q
 |.for_ t it body,ρ,G,D,D',h,q=>by
  rw[Dm]at q ⊢;exact fu it (λitems g G1 q=>Dw (λd ρ' G' k k' hk z=>du (λρ1 z=>cU body (D:={ D with nx:=k,ct:=k,bk:=D.nx }) (D':={ D' with nx:=k',ct:=k',bk:=D'.nx }) ⟨hk,h.rt,h.nx,hk⟩ z) t z) h.nx items ρ G1 q) q
 |.whl c body,ρ,G,D,D',h,q=>by
  rw[Do]at q ⊢;obtain ⟨n,q⟩:=q;refine ⟨n,?_⟩;refine Dy ?_ ?_ h.nx n ρ G q
  ·exact λρ' G' k k' hk z=>cL c hk z
  ·exact λρ' G' k k' hk z=>cU body (D:={ D with nx:=k,ct:=k,bk:=D.nx }) (D':={ D' with nx:=k',ct:=k',bk:=D'.nx }) ⟨hk,h.rt,h.nx,hk⟩ z
 |.pas,ρ,G,D,D',h,q=>by rw[sI]at q ⊢;exact h.nx _ _ q
 |.brk,ρ,G,D,D',h,q=>by rw[sJ]at q ⊢;exact h.bk _ _ q
 |.cnt,ρ,G,D,D',h,q=>by rw[sO]at q ⊢;exact h.ct _ _ q
 |.nev,ρ,G,D,D',h,q=>by rw[sX]at q;exact q.elim
 |.rse C es,ρ,G,D,D',h,q=>by rw[lK]at q ⊢;exact q
 |.tryc f es C i b,ρ,G,D,D',h,q=>by rw[wV]at q ⊢;exact cz es (λ_ _ q=>Spec.mono q (λ_ _ z=>h.nx _ _ z) λ_ _ z=>⟨z.1,z.2.1,h.nx _ _ z.2.2⟩) q
 |.tryx b C hd xs,ρ,G,D,D',h,q=>by rw[lL]at q ⊢;exact jP b (λ_ _ z=>h.nx _ _ z) (λ_ _ _ z=>⟨z.1,z.2.1,z.2.2.1,h.nx _ _ z.2.2.2⟩) q
theorem cU{E:EK}:∀(x:Sxs){ρ:aj}{G:DH}{D D':En},D.Le D'->au Φ x E ρ G D->au Φ x E ρ G D'
 |.nil,ρ,G,D,D',h,q=>by rw[jN]at q ⊢;exact h.nx _ _ q
 |.cons s r,ρ,G,D,D',h,q=>by rw[jO]at q ⊢;exact wpS_mono s (D:={ D with nx:=λρ' G'=>au Φ r E ρ' G' D }) (D':={ D' with nx:=λρ' G'=>au Φ r E ρ' G' D' }) ⟨λ_ _ z=>cU r h z,h.rt,h.bk,h.ct⟩ q
end
end
def PV(K:PF)(H:Hp)(F:FZ)(Q:VK):D->DH->Prop:=λd G'=>∀H' F' v,Ext H F H' F'->R K H' F' G'->Rep K H' F' d v->Q v H'
def PB(K:PF)(H:Hp)(F:FZ)(Q:Bool->Hp->Prop):Bool->DH->Prop:=λb G'=>∀H' F',Ext H F H' F'->R K H' F' G'->Q b H'
noncomputable def PLs(K:PF)(H:Hp)(F:FZ)(Q:List V->Hp->Prop):List D->DH->Prop:=λds G'=>∀H' F' vs,Ext H F H' F'->R K H' F' G'->Reps K H' F' ds vs->Q vs H'
section
variable {K:PF} {H:Hp} {F:FZ} {G:DH} {Q:VK}
theorem PV.now{d:D}{v:V}(h:PV K H F Q d G)(r:R K H F G)(q:Rep K H F d v):Q v H:=h H F v (Ext.refl H F) r q
theorem fB{fz:Bool}{ds:List D}{vs:List V}(h:mk fz ds G (PV K H F Q))(r:R K H F G)(t:Reps K H F ds vs)(p:Addr)(hp:H p=none):Q (.ref p) (upd H p (.lst vs)):=by
 cases fz with
 |true=>exact h _ _ _ (v7 r hp) (r.newF hp) (Y8 r hp t)
 |false=>exact h p (r.free hp) _ _ _ (d8 r hp) (r.newL hp t) rfl
theorem lM{ds:List D}{vs:List V}(h:PV K H F Q (.tup ds) G)(r:R K H F G)(t:Reps K H F ds vs)(p:Addr)(hp:H p=none):Q (.ref p) (upd H p (.tup vs)):=
 h _ _ _ (d8 r hp) (r.new hp) (v8 r hp t)
end
theorem szl:sz<=sizeLine:=by rw[sizeLine_eq];decide
theorem cM{n:Nat}(h:n<=sz):n<=sizeLine:=cb h szl
def rB2(K:PF)(f:D->D->DH->(D->DH->Prop)->Prop):R2:=λx y H Q=>∃F G a b,R K H F G/\Rep K H F a x/\Rep K H F b y/\f (view G a) (view G b) G (PV K H F Q)
section
variable {X:Cx}
theorem Zd:OpR X (binaryOp .Add) (λx y H Q=>∃a b xs ys,x=.ref a/\y=.ref b/\SqL X.K H a xs/\SqL X.K H b ys/\xs.length+ys.length<=sizeLine/\∀p,H p=none->Q (.ref p) (upd H p (.lst (xs++ys)))):=by
 intro pins s σ H x y v u Q I rx ry h;obtain ⟨a,b,xs,ys,rfl,rfl,ha,hb,hz,q⟩:=h;cases rx;cases ry;obtain ⟨its,r1,p1,_⟩:=I.list ha;obtain ⟨its2,r2,p2,_⟩:=I.list hb;obtain ⟨⟨cls,dd,data,sl⟩,ho,hc,n,hd⟩:=p1.isList;obtain ⟨⟨cls2,dd2,data2,sl2⟩,ho2,hc2,n2,hd2⟩:=p2.isList;simp only at hc hd hc2 hd2;subst hc hd hc2 hd2;have e:its.toArray++its2.toArray=(its++its2).toArray:=by simp
 refine concat_meets ⟨_,ho,rfl⟩ ⟨_,ho2,rfl⟩ noFill_list_add seq_list_add PySem.F.slot_list_add PySem.F.entry_list_add (PySem.F.args_list_add_2 _ _)
  (list_addW a b its.toArray its2.toArray n n2 dd dd2 sl sl2 (by rw[ar,ar,<-r1.length,<-r2.length];exact hz)) ⟨ho,ho2,?_⟩
 rw[e];exact ⟨.ref _,_,I.lnew (t':=s.toks) (r1.append r2) (by rw[bq];exact hz),rfl,q _ I.fresh⟩
theorem Ze:OpR X (binaryOp .Add) (λx y H Q=>∃a b ys,x=.ref a/\y=.ref b/\SqT X.K H a []/\SqT X.K H b ys/\Q (.ref b) H):=by
 intro pins s σ H x y v u Q I rx ry h;obtain ⟨a,b,ys,rfl,rfl,ha,hb,q⟩:=h;cases rx;cases ry;obtain ⟨its,r1,p1,_⟩:=I.tuple ha;obtain ⟨its2,r2,p2,_⟩:=I.tuple hb;obtain ⟨⟨cls,dd,data,sl⟩,ho,hc,n,hd⟩:=id p1;obtain ⟨⟨cls2,dd2,data2,sl2⟩,ho2,hc2,n2,hd2⟩:=id p2;simp only at hc hd hc2 hd2;subst hc hd hc2 hd2;cases r1;exact concat_meets ⟨_,ho,rfl⟩ ⟨_,ho2,rfl⟩ noFill_tuple_add seq_tuple_add PySem.F.slot_tuple_add PySem.F.entry_tuple_add (PySem.F.args_tuple_add_2 _ _)
   (tuple_addW0 a b _ its2.toArray n n2 dd dd2 sl sl2 (by simp)) ⟨ho,ho2,⟨.ref b,H,I,rfl,q⟩⟩
theorem xr{K:PF}{H:Hp}{F:FZ}{ds:List D}{vs:List V}(t:Reps K H F ds vs):ds=[]↔vs=[]:=by
 have:=t.length;constructor
 ·intro e;subst e;exact cy.mp this.symm
 ·intro e;subst e;exact cy.mp this
theorem Zf{x:Str}{n:Nat}(h1:n<=1000)(h:x.length * n<=sz):MulOk x (n:Int):=by
 have h2:((x.length * n:Nat):Int)<=((1000000:Nat):Int):=Int.ofNat_le.mpr h;rw[Int.natCast_mul]at h2;refine ⟨?_,?_,?_⟩
 ·rw[bX (by omega),bX (by omega)];rfl
 ·intro hn _ hh;have hp:(0:Int) < n:=by omega
  have h3:(x.length:Int)<=(2 ^ 63 - 1) / n:=(Int.le_ediv_iff_mul_le hp).mpr (Int.le_trans h2 (by decide));exact absurd hh (Int.not_lt.mpr h3)
 ·intro _ _;unfold Builtin.Str.tooLong;rw[sizeLine_eq,dk];exact bX (by have:sz=1000000:=rfl;omega)
theorem Dz(l:List Nat):∀(n:Nat)(acc:List Nat),(List.replicate n l.toArray).foldl (· ++ ·) acc.toArray=(acc++reps l n).toArray
 |0,acc=>by simp[reps]
 |n+1,acc=>by
  rw[ci,List.foldl_cons];have e:acc.toArray++l.toArray=(acc++l).toArray:=by simp
  rw[e,Dz l n (acc++l)];unfold reps;rw[ci,eR,gg]
theorem Zg(n:Nat):reps ([]:List Nat) n=[]:=by
 unfold reps;induction n with
 |zero=>rfl
 |succ n ih=>rw[ci,eR,ih];rfl
theorem Zh{α:Type}(l:List α)(n:Nat):(reps l n).length=n * l.length:=len_rep l n
theorem Zi(l:List Nat)(n:Nat):Txt.mul (tx l) (n:Int)=tx (reps l n):=by
 unfold Txt.mul;by_cases h:(n:Int) < 1
 ·rw[if_pos h];have:n=0:=by omega
  subst this;rfl
 ·rw[if_neg h];by_cases h2:((n:Int)==1||(tx l).length==0)=true
  ·rw[if_pos h2];rw[cp]at h2;rcases h2 with h2 |h2
   ·have:n=1:=by have:=eq_of_beq h2;omega
    subst this;simp[reps]
   ·have h3:=eq_of_beq h2;rw[bQ]at h3;have:l=[]:=cy.mp h3;subst this;rw[Zg]
  ·rw[if_neg h2];have e:=Dz l n [];rw[List.nil_append]at e;exact fe Str.mk (by simpa using e)
theorem Zj(op:Operator)(fz:Bool):OpR X (binaryOp op) (rB2 X.K (cg op fz)):=by
 intro pins s σ H x y v u Q I rx ry h;obtain ⟨F,G,a,b,r,ra,rb,h⟩:=h;generalize ea:view G a=va at h;generalize eb:view G b=vb at h;have twoI:∀{p:Int->Int->Prop},gM va vb p->∃i j,x=.int i/\y=.int j/\p i j:=λ{p} h=>by
  obtain ⟨i,j,rfl,rfl,h⟩:=Dp h;cases d9 ea;cases d9 eb;exact ⟨i,j,ra,rb,h⟩
 cases op with
 |Add=>
  have h:jC fz va vb G _:=h;unfold jC at h;cases va with
  |int _=>cases vb with
   |int _=>
    cases d9 ea;cases d9 eb;have ha:x=.int _:=ra;have hb:y=.int _:=rb;subst ha;subst hb;exact Vt pins s σ H _ _ v u Q I rx ry ⟨_,_,rfl,rfl,h.now r rfl⟩
   |_=>exact h.elim
  |str _=>cases vb with
   |str _=>
    cases gK ea;cases gK eb;obtain ⟨ha,la⟩:=ra;obtain ⟨hb,lb⟩:=rb;subst ha;subst hb;refine VP pins s σ H _ _ v u Q I rx ry ⟨_,_,rfl,rfl,?_,?_⟩
    ·rw[bQ,bQ];exact cM h.1
    ·rw[qz];exact h.2.now r ⟨rfl,by rw[bq];exact h.1⟩
   |_=>exact h.elim
  |lst _=>cases vb with
   |lst _=>
    obtain ⟨p,vs,rfl,q1,t1⟩:=Rep.list r ra ea;obtain ⟨p',vs',rfl,q2,t2⟩:=Rep.list r rb eb;exact Zd pins s σ H _ _ v u Q I rx ry ⟨p,p',vs,vs',rfl,rfl,q1,q2,by rw[<-t1.length,<-t2.length];exact cM h.1,fB h.2 r (t1.append t2)⟩
   |_=>exact h.elim
  |tup xs=>cases vb with
   |tup ys=>
    cases gJ ea;cases gJ eb;obtain ⟨p,vs,rfl,q1,t1⟩:=id ra;obtain ⟨p',vs',rfl,q2,t2⟩:=id rb;by_cases hx:vs=[]
    ·subst hx;have:xs=[]:=(xr t1).mpr rfl;subst this;exact Ze pins s σ H _ _ v u Q I rx ry ⟨p,p',vs',rfl,rfl,q1.sq,q2.sq,h.2.now r rb⟩
    ·refine Wu pins s σ H _ _ v u Q I rx ry ⟨p,p',vs,vs',rfl,rfl,q1.sq,q2.sq,hx,by rw[<-t1.length,<-t2.length];exact cM h.1,λe=>?_,λ_=>lM h.2 r (t1.append t2)⟩;subst e;have:ys=[]:=(xr t2).mpr rfl;subst this;have h2:=h.2;rw[d4]at h2;exact h2.now r ra
   |_=>exact h.elim
  |_=>exact h.elim
 |Sub=>
  obtain ⟨i,j,rfl,rfl,h⟩:=twoI h;exact Vu pins s σ H _ _ v u Q I rx ry ⟨_,_,rfl,rfl,h.now r rfl⟩
 |Mult=>
  have h:jD fz va vb G _:=h;unfold jD at h;cases vb with
  |int _=>cases va with
   |int _=>
    cases d9 ea;cases d9 eb;have ha:x=.int _:=ra;have hb:y=.int _:=rb;subst ha;subst hb;exact Vv pins s σ H _ _ v u Q I rx ry ⟨_,_,rfl,rfl,h.1,h.2.now r rfl⟩
   |str _=>
    cases gK ea;cases d9 eb;obtain ⟨ha,la⟩:=ra;have hb:y=.int _:=rb;subst ha;subst hb;obtain ⟨h0,h1,h2,h3⟩:=h;obtain ⟨n,rfl⟩:=cq h0;rw[dk]at h2 h3;refine Xg pins s σ H _ _ v u Q I rx ry ⟨_,_,rfl,rfl,Zf (by omega) (by rw[bQ];exact h2),?_⟩;rw[Zi];exact h3.now r ⟨rfl,by rw[Zh,Nat.mul_comm];exact h2⟩
   |tup _=>
    cases gJ ea;cases d9 eb;obtain ⟨p,vs,rfl,q1,t1⟩:=ra;have hb:y=.int _:=rb;subst hb;obtain ⟨h0,h1,h2,h3,h4⟩:=h;refine YM pins s σ H _ _ v u Q I rx ry ⟨p,_,vs,rfl,rfl,q1.sq,λe=>h2 ((xr t1).mpr e),h0,h1,by rw[<-t1.length];exact cM h3,?_⟩;exact lM h4 r (t1.rep _)
   |lst _=>
    cases d9 eb;have hb:y=.int _:=rb;subst hb;obtain ⟨p,vs,rfl,q1,t1⟩:=ra.list r ea;obtain ⟨h0,h1,h2,h3⟩:=h;exact YW pins s σ H _ _ v u Q I rx ry ⟨p,_,vs,rfl,rfl,q1,h0,h1,by rw[<-t1.length];exact cM h2,fB h3 r (t1.rep _)⟩
   |_=>exact h.elim
  |_=>exact h.elim
 |FloorDiv=>
  obtain ⟨i,j,rfl,rfl,h⟩:=twoI h;exact YC pins s σ H _ _ v u Q I rx ry ⟨_,_,rfl,rfl,h.1,h.2.now r rfl⟩
 |Mod=>
  obtain ⟨i,j,rfl,rfl,h⟩:=twoI h;exact Vw pins s σ H _ _ v u Q I rx ry ⟨_,_,rfl,rfl,h.1,h.2.now r rfl⟩
 |Pow=>
  obtain ⟨i,j,rfl,rfl,h⟩:=twoI h;exact Vx pins s σ H _ _ v u Q I rx ry ⟨_,_,rfl,rfl,h.1,h.2.now r rfl⟩
 |_=>exact h.elim
end
mutual
theorem tM:∀{d:D},nr d=true->deq d d=true
 |.non,_=>rfl
 |.bl b,_=>by simp[deq]
 |.int i,_=>by simp[deq]
 |.str l,_=>by simp[deq]
 |.tup xs,h=>by rw[deq];exact xu (by rw[nr]at h;exact h)
 |.lst xs,h=>by rw[deq];exact xu (by rw[nr]at h;exact h)
 |.ref a,h=>by rw[nr]at h;cases h
 |.scr a,h=>by rw[nr]at h;cases h
 |.exn a,h=>by rw[nr]at h;cases h
 |.obj _ _ _,h=>by rw[nr]at h;cases h
theorem xu:∀{ds:List D},nrs ds=true->bR ds ds=true
 |[],_=>rfl
 |d::ds,h=>by
  rw[nrs,ae]at h;rw[bR,tM h.1,xu h.2];rfl
end
theorem tQ:∀(xs ys:List D),bR xs ys=((List.range (min xs.length ys.length)).all (λj=>deq (xs.getD j .non) (ys.getD j .non))&&xs.length==ys.length)
 |[],[]=>rfl
 |[],y::ys=>by simp[bR]
 |x::xs,[]=>by simp[bR]
 |x::xs,y::ys=>by
  have e:min (x::xs).length (y::ys).length=(min xs.length ys.length)+1:=by simp only[eA];omega
  rw[bR,tQ xs ys,e,List.range_succ_eq_map,List.all_cons,List.all_map];simp only[List.getD_cons_zero,eA,Bool.and_assoc];congr 1;congr 1;rw[Bool.eq_iff_iff];simp
theorem Zk{xs ys:List D}(h:xs.length≠ys.length):bR xs ys=false:=by rw[tQ];rw[show (xs.length==ys.length)=false from df.mpr h,e8]
theorem lN:∀{xs:List D}{i:Nat},nrs xs=true->nr (xs.getD i .non)=true
 |[],_,_=>rfl
 |x::xs,0,h=>by rw[nrs,ae]at h;exact h.1
 |x::xs,i+1,h=>by rw[nrs,ae]at h;rw[List.getD_cons_succ];exact lN h.2
theorem lO:∀{xs:List D}{i:Nat},dpt (xs.getD i .non)<=aW xs
 |[],_=>d3 _
 |x::xs,0=>by rw[aW,List.getD_cons_zero];omega
 |x::xs,i+1=>by rw[aW,List.getD_cons_succ];have:=@lO xs i;omega
section
variable {X:Cx} {pins:List (Addr×Obj)} {σ:L2.St} {H:Hp} {s:Shared} {F:FZ}
mutual
theorem tR(I:Inv X pins σ H s):∀{d d':D}{v:V},nr d=true->nr d'=true->Rep X.K H F d v->Rep X.K H F d' v->d=d'
 |.non,d',v,_,n',h,h'=>by
  have h:v=.non:=h;subst h;cases d' with
  |non=>rfl
  |bl _=>simp only[Rep]at h';cases h'
  |int _=>simp only[Rep]at h';cases h'
  |ref _=>simp only[Rep]at h';cases h'
  |scr _=>rw[nr]at n';cases n'
  |exn _=>rw[nr]at n';cases n'
  |obj _ _ _=>rw[nr]at n';cases n'
  |str _=>simp only[Rep]at h';obtain ⟨e,_⟩:=h';cases e
  |tup _=>simp only[Rep]at h';obtain ⟨_,_,e,_⟩:=h';cases e
  |lst _=>simp only[Rep]at h';obtain ⟨_,_,e,_⟩:=h';cases e
 |.bl b,d',v,_,n',h,h'=>by
  have h:v=.bl b:=h;subst h;cases d' with
  |non=>simp only[Rep]at h';cases h'
  |bl _=>simp only[Rep]at h';cases h';rfl
  |int _=>simp only[Rep]at h';cases h'
  |ref _=>simp only[Rep]at h';cases h'
  |scr _=>rw[nr]at n';cases n'
  |exn _=>rw[nr]at n';cases n'
  |obj _ _ _=>rw[nr]at n';cases n'
  |str _=>simp only[Rep]at h';obtain ⟨e,_⟩:=h';cases e
  |tup _=>simp only[Rep]at h';obtain ⟨_,_,e,_⟩:=h';cases e
  |lst _=>simp only[Rep]at h';obtain ⟨_,_,e,_⟩:=h';cases e
 |.int b,d',v,_,n',h,h'=>by
  have h:v=.int b:=h;subst h;cases d' with
  |non=>simp only[Rep]at h';cases h'
  |bl _=>simp only[Rep]at h';cases h'
  |int _=>simp only[Rep]at h';cases h';rfl
  |ref _=>simp only[Rep]at h';cases h'
  |scr _=>rw[nr]at n';cases n'
  |exn _=>rw[nr]at n';cases n'
  |obj _ _ _=>rw[nr]at n';cases n'
  |str _=>simp only[Rep]at h';obtain ⟨e,_⟩:=h';cases e
  |tup _=>simp only[Rep]at h';obtain ⟨_,_,e,_⟩:=h';cases e
  |lst _=>simp only[Rep]at h';obtain ⟨_,_,e,_⟩:=h';cases e
 |.str l,d',v,_,n',h,h'=>by
  obtain ⟨h,_⟩:=h;subst h;cases d' with
  |str l'=>
   obtain ⟨e,_⟩:=h';injection e with e;rw[BP e]
  |non=>simp only[Rep]at h';cases h'
  |bl _=>simp only[Rep]at h';cases h'
  |int _=>simp only[Rep]at h';cases h'
  |ref _=>simp only[Rep]at h';cases h'
  |scr _=>rw[nr]at n';cases n'
  |exn _=>rw[nr]at n';cases n'
  |obj _ _ _=>rw[nr]at n';cases n'
  |tup _=>simp only[Rep]at h';obtain ⟨_,_,e,_⟩:=h';cases e
  |lst _=>simp only[Rep]at h';obtain ⟨_,_,e,_⟩:=h';cases e
 |.tup xs,d',v,n,n',h,h'=>by
  obtain ⟨a,vs,e,q,t⟩:=h;subst e;cases d' with
  |tup ys=>
   obtain ⟨a',vs',e,q',t'⟩:=h';injection e with e;subst e;have:=I.tuple_inj q.sq q'.sq;subst this;rw[nr]at n n';rw[xF I n n' t t']
  |lst ys=>
   obtain ⟨a',vs',e,q',t'⟩:=h';injection e with e;subst e;obtain ⟨its,_,⟨o,e1,c1,_⟩,_⟩:=I.tuple q.sq;obtain ⟨its',_,⟨o',n',e2,c2,_⟩,_⟩:=I.list q'.sq;rw[e1]at e2;cases e2;rw[c1]at c2;exact absurd c2 (by ac_rfl)
  |ref _=>rw[nr]at n';cases n'
  |scr _=>rw[nr]at n';cases n'
  |exn _=>rw[nr]at n';cases n'
  |obj _ _ _=>rw[nr]at n';cases n'
  |str _=>simp only[Rep]at h';obtain ⟨e,_⟩:=h';cases e
  |non=>simp only[Rep]at h';cases h'
  |bl _=>simp only[Rep]at h';cases h'
  |int _=>simp only[Rep]at h';cases h'
 |.lst xs,d',v,n,n',h,h'=>by
  obtain ⟨a,vs,e,q,t⟩:=h;subst e;cases d' with
  |lst ys=>
   obtain ⟨a',vs',e,q',t'⟩:=h';injection e with e;subst e;have:=I.list_inj q.sq q'.sq;subst this;rw[nr]at n n';rw[xF I n n' t t']
  |tup ys=>
   obtain ⟨a',vs',e,q',t'⟩:=h';injection e with e;subst e;obtain ⟨its,_,⟨o,e1,c1,_⟩,_⟩:=I.tuple q'.sq;obtain ⟨its',_,⟨o',n',e2,c2,_⟩,_⟩:=I.list q.sq;rw[e1]at e2;cases e2;rw[c1]at c2;exact absurd c2 (by ac_rfl)
  |ref _=>rw[nr]at n';cases n'
  |scr _=>rw[nr]at n';cases n'
  |exn _=>rw[nr]at n';cases n'
  |obj _ _ _=>rw[nr]at n';cases n'
  |str _=>simp only[Rep]at h';obtain ⟨e,_⟩:=h';cases e
  |non=>simp only[Rep]at h';cases h'
  |bl _=>simp only[Rep]at h';cases h'
  |int _=>simp only[Rep]at h';cases h'
 |.ref a,d',v,n,_,_,_=>by rw[nr]at n;cases n
 |.scr a,d',v,n,_,_,_=>by rw[nr]at n;cases n
 |.exn a,d',v,n,_,_,_=>by rw[nr]at n;cases n
 |.obj _ _ _,d',v,n,_,_,_=>by rw[nr]at n;cases n
theorem xF(I:Inv X pins σ H s):∀{ds ds':List D}{vs:List V},nrs ds=true->nrs ds'=true->Reps X.K H F ds vs->Reps X.K H F ds' vs->ds=ds'
 |[],[],_,_,_,_,_=>rfl
 |[],_::_,_,_,_,h,⟨v,r,e,_⟩=>by have h:_=[]:=h;rw[h]at e;cases e
 |_::_,[],_,_,_,⟨v,r,e,_⟩,h=>by have h:_=[]:=h;rw[h]at e;cases e
 |d::ds,d'::ds',_,n,n',⟨v,r,e,h,t⟩,⟨v',r',e',h',t'⟩=>by
  subst e;injection e' with e1 e2;subst e1;subst e2;rw[nrs,ae]at n n';rw[tR I n.1 n'.1 h h',xF I n.2 n'.2 t t']
end
theorem tU{I:Inv X pins σ H s}{ds:List D}{vs:List V}{its:List Value}(t:Reps X.K H F ds vs)(r:Vals vs its)(j:Nat)(h:j < its.length):∃v,Rep X.K H F (ds.getD j .non) v/\RelV v its[j]:=by
 have hl:j < ds.length:=by rw[t.length,r.length];exact h
 have e1:ds[j]?=some (ds.getD j .non):=by rw[fq,bS hl];rfl
 obtain ⟨v,e2,r2⟩:=t.get e1;obtain ⟨u,e3,r3⟩:=r.get e2;rw[bS h]at e3;cases e3;exact ⟨v,r2,r3⟩
theorem Zm(a b:List Nat):(tx a==tx b)=(a==b):=by rw[Bool.eq_iff_iff,av,av];exact ⟨λh=>BP h,λh=>by rw[h]⟩
theorem Zn(I:Inv X pins σ H s){n:Nat}{A:Around}{xs ys:List D}{a a':Addr}{vs vs':List V}{its its':List Value}
  (ih:∀m,m < n->∀(A:Around)(d d':D)(v v':V)(u u':Value),A.units+m < cLine->min (dpt d) (dpt d')<=m->nr d=true->nr d'=true->Rep X.K H F d v->Rep X.K H F d' v'->RelV v u->RelV v' u'->
   SeqAt.RcAt A s u u' (deq d d')/\SeqAt.EqAt A s u u' (deq d d')/\SeqAt.RcNeAt A s u u' (!deq d d'))
  (hu:A.units+n < cLine) (hd:min (dpt (.tup xs)) (dpt (.tup ys))<=n) (n1:nr (.tup xs)=true) (n2:nr (.tup ys)=true) (h:Rep X.K H F (.tup xs) (.ref a)) (h':Rep X.K H F (.tup ys) (.ref a'))
  (pt:s.heap.IsTuple a its.toArray) (pt':s.heap.IsTuple a' its'.toArray) (rv:Vals vs its) (rv':Vals vs' its') (tt:Reps X.K H F xs vs) (tt':Reps X.K H F ys vs'):
  SeqAt.RcAt A s (.ref a) (.ref a') (deq (.tup xs) (.tup ys))/\SeqAt.EqAt A s (.ref a) (.ref a') (deq (.tup xs) (.tup ys))/\SeqAt.RcNeAt A s (.ref a) (.ref a') (!deq (.tup xs) (.tup ys)):=by
 have hd':min (aW xs+1) (aW ys+1)<=n:=by rw[dpt,dpt]at hd;exact hd
 have hn1:nrs xs=true:=by rw[nr]at n1;exact n1
 have hn2:nrs ys=true:=by rw[nr]at n2;exact n2
 have l1:its.toArray.size=xs.length:=by rw[ar,<-rv.length,tt.length]
 have l2:its'.toArray.size=ys.length:=by rw[ar,<-rv'.length,tt'.length]
 have he:∀j (h1:j < its.toArray.size) (h2:j < its'.toArray.size),SeqAt.EqAt A.in1 s its.toArray[j] its'.toArray[j] (deq (xs.getD j .non) (ys.getD j .non)):=by intro j h1 h2;obtain ⟨w1,q1,q2⟩:=tU (I:=I) tt rv j (by simpa using h1);obtain ⟨w2,q3,q4⟩:=tU (I:=I) tt' rv' j (by simpa using h2);have d1:=@lO xs j;have d2:=@lO ys j;exact (ih (n - 1) (by omega) A.in1 _ _ w1 w2 _ _ (by show A.units+1+(n - 1) < cLine;omega) (by omega) (lN hn1) (lN hn2) q1 q3 (by simpa using q2) (by simpa using q4)).2.1
 have e:deq (.tup xs) (.tup ys)=((List.range (min its.toArray.size its'.toArray.size)).all (λj=>deq (xs.getD j .non) (ys.getD j .non))&&its.toArray.size==its'.toArray.size):=by rw[deq,tQ,l1,l2]
 have rc:SeqAt.RcAt A s (.ref a) (.ref a') (deq (.tup xs) (.tup ys)):=by rw[e];exact .tuples pt pt' (by omega) he
 refine ⟨rc,?_,by rw[e];exact .tuples pt pt' (by omega) he⟩;by_cases z:a=a'
 ·subst z;have:=tR I n1 n2 h h';rw[<-this,tM n1];exact .same _
 ·exact .of_refs z rc
theorem Zo(I:Inv X pins σ H s){n:Nat}{A:Around}{xs ys:List D}{a a':Addr}{vs vs':List V}{its its':List Value}
  (ih:∀m,m < n->∀(A:Around)(d d':D)(v v':V)(u u':Value),A.units+m < cLine->min (dpt d) (dpt d')<=m->nr d=true->nr d'=true->Rep X.K H F d v->Rep X.K H F d' v'->RelV v u->RelV v' u'->
   SeqAt.RcAt A s u u' (deq d d')/\SeqAt.EqAt A s u u' (deq d d')/\SeqAt.RcNeAt A s u u' (!deq d d'))
  (hu:A.units+n < cLine) (hd:min (dpt (.lst xs)) (dpt (.lst ys))<=n) (n1:nr (.lst xs)=true) (n2:nr (.lst ys)=true) (h:a=a'->xs=ys)
  (pt:s.heap.IsList a its.toArray) (pt':s.heap.IsList a' its'.toArray) (rv:Vals vs its) (rv':Vals vs' its') (tt:Reps X.K H F xs vs) (tt':Reps X.K H F ys vs'):
  SeqAt.RcAt A s (.ref a) (.ref a') (deq (.lst xs) (.lst ys))/\SeqAt.EqAt A s (.ref a) (.ref a') (deq (.lst xs) (.lst ys))/\SeqAt.RcNeAt A s (.ref a) (.ref a') (!deq (.lst xs) (.lst ys)):=by
 have hd':min (aW xs+1) (aW ys+1)<=n:=by rw[dpt,dpt]at hd;exact hd
 have hn1:nrs xs=true:=by rw[nr]at n1;exact n1
 have hn2:nrs ys=true:=by rw[nr]at n2;exact n2
 have l1:its.toArray.size=xs.length:=by rw[ar,<-rv.length,tt.length]
 have l2:its'.toArray.size=ys.length:=by rw[ar,<-rv'.length,tt'.length]
 have eqs:∀(rc:SeqAt.RcAt A s (.ref a) (.ref a') (deq (.lst xs) (.lst ys))),SeqAt.EqAt A s (.ref a) (.ref a') (deq (.lst xs) (.lst ys)):=λrc=>by
  by_cases z:a=a'
  ·have:=h z;subst z;subst this;rw[tM n1];exact .same _
  ·exact .of_refs z rc
 by_cases hl:xs.length=ys.length
 ·have he:∀j (h1:j < its.toArray.size) (h2:j < its'.toArray.size),SeqAt.EqAt A.in1 s its.toArray[j] its'.toArray[j] (deq (xs.getD j .non) (ys.getD j .non)):=by
   intro j h1 h2;obtain ⟨w1,q1,q2⟩:=tU (I:=I) tt rv j (by simpa using h1);obtain ⟨w2,q3,q4⟩:=tU (I:=I) tt' rv' j (by simpa using h2);have d1:=@lO xs j;have d2:=@lO ys j;exact (ih (n - 1) (by omega) A.in1 _ _ w1 w2 _ _ (by show A.units+1+(n - 1) < cLine;omega) (by omega) (lN hn1) (lN hn2) q1 q3 (by simpa using q2) (by simpa using q4)).2.1
  have e:deq (.lst xs) (.lst ys)=(List.range its.toArray.size).all (λj=>deq (xs.getD j .non) (ys.getD j .non)):=by rw[deq,tQ,l1,hl,Nat.min_self];simp
  have rc:SeqAt.RcAt A s (.ref a) (.ref a') (deq (.lst xs) (.lst ys)):=by rw[e];exact .lists pt pt' (by rw[l1,l2];exact hl) (by omega) he
  exact ⟨rc,eqs rc,by rw[e];exact .lists pt pt' (by rw[l1,l2];exact hl) (by omega) he⟩
 ·have e:deq (.lst xs) (.lst ys)=false:=by rw[deq];exact Zk hl
  have hne:(its.toArray.size != its'.toArray.size)=true:=by rw[l1,l2];simpa using hl
  have rc:SeqAt.RcAt A s (.ref a) (.ref a') (deq (.lst xs) (.lst ys)):=by rw[e];exact .lists_lengths pt pt' hne (by omega)
  exact ⟨rc,eqs rc,by rw[e];exact .lists_lengths pt pt' hne (by omega)⟩
theorem xG(I:Inv X pins σ H s):∀(n:Nat)(A:Around)(d d':D)(v v':V)(u u':Value),A.units+n < cLine->min (dpt d) (dpt d')<=n->nr d=true->nr d'=true->Rep X.K H F d v->Rep X.K H F d' v'->RelV v u->RelV v' u'->
  SeqAt.RcAt A s u u' (deq d d')/\SeqAt.EqAt A s u u' (deq d d')/\SeqAt.RcNeAt A s u u' (!deq d d'):=by
 intro n;induction n using Nat.strongRecOn with
 |_ n ih=>
  intro A d d' v v' u u' hu hd n1 n2 h h' r r';have hu0:A.units < cLine:=by omega
  cases d with
  |ref a=>rw[nr]at n1;cases n1
  |scr a=>rw[nr]at n1;cases n1
  |exn a=>rw[nr]at n1;cases n1
  |obj _ _ _=>rw[nr]at n1;cases n1
  |non=>
   have hv:v=.non:=h;subst hv;have hr:u=Value.none:=r;subst hr;cases d' with
   |ref a=>rw[nr]at n2;cases n2
   |scr a=>rw[nr]at n2;cases n2
   |exn a=>rw[nr]at n2;cases n2
   |obj _ _ _=>rw[nr]at n2;cases n2
   |non=>
    have hv:v'=.non:=h';subst hv;have hr:u'=Value.none:=r';subst hr;exact ⟨.none_none,.same _,.none_none⟩
   |bl b'=>
    have hv:v'=.bl b':=h';subst hv;have hr:u'=Value.bool b':=r';subst hr;exact ⟨.none_bool b',.none_bool b',.none_bool b'⟩
   |int i'=>
    have hv:v'=.int i':=h';subst hv;obtain ⟨t',hr⟩:∃t',u'=Value.int i' t':=r';subst hr;exact ⟨.none_int i' t',.none_int i' t',.none_int i' t'⟩
   |str l'=>
    obtain ⟨hv,_⟩:=h';subst hv;obtain ⟨t',hr⟩:∃t',u'=Value.str (tx l') t':=r';subst hr;exact ⟨.none_str (tx l') t',.none_str (tx l') t',.none_str (tx l') t'⟩
   |tup ys=>
    obtain ⟨a',vs',hv,q',tt'⟩:=id h';subst hv;have hr:u'=Value.ref a':=r';subst hr;obtain ⟨its',rv',pt',_⟩:=I.tuple q'.sq;have pt':s.heap.IsTuple a' its'.toArray:=pt';exact ⟨.none_tuple pt' hu0,.none_tuple pt' hu0,.none_tuple pt' hu0⟩
   |lst ys=>
    obtain ⟨a',vs',hv,q',tt'⟩:=id h';subst hv;have hr:u'=Value.ref a':=r';subst hr;obtain ⟨its',rv',pl',_⟩:=I.list q'.sq;have pt':s.heap.IsList a' its'.toArray:=pl'.isList;exact ⟨.none_list pt' hu0,.none_list pt' hu0,.none_list pt' hu0⟩
  |bl b=>
   have hv:v=.bl b:=h;subst hv;have hr:u=Value.bool b:=r;subst hr;cases d' with
   |ref a=>rw[nr]at n2;cases n2
   |scr a=>rw[nr]at n2;cases n2
   |exn a=>rw[nr]at n2;cases n2
   |obj _ _ _=>rw[nr]at n2;cases n2
   |non=>
    have hv:v'=.non:=h';subst hv;have hr:u'=Value.none:=r';subst hr;exact ⟨.bool_none b,.bool_none b,.bool_none b⟩
   |bl b'=>
    have hv:v'=.bl b':=h';subst hv;have hr:u'=Value.bool b':=r';subst hr;exact ⟨.bool_bool b b',.bool_bool b b',.bool_bool b b'⟩
   |int i'=>
    have hv:v'=.int i':=h';subst hv;obtain ⟨t',hr⟩:∃t',u'=Value.int i' t':=r';subst hr;exact ⟨.bool_int b i' t',.bool_int b i' t',.bool_int b i' t'⟩
   |str l'=>
    obtain ⟨hv,_⟩:=h';subst hv;obtain ⟨t',hr⟩:∃t',u'=Value.str (tx l') t':=r';subst hr;exact ⟨.bool_str b (tx l') t',.bool_str b (tx l') t',.bool_str b (tx l') t'⟩
   |tup ys=>
    obtain ⟨a',vs',hv,q',tt'⟩:=id h';subst hv;have hr:u'=Value.ref a':=r';subst hr;obtain ⟨its',rv',pt',_⟩:=I.tuple q'.sq;have pt':s.heap.IsTuple a' its'.toArray:=pt';exact ⟨.bool_tuple b pt' hu0,.bool_tuple b pt' hu0,.bool_tuple b pt' hu0⟩
   |lst ys=>
    obtain ⟨a',vs',hv,q',tt'⟩:=id h';subst hv;have hr:u'=Value.ref a':=r';subst hr;obtain ⟨its',rv',pl',_⟩:=I.list q'.sq;have pt':s.heap.IsList a' its'.toArray:=pl'.isList;exact ⟨.bool_list b pt' hu0,.bool_list b pt' hu0,.bool_list b pt' hu0⟩
  |int i=>
   have hv:v=.int i:=h;subst hv;obtain ⟨t,hr⟩:∃t,u=Value.int i t:=r;subst hr;cases d' with
   |ref a=>rw[nr]at n2;cases n2
   |scr a=>rw[nr]at n2;cases n2
   |exn a=>rw[nr]at n2;cases n2
   |obj _ _ _=>rw[nr]at n2;cases n2
   |non=>
    have hv:v'=.non:=h';subst hv;have hr:u'=Value.none:=r';subst hr;exact ⟨.int_none i t,.int_none i t,.int_none i t⟩
   |bl b'=>
    have hv:v'=.bl b':=h';subst hv;have hr:u'=Value.bool b':=r';subst hr;exact ⟨.int_bool i t b',.int_bool i t b',.int_bool i t b'⟩
   |int i'=>
    have hv:v'=.int i':=h';subst hv;obtain ⟨t',hr⟩:∃t',u'=Value.int i' t':=r';subst hr;exact ⟨.int_int i t i' t',.int_int i t i' t',.int_int i t i' t'⟩
   |str l'=>
    obtain ⟨hv,_⟩:=h';subst hv;obtain ⟨t',hr⟩:∃t',u'=Value.str (tx l') t':=r';subst hr;exact ⟨.int_str i t (tx l') t',.int_str i t (tx l') t',.int_str i t (tx l') t'⟩
   |tup ys=>
    obtain ⟨a',vs',hv,q',tt'⟩:=id h';subst hv;have hr:u'=Value.ref a':=r';subst hr;obtain ⟨its',rv',pt',_⟩:=I.tuple q'.sq;have pt':s.heap.IsTuple a' its'.toArray:=pt';exact ⟨.int_tuple i t pt' hu0,.int_tuple i t pt' hu0,.int_tuple i t pt' hu0⟩
   |lst ys=>
    obtain ⟨a',vs',hv,q',tt'⟩:=id h';subst hv;have hr:u'=Value.ref a':=r';subst hr;obtain ⟨its',rv',pl',_⟩:=I.list q'.sq;have pt':s.heap.IsList a' its'.toArray:=pl'.isList;exact ⟨.int_list i t pt' hu0,.int_list i t pt' hu0,.int_list i t pt' hu0⟩
  |str l=>
   obtain ⟨hv,_⟩:=h;subst hv;obtain ⟨t,hr⟩:∃t,u=Value.str (tx l) t:=r;subst hr;cases d' with
   |ref a=>rw[nr]at n2;cases n2
   |scr a=>rw[nr]at n2;cases n2
   |exn a=>rw[nr]at n2;cases n2
   |obj _ _ _=>rw[nr]at n2;cases n2
   |non=>
    have hv:v'=.non:=h';subst hv;have hr:u'=Value.none:=r';subst hr;exact ⟨.str_none (tx l) t,.str_none (tx l) t,.str_none (tx l) t⟩
   |bl b'=>
    have hv:v'=.bl b':=h';subst hv;have hr:u'=Value.bool b':=r';subst hr;exact ⟨.str_bool (tx l) t b',.str_bool (tx l) t b',.str_bool (tx l) t b'⟩
   |int i'=>
    have hv:v'=.int i':=h';subst hv;obtain ⟨t',hr⟩:∃t',u'=Value.int i' t':=r';subst hr;exact ⟨.str_int (tx l) t i' t',.str_int (tx l) t i' t',.str_int (tx l) t i' t'⟩
   |str l'=>
    obtain ⟨hv,_⟩:=h';subst hv;obtain ⟨t',hr⟩:∃t',u'=Value.str (tx l') t':=r';subst hr;rw[deq,<-Zm];exact ⟨.str_str (tx l) t (tx l') t',.str_str (tx l) t (tx l') t',.str_str (tx l) t (tx l') t'⟩
   |tup ys=>
    obtain ⟨a',vs',hv,q',tt'⟩:=id h';subst hv;have hr:u'=Value.ref a':=r';subst hr;obtain ⟨its',rv',pt',_⟩:=I.tuple q'.sq;have pt':s.heap.IsTuple a' its'.toArray:=pt';exact ⟨.str_tuple (tx l) t pt' hu0,.str_tuple (tx l) t pt' hu0,.str_tuple (tx l) t pt' hu0⟩
   |lst ys=>
    obtain ⟨a',vs',hv,q',tt'⟩:=id h';subst hv;have hr:u'=Value.ref a':=r';subst hr;obtain ⟨its',rv',pl',_⟩:=I.list q'.sq;have pt':s.heap.IsList a' its'.toArray:=pl'.isList;exact ⟨.str_list (tx l) t pt' hu0,.str_list (tx l) t pt' hu0,.str_list (tx l) t pt' hu0⟩
  |tup xs=>
   obtain ⟨a,vs,hv,q,tt⟩:=id h;subst hv;have hr:u=Value.ref a:=r;subst hr;obtain ⟨its,rv,pt,_⟩:=I.tuple q.sq;have pt:s.heap.IsTuple a its.toArray:=pt;cases d' with
   |ref a=>rw[nr]at n2;cases n2
   |scr a=>rw[nr]at n2;cases n2
   |exn a=>rw[nr]at n2;cases n2
   |obj _ _ _=>rw[nr]at n2;cases n2
   |non=>
    have hv:v'=.non:=h';subst hv;have hr:u'=Value.none:=r';subst hr;exact ⟨.tuple_none pt hu0,.tuple_none pt hu0,.tuple_none pt hu0⟩
   |bl b'=>
    have hv:v'=.bl b':=h';subst hv;have hr:u'=Value.bool b':=r';subst hr;exact ⟨.tuple_bool b' pt hu0,.tuple_bool b' pt hu0,.tuple_bool b' pt hu0⟩
   |int i'=>
    have hv:v'=.int i':=h';subst hv;obtain ⟨t',hr⟩:∃t',u'=Value.int i' t':=r';subst hr;exact ⟨.tuple_int i' t' pt hu0,.tuple_int i' t' pt hu0,.tuple_int i' t' pt hu0⟩
   |str l'=>
    obtain ⟨hv,_⟩:=h';subst hv;obtain ⟨t',hr⟩:∃t',u'=Value.str (tx l') t':=r';subst hr;exact ⟨.tuple_str (tx l') t' pt hu0,.tuple_str (tx l') t' pt hu0,.tuple_str (tx l') t' pt hu0⟩
   |tup ys=>
    obtain ⟨a',vs',hv,q',tt'⟩:=id h';subst hv;have hr:u'=Value.ref a':=r';subst hr;obtain ⟨its',rv',pt',_⟩:=I.tuple q'.sq;have pt':s.heap.IsTuple a' its'.toArray:=pt';exact Zn I ih hu hd n1 n2 h h' pt pt' rv rv' tt tt'
   |lst ys=>
    obtain ⟨a',vs',hv,q',tt'⟩:=id h';subst hv;have hr:u'=Value.ref a':=r';subst hr;obtain ⟨its',rv',pl',_⟩:=I.list q'.sq;have pt':s.heap.IsList a' its'.toArray:=pl'.isList;exact ⟨.tuple_list pt pt' hu0,.tuple_list pt pt' hu0,.tuple_list pt pt' hu0⟩
  |lst xs=>
   obtain ⟨a,vs,hv,q,tt⟩:=id h;subst hv;have hr:u=Value.ref a:=r;subst hr;obtain ⟨its,rv,pl,_⟩:=I.list q.sq;have pt:s.heap.IsList a its.toArray:=pl.isList;cases d' with
   |ref a=>rw[nr]at n2;cases n2
   |scr a=>rw[nr]at n2;cases n2
   |exn a=>rw[nr]at n2;cases n2
   |obj _ _ _=>rw[nr]at n2;cases n2
   |non=>
    have hv:v'=.non:=h';subst hv;have hr:u'=Value.none:=r';subst hr;exact ⟨.list_none pt hu0,.list_none pt hu0,.list_none pt hu0⟩
   |bl b'=>
    have hv:v'=.bl b':=h';subst hv;have hr:u'=Value.bool b':=r';subst hr;exact ⟨.list_bool b' pt hu0,.list_bool b' pt hu0,.list_bool b' pt hu0⟩
   |int i'=>
    have hv:v'=.int i':=h';subst hv;obtain ⟨t',hr⟩:∃t',u'=Value.int i' t':=r';subst hr;exact ⟨.list_int i' t' pt hu0,.list_int i' t' pt hu0,.list_int i' t' pt hu0⟩
   |str l'=>
    obtain ⟨hv,_⟩:=h';subst hv;obtain ⟨t',hr⟩:∃t',u'=Value.str (tx l') t':=r';subst hr;exact ⟨.list_str (tx l') t' pt hu0,.list_str (tx l') t' pt hu0,.list_str (tx l') t' pt hu0⟩
   |tup ys=>
    obtain ⟨a',vs',hv,q',tt'⟩:=id h';subst hv;have hr:u'=Value.ref a':=r';subst hr;obtain ⟨its',rv',pt',_⟩:=I.tuple q'.sq;have pt':s.heap.IsTuple a' its'.toArray:=pt';exact ⟨.list_tuple pt pt' hu0,.list_tuple pt pt' hu0,.list_tuple pt pt' hu0⟩
   |lst ys=>
    obtain ⟨a',vs',hv,q',tt'⟩:=id h';subst hv;have hr:u'=Value.ref a':=r';subst hr;obtain ⟨its',rv',pl',_⟩:=I.list q'.sq;have pt':s.heap.IsList a' its'.toArray:=pl'.isList;exact Zo I ih hu hd n1 n2 (λz=>by subst z;have e:=tR I n1 n2 h h';injection e) pt pt' rv rv' tt tt'
end
def FA(F:FZ)(G:DH):FZ:=λa=>F a\/∃o,G a=some o
theorem DG{H:Hp}{F:FZ}{G:DH}:Ext H F H (FA F G):=⟨λ_ f=>.inl f,λ_ _=>rfl,λ_ _ h=>h,λ_ _ _ h=>h⟩
theorem tV{K:PF}{H:Hp}{F:FZ}{G:DH}{d:D}{v:V}(r:R K H F G)(h:Rep K H F d v):Rep K H (FA F G) (view G d) v:=by
 cases d with
 |ref p=>
  have hv:v=.ref p:=h;cases g:G p with
  |none=>
   have e:view G (.ref p)=.ref p:=by simp only[view,g]
   rw[e];exact hv
  |some o=>
   cases o with
   |lst ds=>
    have e:view G (.ref p)=.lst ds:=by simp only[view,g]
    rw[e];obtain ⟨vs,q,t⟩:=r.lst g;exact ⟨p,vs,hv,⟨.inr ⟨_,g⟩,q⟩,Reps.ext DG t⟩
 |_=>exact Rep.ext DG h
def rC2(K:PF)(f:D->D->(Bool->Prop)->Prop):R2:=λx y H Q=>∃F G a b,R K H F G/\Rep K H F a x/\Rep K H F b y/\f (view G a) (view G b) (λc=>PV K H F Q (.bl c) G)
section
variable {X:Cx}
theorem DK(c:Nat)(l:List Nat):(!(Builtin.Str.occurrences (tx l) (tx [c]) 0 (tx l).length 1).isEmpty)=l.contains c:=by have:=StrLaws.found_one (tx l) c;rw[this,Bool.eq_iff_iff];simp
theorem Zq{pins:List (Addr×Obj)}{σ:L2.St}{H:Hp}{s:Shared}{F:FZ}(I:Inv X pins σ H s){A:Around}{x:D}{v:V}{u:Value}(hu:A.units+64 < cLine)(hx:nr x=true)(rx:Rep X.K H F x v)(ru:RelV v u):
  ∀{ds:List D}{vs:List V}{us:List Value},nrs ds=true->aW ds<=60->Reps X.K H F ds vs->Vals vs us->∃e:Value->Bool,(∀y∈us,SeqAt.EqAt A s y u (e y))/\us.any e=isIn x ds:=by
 intro ds vs us hn hd t r;let P:Value->D->Prop:=λy d=>nr d=true/\∃v,Rep X.K H F d v/\RelV v y
 have one:∀y d d',P y d->P y d'->d=d':=λy d d' ⟨n,v,q,z⟩ ⟨n',v',q',z'⟩=>by
  have e:=z.inj z';subst e;exact tR I n n' q q'
 have ⟨f,hf⟩:∃f:Value->D,∀y d,P y d->f y=d:=by refine ⟨λy=>Classical.epsilon (P y),λy d h=>?_⟩;exact one y _ _ (Classical.epsilon_spec ⟨d,h⟩) h
 refine ⟨λy=>deq (f y) x,?_,?_⟩
 ·skip;have key:∀{ds:List D}{vs:List V}{us:List Value},nrs ds=true->aW ds<=60->Reps X.K H F ds vs->Vals vs us->∀y∈us,SeqAt.EqAt A s y u (deq (f y) x):=by
   intro ds;induction ds with
   |nil=>
    intro vs us _ _ t r y hy;have t:vs=[]:=t;subst t;cases r;cases hy
   |cons d ds ih=>
    intro vs us hn hd t r y hy;obtain ⟨v1,r1,e,h1,t1⟩:=t;subst e;rw[nrs,ae]at hn;rw[aW]at hd;cases r with
    |cons p q=>
     rcases bo.mp hy with e |hy
     ·subst e;rw[hf _ d ⟨hn.1,_,h1,p⟩];exact (xG I 60 A d x v1 v _ u (by omega) (by omega) hn.1 hx h1 rx p ru).2.1
     ·exact ih hn.2 (by omega) t1 q y hy
  exact key hn hd t r
 ·have key:∀{ds:List D}{vs:List V}{us:List Value},nrs ds=true->Reps X.K H F ds vs->Vals vs us->us.any (λy=>deq (f y) x)=isIn x ds:=by
   intro ds;induction ds with
   |nil=>
    intro vs us _ t r;have t:vs=[]:=t;subst t;cases r;rfl
   |cons d ds ih=>
    intro vs us hn t r;obtain ⟨v1,r1,e,h1,t1⟩:=t;subst e;rw[nrs,ae]at hn;cases r with
    |cons p q=>
     rw[List.any_cons,hf _ d ⟨hn.1,_,h1,p⟩,ih hn.2 t1 q];rfl
  exact key hn t r
theorem jQ(op:CmpOp)(hu:X.A.units+100 < cLine):OpR X (compareOp op) (rC2 X.K (aX op)):=by
 intro pins s σ H x y v u Q I rx ry h;obtain ⟨F,G,a,b,r,ra,rb,h⟩:=h;have ra':=tV r ra;have rb':=tV r rb;generalize ea:view G a=va at h ra';generalize eb:view G b=vb at h rb';have fin:∀c:Bool,PV X.K H F Q (.bl c) G->EP X pins σ Q (.bool c) s:=λc q=>⟨.bl c,H,I,rfl,q.now r rfl⟩;have hin:∀(l:List D)(k:Bool->Prop),(nr va=true/\nrs l=true/\aW l<=60)->∀{vs:List V}{us:List Value},Reps X.K H (FA F G) l vs->Vals vs us->
   ∃e:Value->Bool,(∀z∈us,SeqAt.EqAt X.A.in1 s z v (e z))/\us.any e=isIn va l:=λl k hh {vs us} t rv=>
  Zq I (A:=X.A.in1) (by show X.A.units+1+64 < cLine;omega) hh.1 ra' rx hh.2.1 hh.2.2 t rv
 cases op with
 |Eq=>
  obtain ⟨⟨n1,n2,n3⟩,q⟩:=h;exact (xG I 60 X.A _ _ x y v u (by omega) n3 n1 n2 ra' rb' rx ry).1 _ _ _ _ (fin _ q)
 |NotEq=>
  obtain ⟨⟨n1,n2,n3⟩,q⟩:=h;exact (xG I 60 X.A _ _ x y v u (by omega) n3 n1 n2 ra' rb' rx ry).2.2 _ _ _ _ (fin _ q)
 |Lt=>
  have h:jE va vb (λc=>PV X.K H F Q (.bl c) G):=h;unfold jE at h;split at h
  ·have e1:x=.int _:=ra';have e2:y=.int _:=rb';subst e1;subst e2;obtain ⟨t,rfl⟩:=rx;obtain ⟨t',rfl⟩:=ry;exact lt_int (fin _ h)
  ·obtain ⟨e1,_⟩:=ra';obtain ⟨e2,_⟩:=rb';subst e1;subst e2;obtain ⟨t,rfl⟩:=rx;obtain ⟨t',rfl⟩:=ry;exact lt_str (fin _ h)
  ·exact h.elim
 |LtE=>
  have h:jF va vb (λc=>PV X.K H F Q (.bl c) G):=h;unfold jF at h;split at h
  ·have e1:x=.int _:=ra';have e2:y=.int _:=rb';subst e1;subst e2;obtain ⟨t,rfl⟩:=rx;obtain ⟨t',rfl⟩:=ry;exact le_int (fin _ h)
  ·obtain ⟨e1,_⟩:=ra';obtain ⟨e2,_⟩:=rb';subst e1;subst e2;obtain ⟨t,rfl⟩:=rx;obtain ⟨t',rfl⟩:=ry;exact PySem.P.le_str (fin _ h)
  ·exact h.elim
 |Gt=>
  have h:jG va vb (λc=>PV X.K H F Q (.bl c) G):=h;unfold jG at h;split at h
  ·have e1:x=.int _:=ra';have e2:y=.int _:=rb';subst e1;subst e2;obtain ⟨t,rfl⟩:=rx;obtain ⟨t',rfl⟩:=ry;exact gt_int (fin _ h)
  ·exact h.elim
 |GtE=>
  have h:jH va vb (λc=>PV X.K H F Q (.bl c) G):=h;unfold jH at h;split at h
  ·have e1:x=.int _:=ra';have e2:y=.int _:=rb';subst e1;subst e2;obtain ⟨t,rfl⟩:=rx;obtain ⟨t',rfl⟩:=ry;exact ge_int (fin _ h)
  ·exact h.elim
 |Is=>
  have h:jJ va vb (λc=>PV X.K H F Q (.bl c) G):=h;unfold jJ at h;split at h
  ·have e2:y=.non:=rb';subst e2;have q:∀c,(c=decide (x=.non))->PV X.K H F Q (.bl c) G->wpAny (model X.prog X.w) X.A (compareOp .Is v u) (EP X pins σ Q) X.xe s:=λc e q=>
    VD pins s σ H _ _ v u Q I rx ry ⟨rfl,by rw[<-e];exact q.now r rfl⟩
   refine q _ ?_ h;have:fW va=decide (x=.non):=by
    cases va with
    |non=>have e1:x=.non:=ra';subst e1;rfl
    |bl _=>have e1:x=.bl _:=ra';subst e1;rfl
    |int _=>have e1:x=.int _:=ra';subst e1;rfl
    |str _=>obtain ⟨e1,_⟩:=ra';subst e1;rfl
    |tup _=>obtain ⟨_,_,e1,_⟩:=ra';subst e1;rfl
    |lst _=>obtain ⟨_,_,e1,_⟩:=ra';subst e1;rfl
    |ref _=>have e1:x=.ref _:=ra';subst e1;rfl
    |scr _=>obtain ⟨_,e1,_⟩:=ra';subst e1;rfl
    |exn _=>obtain ⟨_,_,e1,_⟩:=ra';subst e1;rfl
    |obj _ _ _=>obtain ⟨_,_,_,e1,_⟩:=ra';subst e1;rfl
   rw[this]
  ·split at h
   ·have e1:x=.bl _:=ra';have e2:y=.bl _:=rb';subst e1;subst e2;exact Xq pins s σ H _ _ v u Q I rx ry ⟨_,_,rfl,rfl,h.now r rfl⟩
   ·exact h.elim
  ·exact h.elim
 |IsNot=>
  have h:jK va vb (λc=>PV X.K H F Q (.bl c) G):=h;unfold jK at h;split at h
  ·have e2:y=.non:=rb';subst e2;have q:∀c,(c=!decide (x=.non))->PV X.K H F Q (.bl c) G->wpAny (model X.prog X.w) X.A (compareOp .IsNot v u) (EP X pins σ Q) X.xe s:=λc e q=>
    VF pins s σ H _ _ v u Q I rx ry ⟨rfl,by rw[<-e];exact q.now r rfl⟩
   refine q _ ?_ h;have:fW va=decide (x=.non):=by
    cases va with
    |non=>have e1:x=.non:=ra';subst e1;rfl
    |bl _=>have e1:x=.bl _:=ra';subst e1;rfl
    |int _=>have e1:x=.int _:=ra';subst e1;rfl
    |str _=>obtain ⟨e1,_⟩:=ra';subst e1;rfl
    |tup _=>obtain ⟨_,_,e1,_⟩:=ra';subst e1;rfl
    |lst _=>obtain ⟨_,_,e1,_⟩:=ra';subst e1;rfl
    |ref _=>have e1:x=.ref _:=ra';subst e1;rfl
    |scr _=>obtain ⟨_,e1,_⟩:=ra';subst e1;rfl
    |exn _=>obtain ⟨_,_,e1,_⟩:=ra';subst e1;rfl
    |obj _ _ _=>obtain ⟨_,_,_,e1,_⟩:=ra';subst e1;rfl
   rw[this]
  ·split at h
   ·have e1:x=.bl _:=ra';have e2:y=.bl _:=rb';subst e1;subst e2;exact Xw pins s σ H _ _ v u Q I rx ry ⟨_,_,rfl,rfl,h.now r rfl⟩
   ·exact h.elim
  ·exact h.elim
 |In=>
  have h:fX va vb (λc=>PV X.K H F Q (.bl c) G):=h;unfold fX at h;split at h
  ·split at h
   ·obtain ⟨e1,_⟩:=ra';obtain ⟨e2,_⟩:=rb';subst e1;subst e2;obtain ⟨t,rfl⟩:=rx;obtain ⟨t',rfl⟩:=ry;exact in_str (by rw[DK];exact fin _ h)
   ·exact h.elim
  ·obtain ⟨hh,q⟩:=h;obtain ⟨p,vs,e2,q2,t⟩:=rb';subst e2;cases ry;obtain ⟨its,rv,pl,hz⟩:=I.list q2.sq;obtain ⟨e,he,hany⟩:=hin _ (λ_=>True) hh t rv;refine SeqAt.in_listAt e pl.isList (λw hw=>he w (by simpa using hw)) ?_;rw[show its.toArray.any e=its.any e by simp,hany];exact fin _ q
  ·obtain ⟨hh,q⟩:=h;obtain ⟨p,vs,e2,q2,t⟩:=rb';subst e2;cases ry;obtain ⟨its,rv,pl,hz⟩:=I.tuple q2.sq;obtain ⟨e,he,hany⟩:=hin _ (λ_=>True) hh t rv;refine SeqAt.in_tupleAt e pl (λw hw=>he w (by simpa using hw)) ?_;rw[show its.toArray.any e=its.any e by simp,hany];exact fin _ q
  ·exact h.elim
 |NotIn=>
  have h:fX va vb (λc=>PV X.K H F Q (.bl (!c)) G):=h;unfold fX at h;split at h
  ·split at h
   ·obtain ⟨e1,_⟩:=ra';obtain ⟨e2,_⟩:=rb';subst e1;subst e2;obtain ⟨t,rfl⟩:=rx;obtain ⟨t',rfl⟩:=ry;exact notIn_str (by rw[DK];exact fin _ h)
   ·exact h.elim
  ·obtain ⟨hh,q⟩:=h;obtain ⟨p,vs,e2,q2,t⟩:=rb';subst e2;cases ry;obtain ⟨its,rv,pl,hz⟩:=I.list q2.sq;obtain ⟨e,he,hany⟩:=hin _ (λ_=>True) hh t rv;refine SeqAt.notIn_listAt e pl.isList (λw hw=>he w (by simpa using hw)) ?_;rw[show its.toArray.any e=its.any e by simp,hany];exact fin _ q
  ·obtain ⟨hh,q⟩:=h;obtain ⟨p,vs,e2,q2,t⟩:=rb';subst e2;cases ry;obtain ⟨its,rv,pl,hz⟩:=I.tuple q2.sq;obtain ⟨e,he,hany⟩:=hin _ (λ_=>True) hh t rv;refine SeqAt.notIn_tupleAt e pl (λw hw=>he w (by simpa using hw)) ?_;rw[show its.toArray.any e=its.any e by simp,hany];exact fin _ q
  ·exact h.elim
end
section
variable {X:Cx}
def Zr(K:PF):R2:=λx y H Q=>∃F G a b,R K H F G/\Rep K H F a x/\Rep K H F b y/\cj (view G a) b (λd=>PV K H F Q d G)
theorem DN{K:PF}{H:Hp}{F:FZ}{ds:List D}{vs:List V}{i:Int}{d:D}(t:Reps K H F ds vs)(h:atI ds i=some d):∃v,atI vs i=some v/\Rep K H F d v:=by
 unfold atI at h ⊢;rw[<-t.length];cases e:ixN ds.length i with
 |none=>rw[e]at h;cases h
 |some j=>
  rw[e]at h;obtain ⟨v,e1,r⟩:=t.get (show ds[j]?=some d from h);exact ⟨v,e1,r⟩
theorem Zt:IxR X (Zr X.K):=by
 intro value slice pins s σ H x y v u Q I rx ry h hs;obtain ⟨F,G,a,b,r,ra,rb,h⟩:=h;generalize ea:view G a=va at h;unfold cj at h;split at h
 ·obtain ⟨p,vs,e,q,t⟩:=Rep.list r ra ea;subst e;have e2:y=.int _:=rb;subst e2;split at h
  ·rename_i d hd;obtain ⟨w,hw,rw'⟩:=DN t hd;exact Wz value slice pins s σ H _ _ v u Q I rx ry ⟨p,vs,_,w,rfl,rfl,q,hw,h.now r rw'⟩ hs
  ·exact h.elim
 ·cases gJ ea;obtain ⟨p,vs,e,q,t⟩:=ra;subst e;have e2:y=.int _:=rb;subst e2;split at h
  ·rename_i d hd;obtain ⟨w,hw,rw'⟩:=DN t hd;exact WD value slice pins s σ H _ _ v u Q I rx ry ⟨p,vs,_,w,rfl,rfl,q.sq,hw,h.now r rw'⟩ hs
  ·exact h.elim
 ·cases gK ea;obtain ⟨e,hl⟩:=ra;subst e;have e2:y=.int _:=rb;subst e2;split at h
  ·rename_i c hc;exact WF value slice pins s σ H _ _ v u Q I rx ry ⟨_,_,c,rfl,rfl,by rw[bQ];exact cM hl,hc,h.now r ⟨rfl,by show 1<=sz;decide⟩⟩ hs
  ·exact h.elim
 ·exact h.elim
theorem Zu(l:List Nat)(lo hi:Option Int):Txt.slice (tx l) lo hi=tx (cut l lo hi):=by
 have e:Builtin.Str.strSliceIndices lo hi 1 (tx l).length=sliceRange (sliceBounds lo hi none (tx l).length).1 (sliceBounds lo hi none (tx l).length).2.1 1:=by unfold Builtin.Str.strSliceIndices sliceBounds;cases lo <;> cases hi <;> rfl
 obtain ⟨h1,h2,h3⟩:=Bp lo hi (tx l).length;rw[h1,h2,sliceRange_one]at e;have e2:((Builtin.Str.strSliceIndices lo hi 1 (tx l).length).filterMap ((tx l).cps[·]?))=cut l lo hi:=by rw[e,pick_run];unfold cut;rw[bQ]
 unfold Txt.slice;split
 ·rename_i hh;rw[ae]at hh;have hl:=eq_of_beq hh.2;rw[e,al,List.length_range,bQ]at hl;have b1:HT.sIx l.length l.length hi<=l.length:=HT.Be _ _ (aw _) hi;unfold cut;by_cases hz:l=[]
  ·subst hz;simp
  ·have hp:0 < l.length:=List.length_pos_iff.mpr hz;have e3:HT.sIx l.length 0 lo=0:=by omega
   have e4:HT.sIx l.length l.length hi=l.length:=by omega
   rw[e3,e4];simp
 ·rw[e2]
theorem Zv{α:Type}(xs:List α)(lo hi:Option Int):(cut xs lo hi).length<=xs.length:=by unfold cut;rw[dE,de];omega
theorem Zw{prog:Program}{w:World}{A:Around}{E:Value->Shared->Prop}{s:Shared}{t sl:Addr}{items:Array Value}{vl vu:Value}{lo hi:Option Int}{Q:Value->Shared->Prop}(ht:IsTup s.heap t items)(hs:s.heap.IsSliceOf sl vl vu .none)(pl:IsPart vl lo)(pu:IsPart vu hi)
  (hw:HT.sIx items.size 0 lo=0/\HT.sIx items.size items.size hi=items.size) (h:Q (.ref t) s):wpAny (model prog w) A (getItem (.ref t) (.ref sl)) Q E s:=by
 obtain ⟨os,hos,hcs,hds⟩:=id hs;have hTs:s.TypeIs (.ref sl) "slice":=⟨os,hos,hcs⟩;unfold getItem;try with_reducible refine eI ?_
 first |refine ag (aS ?_) |skip
 refine ag (wpAny_sequenceKey ht.typeIs (by decide) ?_);refine ag (fb (name:=Str.ofString "__getitem__") ht.typeIs eT
  (fI eT ht.typeIs entry_tuple_getitem ?_ (args_tuple_getitem _ _)))
 show wpAny _ _ (Builtin.Tuple.tupleItemsOf (.ref t) >>= _) _ _ s;refine ag (tupleItemsOf_ ht ?_);refine ag (wpAny_typeOf hTs ?_);rw[if_pos (by decide)];refine ag (HT.Bj hs pl pu ?_);have hyes:(((HT.sIx items.size 0 lo:Nat):Int)==0&&(1:Int)==1&&(HT.sIx items.size items.size hi - HT.sIx items.size 0 lo)==items.size)=true:=by rw[hw.1,hw.2];simp
 show wpAny _ _ (if (((HT.sIx items.size 0 lo:Nat):Int)==0&&(1:Int)==1&&(HT.sIx items.size items.size hi - HT.sIx items.size 0 lo)==items.size)=true then _ else _) _ _ s;rw[if_pos hyes];refine ag (m:=Builtin.Tuple.tupleIsExact _) (ag (wpAny_typeOf ht.typeIs (aS ?_)));rw[if_pos (by decide)];exact ag (fx (aS ⟨_,rfl,aS h⟩))
theorem Zx:SlR X (λx lo hi H Q=>∃a xs,x=.ref a/\SqT X.K H a xs/\(HT.sIx xs.length 0 lo=0/\HT.sIx xs.length xs.length hi=xs.length)/\Q (.ref a) H):=by
 intro pins s σ H x v vl vu lo hi sl Q I rx hs pl pu h;obtain ⟨a,xs,rfl,hx,hw,q⟩:=h;cases rx;obtain ⟨its,r,ht,hz⟩:=I.tuple hx;have hlen:its.toArray.size=xs.length:=by rw[ar];exact r.length.symm
 exact ⟨"tuple",_,eT.lookup,ht.typeIs,Zw ht hs pl pu (by rw[hlen];exact hw) ⟨.ref a,H,I,rfl,q⟩⟩
theorem DP{K:PF}{H:Hp}{F:FZ}:∀ns:List Int,Reps K H F (ns.map D.int) (ns.map V.int)
 |[]=>rfl
 |n::ns=>⟨_,_,rfl,rfl,DP ns⟩
noncomputable def Zy(K:PF)(fz:Bool):V->Option Int->Option Int->Hp->VK->Prop:=λx lo hi H Q=>∃F G a,R K H F G/\Rep K H F a x/\eE fz (view G a) lo hi G (PV K H F Q)
theorem DQ{K:PF}{H:Hp}{F:FZ}{ds:List D}{vs:List V}(t:Reps K H F ds vs)(lo hi:Option Int):Reps K H F (cut ds lo hi) (d7 vs lo hi):=t.cut lo hi
theorem Zz(fz:Bool):SlR X (Zy X.K fz):=by
 intro pins s σ H x v vl vu lo hi sl Q I rx hs pl pu h;obtain ⟨F,G,a,r,ra,h⟩:=h;generalize ea:view G a=va at h;unfold eE at h;split at h
 ·obtain ⟨p,vs,e,q,t⟩:=Rep.list r ra ea;subst e;exact Bq pins s σ H _ v vl vu lo hi sl Q I rx hs pl pu ⟨p,vs,rfl,q,fB h r (DQ t lo hi)⟩
 ·rename_i ns;have ea':a=.scr ns:=by
   cases a with
   |ref p=>
    unfold view at ea;cases g:G p with
    |none=>simp only[g]at ea;cases ea
    |some o=>cases o;simp only[g]at ea;cases ea
   |_=>exact ea
  subst ea';obtain ⟨p,e,q⟩:=ra;subst e;refine Bq pins s σ H _ v vl vu lo hi sl Q I rx hs pl pu ⟨p,_,rfl,q.sq,fB h r ?_⟩;have e2:d7 (ns.map V.int) lo hi=(cut ns lo hi).map V.int:=by unfold d7 cut;rw[al,List.map_take,List.map_drop]
  rw[e2];exact DP (cut ns lo hi)
 ·cases gJ ea;obtain ⟨p,vs,e,q,t⟩:=id ra;subst e;by_cases hw:HT.sIx vs.length 0 lo=0/\HT.sIx vs.length vs.length hi=vs.length
  ·refine Zx pins s σ H _ v vl vu lo hi sl Q I rx hs pl pu ⟨p,vs,rfl,q.sq,hw,?_⟩;refine h.now r ?_;rename_i ds;have:cut ds lo hi=ds:=by
    unfold cut;rw[t.length,hw.1,hw.2];simp[<-t.length]
   rw[this];exact ra
  ·exact Ws pins s σ H _ v vl vu lo hi sl Q I rx hs pl pu ⟨p,vs,rfl,q.sq,hw,lM h r (DQ t lo hi)⟩
 ·cases gK ea;obtain ⟨e,hl⟩:=ra;subst e;refine Xv pins s σ H _ v vl vu lo hi sl Q I rx hs pl pu ⟨_,rfl,by rw[bQ];exact cM hl,?_⟩;rw[Zu];exact h.now r ⟨rfl,cb (Zv _ _ _) hl⟩
 ·exact h.elim
theorem DR{K:PF}{H:Hp}{F:FZ}{G:DH}{d:D}{v:V}{b:Bool}(r:R K H F G)(h:Rep K H F d v)(e:truth (view G d)=some b):qx K v H b:=by
 have h':=tV r h;generalize view G d=w at e h';cases w with
 |non=>have e1:v=.non:=h';subst e1;simp only[truth,aI]at e;exact e.symm
 |bl x=>have e1:v=.bl x:=h';subst e1;simp only[truth,aI]at e;exact e.symm
 |int i=>have e1:v=.int i:=h';subst e1;simp only[truth,aI]at e;exact e.symm
 |str l=>
  obtain ⟨e1,hl⟩:=h';subst e1;simp only[truth,aI]at e;refine ⟨by rw[bQ];exact cM hl,?_⟩;rw[bQ,<-e];cases l with
  |nil=>rfl
  |cons c l=>simp;omega
 |tup l=>
  obtain ⟨a,vs,e1,q,t⟩:=h';subst e1;simp only[truth,aI]at e;refine .inr (.inl ⟨vs,q.sq,?_⟩);rw[<-e];cases l with
  |nil=>have t:vs=[]:=t;subst t;rfl
  |cons c l=>obtain ⟨_,_,e2,_⟩:=t;subst e2;rfl
 |lst l=>
  obtain ⟨a,vs,e1,q,t⟩:=h';subst e1;simp only[truth,aI]at e;refine .inl ⟨vs,q.sq,?_⟩;rw[<-e];cases l with
  |nil=>have t:vs=[]:=t;subst t;rfl
  |cons c l=>obtain ⟨_,_,e2,_⟩:=t;subst e2;rfl
 |ref a=>simp[truth]at e
 |scr a=>simp[truth]at e
 |exn a=>simp[truth]at e
 |obj _ _ _=>simp[truth]at e
theorem tW{K:PF}{H:Hp}{F:FZ}:∀{ds:List D}{vs:List V}{bs:List Bool},bools ds=some bs->Reps K H F ds vs->vs=bs.map V.bl
 |[],_,bs,e,h=>by
  simp only[bools,aI]at e;subst e;exact h
 |d::ds,_,bs,e,⟨v,w,e1,h,t⟩=>by
  cases d with
  |bl b=>
   simp only[bools]at e;cases q:bools ds with
   |none=>rw[q]at e;cases e
   |some s=>
    rw[q]at e;cases e;have hv:v=.bl b:=h;rw[e1,hv,tW q t];rfl
  |_=>simp[bools]at e
theorem bC{K:PF}{H:Hp}{F:FZ}{d:D}{vs:List V}(t:Reps K H F [d] vs):∃v,vs=[v]/\Rep K H F d v:=by obtain ⟨v,r,e,h,t⟩:=t;have t:r=[]:=t;subst t;exact ⟨v,e,h⟩
noncomputable def iK(K:PF)(f:Bf):List V->Hp->VK->Prop:=λvs H Q=>∃F G ds,R K H F G/\Reps K H F ds vs/\opB f (ds.map (view G)) (λd=>PV K H F Q d G)
theorem map_one{G:DH}{ds:List D}{x:D}(h:ds.map (view G)=[x]):∃d,ds=[d]/\view G d=x:=by
 match ds,h with
 |[d],h=>exact ⟨d,rfl,by simpa using h⟩
theorem ZC:bH X (.builtin "len") (iK X.K .len):=by
 intro pins s σ H xs us Q I rs h;obtain ⟨F,G,ds,r,t,h⟩:=h;generalize ea:ds.map (view G)=va at h;simp only[opB,wg]at h;split at h
 ·obtain ⟨d,rfl,ev⟩:=map_one ea;obtain ⟨v,rfl,rv⟩:=bC t;obtain ⟨a,vs,e,q,t'⟩:=Rep.list r rv ev;subst e;exact Br pins s σ H _ us Q I rs ⟨a,vs,rfl,.inl q,by rw[<-t'.length];exact h.now r rfl⟩
 ·obtain ⟨d,rfl,ev⟩:=map_one ea;obtain ⟨v,rfl,rv⟩:=bC t;cases gJ ev;obtain ⟨a,vs,e,q,t'⟩:=rv;subst e;exact Br pins s σ H _ us Q I rs ⟨a,vs,rfl,.inr q.sq,by rw[<-t'.length];exact h.now r rfl⟩
 ·obtain ⟨d,rfl,ev⟩:=map_one ea;obtain ⟨v,rfl,rv⟩:=bC t;cases gK ev;obtain ⟨e,hl⟩:=rv;subst e;exact WP pins s σ H _ us Q I rs ⟨_,rfl,by rw[bQ];exact cM hl,by rw[bQ];exact h.now r rfl⟩
 ·exact h.elim
theorem ZD (hc:X.calm=true):bH X (.builtin "all") (iK X.K .all):=by
 intro pins s σ H xs us Q I rs h;obtain ⟨F,G,ds,r,t,h⟩:=h;generalize ea:ds.map (view G)=va at h;simp only[opB,qH]at h;split at h
 ·obtain ⟨d,rfl,ev⟩:=map_one ea;obtain ⟨v,rfl,rv⟩:=bC t;obtain ⟨a,vs,e,q,t'⟩:=Rep.list r rv ev;subst e;split at h
  ·rename_i bs hb;have e2:=tW hb t';subst e2;exact Xp hc pins s σ H _ us Q I rs ⟨a,bs,rfl,q,h.now r rfl⟩
  ·exact h.elim
 ·exact h.elim
theorem ZF:bH X (.type "int") (iK X.K .int):=by
 intro pins s σ H xs us Q I rs h;obtain ⟨F,G,ds,r,t,h⟩:=h;generalize ea:ds.map (view G)=va at h;simp only[opB,qI]at h;split at h
 ·obtain ⟨d,rfl,ev⟩:=map_one ea;obtain ⟨v,rfl,rv⟩:=bC t;cases Za ev;have e:v=.bl _:=rv;subst e;exact Av pins s σ H _ us Q I rs (.inr ⟨_,rfl,h.now r rfl⟩)
 ·obtain ⟨d,rfl,ev⟩:=map_one ea;obtain ⟨v,rfl,rv⟩:=bC t;cases d9 ev;have e:v=.int _:=rv;subst e;exact Av pins s σ H _ us Q I rs (.inl ⟨_,rfl,h.now r rfl⟩)
 ·obtain ⟨d,rfl,ev⟩:=map_one ea;obtain ⟨v,rfl,rv⟩:=bC t;cases gK ev;obtain ⟨e,hl⟩:=rv;subst e;split at h
  ·rename_i n hn;exact Xr pins s σ H _ us Q I rs ⟨_,n,rfl,hn,by rw[bQ];exact h.1,h.2.now r rfl⟩
  ·exact h.elim
 ·exact h.elim
theorem ZG:bH X (.type "tuple") (iK X.K .tuple):=by
 intro pins s σ H xs us Q I rs h;obtain ⟨F,G,ds,r,t,h⟩:=h;generalize ea:ds.map (view G)=va at h;simp only[opB,wj]at h;split at h
 ·obtain ⟨d,rfl,ev⟩:=map_one ea;obtain ⟨v,rfl,rv⟩:=bC t;obtain ⟨a,vs,e,q,t'⟩:=Rep.list r rv ev;subst e;exact Bu pins s σ H _ us Q I rs ⟨a,vs,rfl,.inl ⟨q,lM h r t'⟩⟩
 ·obtain ⟨d,rfl,ev⟩:=map_one ea;obtain ⟨v,rfl,rv⟩:=bC t;cases gJ ev;obtain ⟨a,vs,e,q,t'⟩:=id rv;subst e;exact Bu pins s σ H _ us Q I rs ⟨a,vs,rfl,.inr ⟨q.sq,h.now r rv⟩⟩
 ·exact h.elim
noncomputable def DW(K:PF)(fz:Bool)(f:Lf):List V->Hp->VK->Prop:=λvs H Q=>∃F G ds,R K H F G/\Reps K H F ds vs/\cJ f (ds.map (view G)) (λxs=>mk fz xs G (PV K H F Q))
theorem ZJ(l:List Nat):∀(us:List Value),us.length=l.length->(∀(j:Nat)(v:Value),us[j]?=some v->∃(c:Nat)(u:Tok),l[j]?=some c/\v=Value.str ⟨#[c]⟩ u)->Vals (l.map λc=>V.str (tx [c])) us:=by
 induction l with
 |nil=>intro us h _;cases us with |nil=>exact .nil |cons _ _=>cases h
 |cons c l ih=>
  intro us h q;cases us with
  |nil=>cases h
  |cons u us=>
   obtain ⟨c',t,e1,e2⟩:=q 0 u (by simp);have e1:c=c':=by simpa using e1
   subst e1;exact .cons ⟨t,e2⟩ (ih us (by simpa using h) λj v hv=>by simpa using q (j+1) v (by simpa using hv))
theorem ZK (hc:X.calm=true):bH X (.type "list") (λxs H Q=>∃l:List Nat,xs=[.str (tx l)]/\l.length<=sizeLine/\∀p,H p=none->Q (.ref p) (upd H p (.lst (l.map λc=>V.str (tx [c]))))):=by
 intro pins s σ H xs us Q I r h;obtain ⟨l,rfl,hz,q⟩:=h;obtain ⟨u,rfl,t,rfl⟩:=vals1 r;have hz':(tx l).cps.size<=sizeLine:=by simpa using hz
 refine call_list_str (hn:=hz') (I.ok.hd hc) (tx l) t λh' tk acc' c' kp e hi=>?_;have hv:Vals (l.map λc=>V.str (tx [c])) acc'.toList:=by
  refine ZJ l _ ?_ λj v hv=>?_
  ·rw[dP,hi.1];simp
  ·obtain ⟨c,u,e1,e2⟩:=hi.2 j v (by rw[<-gp];exact hv);exact ⟨c,u,by simpa using e1,e2⟩
 exact ⟨.ref s.heap.objs.size,_,I.laid (t':=tk) kp (aw _) (show ObjOk X.prog X.w _ h' _ (.lst _) from ⟨by rw[al];exact hz,acc'.toList,c',hv,by rw[Array.toArray_toList];exact e⟩),rfl,q _ (I.hok.fresh (aw _))⟩
theorem xH{K:PF}{H:Hp}{F:FZ}:∀l:List Nat,Reps K H F (l.map λc=>D.str [c]) (l.map λc=>V.str (tx [c]))
 |[]=>rfl
 |c::l=>⟨_,_,rfl,⟨rfl,by show 1<=sz;decide⟩,xH l⟩
theorem ZL (hc:X.calm=true) (fz:Bool):bH X (.type "list") (DW X.K fz .list):=by
 intro pins s σ H xs us Q I rs h;obtain ⟨F,G,ds,r,t,h⟩:=h;generalize ea:ds.map (view G)=va at h;simp only[cJ,ww]at h;split at h
 ·obtain ⟨d,rfl,ev⟩:=map_one ea;obtain ⟨v,rfl,rv⟩:=bC t;obtain ⟨a,vs,e,q,t'⟩:=Rep.list r rv ev;subst e;exact Bt pins s σ H _ us Q I rs ⟨a,vs,rfl,.inl q,fB h r t'⟩
 ·obtain ⟨d,rfl,ev⟩:=map_one ea;obtain ⟨v,rfl,rv⟩:=bC t;cases gJ ev;obtain ⟨a,vs,e,q,t'⟩:=id rv;subst e;exact Bt pins s σ H _ us Q I rs ⟨a,vs,rfl,.inr q.sq,fB h r t'⟩
 ·obtain ⟨d,rfl,ev⟩:=map_one ea;obtain ⟨v,rfl,rv⟩:=bC t;cases gK ev;obtain ⟨e,hl⟩:=rv;subst e;exact ZK hc pins s σ H _ us Q I rs ⟨_,rfl,cM hl,fB h r (xH _)⟩
 ·exact h.elim
theorem xJ{K:PF}{H:Hp}{F:FZ}:∀{ds:List D}{vs:List V}{ls:List (List Nat)},bw ds=some ls->Reps K H F ds vs->vs=(ls.map tx).map V.str
 |[],_,bs,e,h=>by
  simp only[bw,aI]at e;subst e;exact h
 |d::ds,_,bs,e,⟨v,w,e1,h,t⟩=>by
  cases d with
  |str b=>
   simp only[bw]at e;cases q:bw ds with
   |none=>rw[q]at e;cases e
   |some s=>
    rw[q]at e;cases e;obtain ⟨hv,_⟩:=h;rw[e1,hv,xJ q t];rfl
  |_=>simp[bw]at e
theorem DX{K:PF}{H:Hp}{F:FZ}:∀{ds:List D}{vs:List V}{ns:List Int},cu ds=some ns->Reps K H F ds vs->vs=ns.map V.int
 |[],vs,ns,e,t=>by
  simp only[cu,aI]at e;subst e;have t:vs=[]:=t;rw[t];rfl
 |d::ds,vs,ns,e,t=>by
  obtain ⟨v,r,e1,h,t⟩:=t;cases d with
  |int b=>
   simp only[cu]at e;cases q:cu ds with
   |none=>rw[q]at e;cases e
   |some s=>
    rw[q]at e;cases e;have hv:v=.int b:=h;rw[e1,hv,DX q t];rfl
  |_=>simp[cu]at e
theorem DY:∀{ns:List Int}{its:List Value},Vals (ns.map V.int) its->IntsAre its ns
 |[],its,h=>by cases h;exact .nil
 |n::ns,its,h=>by
  cases h with
  |cons a b=>
   obtain ⟨t,rfl⟩:=a;exact .cons n t (DY b)
theorem Ea:∀{ls:List (List Nat)}{its:List Value},Vals ((ls.map tx).map V.str) its->StrsAre its (ls.map tx)
 |[],its,h=>by cases h;exact .nil
 |n::ns,its,h=>by
  cases h with
  |cons a b=>
   obtain ⟨t,rfl⟩:=a;exact .cons _ t (Ea b)
theorem Eb{K:PF}{H:Hp}{F:FZ}:∀{ds:List D}{vs:List V}{ls:List (List Nat)},bw ds=some ls->Reps K H F ds vs->∀l∈ls,l.length<=sz
 |[],vs,ls,e,t=>by simp only[bw,aI]at e;subst e;intro l hl;cases hl
 |d::ds,vs,ls,e,t=>by
  obtain ⟨v,r,e1,h,t⟩:=t;cases d with
  |str b=>
   simp only[bw]at e;cases q:bw ds with
   |none=>rw[q]at e;cases e
   |some s=>
    rw[q]at e;cases e;intro l hl;rcases bo.mp hl with e |hl
    ·rw[e];exact h.2
    ·exact Eb q t l hl
  |_=>simp[bw]at e
theorem Ec(val:Nat->List Nat):∀k,argBest (λi j=>decide (val i < val j)) k<=k/\∀j,j<=k->¬val j < val (argBest (λi j=>decide (val i < val j)) k)
 |0=>⟨aw _,λj hj=>by
  have:j=0:=by omega
  subst this;exact List.lt_irrefl _⟩
 |k+1=>by
  obtain ⟨h1,h2⟩:=Ec val k;simp only[argBest];by_cases hc:val (k+1) < val (argBest (λi j=>decide (val i < val j)) k)
  ·rw[if_pos (by simpa using hc)];refine ⟨aw _,λj hj=>?_⟩;rcases Nat.lt_or_ge j (k+1) with hlt |hge
   ·exact λh=>h2 j (by omega) (List.lt_trans h hc)
   ·have:j=k+1:=by omega
    subst this;exact List.lt_irrefl _
  ·rw[if_neg (by simpa using hc)];refine ⟨by omega,λj hj=>?_⟩;rcases Nat.lt_or_ge j (k+1) with hlt |hge
   ·exact h2 j (by omega)
   ·have:j=k+1:=by omega
    subst this;exact hc
section
variable {prog:Program} {w:World} {A:Around} {E:Value->Shared->Prop} {s:Shared} {l:Addr}
theorem tX:∀{its:List Value}{ls:List (List Nat)}{i:Nat}{v:Value},StrsAre its (ls.map tx)->its[i]?=some v->∃t,v=.str (tx (ls.getD i [])) t
 |[],ls,i,v,_,h=>by simp at h
 |x::its,[],i,v,hs,h=>by cases hs
 |x::its,a::ls,0,v,hs,h=>by
  cases hs with
  |cons y t q=>exact ⟨t,by simpa using h.symm⟩
 |x::its,a::ls,i+1,v,hs,h=>by
  cases hs with
  |cons y t q=>
   have:=tX (i:=i) (v:=v) q (by simpa using h);simpa using this
theorem ZM{Q:Value->Shared->Prop}{its:List Value}{ls:List (List Nat)}(hh:A.handled=none)(hl:s.heap.IsList l its.toArray)(hs:StrsAre its (ls.map tx))(hn:its.length=ls.length)(hne:0 < ls.length)
  (h:∀(m:List Nat)(t:Tok)(h':Heap)(tk:Nat),m∈ls->(∀a,a∈ls->¬a < m)->(∀b o,s.heap.get? b=some o->h'.get? b=some o)->Q (.str (tx m) t) { s with heap:=h',toks:=tk }):
  wpAny (model prog w) A (call (.builtin "min") [.ref l]) Q E s:=by
 have hlt:l < s.heap.objs.size:=by obtain ⟨_,e,_⟩:=hl;exact ay e
 refine call_min_walk (wpAny_pyIter_list hl ?_);refine ⟨_,_,_,_,_,_,λi j=>decide (ls.getD i [] < ls.getD j []),rfl,Walks.list (A:=A.in1) hh _ l (ca hlt) its.toArray,⟨⟨_,a9 _ rfl,rfl,rfl⟩,hl.push _⟩,?_,?_,?_,?_⟩
 ·intro b hb;show b < (s.heap.push _).objs.size;rw[dL];rcases bo.mp hb with rfl |hb
  ·exact gs _
  ·rcases bo.mp hb with rfl |hb
   ·exact Nat.lt_succ_of_lt hlt
   ·cases hb
 ·simpa [hn] using hne
 ·intro i j vi vj s Q E hi hj h;obtain ⟨t,rfl⟩:=tX hs (by simpa using hi);obtain ⟨u,rfl⟩:=tX hs (by simpa using hj);exact richCompare_gives (op:=.Lt) (typeIs_str s _ t) (typeIs_str s _ u) F.slot_str_lt F.entry_str_lt (F.args_str_lt_2 _ _) (gives_str_lt _ _ t u) (λe=>nomatch e) h
 ·intro v h' tk hP hk;obtain ⟨t,rfl⟩:=tX hs (show its[_]?=some v by rw[<-List.getElem?_toArray];exact hP);obtain ⟨b1,b2⟩:=Ec (λi=>ls.getD i []) (its.toArray.size - 1);have hsz:its.toArray.size=ls.length:=by simpa using hn
  refine h _ t h' tk ?_ (λa ha=>?_) (old_kept hk)
  ·rw[fq,bS (by omega)];exact ee _
  ·obtain ⟨j,hj,rfl⟩:=List.getElem_of_mem ha;have:=b2 j (by omega);rwa [show ls.getD j []=ls[j] by rw[fq,bS hj];rfl]at this
end
theorem ZP (hc:X.calm=true):bH X (.builtin "min") (λxs H Q=>∃(p:Addr) (ns:List Int),xs=[.ref p]/\SqL X.K H p (ns.map V.int)/\ns≠[]/\∀m,m∈ns->(∀a,a∈ns->m<=a)->Q (.int m) H):=by
 intro pins s σ H xs us Q I r h;obtain ⟨p,ns,rfl,hq,hne,q⟩:=h;obtain ⟨u,rfl,ru⟩:=vals1 r;cases ru;obtain ⟨its,rv,pl,hz⟩:=I.list hq;have hi:=DY rv;obtain ⟨xs,ex⟩:=hi.allInts.items;have hl:=pl.isList;rw[ex]at hl;have e1:xs.toList.map (·.1)=ns:=by rw[<-PySem.nums_intItems,<-ex];exact hi.numsOf
 have hsz:0 < xs.size:=by have:=List.length_pos_iff.mpr hne;rw[<-e1,al,dP]at this;exact this
 refine PySem.min_intList (I.ok.hd hc) hl hsz λv h' tk hv hk=>?_;obtain ⟨t,rfl⟩:=PySem.intItems_at hv;obtain ⟨b1,b2⟩:=PySem.argBest_lt (PySem.numAt xs) (xs.size - 1);refine ⟨.int _,H,I.kept hk,⟨t,rfl⟩,q _ ?_ λa ha=>?_⟩
 ·rw[<-e1,PySem.numAt_eq];exact PySem.getD_mem (by rw[al,dP];omega)
 ·rw[<-e1]at ha;obtain ⟨j,hj,rfl⟩:=PySem.mem_getD ha;rw[al,dP]at hj;rw[<-PySem.numAt_eq];exact b2 j (by omega)
theorem ZQ (hc:X.calm=true):bH X (.builtin "min") (λxs H Q=>∃(p:Addr) (ls:List (List Nat)),xs=[.ref p]/\SqL X.K H p ((ls.map tx).map V.str)/\ls≠[]/\∀m,m∈ls->(∀a,a∈ls->¬a < m)->Q (.str (tx m)) H):=by
 intro pins s σ H xs us Q I r h;obtain ⟨p,ls,rfl,hq,hne,q⟩:=h;obtain ⟨u,rfl,ru⟩:=vals1 r;cases ru;obtain ⟨its,rv,pl,hz⟩:=I.list hq;have hlen:its.length=ls.length:=by rw[<-rv.length];simp
 refine ZM (I.ok.hd hc) pl.isList (Ea rv) hlen (List.length_pos_iff.mpr hne) λm t h' tk h1 h2 hk=>?_;exact ⟨.str (tx m),H,I.kept hk,⟨t,rfl⟩,q m h1 h2⟩
theorem ZR{ds:List D}{ls:List (List Nat)}(h0:cu ds=none)(h1:bw ds=some ls):ls≠[]:=by
 rintro rfl;cases ds with
 |nil=>simp[cu]at h0
 |cons x y=>cases x <;> simp only[bw]at h1 <;> first | (cases h1;done) | (cases hd:bw y <;> rw[hd]at h1 <;> cases h1)
theorem ZS (hc:X.calm=true):bH X (.builtin "min") (iK X.K .min):=by
 intro pins s σ H xs us Q I rs h;obtain ⟨F,G,ds,r,t,h⟩:=h;generalize ea:ds.map (view G)=va at h;simp only[opB,lE]at h;split at h
 ·obtain ⟨d,rfl,ev⟩:=map_one ea;obtain ⟨v,rfl,rv⟩:=bC t;obtain ⟨a,vs,e,q,t'⟩:=Rep.list r rv ev;subst e;split at h
  ·rename_i ns hb;have e2:=DX hb t';subst e2;exact ZP hc pins s σ H _ us Q I rs ⟨a,ns,rfl,q,h.1,λm h1 h2=>(h.2 m h1 h2).now r rfl⟩
  ·split at h
   ·rename_i hb0 _ ls hb;have e2:=xJ hb t';have hsz:=Eb hb t';subst e2;refine ZQ hc pins s σ H _ us Q I rs ⟨a,ls,rfl,q,?_,λm h1 h2=>(h m h1 h2).now r ⟨rfl,hsz m h1⟩⟩;exact ZR (by assumption) hb
   ·exact h.elim
 ·exact h.elim
theorem ZV:bootBuiltins "min"=some (.builtin "min"):=by ac_rfl
theorem ZW:bH X (.type "str") (iK X.K .str):=by
 intro pins s σ H xs us Q I r h;obtain ⟨F,G,ds,rr,t,h⟩:=h;generalize ea:ds.map (view G)=va at h;simp only[opB,wu]at h;split at h
 ·rename_i i;obtain ⟨d',rfl,ev⟩:=map_one ea;obtain ⟨v',rfl,rv⟩:=bC t;have e1:=d9 ev;subst e1;have e2:v'=.int i:=rv;subst e2;obtain ⟨⟨h0,h1⟩,h2⟩:=h;have hm:(i.toNat:Int)=i:=Int.toNat_of_nonneg h0;have hl:(gO i.toNat).length<=3:=by
   have:=digits_le ⟨i.toNat,by omega⟩;unfold gO;rw[dP];exact this
  have hs:=h2.now rr (v:=.str (tx (gO i.toNat))) ⟨rfl,by have hz:sz=1000000:=rfl;omega⟩;have ht:tx (gO i.toNat)=vW i.toNat:=(vM _).symm;rw[ht]at hs;exact YF pins s σ H _ us Q I r ⟨i.toNat,by rw[hm],by omega,hs⟩
 ·exact h.elim
noncomputable def dU:D->Option String
 |.non=>some "NoneType"
 |.bl _=>some "bool"
 |.int _=>some "int"
 |.str _=>some "str"
 |.tup _=>some "tuple"
 |.lst _=>some "list"
 |_=>none
theorem ZX{K:PF}{H:Hp}{F:FZ}{G:DH}{d:D}{v:V}{T:String}(r:R K H F G)(h:Rep K H F d v)(e:dU (view G d)=some T):TyOf K H v (.type T):=by
 have h':=tV r h;generalize view G d=w at e h';cases w with
 |non=>have e1:v=.non:=h';subst e1;simp only[dU,aI]at e;subst e;exact .non
 |bl x=>have e1:v=.bl x:=h';subst e1;simp only[dU,aI]at e;subst e;exact .bl x
 |int i=>have e1:v=.int i:=h';subst e1;simp only[dU,aI]at e;subst e;exact .int i
 |str l=>obtain ⟨e1,hl⟩:=h';subst e1;simp only[dU,aI]at e;subst e;exact .str _
 |tup l=>obtain ⟨a,vs,e1,q,t⟩:=h';subst e1;simp only[dU,aI]at e;subst e;exact .tup q.it
 |lst l=>obtain ⟨a,vs,e1,q,t⟩:=h';subst e1;simp only[dU,aI]at e;subst e;exact .lst q.2
 |ref a=>simp[dU]at e
 |scr a=>simp[dU]at e
 |exn a=>simp[dU]at e
 |obj _ _ _=>simp[dU]at e
def ZZ (K:PF):Prop:=∀T t:String,T∈["NoneType","bool","int","str","tuple","list"]->fY t=true->PySem.W.kitOne K (.type T) (.type t)=some (T==t||(T=="bool"&&t=="int"))
theorem Z0{K:PF}:ZZ K:=by intro T t hT ht;simp only[bo,List.not_mem_nil,or_false]at hT;simp only[fY,cp,av]at ht;rcases hT with rfl |rfl |rfl |rfl |rfl |rfl <;> rcases ht with (((rfl |rfl) |rfl) |rfl) |rfl <;> (with_unfolding_all rfl)
theorem Z1 {d:D} {t:String} {b:Bool} (e:isT t d=some b):∃T,dU d=some T/\T∈["NoneType","bool","int","str","tuple","list"]/\(fY t=true->b=(T==t||(T=="bool"&&t=="int"))):=by
 have comm:∀a b:String,(a==b)=(b==a):=λa b=>by rw[Bool.eq_iff_iff,av,av];exact ⟨Eq.symm,Eq.symm⟩
 cases d with
 |non=>
  refine ⟨"NoneType",rfl,by simp,λht=>?_⟩;simp only[isT,aI]at e;simp only[fY,cp,av]at ht;subst e;rcases ht with (((rfl |rfl) |rfl) |rfl) |rfl <;> rfl
 |bl _=>
  refine ⟨"bool",rfl,by simp,λht=>?_⟩;simp only[isT,aI]at e;rw[<-e,comm t "bool"];rfl
 |int _=>
  refine ⟨"int",rfl,by simp,λht=>?_⟩;simp only[isT,aI]at e;rw[<-e,comm t "int"];simp
 |str _=>
  refine ⟨"str",rfl,by simp,λht=>?_⟩;simp only[isT,aI]at e;rw[<-e,comm t "str"];simp
 |tup _=>
  refine ⟨"tuple",rfl,by simp,λht=>?_⟩;simp only[isT,aI]at e;rw[<-e,comm t "tuple"];simp
 |lst _=>
  refine ⟨"list",rfl,by simp,λht=>?_⟩;simp only[isT,aI]at e;rw[<-e,comm t "list"];simp
 |ref a=>simp[isT]at e
 |scr a=>simp[isT]at e
 |exn a=>simp[isT]at e
 |obj _ _ _=>simp[isT]at e
theorem Ed(s:List Nat):∀ls:List (List Nat),Str.join (tx s) (ls.map tx)=tx (eF s ls)
 |[]=>rfl
 |[x]=>rfl
 |x::y::r=>by
  have ih:=Ed s (y::r);show tx x++tx s++Str.join (tx s) ((y::r).map tx)=_;rw[ih,qz,qz];rfl
theorem Ef(s:List Nat):∀ls:List (List Nat),(eF s ls).length<=(ls.map (·.length)).sum+ls.length * s.length
 |[]=>by simp[eF]
 |[x]=>by simp[eF]
 |x::y::r=>by
  have ih:=Ef s (y::r);simp only[eF,bq,ce,List.sum_cons,eA]at ih ⊢;have:(r.length+1+1) * s.length=(r.length+1) * s.length+s.length:=by rw[Nat.succ_mul]
  omega
noncomputable def iM(K:PF)(m:Mf):V->List V->Hp->VK->Prop:=λx vs H Q=>∃F G d ds,R K H F G/\Rep K H F d x/\Reps K H F ds vs/\opM m d ds G (PV K H F Q)
theorem Z2:MtR X "str.join" (iM X.K .join):=by
 intro pins s σ H x xs v us Q I rx rs h;obtain ⟨F,G,d,ds,r,rd,t,h⟩:=h;simp only[opM]at h;generalize ea:ds.map (view G)=va at h;simp only[qK]at h;split at h
 ·obtain ⟨d',rfl,ev⟩:=map_one ea;obtain ⟨v',rfl,rv⟩:=bC t;obtain ⟨a,vs,e,q,t'⟩:=Rep.list r rv ev;subst e;obtain ⟨e1,hl⟩:=rd;subst e1;split at h
  ·rename_i ls hls;have e2:=xJ hls t';subst e2;refine Xc pins s σ H _ _ v us Q I rx rs ⟨_,a,_,rfl,rfl,q,?_,?_⟩
   ·have hz:=h.1;rw[gd,al,bQ,show (λx:Str=>x.length)∘tx=λl=>l.length from funext bQ];have:sz=1000000:=rfl;omega
   ·rw[Ed];exact h.2.now r ⟨rfl,cb (Ef _ _) h.1⟩
  ·exact h.elim
 ·exact h.elim
theorem Z3:MtM X "list.append" (iM X.K .append):=by
 intro pins s σ H x xs v us Q I rx rs h;obtain ⟨F,G,d,ds,r,rd,t,h⟩:=h;simp only[opM,qL]at h;split at h
 ·obtain ⟨v',rfl,rv⟩:=bC t;have e1:x=.ref _:=rd;subst e1;split at h
  ·rename_i ds0 hg;obtain ⟨vs,q,t'⟩:=r.lst hg;refine WT pins s σ H _ _ v us Q I rx rs ⟨_,vs,v',rfl,rfl,q,?_,?_⟩
   ·rw[<-t'.length];exact bb h.1 szl
   ·exact h.2 _ _ _ (iG r hg) (r.write hg (t'.append (Reps.cons rv Reps.nil))) rfl
  ·exact h.elim
 ·exact h.elim
theorem Z4:MtR X "list.count" (iM X.K .count):=by
 intro pins s σ H x xs v us Q I rx rs h;obtain ⟨F,G,d,ds,r,rd,t,h⟩:=h;simp only[opM]at h;generalize ea:view G d=va at h;simp only[qO]at h;split at h
 ·obtain ⟨a,vs,e,q,t'⟩:=Rep.list r rd ea;subst e;obtain ⟨v',rfl,rv⟩:=bC t;have e2:v'=.bl true:=rv;subst e2;split at h
  ·rename_i bs hbs;have e3:=tW hbs t';subst e3;exact Yy pins s σ H _ _ v us Q I rx rs ⟨a,bs,rfl,rfl,q,h.now r rfl⟩
  ·exact h.elim
 ·exact h.elim
theorem Z5:MtR X "list.index" (iM X.K .index):=by
 intro pins s σ H x xs v us Q I rx rs h;obtain ⟨F,G,d,ds,r,rd,t,h⟩:=h;simp only[opM]at h;generalize ea:view G d=va at h;simp only[qP]at h;split at h
 ·obtain ⟨a,vs,e,q,t'⟩:=Rep.list r rd ea;subst e;obtain ⟨v',rfl,rv⟩:=bC t;have e2:v'=.bl true:=rv;subst e2;split at h
  ·rename_i bs hbs;have e3:=tW hbs t';subst e3;exact YB pins s σ H _ _ v us Q I rx rs ⟨a,bs,rfl,rfl,q,h.1,h.2.now r rfl⟩
  ·exact h.elim
 ·exact h.elim
noncomputable def Z6:V->List V->Hp->VK->Prop:=λx vs H Q=>∃(l:Addr)(xs:List V)(i:Int)(y:V),x=.ref l/\vs=[.int i,y]/\H l=some (.lst xs)/\xs.length < sizeLine/\0<=i/\i<=1000000/\Q .non (upd H l (.lst (xs.take i.toNat++y::xs.drop i.toNat)))
theorem Z7{its:List Value}{i:Int}{u:Value}(h:0<=i):(its.toArray.extract 0 (if i < 0 then (i+(its.toArray.size:Int)).toNat else min i.toNat its.toArray.size)).push u++its.toArray.extract (if i < 0 then (i+(its.toArray.size:Int)).toNat else min i.toNat its.toArray.size)=(its.take i.toNat++u::its.drop i.toNat).toArray:=by
 rw[if_neg (by omega),PySem.W.kl_ins_eq,ar];by_cases hc:i.toNat<=its.length
 ·rw[Nat.min_eq_left hc]
 ·rw[Nat.min_eq_right (by omega),eg (aw _),List.drop_of_length_le (aw _),eg (by omega),List.drop_of_length_le (by omega)]
theorem Z8{i:Int}(h0:0<=i)(h1:i<=1000000):¬(!Builtin.List.listFitsIndex i)=true:=by
 have:Builtin.List.listFitsIndex i=true:=by unfold Builtin.List.listFitsIndex;rw[ae];exact ⟨aT (by omega),aT (by omega)⟩
 rw[this];decide
theorem Z9:MtM X "list.insert" Z6:=by
 intro pins s σ H x vs v us Q I rx rv h;obtain ⟨l,xs,i,y,rfl,rfl,hH,hz,h0,h1,q⟩:=h;cases rx;cases rv with
 |cons r1 rv=>
  obtain ⟨t,rfl⟩:=r1;obtain ⟨u,rfl,ru⟩:=L2.Vals.one rv;obtain ⟨z,its,m,r,hl,e⟩:=I.lstM hH;refine fy PySem.F.slot_list_insert ⟨_,e,rfl⟩ PySem.F.entry_list_insert (PySem.F.args_list_insert_3 _ _ _) (PySem.AutoSeq1.list_insert_list_int_val_1 l its.toArray m i t u (Z8 h0 h1) (by rw[ar];omega)) ⟨e,?_⟩;refine ⟨.non,_,I.lset (its':=its.take i.toNat++u::its.drop i.toNat) hH e (Z7 h0) ((r.take _).append (.cons ru (r.drop _))) ?_,rfl,q⟩;rw[bq,eA,dE,de];omega
theorem aaa:MtM X "list.insert" (iM X.K .insert):=by
 intro pins s σ H x xs v us Q I rx rs h;obtain ⟨F,G,d,ds,r,rd,t,h⟩:=h;simp only[opM,qN]at h;split at h
 ·rename_i i y;obtain ⟨v1,r1,rfl,rv1,t⟩:=t;obtain ⟨v',rfl,rv⟩:=bC t;have e1:x=.ref _:=rd;subst e1;have e2:v1=.int i:=rv1;subst e2;split at h
  ·rename_i ds0 hg;obtain ⟨h1,h2,h3,h4⟩:=h;obtain ⟨vs,q,t'⟩:=r.lst hg;refine Z9 pins s σ H _ _ v us Q I rx rs ⟨_,vs,i,v',rfl,rfl,q,?_,h2,h3,?_⟩
   ·rw[<-t'.length];exact bb h1 szl
   ·exact h4 _ _ _ (iG r hg) (r.write hg ((t'.take _).append (Reps.cons rv (t'.drop _)))) rfl
  ·exact h.elim
 ·exact h.elim
theorem aab:MtM X "list.pop" (iM X.K .pop):=by
 intro pins s σ H x xs v us Q I rx rs h;obtain ⟨F,G,d,ds,r,rd,t,h⟩:=h;simp only[opM,wy]at h;split at h
 ·rename_i i;obtain ⟨v',rfl,rv⟩:=bC t;have e1:x=.ref _:=rd;subst e1;have e2:v'=.int i:=rv;subst e2;split at h
  ·rename_i ds0 hg;obtain ⟨h1,h2,h3⟩:=h;obtain ⟨vs,q,t'⟩:=r.lst hg;split at h3
   ·rename_i y hy;obtain ⟨u,hu,ru⟩:=t'.get hy;have hlt:i.toNat < vs.length:=(am.mp hu).1;refine W2 pins s σ H _ _ v us Q I rx rs ⟨_,vs,i,i.toNat,u,rfl,rfl,q,by omega,by omega,?_,hu,?_⟩
    ·unfold seqIndex?;have e3:¬i < 0:=by omega
     simp[e3];omega
    ·rw[List.eraseIdx_eq_take_drop_succ];rw[List.eraseIdx_eq_take_drop_succ]at h3;have rw2:=r.write hg ((t'.take i.toNat).append (t'.drop (i.toNat+1)));exact h3 _ _ _ (iG r hg) rw2 (Rep.ext (iG r hg) ru)
   ·exact h3.elim
  ·exact h.elim
 ·exact h.elim
theorem aac{K:PF}{H:Hp}{F:FZ}{G:DH}{d:D}{v:V}{ds:List D}(r:R K H F G)(h:Rep K H F d v)(e:view G d=.lst ds):∃a vs,v=.ref a/\H a=some (.lst vs)/\Reps K H F ds vs:=by
 cases d with
 |lst xs=>
  have e':D.lst xs=.lst ds:=e;cases e';obtain ⟨a,vs,e1,q,t⟩:=h;exact ⟨a,vs,e1,q.2,t⟩
 |ref p=>
  have hv:v=.ref p:=h;unfold view at e;cases g:G p with
  |none=>simp only[g]at e;cases e
  |some o=>
   cases o with
   |lst xs=>
    simp only[g]at e;cases e;obtain ⟨vs,q,t⟩:=r.lst g;exact ⟨p,vs,hv,q,t⟩
 |_=>cases (show _=D.lst ds from e)
theorem aad:MtM X "list.extend" (iM X.K .extend):=by
 intro pins s σ H x xs v us Q I rx rs h;obtain ⟨F,G,d,ds,r,rd,t,h⟩:=h;simp only[opM]at h;generalize ea:ds.map (view G)=va at h;simp only[qM]at h;split at h
 ·obtain ⟨d',rfl,ev⟩:=map_one ea;obtain ⟨v',rfl,rv⟩:=bC t;obtain ⟨b,vs2,e2,q2,t2⟩:=aac r rv ev;subst e2;have e1:x=.ref _:=rd;subst e1;split at h
  ·rename_i ds0 hg;obtain ⟨vs,q,t'⟩:=r.lst hg;refine WY pins s σ H _ _ v us Q I rx rs ⟨_,b,vs,vs2,rfl,rfl,q,q2,?_,?_⟩
   ·rw[<-t'.length,<-t2.length];exact Nat.le_of_lt (bb h.1 szl)
   ·exact h.2 _ _ _ (iG r hg) (r.write hg (t'.append t2)) rfl
  ·exact h.elim
 ·exact h.elim
theorem aae:vC X (λo i x H Q=>∃F G a b c,R X.K H F G/\Rep X.K H F a o/\Rep X.K H F b i/\Rep X.K H F c x/\eG a b c G (λG'=>∀H' F',Ext H F H' F'->R X.K H' F' G'->Q H')):=by
 intro pins s σ H o i v ov iv u Q I ro ri rv h;obtain ⟨F,G,a,b,c,r,ra,rb,rc,h⟩:=h;unfold eG at h;split at h
 ·have e1:o=.ref _:=ra;have e2:i=.int _:=rb;subst e1;subst e2;split at h
  ·rename_i ds hg;obtain ⟨vs,q,t⟩:=r.lst hg;split at h
   ·rename_i j hj;refine set_list pins s σ H _ _ v ov iv u Q I ro ri rv ⟨_,vs,_,j,rfl,rfl,q,by rw[<-t.length];exact hj,?_⟩;exact h _ _ (iG r hg) (r.write hg (t.set rc j))
   ·exact h.elim
  ·exact h.elim
 ·exact h.elim
theorem aaf(op:Operator):PIp X op (λx y H Q=>∃F G a b,R X.K H F G/\Rep X.K H F a x/\Rep X.K H F b y/\dR op a b (λd=>PV X.K H F Q d G)):=by
 intro pins s σ H x y v u Q I rx ry h;obtain ⟨F,G,a,b,r,ra,rb,h⟩:=h;unfold dR at h;split at h
 ·have e1:x=.int _:=ra;have e2:y=.int _:=rb;subst e1;subst e2;exact Vy pins s σ H _ _ v u Q I rx ry ⟨_,_,rfl,rfl,h.now r rfl⟩
 ·obtain ⟨e1,l1⟩:=ra;obtain ⟨e2,l2⟩:=rb;subst e1;subst e2;refine VR pins s σ H _ _ v u Q I rx ry ⟨_,_,rfl,rfl,by rw[bQ,bQ];exact cM h.1,?_⟩;rw[qz];exact h.2.now r ⟨rfl,by rw[bq];exact h.1⟩
 ·have e1:x=.int _:=ra;have e2:y=.int _:=rb;subst e1;subst e2;exact Vz pins s σ H _ _ v u Q I rx ry ⟨_,_,rfl,rfl,h.now r rfl⟩
 ·exact h.elim
end
inductive SK where
 |lst (a:Addr) |tup (a:Addr) |str (x:Str) (t:Tok)
def SK.val:SK->Value
 |.lst a=>.ref a
 |.tup a=>.ref a
 |.str x t=>.str x t
def SK.cls:SK->String
 |.lst _=>"list_iterator"
 |.tup _=>"tuple_iterator"
 |.str x _=>strIterType x
def SK.obj(k:SK):Obj:={ cls:=.type k.cls,data:=.fields #[k.val,.int 0 0] }
def SK.pos(k:SK)(it:Addr)(i:Nat)(h:Heap):Prop:=∃o,h.get? it=some o/\o.cls=.type k.cls/\o.data=.fields #[k.val,.int i 0]
def SK.Sat(H:Hp)(vs:List V):SK->Prop
 |.lst a=>H a=some (.lst vs)
 |.tup a=>H a=some (.tup vs)
 |.str x _=>vs=x.cps.toList.map λc=>V.str ⟨#[c]⟩
def SK.No(e:Addr):SK->Prop
 |.lst a=>a≠e
 |.tup a=>a≠e
 |.str _ _=>True
theorem SK.Sat.no{H:Hp}{vs:List V}{k:SK}{e:Addr}(h:k.Sat H vs)(he:H e=none):k.No e:=by
 cases k with
 |lst a=>exact bj (show H a=some _ from h) he
 |tup a=>exact bj (show H a=some _ from h) he
 |str x t=>trivial
def SK.On(its:Array Value)(h:Heap):SK->Prop
 |.lst a=>h.IsList a its
 |.tup a=>h.IsTuple a its
 |.str _ _=>True
theorem SK.On.keeps{its:Array Value}{h h':Heap}{k:SK}(x:k.On its h)(kk:∀b o,k.val=.ref b->h.get? b=some o->h'.get? b=some o):k.On its h':=by
 cases k with
 |lst a=>obtain ⟨o,e,r⟩:=x;exact ⟨o,kk a o rfl e,r⟩
 |tup a=>obtain ⟨o,e,r⟩:=x;exact ⟨o,kk a o rfl e,r⟩
 |str _ _=>trivial
section
variable {prog:Program} {w:World} {A:Around} {E:Value->Shared->Prop} {s:Shared}
theorem SK.iter{k:SK}{its:Array Value}{Q:Value->Shared->Prop}(h:k.On its s.heap)(q:Q (.ref s.heap.objs.size) { s with heap:=s.heap.push k.obj }):wpAny (model prog w) A (pyIter k.val) Q E s:=by
 cases k with
 |lst a=>exact wpAny_pyIter_list h q
 |tup a=>exact wpAny_pyIter_tuple h q
 |str x t=>exact wpAny_pyIter_strU q
theorem SK.pos0{k:SK}{h:Heap}:k.pos h.objs.size 0 (h.push k.obj):=⟨_,a9 _ rfl,rfl,rfl⟩
theorem SK.pos.keep{k:SK}{it:Addr}{i:Nat}{h h':Heap}(x:k.pos it i h)(kk:∀o,h.get? it=some o->h'.get? it=some o):k.pos it i h':=let ⟨o,e,r⟩:=x;⟨o,kk o e,r⟩
theorem aag{it t:Addr}{i:Nat}{items}{x:Value}{Q:Value->Shared->Prop}(hit:s.heap.IsTupleIter it t i)
  (ht:s.heap.IsTuple t items) (hx:items[i]?=some x)
  (hQ:∀h',h'.IsTupleIter it t (i+1)->Heap.SameBut it s.heap h'->Q x { s with heap:=h' }):
  wpAny (model prog w) A (Builtin.SmallTypes.nextOf (.ref it)) Q E s:=by
 obtain ⟨o,ho,hc,hd⟩:=id hit;obtain ⟨ol,hol,_,nl,hdl⟩:=ht;unfold Builtin.SmallTypes.nextOf;refine ag (fb (name:=Str.ofString "__next__") hit.typeIs fA
  (fI fA hit.typeIs F.entry_tuple_iterator_next ?_ (F.args_tuple_iterator_next_1 _)))
 show wpAny _ _ (field (.ref it) 0 >>= _) _ _ s;refine ag (dA ho hd (x:=.ref t) rfl ?_);show wpAny _ _ (if (Value.ref t==Value.none)=true then _ else _) _ _ s;rw[if_neg (show ¬((Value.ref t==Value.none)=true) from bi)];show wpAny _ _ (field (.ref it) 1 >>= _) _ _ s;refine ag (dA ho hd (x:=.int i 0) rfl ?_);show wpAny _ _ (seqItems? (.ref t) >>= _) _ _ s;refine ag (eM hol hdl ?_);simp only[dk,hx];refine ag (wpAny_setField ho hd (by simp) (aS ⟨x,rfl,aS (hQ _ ?_ (Heap.SameBut.update ..))⟩));exact ⟨_,Heap.get?_update_self _ ho (Obj.isFreed_of_fields (Obj.data_mapFields hd _)),(Obj.cls_mapFields ..).trans hc,by
  rw[Obj.data_mapFields hd];simp[rawInt]⟩
theorem aah{it t:Addr}{i:Nat}{items}{Q:Value->Shared->Prop}(hh:A.handled=none)
  (hit:s.heap.IsTupleIter it t i) (ht:s.heap.IsTuple t items) (hx:items[i]?=none)
  (hE:∀h' e,Heap.ExtBut it s.heap h'->(∃o,h'.get? e=some o/\o.cls=.type "StopIteration")->E (.ref e) { s with heap:=h' }):
  wpAny (model prog w) A (Builtin.SmallTypes.nextOf (.ref it)) Q E s:=by
 obtain ⟨o,ho,hc,hd⟩:=id hit;obtain ⟨ol,hol,_,nl,hdl⟩:=ht;unfold Builtin.SmallTypes.nextOf;refine ag (fb (name:=Str.ofString "__next__") hit.typeIs fA
  (fI fA hit.typeIs F.entry_tuple_iterator_next ?_ (F.args_tuple_iterator_next_1 _)))
 show wpAny _ _ (field (.ref it) 0 >>= _) _ _ s;refine ag (dA ho hd (x:=.ref t) rfl ?_);show wpAny _ _ (if (Value.ref t==Value.none)=true then _ else _) _ _ s;rw[if_neg (show ¬((Value.ref t==Value.none)=true) from bi)];show wpAny _ _ (field (.ref it) 1 >>= _) _ _ s;refine ag (dA ho hd (x:=.int i 0) rfl ?_);show wpAny _ _ (seqItems? (.ref t) >>= _) _ _ s;refine ag (eM hol hdl ?_);simp only[dk,hx];refine ag (fx (ag (wpAny_setField ho hd (by simp) ?_)));show wpAny _ _ (newExc (.type "StopIteration") [] >>= _) _ _ _;refine ag ?_;simp only[newExc,newTuple];refine ag (wpAny_newObj_type ?_ (by size_fits));refine ag (m:=firstArgMember _ _) (wpAny_of_eq (a:=Value.none) (by first |rfl | (simp only[firstArgMember];rfl)) ?_);refine wpAny_newObj_type ?_ (by size_fits);simp only[raiseNew];refine ag (wpAny_handled ?_);first |rw[show A.in1.handled=none from hh] |rw[hh]
 refine ag (aS (wpAny_throw ?_));exact hE _ _ (((Heap.SameBut.update ..).extBut.push _).push _) ⟨_,a9 _ rfl,rfl⟩
theorem aai(hh:A.handled=none)(it l:Addr)(hne:l≠it)(items:Array Value):
  Draws prog w A it [it,l] items.size (λi v=>items[i]?=some v) (λi h=>h.IsTupleIter it l i/\h.IsTuple l items) where
 live:=λ_ _ st=>let ⟨o,ho,_⟩:=st.1;⟨o,ho⟩
 frame:=λ_ _ _ st hk=>⟨let ⟨o,e,r⟩:=st.1;⟨o,hk it (by simp) o e,r⟩,let ⟨o,e,r⟩:=st.2;⟨o,hk l (by simp) o e,r⟩⟩
 item:=λi s Q E hi st hQ=>by
  refine aag st.1 st.2 (x:=items[i]) (by simp[hi]) λh' hit' hs'=>?_;exact hQ _ h' s.toks (by simp[hi]) ⟨hit',let ⟨o,e,r⟩:=st.2;⟨o,hs'.extBut l o hne e,r⟩⟩ hs'
 done:=λs Q E st hE=>aah hh st.1 st.2 (by simp) hE
end
structure Drawn(P:Program)(w:World)(A:Around)(k:SK)(it:Addr)(i:Nat)(vs:List V)(h:Heap)(fp:List Addr)(Pd:Nat->Value->Prop)(S:Nat->Heap->Prop):Prop where
 D:Draws P w A it fp vs.length Pd S
 st:S i h
 val:∀j v,Pd j v->∃x,vs[j]?=some x/\RelV x v
 pos:∀j h,S j h->k.pos it j h
 fp:∀b∈fp,b=it\/k.val=.ref b
theorem drawn{X:Cx}{pins:List (Addr×Obj)}{σ:L2.St}{H:Hp}{s:Shared}{A:Around}(hh:A.handled=none)(I:Inv X pins σ H s){k:SK}{it:Addr}{i:Nat}{vs:List V}(sat:k.Sat H vs)(hit:H it=none)(p:k.pos it i s.heap):
  ∃fp Pd S,Drawn X.prog X.w A k it i vs s.heap fp Pd S:=by
 cases k with
 |lst a=>
  have sat:H a=some (.lst vs):=sat;obtain ⟨its,r,pl,_⟩:=I.list (SqL.of sat);refine ⟨[it,a],λj v=>its.toArray[j]?=some v,λj h=>h.IsListIter it a j/\h.IsList a its.toArray,?_,⟨p,pl.isList⟩,?_,λj h st=>st.1,?_⟩
  ·have D:=Draws.list (prog:=X.prog) (w:=X.w) hh it a (bj sat hit) its.toArray;rw[ar,<-r.length]at D;exact D
  ·intro j v e;have e:its.toArray[j]?=some v:=e;have hj:j < vs.length:=by
    rw[r.length];have:=(ft.mp e).1;simpa using this
   obtain ⟨u,e2,r2⟩:=r.get (show vs[j]?=some vs[j] by simp[hj]);refine ⟨vs[j],by simp[hj],?_⟩;have:its[j]?=some v:=by simpa using e
   rw[this]at e2;cases e2;exact r2
  ·intro b hb;have hb:b=it\/b=a:=by simpa using hb
   rcases hb with e |e
   ·exact .inl e
   ·exact .inr (by rw[e];rfl)
 |tup a=>
  have sat:H a=some (.tup vs):=sat;obtain ⟨its,r,pl,_⟩:=I.tuple (SqT.of sat);refine ⟨[it,a],λj v=>its.toArray[j]?=some v,λj h=>h.IsTupleIter it a j/\h.IsTuple a its.toArray,?_,⟨p,pl⟩,?_,λj h st=>st.1,?_⟩
  ·have D:=aai (prog:=X.prog) (w:=X.w) hh it a (bj sat hit) its.toArray;rw[ar,<-r.length]at D;exact D
  ·intro j v e;have e:its.toArray[j]?=some v:=e;have hj:j < vs.length:=by
    rw[r.length];have:=(ft.mp e).1;simpa using this
   obtain ⟨u,e2,r2⟩:=r.get (show vs[j]?=some vs[j] by simp[hj]);refine ⟨vs[j],by simp[hj],?_⟩;have:its[j]?=some v:=by simpa using e
   rw[this]at e2;cases e2;exact r2
  ·intro b hb;have hb:b=it\/b=a:=by simpa using hb
   rcases hb with e |e
   ·exact .inl e
   ·exact .inr (by rw[e];rfl)
 |str x t=>
  have sat:vs=x.cps.toList.map λc=>V.str ⟨#[c]⟩:=sat;refine ⟨[it],λi v=>∃c u,x.cps[i]?=some c/\v=.str ⟨#[c]⟩ u,λi h=>h.IsStrIter it (strIterType x) x t i,?_,p,?_,λj h st=>st,?_⟩
  ·have D:=Xl (prog:=X.prog) (w:=X.w) hh it x t;have e:x.cps.size=vs.length:=by rw[sat,al,dP]
   rw[e]at D;exact D
  ·rintro j v ⟨c,u,e1,e2⟩;refine ⟨V.str ⟨#[c]⟩,?_,u,e2⟩;rw[sat,a8,gp,e1];rfl
  ·intro b hb;exact .inl (by simpa using hb)
def Jk(k:SK):It:=⟨λi H=>∃vs,k.Sat H vs/\i < vs.length,λi H x H'=>H'=H/\∀vs,k.Sat H vs->vs[i]?=some x,λi H=>∃vs,k.Sat H vs/\vs.length=i⟩
def Je(k:SK):It:=⟨λi H=>∃vs,k.Sat H vs/\i < vs.length,λi H x H'=>∃T y,H T=none/\x=.ref T/\H'=upd H T (.tup [.int i,y])/\∀vs,k.Sat H vs->vs[i]?=some y,λi H=>∃vs,k.Sat H vs/\vs.length=i⟩
theorem xK{H:Hp}{k:SK}{vs ws:List V}(h:k.Sat H vs)(h':k.Sat H ws):vs=ws:=by
 cases k with
 |lst a=>have e:=(show H a=some _ from h).symm.trans h';cases e;rfl
 |tup a=>have e:=(show H a=some _ from h).symm.trans h';cases e;rfl
 |str x t=>exact (show vs=_ from h).trans (show ws=_ from h').symm
theorem aaj{P:Program}{w:World}{K:PF}{elts:List Expr}{x1:Nat}{pos:Pos}(k:SK)(e it:Addr)(hne:e≠it):
  Turn P w K (.Tuple elts x1 pos) (Je k) [e,it] e (λi h=>(∃old,IsEnum h e it i old)/\k.pos it i h) where
 mem:=by simp
 obj:=λi h st b hb=>by
  obtain ⟨⟨old,he⟩,o,ho,c,d⟩:=st;have hb:b=e\/b=it:=by simpa using hb
  rcases hb with rfl |rfl
  ·exact ⟨_,he,λv z=>by have z':Data.fields _=Data.cell v:=z;cases z'⟩
  ·exact ⟨o,ho,λv z=>by rw[d]at z;cases z⟩
 keep:=λi h h' st kk=>⟨let ⟨old,he⟩:=st.1;⟨old,kk e (by simp) _ he⟩,st.2.keep λo ho=>kk it (by simp) o ho⟩
 item:=by
  intro X hP hw hK hc i pins s σ H E I hf st hg;subst hP hw hK;obtain ⟨vs,sat,hi⟩:=hg;obtain ⟨⟨old,he⟩,hit⟩:=st;have hfe:=hf e (by simp);have hfi:=hf it (by simp);obtain ⟨fp,Pd,S,Dr⟩:=drawn (A:=X.A.in1) (I.ok.hd hc) I sat hfi.1 hit;have helt:e < s.heap.objs.size:=ay he;have hef:e∉fp:=λhb=>by
   rcases Dr.fp e hb with z |z
   ·exact hne z
   ·have:=sat.no hfe.1;cases k with
    |lst a=>cases z;exact this rfl
    |tup a=>cases z;exact this rfl
    |str _ _=>cases z
  refine wpAny_pyNext_enum_itemD Dr.D he Dr.st hi hne hef λu h1 tk hu heo hit1 ht1 hz1 hk1=>?_;obtain ⟨x,hx,ru⟩:=Dr.val _ _ hu;refine ⟨_,rfl,?_⟩;refine wpAny_letOwnedTupleGo_enum heo λh2 he2 hs2=>?_;have hs2':Heap.SameBut e h1 h2:=hs2;have hn:H s.heap.objs.size=none:=I.hok.fresh (aw _);have k2:∀b o,b∉[e,it]->s.heap.get? b=some o->h2.get? b=some o:=λb o hb q=>by
   have hb':b≠e/\b≠it:=by simpa using hb
   exact hs2'.extBut b o hb'.1 (hk1 b o hb'.1 hb'.2 q)
  have I2:Inv X pins σ H { s with heap:=h2,toks:=tk+1 }:=I.turnedL hf k2;have ht2:h2.get? s.heap.objs.size=some { cls:=.type "tuple",data:=.seq #[.int i tk,u] }:=hs2'.extBut _ _ (gc helt) ht1;have ob:ObjOk X.prog X.w (upd H s.heap.objs.size (.tup [.int i,x])) h2 s.heap.objs.size (.tup [.int i,x]):=
   ⟨by rw[sizeLine_eq];simp,[.int i tk,u],.cons ⟨_,rfl⟩ (.cons ru .nil),⟨_,ht2,rfl,_,rfl⟩⟩
  have I3:=I2.track (I.fpOk (aw _) hn) ob;have nee:s.heap.objs.size≠e:=gc helt;have nei:s.heap.objs.size≠it:=by obtain ⟨o,ho,_⟩:=hit;exact gc (ay ho)
  refine ⟨.ref s.heap.objs.size,_,I3,rfl,⟨s.heap.objs.size,x,hn,rfl,rfl,λys hy=>by rw[xK hy sat];exact hx⟩,⟨⟨u,?_⟩,?_⟩,λb hb=>?_⟩
  ·show IsEnum h2 e it (((i+1:Nat)):Int) u;rw[show (((i+1:Nat):Int))=(i:Int)+1 by omega];exact he2
  ·exact (Dr.pos _ _ hit1).keep λo ho=>hs2'.extBut _ _ (Ne.symm hne) ho
  ·have hb':b=e\/b=it:=by simpa using hb
   rw[aL (by rcases hb' with rfl |rfl;exact Ne.symm nee;exact Ne.symm nei)];exact (hf b hb).1
 done:=by
  intro X hP hw hK hc i pins s σ H E I hf st hg;subst hP hw hK;obtain ⟨vs,sat,hi⟩:=hg;subst hi;obtain ⟨⟨old,he⟩,hit⟩:=st;have hfi:=hf it (by simp);obtain ⟨fp,Pd,S,Dr⟩:=drawn (A:=X.A.in1) (I.ok.hd hc) I sat hfi.1 hit;refine wpAny_pyNext_enum_endD Dr.D he Dr.st λh' eb=>⟨rfl,I.turnedL (t':=s.toks) hf λb o hb q=>?_⟩;have hb':b≠e/\b≠it:=by simpa using hb
  exact eb b o hb'.2 q
 self:=λA i s Q E st h=>by
  obtain ⟨⟨old,he⟩,_⟩:=st;exact wpAny_pyIter_enum he h
theorem aak{P:Program}{w:World}{K:PF}{tg:Expr}(k:SK)(it:Addr):Turn P w K tg (Jk k) [it] it (λi h=>k.pos it i h) where
 mem:=by simp
 obj:=λi h st b hb=>by
  have e:b=it:=by simpa using hb
  subst e;obtain ⟨o,e,c,d⟩:=st;exact ⟨o,e,λv z=>by rw[d]at z;cases z⟩
 keep:=λi h h' st kk=>st.keep λo e=>kk it (by simp) o e
 item:=by
  intro X hP hw hK hc i pins s σ H E I hf st hg;obtain ⟨vs,sat,hi⟩:=hg;have hfi:=hf it (by simp);cases k with
  |lst a=>
   have sat':H a=some (.lst vs):=sat;refine b9 ((Ak (tg:=tg) a it).item X hP hw hK hc i pins s σ H E I hf st ⟨vs,vs[i],SqL.of sat',by simp[hi]⟩) ?_ (λ_ _ e=>e);rintro r s1 ⟨u,hr,h1⟩;refine ⟨u,hr,b9 h1 ?_ (λ_ _ e=>e)⟩;rintro _ s2 ⟨x,H',I',rx,⟨e1,e2⟩,st',fr⟩;exact ⟨x,H',I',rx,⟨e1,λws hw'=>e2 ws (SqL.of (show H a=some (.lst ws) from hw'))⟩,st',fr⟩
  |tup a=>
   have sat':H a=some (.tup vs):=sat;refine b9 ((Al (tg:=tg) a it).item X hP hw hK hc i pins s σ H E I hf st ⟨vs,vs[i],SqT.of sat',by simp[hi]⟩) ?_ (λ_ _ e=>e);rintro r s1 ⟨u,hr,h1⟩;refine ⟨u,hr,b9 h1 ?_ (λ_ _ e=>e)⟩;rintro _ s2 ⟨x,H',I',rx,⟨e1,e2⟩,st',fr⟩;exact ⟨x,H',I',rx,⟨e1,λws hw'=>e2 ws (SqT.of (show H a=some (.tup ws) from hw'))⟩,st',fr⟩
  |str y t=>
   have sat':vs=y.cps.toList.map λc=>V.str ⟨#[c]⟩:=sat;have hlen:vs.length=y.cps.size:=by rw[sat',al,dP]
   refine b9 ((vK (tg:=tg) it y t).item X hP hw hK hc i pins s σ H E I hf st (show i < y.cps.size by omega)) ?_ (λ_ _ e=>e);rintro r s1 ⟨u,hr,h1⟩;refine ⟨u,hr,b9 h1 ?_ (λ_ _ e=>e)⟩;rintro _ s2 ⟨x,H',I',rx,⟨e1,c,e2,e3⟩,st',fr⟩;refine ⟨x,H',I',rx,⟨e1,λws hw'=>?_⟩,st',fr⟩;have hw':ws=y.cps.toList.map λc=>V.str ⟨#[c]⟩:=hw';rw[hw',e3,a8,gp,e2];rfl
 done:=by
  intro X hP hw hK hc i pins s σ H E I hf st hg;obtain ⟨vs,sat,hi⟩:=hg;cases k with
  |lst a=>exact (Ak (tg:=tg) a it).done X hP hw hK hc i pins s σ H E I hf st ⟨vs,SqL.of (show H a=some (.lst vs) from sat),by omega⟩
  |tup a=>exact (Al (tg:=tg) a it).done X hP hw hK hc i pins s σ H E I hf st ⟨vs,SqT.of (show H a=some (.tup vs) from sat),by omega⟩
  |str y t=>
   have sat':vs=y.cps.toList.map λc=>V.str ⟨#[c]⟩:=sat;have hlen:vs.length=y.cps.size:=by rw[sat',al,dP]
   exact (vK (tg:=tg) it y t).done X hP hw hK hc i pins s σ H E I hf st (show i=y.cps.size by omega)
 self:=λA i s Q E st h=>by
  cases k with
  |lst a=>exact wpAny_pyIter_listiter st h
  |tup a=>exact wpAny_pyIter_tupleiter st h
  |str y t=>exact (vK (K:=K) (tg:=tg) it y t).self A i s Q E st h
open Builtin Builtin.Str
section
variable {prog:Program} {w:World} {A:Around} {E:Value->Shared->Prop} {s:Shared}
theorem aal{z TI TO i1 i2:Addr}{k n1 n2:Nat}{fp1 fp2:List Addr}{P1 P2:Nat->Value->Prop}{S1 S2:Nat->Heap->Prop}{a b:Value}{Q:Value->Shared->Prop}(D:ZApart z TI TO i1 i2)
  (D1:Draws prog w A i1 fp1 n1 P1 S1) (D2:Draws prog w A i2 fp2 n2 P2 S2) (f1:∀c∈fp1,c≠z/\c≠TO/\c≠i2) (f2:∀c∈fp2,c≠z/\c≠TO/\c≠i1)
  (hz:IsZip s.heap z TI TO .none) (hTI:IsPair s.heap TI (.ref i1) (.ref i2)) (hTO:IsPair s.heap TO a b)
  (h1:S1 k s.heap) (h2:S2 k s.heap) (hx:k < n1) (hy:k < n2)
  (hQ:∀h' tk c d,P1 k c->P2 k d->IsZip h' z TI TO (rawInt s.heap.objs.size)->IsPair h' TO c d->S1 (k+1) h'->S2 (k+1) h'->
   IsPair h' s.heap.objs.size c d->h'.objs.size=s.heap.objs.size+1->
   (∀c o,c≠z->c≠TO->c≠i1->c≠i2->s.heap.get? c=some o->h'.get? c=some o)->Q (.ref s.heap.objs.size) { s with heap:=h',toks:=tk }):
  wpAny (model prog w) A (Builtin.«zip.__next__» ⟨[.ref z],[]⟩) (λfin s'=>∃v,fin=.done (.ret v)/\Q v s') E s:=by
 have e1:∀{h h':Heap}{c:Addr}{j:Nat},S1 j h->Heap.ExtBut c h h'->(∀b∈fp1,b≠c)->S1 j h':=λq e n=>D1.frame _ _ _ q λb hb o y=>e b o (n b hb) y;have e2:∀{h h':Heap}{c:Addr}{j:Nat},S2 j h->Heap.ExtBut c h h'->(∀b∈fp2,b≠c)->S2 j h':=λq e n=>D2.frame _ _ _ q λb hb o y=>e b o (n b hb) y;have z1:∀b∈fp1,b≠z:=λb hb=>(f1 b hb).1;have t1:∀b∈fp1,b≠TO:=λb hb=>(f1 b hb).2.1;have j1:∀b∈fp1,b≠i2:=λb hb=>(f1 b hb).2.2;have z2:∀b∈fp2,b≠z:=λb hb=>(f2 b hb).1;have t2:∀b∈fp2,b≠TO:=λb hb=>(f2 b hb).2.1;have j2:∀b∈fp2,b≠i1:=λb hb=>(f2 b hb).2.2;show wpAny _ _ (field (.ref z) 2 >>= _) _ _ _;refine ag (dA hz rfl (x:=.bool false) rfl ?_);show wpAny _ _ (field (.ref z) 3 >>= _) _ _ _;refine ag (dA hz rfl (x:=.ref TI) rfl ?_);refine ag (eM hTI rfl ?_);show wpAny _ _ (Builtin.SmallTypes.ownedTupleIsFree (.ref z) >>= _) _ _ _;refine ag ?_;unfold Builtin.SmallTypes.ownedTupleIsFree;refine ag (dA hz rfl (x:=.none) rfl (aS ?_));simp only[if_true];refine ag (fx ?_);refine ag (dA hz rfl (x:=.ref TO) rfl ?_);refine ag (eL hz (by simp) λh₁ hz₁ hs₁=>?_);replace hz₁:IsZip h₁ z TI TO .ellipsis:=hz₁;replace hs₁:Heap.SameBut z s.heap h₁:=hs₁;refine ag ?_;simp only[List.zipIdx_cons,List.zipIdx_nil,List.forIn_cons,List.forIn_nil];refine ag (ag (wpAny_onRaise ?_));show wpAny _ _ (Builtin.SmallTypes.nextOf (.ref i1) >>= _) _ _ _;refine ag (D1.item k _ _ _ hx (e1 h1 hs₁.extBut z1) λc h₂ tk₂ hc h1₂ hs₂=>aS ?_);replace hs₂:Heap.SameBut i1 h₁ h₂:=hs₂;have hTO₂:IsPair h₂ TO a b:=hs₂.extBut _ _ D.TOi1 (hs₁.extBut _ _ D.TOz hTO);refine ag (eM hTO₂ rfl ?_);refine ag (wpAny_updateSeq_pair hTO₂ λh₃ hTO₃ hs₃=>?_);replace hTO₃:IsPair h₃ TO c b:=hTO₃;replace hs₃:Heap.SameBut TO h₂ h₃:=hs₃;refine ag (wpAny_letGo (aS ?_));refine ag (ag (wpAny_onRaise ?_));show wpAny _ _ (Builtin.SmallTypes.nextOf (.ref i2) >>= _) _ _ _;refine ag (D2.item k _ _ _ hy (e2 (e2 (e2 h2 hs₁.extBut z2) hs₂.extBut j2) hs₃.extBut t2) λd h₄ tk₄ hd h2₄ hs₄=>aS ?_);replace hs₄:Heap.SameBut i2 h₃ h₄:=hs₄;have hTO₄:IsPair h₄ TO c b:=hs₄.extBut _ _ D.TOi2 hTO₃;refine ag (eM hTO₄ rfl ?_);refine ag (wpAny_updateSeq_pair hTO₄ λh₅ hTO₅ hs₅=>?_);replace hTO₅:IsPair h₅ TO c d:=hTO₅;replace hs₅:Heap.SameBut TO h₄ h₅:=hs₅;refine ag (wpAny_letGo (aS (aS ?_)));refine ag (eM hTO₅ rfl ?_);refine ag (wpAny_newTuple ?_);have hsz:h₅.objs.size=s.heap.objs.size:=by rw[hs₅.1,hs₄.1,hs₃.1,hs₂.1,hs₁.1]
 have hz₅:IsZip h₅ z TI TO .ellipsis:=hs₅.extBut _ _ D.TOz.symm (hs₄.extBut _ _ D.i2z.symm (hs₃.extBut _ _ D.TOz.symm (hs₂.extBut _ _ D.i1z.symm hz₁)));have hk₅:∀c o,c≠z->c≠TO->c≠i1->c≠i2->s.heap.get? c=some o->h₅.get? c=some o:=λc o c1 c2 c3 c4 e=>
  hs₅.extBut _ _ c2 (hs₄.extBut _ _ c4 (hs₃.extBut _ _ c2 (hs₂.extBut _ _ c3 (hs₁.extBut _ _ c1 e))))
 have h1₅:S1 (k+1) h₅:=e1 (e1 (e1 h1₂ hs₃.extBut t1) hs₄.extBut j1) hs₅.extBut t1;have h2₅:S2 (k+1) h₅:=e2 h2₄ hs₅.extBut t2;have hzlt:z < h₅.objs.size:=ay hz₅;show wpAny _ _ (Builtin.SmallTypes.ownedTupleHandOut (.ref z) (.ref h₅.objs.size) >>= _) _ _ _;refine ag ?_;unfold Builtin.SmallTypes.ownedTupleHandOut;have hz₆:IsZip (h₅.push { cls:=.type "tuple",data:=.seq #[c,d] }) z TI TO .ellipsis:=ah _ hz₅;refine ag (eL hz₆ (by simp) λh₇ hz₇ hs₇=>?_);replace hz₇:IsZip h₇ z TI TO (rawInt h₅.objs.size):=hz₇;refine eL hz₇ (by simp) λh₈ hz₈ hs₈=>?_;replace hz₈:IsZip h₈ z TI TO (rawInt h₅.objs.size):=hz₈;have up:∀c o,c≠z->h₅.get? c=some o->h₈.get? c=some o:=λc o c1 e=>hs₈.extBut _ _ c1 (hs₇.extBut _ _ c1 (ah _ e));have hT₈:IsPair h₈ h₅.objs.size c d:=hs₈.extBut _ _ (gc hzlt) (hs₇.extBut _ _ (gc hzlt) (a9 _ rfl));have hz8:h₈.objs.size=h₅.objs.size+1:=by rw[hs₈.1,hs₇.1,dL]
 rw[hsz]at hz₈ hT₈ hz8;refine aS ⟨_,rfl,?_⟩;show Q (.ref h₅.objs.size) _;rw[hsz];exact hQ h₈ tk₄ c d hc hd hz₈ (up _ _ D.TOz hTO₅) (D1.frame _ _ _ h1₅ λb hb o y=>up b o (z1 b hb) y) (D2.frame _ _ _ h2₅ λb hb o y=>up b o (z2 b hb) y) hT₈ hz8 λc o c1 c2 c3 c4 e=>up c o c1 (hk₅ c o c1 c2 c3 c4 e)
theorem aam{z TI TO i1 i2:Addr}{n1:Nat}{fp1:List Addr}{P1:Nat->Value->Prop}{S1:Nat->Heap->Prop}{a b:Value}{Q:Fin->Shared->Prop}(D:ZApart z TI TO i1 i2)
  (D1:Draws prog w A i1 fp1 n1 P1 S1) (f1:∀c∈fp1,c≠z)
  (hz:IsZip s.heap z TI TO .none) (hTI:IsPair s.heap TI (.ref i1) (.ref i2)) (hTO:IsPair s.heap TO a b) (h1:S1 n1 s.heap)
  (hE:∀h' e,(∀c o,c≠z->c≠TO->c≠i1->c≠i2->s.heap.get? c=some o->h'.get? c=some o)->(∃o,h'.get? e=some o/\o.cls=.type "StopIteration")->E (.ref e) { s with heap:=h' }):
  wpAny (model prog w) A (Builtin.«zip.__next__» ⟨[.ref z],[]⟩) Q E s:=by
 show wpAny _ _ (field (.ref z) 2 >>= _) _ _ _;refine ag (dA hz rfl (x:=.bool false) rfl ?_);show wpAny _ _ (field (.ref z) 3 >>= _) _ _ _;refine ag (dA hz rfl (x:=.ref TI) rfl ?_);refine ag (eM hTI rfl ?_);show wpAny _ _ (Builtin.SmallTypes.ownedTupleIsFree (.ref z) >>= _) _ _ _;refine ag ?_;unfold Builtin.SmallTypes.ownedTupleIsFree;refine ag (dA hz rfl (x:=.none) rfl (aS ?_));simp only[if_true];refine ag (fx ?_);refine ag (dA hz rfl (x:=.ref TO) rfl ?_);refine ag (eL hz (by simp) λh₁ hz₁ hs₁=>?_);replace hz₁:IsZip h₁ z TI TO .ellipsis:=hz₁;replace hs₁:Heap.SameBut z s.heap h₁:=hs₁;refine ag ?_;simp only[List.zipIdx_cons,List.zipIdx_nil,List.forIn_cons,List.forIn_nil];refine ag (ag (wpAny_onRaise ?_));show wpAny _ _ (Builtin.SmallTypes.nextOf (.ref i1) >>= _) _ _ _;refine ag (D1.done _ _ _ (D1.frame _ _ _ h1 λb hb o y=>hs₁.extBut b o (f1 b hb) y) λh₂ e hs₂ he=>?_);obtain ⟨oe,hoe,hce⟩:=he;have hz₂:IsZip h₂ z TI TO .ellipsis:=hs₂ _ _ D.i1z.symm hz₁;have hez:e≠z:=λx=>by subst x;rw[hz₂]at hoe;cases hoe;simp at hce
 refine eL hz₂ (by simp) λh₃ _ hs₃=>hE h₃ e (λc o c1 _ c3 _ x=>hs₃.extBut _ _ c1 (hs₂ _ _ c3 (hs₁.extBut _ _ c1 x))) ⟨oe,hs₃.extBut _ _ hez hoe,hce⟩
theorem aan{z TI TO i1 i2:Addr}{k n1 n2:Nat}{fp1 fp2:List Addr}{P1 P2:Nat->Value->Prop}{S1 S2:Nat->Heap->Prop}{a b:Value}{Q:Fin->Shared->Prop}(D:ZApart z TI TO i1 i2)
  (D1:Draws prog w A i1 fp1 n1 P1 S1) (D2:Draws prog w A i2 fp2 n2 P2 S2) (f1:∀c∈fp1,c≠z/\c≠TO/\c≠i2) (f2:∀c∈fp2,c≠z/\c≠TO/\c≠i1)
  (hz:IsZip s.heap z TI TO .none) (hTI:IsPair s.heap TI (.ref i1) (.ref i2)) (hTO:IsPair s.heap TO a b) (h1:S1 k s.heap) (h2:S2 k s.heap) (hx:k < n1) (hy:k=n2)
  (hE:∀h' tk e,(∀c o,c≠z->c≠TO->c≠i1->c≠i2->s.heap.get? c=some o->h'.get? c=some o)->(∃o,h'.get? e=some o/\o.cls=.type "StopIteration")->E (.ref e) { s with heap:=h',toks:=tk }):
  wpAny (model prog w) A (Builtin.«zip.__next__» ⟨[.ref z],[]⟩) Q E s:=by
 have e1:∀{h h':Heap}{c:Addr}{j:Nat},S1 j h->Heap.ExtBut c h h'->(∀b∈fp1,b≠c)->S1 j h':=λq e n=>D1.frame _ _ _ q λb hb o y=>e b o (n b hb) y;have e2:∀{h h':Heap}{c:Addr}{j:Nat},S2 j h->Heap.ExtBut c h h'->(∀b∈fp2,b≠c)->S2 j h':=λq e n=>D2.frame _ _ _ q λb hb o y=>e b o (n b hb) y;have z1:∀b∈fp1,b≠z:=λb hb=>(f1 b hb).1;have z2:∀b∈fp2,b≠z:=λb hb=>(f2 b hb).1;have t2:∀b∈fp2,b≠TO:=λb hb=>(f2 b hb).2.1;have j2:∀b∈fp2,b≠i1:=λb hb=>(f2 b hb).2.2;show wpAny _ _ (field (.ref z) 2 >>= _) _ _ _;refine ag (dA hz rfl (x:=.bool false) rfl ?_);show wpAny _ _ (field (.ref z) 3 >>= _) _ _ _;refine ag (dA hz rfl (x:=.ref TI) rfl ?_);refine ag (eM hTI rfl ?_);show wpAny _ _ (Builtin.SmallTypes.ownedTupleIsFree (.ref z) >>= _) _ _ _;refine ag ?_;unfold Builtin.SmallTypes.ownedTupleIsFree;refine ag (dA hz rfl (x:=.none) rfl (aS ?_));simp only[if_true];refine ag (fx ?_);refine ag (dA hz rfl (x:=.ref TO) rfl ?_);refine ag (eL hz (by simp) λh₁ hz₁ hs₁=>?_);replace hz₁:IsZip h₁ z TI TO .ellipsis:=hz₁;replace hs₁:Heap.SameBut z s.heap h₁:=hs₁;refine ag ?_;simp only[List.zipIdx_cons,List.zipIdx_nil,List.forIn_cons,List.forIn_nil];refine ag (ag (wpAny_onRaise ?_));show wpAny _ _ (Builtin.SmallTypes.nextOf (.ref i1) >>= _) _ _ _;refine ag (D1.item k _ _ _ hx (e1 h1 hs₁.extBut z1) λc h₂ tk₂ hc h1₂ hs₂=>aS ?_);replace hs₂:Heap.SameBut i1 h₁ h₂:=hs₂;have hTO₂:IsPair h₂ TO a b:=hs₂.extBut _ _ D.TOi1 (hs₁.extBut _ _ D.TOz hTO);refine ag (eM hTO₂ rfl ?_);refine ag (wpAny_updateSeq_pair hTO₂ λh₃ hTO₃ hs₃=>?_);replace hs₃:Heap.SameBut TO h₂ h₃:=hs₃;refine ag (wpAny_letGo (aS ?_));refine ag (ag (wpAny_onRaise ?_));show wpAny _ _ (Builtin.SmallTypes.nextOf (.ref i2) >>= _) _ _ _;subst hy;refine ag (D2.done _ _ _ (e2 (e2 (e2 h2 hs₁.extBut z2) hs₂.extBut j2) hs₃.extBut t2) λh₄ e hs₄ he=>?_);obtain ⟨oe,hoe,hce⟩:=he;have hz₄:IsZip h₄ z TI TO .ellipsis:=hs₄ _ _ D.i2z.symm (hs₃.extBut _ _ D.TOz.symm (hs₂.extBut _ _ D.i1z.symm hz₁));have hez:e≠z:=λx=>by subst x;rw[hz₄]at hoe;cases hoe;simp at hce
 refine eL hz₄ (by simp) λh₅ _ hs₅=>hE h₅ tk₂ e (λc o c1 c2 c3 c4 x=>hs₅.extBut _ _ c1 (hs₄ _ _ c4 (hs₃.extBut _ _ c2 (hs₂.extBut _ _ c3 (hs₁.extBut _ _ c1 x))))) ⟨oe,hs₅.extBut _ _ hez hoe,hce⟩
end
def Jz(k l:SK):It:=⟨λi H=>∃vs ws,k.Sat H vs/\l.Sat H ws/\i < vs.length/\i < ws.length,
 λi H x H'=>∃T y z,H T=none/\x=.ref T/\H'=upd H T (.tup [y,z])/\(∀vs,k.Sat H vs->vs[i]?=some y)/\(∀ws,l.Sat H ws->ws[i]?=some z),
 λi H=>∃vs ws,k.Sat H vs/\l.Sat H ws/\(vs.length=i/\i<=ws.length\/i < vs.length/\ws.length=i)⟩
theorem aao{P:Program}{w:World}{K:PF}{elts:List Expr}{x1:Nat}{pos:Pos}(k l:SK)(z TI TO i1 i2:Addr)(D:ZApart z TI TO i1 i2):
  Turn P w K (.Tuple elts x1 pos) (Jz k l) [z,TI,TO,i1,i2] z
   (λi h=>IsZip h z TI TO .none/\IsPair h TI (.ref i1) (.ref i2)/\(∃a b,IsPair h TO a b)/\k.pos i1 i h/\l.pos i2 i h) where
 mem:=by simp
 obj:=λi h st b hb=>by
  obtain ⟨hz,hTI,⟨a,c,hTO⟩,⟨o1,e1,_,d1⟩,⟨o2,e2,_,d2⟩⟩:=st;have hb':b=z\/b=TI\/b=TO\/b=i1\/b=i2:=by simpa using hb
  rcases hb' with rfl |rfl |rfl |rfl |rfl
  ·exact ⟨_,hz,λv q=>by have q':Data.fields _=Data.cell v:=q;cases q'⟩
  ·exact ⟨_,hTI,λv q=>by have q':Data.seq _ _=Data.cell v:=q;cases q'⟩
  ·exact ⟨_,hTO,λv q=>by have q':Data.seq _ _=Data.cell v:=q;cases q'⟩
  ·exact ⟨o1,e1,λv q=>by rw[d1]at q;cases q⟩
  ·exact ⟨o2,e2,λv q=>by rw[d2]at q;cases q⟩
 keep:=λi h h' st kk=>by
  obtain ⟨hz,hTI,⟨a,c,hTO⟩,p1,p2⟩:=st;exact ⟨kk z (by simp) _ hz,kk TI (by simp) _ hTI,⟨a,c,kk TO (by simp) _ hTO⟩,p1.keep λo e=>kk i1 (by simp) o e,p2.keep λo e=>kk i2 (by simp) o e⟩
 item:=by
  intro X hP hw hK hc i pins s σ H E I hf st hg;subst hP hw hK;obtain ⟨vs,ws,sat1,sat2,l1,l2⟩:=hg;obtain ⟨hz,hTI,⟨a,b,hTO⟩,h1,h2⟩:=st;have hT:s.TypeIs (.ref z) "zip":=⟨_,hz,rfl⟩;have fz:=hf z (by simp);have fTO:=hf TO (by simp);have fi1:=hf i1 (by simp);have fi2:=hf i2 (by simp);obtain ⟨fp1,P1,S1,Dr1⟩:=drawn (A:=X.A.in1) (I.ok.hd hc) I sat1 fi1.1 h1;obtain ⟨fp2,P2,S2,Dr2⟩:=drawn (A:=X.A.in1) (I.ok.hd hc) I sat2 fi2.1 h2;have no1:∀e,H e=none->e≠i1->∀c∈fp1,c≠e:=λe he hei c hc z=>by
   rcases Dr1.fp c hc with q |q
   ·exact hei (z.symm.trans q)
   ·have:=sat1.no he;cases k with
    |lst a=>injection q with q;exact this (q.trans z)
    |tup a=>injection q with q;exact this (q.trans z)
    |str _ _=>cases q
  have no2:∀e,H e=none->e≠i2->∀c∈fp2,c≠e:=λe he hei c hc z=>by
   rcases Dr2.fp c hc with q |q
   ·exact hei (z.symm.trans q)
   ·have:=sat2.no he;cases l with
    |lst a=>injection q with q;exact this (q.trans z)
    |tup a=>injection q with q;exact this (q.trans z)
    |str _ _=>cases q
  have f1:∀c∈fp1,c≠z/\c≠TO/\c≠i2:=λc hc=>⟨no1 z fz.1 D.i1z.symm c hc,no1 TO fTO.1 D.TOi1 c hc,no1 i2 fi2.1 D.i12.symm c hc⟩;have f2:∀c∈fp2,c≠z/\c≠TO/\c≠i1:=λc hc=>⟨no2 z fz.1 D.i2z.symm c hc,no2 TO fTO.1 D.TOi2 c hc,no2 i1 fi1.1 D.i12 c hc⟩;have ltz:z < s.heap.objs.size:=ay hz;have ltTI:TI < s.heap.objs.size:=ay hTI;have ltTO:TO < s.heap.objs.size:=ay hTO;have lti1:i1 < s.heap.objs.size:=by obtain ⟨_,e,_⟩:=h1;exact ay e
  have lti2:i2 < s.heap.objs.size:=by obtain ⟨_,e,_⟩:=h2;exact ay e
  unfold pyNext;refine ag (wpAny_attempt (fb (name:=Str.ofString "__next__") hT F.slot_zip_next
   (fI F.slot_zip_next hT F.entry_zip_next (aal D Dr1.D Dr2.D f1 f2 hz hTI hTO Dr1.st Dr2.st l1 l2 λh' tk c d pc pd a1 a2 a3 a4 a5 a6 hk=>aS ?_) (F.args_zip_next_1 _))))
  obtain ⟨y,hy,ry⟩:=Dr1.val _ _ pc;obtain ⟨y',hy',ry'⟩:=Dr2.val _ _ pd;refine ⟨_,rfl,?_⟩;refine wpAny_letOwnedTupleGo_zip a1 λh2' hz2 hs2=>?_;have hs2':Heap.SameBut z h' h2':=hs2;have hn:H s.heap.objs.size=none:=I.hok.fresh (aw _);have k2:∀b o,b∉[z,TI,TO,i1,i2]->s.heap.get? b=some o->h2'.get? b=some o:=λb o hb q=>by
   have hb':b≠z/\b≠TI/\b≠TO/\b≠i1/\b≠i2:=by simpa using hb
   exact hs2'.extBut b o hb'.1 (hk b o hb'.1 hb'.2.2.1 hb'.2.2.2.1 hb'.2.2.2.2 q)
  have I2:Inv X pins σ H { s with heap:=h2',toks:=tk }:=I.turnedL hf k2;have ht2:h2'.get? s.heap.objs.size=some { cls:=.type "tuple",data:=.seq #[c,d] }:=hs2'.extBut _ _ (gc ltz) a5;have ob:ObjOk X.prog X.w (upd H s.heap.objs.size (.tup [y,y'])) h2' s.heap.objs.size (.tup [y,y']):=
   ⟨by rw[sizeLine_eq];simp,[c,d],.cons ry (.cons ry' .nil),⟨_,ht2,rfl,_,rfl⟩⟩
  have I3:=I2.track (I.fpOk (aw _) hn) ob;refine ⟨.ref s.heap.objs.size,_,I3,rfl,⟨s.heap.objs.size,y,y',hn,rfl,rfl,λus hu=>by rw[xK hu sat1];exact hy,λus hu=>by rw[xK hu sat2];exact hy'⟩,
   ⟨hz2,hs2'.extBut _ _ D.TIz (hk _ _ D.TIz D.TITO D.TIi1 D.TIi2 hTI),⟨_,_,hs2'.extBut _ _ D.TOz a2⟩,(Dr1.pos _ _ a3).keep λo e=>hs2'.extBut _ _ D.i1z e,(Dr2.pos _ _ a4).keep λo e=>hs2'.extBut _ _ D.i2z e⟩,λb hb=>?_⟩
  have hb':b=z\/b=TI\/b=TO\/b=i1\/b=i2:=by simpa using hb
  rw[aL (by rcases hb' with rfl |rfl |rfl |rfl |rfl <;> exact ca ‹_›)];exact (hf b hb).1
 done:=by
  intro X hP hw hK hc i pins s σ H E I hf st hg;subst hP hw hK;obtain ⟨vs,ws,sat1,sat2,hend⟩:=hg;obtain ⟨hz,hTI,⟨a,b,hTO⟩,h1,h2⟩:=st;have hT:s.TypeIs (.ref z) "zip":=⟨_,hz,rfl⟩;have fz:=hf z (by simp);have fTO:=hf TO (by simp);have fi1:=hf i1 (by simp);have fi2:=hf i2 (by simp);obtain ⟨fp1,P1,S1,Dr1⟩:=drawn (A:=X.A.in1) (I.ok.hd hc) I sat1 fi1.1 h1;obtain ⟨fp2,P2,S2,Dr2⟩:=drawn (A:=X.A.in1) (I.ok.hd hc) I sat2 fi2.1 h2;have no1:∀e,H e=none->e≠i1->∀c∈fp1,c≠e:=λe he hei c hc z=>by
   rcases Dr1.fp c hc with q |q
   ·exact hei (z.symm.trans q)
   ·have:=sat1.no he;cases k with
    |lst a=>injection q with q;exact this (q.trans z)
    |tup a=>injection q with q;exact this (q.trans z)
    |str _ _=>cases q
  have no2:∀e,H e=none->e≠i2->∀c∈fp2,c≠e:=λe he hei c hc z=>by
   rcases Dr2.fp c hc with q |q
   ·exact hei (z.symm.trans q)
   ·have:=sat2.no he;cases l with
    |lst a=>injection q with q;exact this (q.trans z)
    |tup a=>injection q with q;exact this (q.trans z)
    |str _ _=>cases q
  have f1:∀c∈fp1,c≠z/\c≠TO/\c≠i2:=λc hc=>⟨no1 z fz.1 D.i1z.symm c hc,no1 TO fTO.1 D.TOi1 c hc,no1 i2 fi2.1 D.i12.symm c hc⟩;have f2:∀c∈fp2,c≠z/\c≠TO/\c≠i1:=λc hc=>⟨no2 z fz.1 D.i2z.symm c hc,no2 TO fTO.1 D.TOi2 c hc,no2 i1 fi1.1 D.i12 c hc⟩;have fin:∀(h':Heap)(tk:Nat)(e:Addr),(∀c o,c≠z->c≠TO->c≠i1->c≠i2->s.heap.get? c=some o->h'.get? c=some o)->Inv X pins σ H { s with heap:=h',toks:=tk }:=λh' tk e hk=>I.turnedL (t':=tk) hf λb o hb q=>by
   have hb':b≠z/\b≠TI/\b≠TO/\b≠i1/\b≠i2:=by simpa using hb
   exact hk b o hb'.1 hb'.2.2.1 hb'.2.2.2.1 hb'.2.2.2.2 q
  unfold pyNext;refine ag (wpAny_attempt (fb (name:=Str.ofString "__next__") hT F.slot_zip_next
   (fI F.slot_zip_next hT F.entry_zip_next ?_ (F.args_zip_next_1 _))))
  rcases hend with ⟨e1,_⟩ |⟨e1,e2⟩
  ·subst e1;refine aam D Dr1.D (λc hc=>(f1 c hc).1) hz hTI hTO Dr1.st λh' e hk he=>?_;obtain ⟨o,ho,hc'⟩:=he;refine ag (wpAny_isInstance (T:="StopIteration") (b:=true) ⟨o,ho,hc'⟩ isSubtype_stop ?_);exact aS ⟨rfl,fin h' s.toks e hk⟩
  ·refine aan D Dr1.D Dr2.D f1 f2 hz hTI hTO Dr1.st Dr2.st e1 e2.symm λh' tk e hk he=>?_;obtain ⟨o,ho,hc'⟩:=he;refine ag (wpAny_isInstance (T:="StopIteration") (b:=true) ⟨o,ho,hc'⟩ isSubtype_stop ?_);exact aS ⟨rfl,fin h' tk e hk⟩
 self:=λA i s Q E st h=>wpAny_pyIter_zip st.1 h
open Sem (wp)
open AutoSeq1 (wpAny_loadPart')
set_option maxHeartbeats 1000000 in
theorem aap(l:Addr)(items:Array Value)(n:Nat)(dct:Option Addr)(sl:Array (Option Value)):
  Meets (Builtin.«enumerate.__new__» ⟨[.type "enumerate",.ref l],[]⟩) (λ_ R s=>s.heap.get? l=some { cls:=.type "tuple",dict:=dct,data:=.seq items n,slots:=sl }/\
   R (.ok (.ret (.ref (s.heap.push { cls:=.type "tuple_iterator",data:=.fields #[.ref l,.int 0 0] }).objs.size)))
    { s with heap:=(s.heap.push { cls:=.type "tuple_iterator",data:=.fields #[.ref l,.int 0 0] }).push { cls:=.type "enumerate",data:=.fields #[.none,.bool false,.ref s.heap.objs.size,rawInt 0,.none,.none] } }):=
 .of_wp λprog w A R s h=>by
  obtain ⟨hp,g,d,tk,os⟩:=s;obtain ⟨hl,h⟩:=h;have hsub:=sub_enumerate;have hL:Heap.IsTuple (Shared.heap ⟨hp,g,d,tk,os⟩) l items:=⟨_,hl,rfl,n,rfl⟩;wp_walk using wpAny_loadPart' hl
  refine wpAny_stack_any λst=>aS ?_;split
  ·rename_i c _ _ _ _ _;cases (c==Value.type "enumerate")
   ·wp_walk using wpAny_loadPart' hl,wpAny_pyIter_tuple hL
    exact ⟨_,rfl,h⟩
   ·wp_walk using wpAny_loadPart' hl,wpAny_pyIter_tuple hL
    exact ⟨_,rfl,h⟩
  ·wp_walk using wpAny_loadPart' hl,wpAny_pyIter_tuple hL
   exact ⟨_,rfl,h⟩
abbrev tY(h:Heap)(k:SK):Heap:=h.push k.obj
abbrev tZ(h:Heap)(k l:SK):Heap:=(tY h k).push l.obj
abbrev uc (h:Heap) (k l:SK):Heap:=(tZ h k l).push { cls:=.type "tuple",data:=.seq #[.ref h.objs.size,.ref (tY h k).objs.size] }
abbrev ud (h:Heap) (k l:SK):Heap:=(uc h k l).push { cls:=.type "tuple",data:=.seq #[.none,.none] }
abbrev iQ (h:Heap) (k l:SK):Heap:=(ud h k l).push { cls:=.type "zip",data:=.fields #[.none,.bool false,.bool false,.ref (tZ h k l).objs.size,.ref (uc h k l).objs.size] }
theorem aaq(k l:SK)(xs ys:Array Value):
  Meets (Builtin.«zip.__new__» ⟨[.type "zip",k.val,l.val],[]⟩) (λ_ R s=>k.On xs s.heap/\l.On ys s.heap/\R (.ok (.ret (.ref (ud s.heap k l).objs.size))) { s with heap:=iQ s.heap k l }):=
 .of_wp λprog w A R s h=>by
  obtain ⟨hp,g,d,tk,os⟩:=s;obtain ⟨h1,h2,h⟩:=h;have hsub:=sub_zip;have h1':k.On xs (Shared.heap ⟨hp,g,d,tk,os⟩):=h1;have h2':l.On ys (Shared.heap ⟨hp.push k.obj,g,d,tk,os⟩):=SK.On.keeps h2 λb o _ e=>ah _ e;wp_walk using SK.iter h1',SK.iter h2'
  exact ⟨_,rfl,h⟩
section
variable {prog:Program} {w:World} {A:Around} {E:Value->Shared->Prop} {s:Shared}
theorem aar{k l:SK}{xs ys:Array Value}{Q:Value->Shared->Prop}(h1:k.On xs s.heap)(h2:l.On ys s.heap)
  (h:∀h',IsZip h' (s.heap.objs.size+4) (s.heap.objs.size+2) (s.heap.objs.size+3) .none->IsPair h' (s.heap.objs.size+2) (.ref s.heap.objs.size) (.ref (s.heap.objs.size+1))->
   IsPair h' (s.heap.objs.size+3) .none .none->k.pos s.heap.objs.size 0 h'->l.pos (s.heap.objs.size+1) 0 h'->h'.objs.size=s.heap.objs.size+5->
   (∀c o,s.heap.get? c=some o->h'.get? c=some o)->Q (.ref (s.heap.objs.size+4)) { s with heap:=h' }):
  wpAny (model prog w) A (call (.type "zip") [k.val,l.val]) Q E s:=by
 refine callType_new F.called_zip (by decide) (F.typeCall_zip_2 _ _) (F.newCall_zip_2 _ _) (λobj=>F.args_object_init_3 obj _ _) F.entry_zip_new
  (aaq k l xs ys) ⟨h1,h2,?_⟩
 have z1:(tY s.heap k).objs.size=s.heap.objs.size+1:=dL ..;have z2:(tZ s.heap k l).objs.size=s.heap.objs.size+2:=by rw[dL,z1]
 have z3:(uc s.heap k l).objs.size=s.heap.objs.size+3:=by rw[dL,z2]
 have z4:(ud s.heap k l).objs.size=s.heap.objs.size+4:=by rw[dL,z3]
 have z5:(iQ s.heap k l).objs.size=s.heap.objs.size+5:=by rw[dL,z4]
 have g5:(iQ s.heap k l).get? (ud s.heap k l).objs.size=some _:=a9 _ rfl;have g4:(iQ s.heap k l).get? (uc s.heap k l).objs.size=some _:=ah _ (a9 _ rfl);have g3:(iQ s.heap k l).get? (tZ s.heap k l).objs.size=some _:=ah _ (ah _ (a9 _ rfl));have g2:(iQ s.heap k l).get? (tY s.heap k).objs.size=some _:=ah _ (ah _ (ah _ (a9 _ rfl)));have g1:(iQ s.heap k l).get? s.heap.objs.size=some _:=ah _ (ah _ (ah _ (ah _ (a9 _ rfl))));show _/\_;rw[z2,z3,z4]at g5;rw[z1,z2]at g3;rw[z3]at g4;rw[z1]at g2;rw[z4];exact ⟨⟨_,g5,rfl⟩,h _ g5 g3 g4 ⟨_,g1,rfl,rfl⟩ ⟨_,g2,rfl,rfl⟩ z5 λc o x=>
  ah _ (ah _ (ah _ (ah _ (ah _ x))))⟩
theorem aas{l:Addr}{items:Array Value}{Q:Value->Shared->Prop}(hL:s.heap.IsTuple l items)
  (h:∀h',IsEnum h' (s.heap.objs.size+1) s.heap.objs.size 0 .none->h'.IsTupleIter s.heap.objs.size l 0->h'.objs.size=s.heap.objs.size+2->
   (∀b o,s.heap.get? b=some o->h'.get? b=some o)->Q (.ref (s.heap.objs.size+1)) { s with heap:=h' }):
  wpAny (model prog w) A (call (.type "enumerate") [.ref l]) Q E s:=by
 obtain ⟨⟨c,dct,dt,sl⟩,hl,hc,n,hd⟩:=hL;replace hc:c=.type "tuple":=hc;replace hd:dt=.seq items n:=hd;subst hc hd;refine callType_new F.called_enumerate (by decide) (F.typeCall_enumerate_1 _) (F.newCall_enumerate_1 _) (λobj=>F.args_object_init_2 obj _) F.entry_enumerate_new
  (aap l items n dct sl) ⟨hl,?_⟩
 have hz:(s.heap.push { cls:=.type "tuple_iterator",data:=.fields #[.ref l,.int 0 0] }).objs.size=s.heap.objs.size+1:=dL ..;show _/\_;rw[hz];have he:IsEnum ((s.heap.push { cls:=.type "tuple_iterator",data:=.fields #[.ref l,.int 0 0] }).push
   { cls:=.type "enumerate",data:=.fields #[.none,.bool false,.ref s.heap.objs.size,rawInt 0,.none,.none] }) (s.heap.objs.size+1) s.heap.objs.size 0 .none:=by
  have:=a9 (s.heap.push { cls:=.type "tuple_iterator",data:=.fields #[.ref l,.int 0 0] })
   (o:={ cls:=.type "enumerate",data:=.fields #[.none,.bool false,.ref s.heap.objs.size,rawInt 0,.none,.none] }) rfl
  rw[hz]at this;exact this
 refine ⟨⟨_,he,rfl⟩,h _ he ⟨_,ah _ (a9 _ rfl),rfl,rfl⟩ (by rw[dL,hz]) λb o x=>ah _ (ah _ x)⟩
theorem aat{k:SK}{xs:Array Value}{Q:Value->Shared->Prop}(h1:k.On xs s.heap)
  (h:∀h',IsEnum h' (s.heap.objs.size+1) s.heap.objs.size 0 .none->k.pos s.heap.objs.size 0 h'->h'.objs.size=s.heap.objs.size+2->
   (∀b o,s.heap.get? b=some o->h'.get? b=some o)->Q (.ref (s.heap.objs.size+1)) { s with heap:=h' }):
  wpAny (model prog w) A (call (.type "enumerate") [k.val]) Q E s:=by
 cases k with
 |lst a=>exact call_enumerate_list h1 h
 |tup a=>exact aas h1 h
 |str x t=>exact call_enumerate_str h
end
structure OT where
 ms:List (String×String×String×Nat):=[]
 ks:List (String×Nat):=[]
 fl:List (String×String):=[]
structure CT where
 N:List Str
 kd:List (Str×NameKind)
 fn:Bool
 fs:List (String×Nat)
 bt:List String
 cn:List (String×D)
 xs:List (String×Bool):=[]
 ot:OT:={}
def iR:Option NameKind->Bool
 |some .local=>true
 |some .cell=>true
 |some .free=>true
 |_=>false
def CT.sto(c:CT)(x:Str):Bool:=c.kd.lookup x==some .local||(c.fn&&c.kd.lookup x==some .cell)
def okN (x:Str):Bool:=!(x==("__debug__":Str))&&!(x==("__classdict__":Str))&&!(x==("__name__":Str))
def CT.glo(c:CT)(x:Str):Bool:=c.kd.lookup x==some .globalImplicit&&okN x
noncomputable def sEq:D->D->Bool
 |.non,.non=>true
 |.bl a,.bl b=>a==b
 |.int a,.int b=>a==b
 |.str a,.str b=>a==b
 |_,_=>false
theorem aau{a b:D}(h:sEq a b=true):a=b:=by cases a <;> cases b <;> simp_all [sEq]
noncomputable def ue(d:D)(k:Const):Bool:=
 match d,k with
 |.non,.none=>true
 |.bl a,.bool b=>a==b
 |.int a,.int b=>a==b
 |.str a,.str b=>a==b.cps.toList&&decide (a.length<=sz)
 |_,_=>false
noncomputable def Bf.name:Bf->String
 |.len=>"len"
 |.all=>"all"
 |.int=>"int"
 |.tuple=>"tuple"
 |.sum=>"sum"
 |.min=>"min"
 |.max=>"max"
 |.abs=>"abs"
 |.min2=>"min"
 |.str=>"str"
noncomputable def xM:Bf->Bool
 |.sum=>false
 |.min=>true
 |.max=>false
 |.abs=>false
 |.min2=>false
 |.str=>true
 |_=>true
def xN:Lf->Bool
 |.sorted=>false
 |_=>true
def Lf.name:Lf->String
 |.list=>"list"
 |.sorted=>"sorted"
noncomputable def Mf.name:Mf->String
 |.join=>"join"
 |.append=>"append"
 |.extend=>"extend"
 |.insert=>"insert"
 |.pop=>"pop"
 |.count=>"count"
 |.index=>"index"
def uf:Expr->Bool
 |.Call (.Name _ _) [] [] _=>true
 |_=>false
def dw:Expr->Bool
 |.ListComp ..=>true
 |.SetComp ..=>true
 |.DictComp ..=>true
 |_=>false
noncomputable def iT:Expr->Bool
 |.UnaryOp .Not _ _=>false
 |.BoolOp ..=>false
 |.IfExp ..=>false
 |.Compare ..=>false
 |_=>true
noncomputable def eH(N:List Str)(scope:Scope):List Str->List (Option Nat)->Bool
 |[],[]=>true
 |_::N',none::cap=>eH N scope N' cap
 |x::N',some j::cap=>(N[j]?==some x)&&(scope.names.lookup x==some NameKind.free)&&eH N scope N' cap
 |_,_=>false
noncomputable def gb(c:CT)(scope:Scope):Bool:=
 scope.names.all (λy=>y.2 != NameKind.cell)&&scope.names.all (λy=>y.2 != NameKind.local||scope.names.lookup y.1==some NameKind.local) &&
 scope.names.all (λy=>y.2 != NameKind.free||(c.kd.lookup y.1==some NameKind.cell||c.kd.lookup y.1==some NameKind.free))&&decide (scope.kind=.function)&&decide (c.kd=c.kd)
def CT.comp(c:CT)(N:List Str)(scope:Scope):CT:={ N:=N,kd:=scope.names,fn:=false,fs:=c.fs,bt:=c.bt,cn:=c.cn,ot:=c.ot }
def cV:List Str->Bool
 |[]=>true
 |x::r=>!r.contains x&&cV r
noncomputable def asName(e:Expr):Option { t:Str×Pos // e=.Name t.1 t.2 }:=match e with
 |.Name a0 a1=>some ⟨(a0,a1),rfl⟩
 |_=>none
noncomputable def ug(e:Expr):Option { t:Const×Nat×Pos // e=.Constant t.1 t.2.1 t.2.2 }:=match e with
 |.Constant a0 a1 a2=>some ⟨(a0,a1,a2),rfl⟩
 |_=>none
noncomputable def Eg(e:Expr):Option { t:Expr×Operator×Expr×Pos // e=.BinOp t.1 t.2.1 t.2.2.1 t.2.2.2 }:=match e with
 |.BinOp a0 a1 a2 a3=>some ⟨(a0,a1,a2,a3),rfl⟩
 |_=>none
noncomputable def jR(e:Expr):Option { t:UnaryOp×Expr×Pos // e=.UnaryOp t.1 t.2.1 t.2.2 }:=match e with
 |.UnaryOp a0 a1 a2=>some ⟨(a0,a1,a2),rfl⟩
 |_=>none
noncomputable def lQ(e:Expr):Option { t:Expr×List CmpOp×List Expr×Pos // e=.Compare t.1 t.2.1 t.2.2.1 t.2.2.2 }:=match e with
 |.Compare a0 a1 a2 a3=>some ⟨(a0,a1,a2,a3),rfl⟩
 |_=>none
noncomputable def uh(e:Expr):Option { t:BoolOp×List Expr×Pos // e=.BoolOp t.1 t.2.1 t.2.2 }:=match e with
 |.BoolOp a0 a1 a2=>some ⟨(a0,a1,a2),rfl⟩
 |_=>none
noncomputable def Eh(e:Expr):Option { t:Expr×Expr×Expr×Pos // e=.IfExp t.1 t.2.1 t.2.2.1 t.2.2.2 }:=match e with
 |.IfExp a0 a1 a2 a3=>some ⟨(a0,a1,a2,a3),rfl⟩
 |_=>none
noncomputable def gU(e:Expr):Option { t:List Expr×Nat×Pos // e=.Tuple t.1 t.2.1 t.2.2 }:=match e with
 |.Tuple a0 a1 a2=>some ⟨(a0,a1,a2),rfl⟩
 |_=>none
noncomputable def asList(e:Expr):Option { t:List Expr×Pos // e=.List t.1 t.2 }:=match e with
 |.List a0 a1=>some ⟨(a0,a1),rfl⟩
 |_=>none
noncomputable def jT(e:Expr):Option { t:Expr×Expr×Pos // e=.Subscript t.1 t.2.1 t.2.2 }:=match e with
 |.Subscript a0 a1 a2=>some ⟨(a0,a1,a2),rfl⟩
 |_=>none
noncomputable def Ei(e:Expr):Option { t:Option Expr×Option Expr×Option Expr×Pos // e=.Slice t.1 t.2.1 t.2.2.1 t.2.2.2 }:=match e with
 |.Slice a0 a1 a2 a3=>some ⟨(a0,a1,a2,a3),rfl⟩
 |_=>none
noncomputable def xO(e:Expr):Option { t:Expr×List Expr×List Keyword×Pos // e=.Call t.1 t.2.1 t.2.2.1 t.2.2.2 }:=match e with
 |.Call a0 a1 a2 a3=>some ⟨(a0,a1,a2,a3),rfl⟩
 |_=>none
noncomputable def Ej(e:Expr):Option { t:Expr×Str×Pos // e=.Attribute t.1 t.2.1 t.2.2 }:=match e with
 |.Attribute a0 a1 a2=>some ⟨(a0,a1,a2),rfl⟩
 |_=>none
noncomputable def um(e:Expr):Option { t:Expr×List Comprehension×Scope×Pos // e=.ListComp t.1 t.2.1 t.2.2.1 t.2.2.2 }:=match e with
 |.ListComp a0 a1 a2 a3=>some ⟨(a0,a1,a2,a3),rfl⟩
 |_=>none
noncomputable def uo(e:Stmt):Option { t:Expr×Pos // e=.Expr t.1 t.2 }:=match e with
 |.Expr a0 a1=>some ⟨(a0,a1),rfl⟩
 |_=>none
noncomputable def gW(e:Stmt):Option { t:List Expr×Expr×Pos // e=.Assign t.1 t.2.1 t.2.2 }:=match e with
 |.Assign a0 a1 a2=>some ⟨(a0,a1,a2),rfl⟩
 |_=>none
noncomputable def Ek(e:Stmt):Option { t:Expr×Operator×Expr×Pos // e=.AugAssign t.1 t.2.1 t.2.2.1 t.2.2.2 }:=match e with
 |.AugAssign a0 a1 a2 a3=>some ⟨(a0,a1,a2,a3),rfl⟩
 |_=>none
noncomputable def El(e:Stmt):Option { t:Option Expr×Option Expr×Pos // e=.Raise t.1 t.2.1 t.2.2 }:=match e with
 |.Raise a0 a1 a2=>some ⟨(a0,a1,a2),rfl⟩
 |_=>none
noncomputable def Em(e:Stmt):Option { t:List Stmt×List ExceptHandler×List Stmt×List Stmt×Pos // e=.Try t.1 t.2.1 t.2.2.1 t.2.2.2.1 t.2.2.2.2 }:=match e with
 |.Try a0 a1 a2 a3 a4=>some ⟨(a0,a1,a2,a3,a4),rfl⟩
 |_=>none
noncomputable def Eo(e:ExceptHandler):Option { t:Option Expr×Option Str×List Stmt×Pos // e=.ExceptHandler t.1 t.2.1 t.2.2.1 t.2.2.2 }:=match e with
 |.ExceptHandler a0 a1 a2 a3=>some ⟨(a0,a1,a2,a3),rfl⟩
noncomputable def xP(e:Expr):Option { t:Expr×Int×Option Expr×Pos // e=.FormattedValue t.1 t.2.1 t.2.2.1 t.2.2.2 }:=match e with
 |.FormattedValue a0 a1 a2 a3=>some ⟨(a0,a1,a2,a3),rfl⟩
 |_=>none
noncomputable def aav(e:Expr):Option { t:List Expr×Pos // e=.JoinedStr t.1 t.2 }:=match e with
 |.JoinedStr a0 a1=>some ⟨(a0,a1),rfl⟩
 |_=>none
def aaw(k:Const):Option { x:Str // k=.str x }:=match k with
 |.str x=>some ⟨x,rfl⟩
 |_=>none
def aij(b:Bool)(k:Const):Bool:=match k with
 |.bool c=>c==b
 |_=>false
noncomputable def uq(e:Stmt):Option { t:Option Expr×Pos // e=.Return t.1 t.2 }:=match e with
 |.Return a0 a1=>some ⟨(a0,a1),rfl⟩
 |_=>none
noncomputable def ur(e:Stmt):Option { t:Expr×List Stmt×List Stmt×Pos // e=.If t.1 t.2.1 t.2.2.1 t.2.2.2 }:=match e with
 |.If a0 a1 a2 a3=>some ⟨(a0,a1,a2,a3),rfl⟩
 |_=>none
noncomputable def Ep(e:Stmt):Option { t:Expr×Expr×List Stmt×List Stmt×Pos // e=.For t.1 t.2.1 t.2.2.1 t.2.2.2.1 t.2.2.2.2 }:=match e with
 |.For a0 a1 a2 a3 a4=>some ⟨(a0,a1,a2,a3,a4),rfl⟩
 |_=>none
noncomputable def Er(e:Stmt):Option { t:Expr×List Stmt×List Stmt×Pos // e=.While t.1 t.2.1 t.2.2.1 t.2.2.2 }:=match e with
 |.While a0 a1 a2 a3=>some ⟨(a0,a1,a2,a3),rfl⟩
 |_=>none
def Es(e:Stmt):Option { t:Pos // e=.Pass t }:=match e with
 |.Pass a0=>some ⟨a0,rfl⟩
 |_=>none
def Et(e:Stmt):Option { t:Pos // e=.Break t }:=match e with
 |.Break a0=>some ⟨a0,rfl⟩
 |_=>none
def Eu(e:Stmt):Option { t:Pos // e=.Continue t }:=match e with
 |.Continue a0=>some ⟨a0,rfl⟩
 |_=>none
def one{α:Type}:List α->Option α
 |[a]=>some a
 |_=>none
def three{α:Type}:List α->Option (α×α×α)
 |[x,y,z]=>some (x,y,z)
 |_=>none
theorem aax{α:Type}{l:List α}{v:α×α×α}(h:three l=some v):l=[v.1,v.2.1,v.2.2]:=by
 unfold three at h;split at h
 ·cases h;rfl
 ·cases h
def two{α:Type}:List α->Option (α×α)
 |[a,b]=>some (a,b)
 |_=>none
def hdT{α:Type}:List α->Option (α×List α)
 |a::r=>some (a,r)
 |[]=>none
theorem bW{α:Type}{l:List α}{a:α}(h:one l=some a):l=[a]:=by
 cases l with
 |nil=>cases h
 |cons x r=>cases r with
  |nil=>cases h;rfl
  |cons _ _=>cases h
theorem jU{α:Type}{l:List α}{a:α×α}(h:two l=some a):l=[a.1,a.2]:=by
 cases l with
 |nil=>cases h
 |cons x r=>cases r with
  |nil=>cases h
  |cons y r=>cases r with
   |nil=>cases h;rfl
   |cons _ _=>cases h
theorem Ew{α:Type}{l:List α}{a:α×List α}(h:hdT l=some a):l=a.1::a.2:=by
 cases l with
 |nil=>cases h
 |cons x r=>cases h;rfl
theorem aN{α:Type}{o:Option α}{p:α->Bool}(h:o.any p=true):∃t,o=some t/\p t=true:=by
 cases o with
 |none=>cases h
 |some t=>exact ⟨t,rfl,h⟩
def xQ:UnaryOp->Bool
 |.USub=>true
 |_=>false
def lR:UnaryOp->Bool
 |.Not=>true
 |_=>false
theorem aay{o:UnaryOp}(h:xQ o=true):o=.USub:=by cases o <;> first |rfl |cases h
theorem Ey{o:UnaryOp}(h:lR o=true):o=.Not:=by cases o <;> first |rfl |cases h
noncomputable def bc(e:Expr):Option (Str×Pos×List Expr×Pos):=(xO e).bind λt=>(asName t.1.1).bind λn=>match t.1.2.2.1 with |[]=>some (n.1.1,n.1.2,t.1.2.1,t.1.2.2.2) |_::_=>none
noncomputable def az{α:Type}{q:α->Prop}(o:Option { t:α // q t })(P:α->Bool):Bool:=match o with |some t=>P t.1 |none=>false
theorem aJ{α:Type}{q:α->Prop}{o:Option { t:α // q t }}{P:α->Bool}(h:az o P=true):∃t,q t/\P t=true:=by
 cases o with
 |none=>cases h
 |some t=>exact ⟨t.1,t.2,h⟩
theorem Ez{α β:Type}{o:Option α}{f:α->Option β}{b:β}(h:o.bind f=some b):∃t,o=some t/\f t=some b:=by
 cases o with
 |none=>cases h
 |some t=>exact ⟨t,rfl,h⟩
theorem cW{e:Expr}{t:Str×Pos×List Expr×Pos}(h:bc e=some t):e=.Call (.Name t.1 t.2.1) t.2.2.1 [] t.2.2.2:=by
 obtain ⟨⟨⟨f,as,ks,p⟩,hu⟩,_,h⟩:=Ez h;obtain ⟨⟨⟨x,p'⟩,hn⟩,_,h⟩:=Ez h;dsimp only at h hn hu;cases ks with
 |nil=>cases h;rw[hu,hn]
 |cons _ _=>cases h
def lU(e:Expr):Bool:=(lQ e).isSome
def EY:Ex->Bool
 |.frz _=>false
 |_=>true
def xR:Tx->Bool
 |.yes=>true
 |_=>false
mutual
noncomputable def bu(c:CT):Tg->Expr->Bool
 |.nm i,e=>az (asName e) λt=>(c.N[i]?==some t.1)&&c.sto t.1
 |.tp ts,e=>az (gU e) λt=>cA c ts t.1
noncomputable def cA(c:CT):Tgs->List Expr->Bool
 |.nil,es=>es.isEmpty
 |.cons t r,es=>match es with
  |e::es=>bu c t e&&cA c r es
  |[]=>false
end
def xT(e:Expr):Bool:=az (ug e) λt=>az (aaw t.1) λx=>decide (x.length<=1000)
def unF(e:Expr):Expr:=match xP e with |some t=>t.1.1 |none=>e
def aaz:Ex->Bool
 |.cst (.str _)=>true
 |_=>false
noncomputable def aaA:Exs->List Expr->Bool
 |.cons x xs,p::ps=>(match xP p with |some t=>decide (t.1.2.1=-1)&&t.1.2.2.1.isNone |none=>aaz x)&&aaA xs ps
 |.nil,ps=>ps.isEmpty
 |_,[]=>false
mutual
noncomputable def ak(c:CT):Ex->Expr->Bool
 |.var i,e=>az (asName e) λt=>(c.N[i]?==some t.1)&&iR (c.kd.lookup t.1)&&okN t.1
 |.cst d,e=>az (ug e) λt=>ue d t.1
 |.glb x d,e=>az (asName e) λt=>t.1==Str.ofString x&&c.glo t.1&&c.cn.any (λp=>p.1==x&&sEq p.2 d)
 |.bin op _ a b,e=>az (Eg e) λt=>t.2.1==op&&ak c a t.1&&ak c b t.2.2.1
 |.neg a,e=>az (jR e) λt=>xQ t.1&&ak c a t.2.1
 |.cmp op a b,e=>az (lQ e) λt=>(one t.2.1).any λo=>(one t.2.2.1).any λr=>o==op&&ak c a t.1&&ak c b r
 |.chn op op' a b d,e=>az (lQ e) λt=>(two t.2.1).any λo=>(two t.2.2.1).any λr=>o.1==op&&o.2==op'&&ak c a t.1&&ak c b r.1&&ak c d r.2
 |.not a,e=>az (jR e) λt=>lR t.1&&ak c a t.2.1
 |.boo isAnd x es,e=>az (uh e) λt=>(hdT t.2.1).any λv=>t.1==(if isAnd then .And else .Or)&&ak c x v.1&&aK c es v.2
 |.ife t a b,e=>az (Eh e) λu=>bf c t u.1&&ak c a u.2.1&&ak c b u.2.2.1
 |.tup es,e=>az (gU e) λt=>aK c es t.1
 |.lst _ es,e=>az (asList e) λt=>aK c es t.1
 |.idx a i,e=>az (jT e) λt=>ak c a t.1&&ak c i t.2.1
 |.slc _ a lo hi,e=>az (jT e) λt=>az (Ei t.2.1) λs=>s.2.2.1.isNone&&(ak c a t.1&&gf c lo s.1&&gf c hi s.2.1)
 |.rvs _ _ _,_=>false
 |.call f es,e=>(bc e).any λt=>t.1==Str.ofString f&&c.glo t.1&&(c.fs.any λp=>p.1==f&&p.2==t.2.2.1.length)&&!t.2.2.1.isEmpty&&aK c es t.2.2.1
 |.bcl f es,e=>(bc e).any λt=>t.1==Str.ofString f.name&&xM f&&c.glo t.1&&c.bt.contains f.name&&!t.2.2.1.isEmpty&&aK c es t.2.2.1
 |.lcl _ f es,e=>(bc e).any λt=>t.1==Str.ofString f.name&&xN f&&c.glo t.1&&c.bt.contains f.name&&!t.2.2.1.isEmpty&&aK c es t.2.2.1
 |.isi a t,e=>(bc e).any λu=>(two u.2.2.1).any λv=>az (asName v.2) λy=>u.1==Str.ofString "isinstance"&&c.glo u.1&&c.bt.contains "isinstance"&&ak c a v.1&&y.1==Str.ofString t&&c.glo y.1&&c.bt.contains t&&fY t
 |.isx a C xs,e=>(bc e).any λu=>(two u.2.2.1).any λv=>az (asName v.2) λy=>u.1==Str.ofString "isinstance"&&c.glo u.1&&c.bt.contains "isinstance"&&ak c a v.1&&y.1==Str.ofString C&&c.glo y.1&&c.xs.contains (C,false)&&xs.all λx=>c.xs.contains (x,true)
 |.fst _,_=>false
 |.rgl _ _,_=>false
 |.rgt _,_=>false
 |.rpl _ _ _ _,_=>false
 |.fld _ _ _,_=>false
 |.mcl _ _ _ _ _,_=>false
 |.mko _ _,_=>false
 |.pp0 _,_=>false
 |.mth m o es,e=>az (xO e) λt=>az (Ej t.1) λv=>t.2.2.1.isEmpty&&(v.2.1==Str.ofString m.name&&ak c o v.1&&!uf v.1&&(v.2.2.endLine==t.2.2.2.line)&&decide (t.2.1.length < 29)&&!t.2.1.isEmpty&&aK c es t.2.1)
 |.comp _ elt tg it cond N cap,e=>az (um e) λt=>(one t.2.1).any λg=>decide (g.is_async=0)&&aU c it g.target g.iter&&eH c.N t.2.2.1 (N.map Str.ofString) cap&&gb c t.2.2.1&&cV (N.map Str.ofString) &&
    bu (c.comp (N.map Str.ofString) t.2.2.1) tg g.target&&((xR cond&&g.ifs.isEmpty)||(one g.ifs).any λf=>bf (c.comp (N.map Str.ofString) t.2.2.1) cond f)&&ak (c.comp (N.map Str.ofString) t.2.2.1) elt t.1
 |.cm3 elt t1 i1 t2 i2 t3 i3 N cap,e=>az (um e) λt=>(three t.2.1).any λg=>decide (g.1.is_async=0)&&decide (g.2.1.is_async=0)&&decide (g.2.2.is_async=0)&&g.1.ifs.isEmpty&&g.2.1.ifs.isEmpty&&g.2.2.ifs.isEmpty&&aU c i1 g.1.target g.1.iter&&eH c.N t.2.2.1 (N.map Str.ofString) cap&&gb c t.2.2.1&&cV (N.map Str.ofString)&&bu (c.comp (N.map Str.ofString) t.2.2.1) t1 g.1.target&&aU (c.comp (N.map Str.ofString) t.2.2.1) i2 g.2.1.target g.2.1.iter&&bu (c.comp (N.map Str.ofString) t.2.2.1) t2 g.2.1.target&&aU (c.comp (N.map Str.ofString) t.2.2.1) i3 g.2.2.target g.2.2.iter&&bu (c.comp (N.map Str.ofString) t.2.2.1) t3 g.2.2.target&&ak (c.comp (N.map Str.ofString) t.2.2.1) elt t.1
 |.frz a,e=>ak c a e
noncomputable def bf(c:CT):Tx->Expr->Bool
 |.val x,e=>(iT e||lU e)&&ak c x e&&EY x
 |.not t,e=>az (jR e) λu=>lR u.1&&bf c t u.2.1
 |.boo isAnd t ts,e=>az (uh e) λu=>(hdT u.2.1).any λv=>u.1==(if isAnd then .And else .Or)&&bf c t v.1&&iU c ts v.2
 |.yes,_=>false
noncomputable def iU(c:CT):Txs->List Expr->Bool
 |.nil,es=>es.isEmpty
 |.cons t r,es=>match es with
  |e::es=>bf c t e&&iU c r es
  |[]=>false
noncomputable def aK(c:CT):Exs->List Expr->Bool
 |.nil,es=>es.isEmpty
 |.cons t r,es=>match es with
  |e::es=>ak c t e&&aK c r es
  |[]=>false
noncomputable def gf(c:CT):Ox->Option Expr->Bool
 |.no,e=>e.isNone
 |.ob x,e=>match e with
  |some e=>ak c x e
  |none=>false
noncomputable def aU(c:CT):It'->Expr->Expr->Bool
 |.seq x,_,e=>ak c x e
 |.rng a,_,e=>(bc e).any λt=>(one t.2.2.1).any λv=>t.1==Str.ofString "range"&&c.glo t.1&&c.bt.contains "range"&&ak c a v
 |.rng2 a b,_,e=>(bc e).any λt=>(two t.2.2.1).any λv=>t.1==Str.ofString "range"&&c.glo t.1&&c.bt.contains "range"&&ak c a v.1&&ak c b v.2
 |.rev a,_,e=>(bc e).any λt=>(one t.2.2.1).any λv=>(bc v).any λt'=>(one t'.2.2.1).any λv'=>t.1==Str.ofString "reversed"&&c.glo t.1&&c.bt.contains "reversed"&&t'.1==Str.ofString "range"&&c.glo t'.1&&c.bt.contains "range"&&ak c a v'
 |.dwn _ _ _,_,_=>false
 |.enm a,tg,e=>az (gU tg) λ_=>(bc e).any λt=>(one t.2.2.1).any λv=>t.1==Str.ofString "enumerate"&&c.glo t.1&&c.bt.contains "enumerate"&&ak c a v
 |.zip a b,tg,e=>az (gU tg) λ_=>(bc e).any λt=>(two t.2.2.1).any λv=>t.1==Str.ofString "zip"&&c.glo t.1&&c.bt.contains "zip"&&ak c a v.1&&ak c b v.2
end
def lV(c:CT)(cond:Tx)(ifs:List Expr):Bool:=(xR cond&&ifs.isEmpty)||(one ifs).any λf=>bf c cond f
def Fb:Ex->Bool
 |.comp ..=>true
 |.cm3 ..=>true
 |_=>false
def Fd:Expr->Bool
 |.Tuple ..=>true
 |_=>false
def xU(g:Tg)(x:Ex)(e:Expr):Bool:=match g with |.nm _=>!dw e||Fb x |.tp _=>!Fd e&&!dw e
noncomputable def lW(c:CT):Exs->List Expr->Bool
 |es,[]=>(match es with |.nil=>true |_=>false)
 |es,p::ps=>match xT p with
  |true=>lW c es ps
  |false=>(match es with |.cons x r=>(az (xP p) λt=>decide (t.2.1=-1)&&t.2.2.1.isNone&&ak c x t.1)&&lW c r ps |.nil=>false)
noncomputable def ut(c:CT)(es:Exs)(e:Expr):Bool:=(match es with |.nil=>xT e |_=>false)||az (aav e) λt=>decide (2<=t.1.length)&&decide (t.1.length<=50)&&lW c es t.1
noncomputable def cX(c:CT):Tb->List Stmt->Bool
 |.call f es,sts=>(one sts).any λs0=>az (uo s0) λe0=>(bc e0.1).any λu=>(u.1==Str.ofString f&&c.glo u.1&&(c.fs.any λp=>p.1==f&&p.2==u.2.2.1.length)&&!u.2.2.1.isEmpty&&aK c es u.2.2.1)
 |.pick _ _ _ _,_=>false
 |.asg i f es,sts=>(one sts).any λs0=>az (gW s0) λa=>(one a.1).any λtg=>az (asName tg) λy=>(bc a.2.1).any λu=>(c.N[i]?==some y.1&&c.sto y.1&&okN y.1)&&(u.1==Str.ofString f&&c.glo u.1&&(c.fs.any λp=>p.1==f&&p.2==u.2.2.1.length)&&!u.2.2.1.isEmpty&&aK c es u.2.2.1)
 |.ite t a b,sts=>(one sts).any λs0=>az (ur s0) λu=>bf c t u.1&&cX c a u.2.1&&cX c b u.2.2.1
 |.mcl _ _ _ _ _,_=>false
 |.mko _ _,_=>false
def xV(b:Bool):Const->Bool
 |.bool x=>x==b
 |_=>false
noncomputable def uv(c:CT)(h:Hd)(nm:Option Str)(y:Str)(e:Expr):Bool:=(match h with
 |.flag i b=>nm.isNone&&(c.N[i]?==some y)&&az (ug e) λk=>xV b k.1
 |.bind n i=>nm.any λx=>(c.N[i]?==some y)&&(c.N[n]?==some x)&&(c.kd.lookup x==some .local)&&okN x&&az (asName e) λz=>z.1==x)&&c.sto y&&okN y
mutual
noncomputable def aY(c:CT):Sx->Stmt->Bool
 |.exp x,st=>az (uo st) λt=>!dw t.1&&ak c x t.1
 |.asg g x,st=>az (gW st) λt=>(one t.1).any λtg=>bu c g tg&&ak c x t.2.1&&xU g x t.2.1
 |.set o i x,st=>az (gW st) λt=>(one t.1).any λtg=>az (jT tg) λu=>ak c o u.1&&ak c i u.2.1&&ak c x t.2.1&&!dw t.2.1
 |.aug i op x,st=>az (Ek st) λt=>az (asName t.1) λy=>t.2.1==op&&(c.N[i]?==some y.1)&&c.sto y.1&&okN y.1&&ak c x t.2.2.1
 |.augs _ _ _ _,_=>false
 |.ret x,st=>az (uq st) λt=>t.1.any λe=>ak c x e
 |.rtn,st=>az (uq st) λt=>t.1.isNone
 |.ite t a b,st=>az (ur st) λu=>bf c t u.1&&aB c a u.2.1&&aB c b u.2.2.1
 |.for_ g it b,st=>az (Ep st) λt=>t.2.2.2.1.isEmpty&&(bu c g t.1&&aU c it t.1 t.2.1&&aB c b t.2.2.1)
 |.whl t b,st=>az (Er st) λu=>u.2.2.1.isEmpty&&(bf c t u.1&&aB c b u.2.1)
 |.pas,st=>(Es st).isSome
 |.brk,st=>(Et st).isSome
 |.cnt,st=>(Eu st).isSome
 |.nev,_=>true
 |.rse C es,st=>az (El st) λt=>t.2.1.isNone&&t.1.any λe=>(bc e).any λu=>u.1==Str.ofString C&&c.glo u.1&&c.xs.contains (C,true)&&(one u.2.2.1).any λm=>ut c es m
 |.tryc _ _ _ _ _,_=>false
 |.tryx b C h xs,st=>az (Em st) λt=>t.2.2.1.isEmpty&&t.2.2.2.1.isEmpty&&cX c b t.1&&(xs.all λx=>c.xs.contains (x,true))&&!(C=="ValueError")&&(one t.2.1).any λhd=>az (Eo hd) λw=>w.1.any λte=>az (asName te) λn=>(n.1==Str.ofString C&&c.glo n.1&&c.xs.contains (C,false))&&(one w.2.2.1).any λs1=>az (gW s1) λa=>(one a.1).any λtg=>az (asName tg) λy=>uv c h w.2.1 y.1 a.2.1
noncomputable def aB(c:CT):Sxs->List Stmt->Bool
 |.nil,es=>es.isEmpty
 |.cons t r,es=>match es with
  |e::es=>aY c t e&&aB c r es
  |[]=>false
end
theorem xW{c:CT}{i:Nat}{e:Expr}(h:bu c (.nm i) e=true):∃x p,e=.Name x p/\((c.N[i]?==some x)&&c.sto x)=true:=by have h:(az (asName e) λt=>(c.N[i]?==some t.1)&&c.sto t.1)=true:=h;obtain ⟨t,ht,h⟩:=aJ h;exact ⟨_,_,ht,h⟩
theorem xX{c:CT}{ts:Tgs}{e:Expr}(h:bu c (.tp ts) e=true):∃es k p,e=.Tuple es k p/\(cA c ts es)=true:=by have h:(az (gU e) λt=>cA c ts t.1)=true:=h;obtain ⟨t,ht,h⟩:=aJ h;exact ⟨_,_,_,ht,h⟩
theorem Fe{c:CT}{i:Nat}{e:Expr}(h:ak c (.var i) e=true):∃x p,e=.Name x p/\((c.N[i]?==some x)&&iR (c.kd.lookup x)&&okN x)=true:=by have h:(az (asName e) λt=>(c.N[i]?==some t.1)&&iR (c.kd.lookup t.1)&&okN t.1)=true:=h;obtain ⟨t,ht,h⟩:=aJ h;exact ⟨_,_,ht,h⟩
theorem Ff{c:CT}{d:D}{e:Expr}(h:ak c (.cst d) e=true):∃k n p,e=.Constant k n p/\(ue d k)=true:=by have h:(az (ug e) λt=>ue d t.1)=true:=h;obtain ⟨t,ht,h⟩:=aJ h;exact ⟨_,_,_,ht,h⟩
theorem Fg{c:CT}{x:String}{d:D}{e:Expr}(h:ak c (.glb x d) e=true):∃y p,e=.Name y p/\(y==Str.ofString x&&c.glo y&&c.cn.any (λp=>p.1==x&&sEq p.2 d))=true:=by have h:(az (asName e) λt=>t.1==Str.ofString x&&c.glo t.1&&c.cn.any (λp=>p.1==x&&sEq p.2 d))=true:=h;obtain ⟨t,ht,h⟩:=aJ h;exact ⟨_,_,ht,h⟩
theorem Fi{c:CT}{op:Operator}{fz:Bool}{a b:Ex}{e:Expr}(h:ak c (.bin op fz a b) e=true):∃l o r p,e=.BinOp l o r p/\(o==op&&ak c a l&&ak c b r)=true:=by have h:(az (Eg e) λt=>t.2.1==op&&ak c a t.1&&ak c b t.2.2.1)=true:=h;obtain ⟨t,ht,h⟩:=aJ h;exact ⟨_,_,_,_,ht,h⟩
theorem Fj{c:CT}{a:Ex}{e:Expr}(h:ak c (.neg a) e=true):∃x p,e=.UnaryOp .USub x p/\(ak c a x)=true:=by have h:(az (jR e) λt=>xQ t.1&&ak c a t.2.1)=true:=h;obtain ⟨t,ht,h⟩:=aJ h;rw[ae]at h;exact ⟨_,_,by rw[ht,aay h.1],h.2⟩
theorem Fl{c:CT}{a:Ex}{e:Expr}(h:ak c (.not a) e=true):∃x p,e=.UnaryOp .Not x p/\(ak c a x)=true:=by have h:(az (jR e) λt=>lR t.1&&ak c a t.2.1)=true:=h;obtain ⟨t,ht,h⟩:=aJ h;rw[ae]at h;exact ⟨_,_,by rw[ht,Ey h.1],h.2⟩
theorem Fp{c:CT}{op:CmpOp}{a b:Ex}{e:Expr}(h:ak c (.cmp op a b) e=true):∃l o r p,e=.Compare l [o] [r] p/\(o==op&&ak c a l&&ak c b r)=true:=by have h:(az (lQ e) λt=>(one t.2.1).any λo=>(one t.2.2.1).any λr=>o==op&&ak c a t.1&&ak c b r)=true:=h;obtain ⟨t,ht,h⟩:=aJ h;obtain ⟨o,ho,h⟩:=aN h;obtain ⟨r,hr,h⟩:=aN h;exact ⟨_,_,_,_,by rw[ht,bW ho,bW hr],h⟩
theorem Fq{c:CT}{op op':CmpOp}{a b d:Ex}{e:Expr}(h:ak c (.chn op op' a b d) e=true):∃l o o' m r p,e=.Compare l [o,o'] [m,r] p/\(o==op&&o'==op'&&ak c a l&&ak c b m&&ak c d r)=true:=by have h:(az (lQ e) λt=>(two t.2.1).any λo=>(two t.2.2.1).any λr=>o.1==op&&o.2==op'&&ak c a t.1&&ak c b r.1&&ak c d r.2)=true:=h;obtain ⟨t,ht,h⟩:=aJ h;obtain ⟨o,ho,h⟩:=aN h;obtain ⟨r,hr,h⟩:=aN h;exact ⟨_,_,_,_,_,_,by rw[ht,jU ho,jU hr],h⟩
theorem Ft{c:CT}{isAnd:Bool}{x:Ex}{es:Exs}{e:Expr}(h:ak c (.boo isAnd x es) e=true):∃op v vs p,e=.BoolOp op (v::vs) p/\(op==(if isAnd then .And else .Or)&&ak c x v&&aK c es vs)=true:=by have h:(az (uh e) λt=>(hdT t.2.1).any λv=>t.1==(if isAnd then .And else .Or)&&ak c x v.1&&aK c es v.2)=true:=h;obtain ⟨t,ht,h⟩:=aJ h;obtain ⟨v,hv,h⟩:=aN h;exact ⟨_,_,_,_,by rw[ht,Ew hv],h⟩
theorem Fv{c:CT}{t:Tx}{a b:Ex}{e:Expr}(h:ak c (.ife t a b) e=true):∃t' a' b' p,e=.IfExp t' a' b' p/\(bf c t t'&&ak c a a'&&ak c b b')=true:=by have h:(az (Eh e) λu=>bf c t u.1&&ak c a u.2.1&&ak c b u.2.2.1)=true:=h;obtain ⟨u,ht,h⟩:=aJ h;exact ⟨_,_,_,_,ht,h⟩
theorem Fw{c:CT}{es:Exs}{e:Expr}(h:ak c (.tup es) e=true):∃vs k p,e=.Tuple vs k p/\(aK c es vs)=true:=by have h:(az (gU e) λt=>aK c es t.1)=true:=h;obtain ⟨t,ht,h⟩:=aJ h;exact ⟨_,_,_,ht,h⟩
theorem Fx{c:CT}{fz:Bool}{es:Exs}{e:Expr}(h:ak c (.lst fz es) e=true):∃vs p,e=.List vs p/\(aK c es vs)=true:=by have h:(az (asList e) λt=>aK c es t.1)=true:=h;obtain ⟨t,ht,h⟩:=aJ h;exact ⟨_,_,ht,h⟩
theorem Fy{c:CT}{a i:Ex}{e:Expr}(h:ak c (.idx a i) e=true):∃v s p,e=.Subscript v s p/\(ak c a v&&ak c i s)=true:=by have h:(az (jT e) λt=>ak c a t.1&&ak c i t.2.1)=true:=h;obtain ⟨t,ht,h⟩:=aJ h;exact ⟨_,_,_,ht,h⟩
theorem FJ{c:CT}{fz:Bool}{a:Ex}{lo hi:Ox}{e:Expr}(h:ak c (.slc fz a lo hi) e=true):∃v l u p' p,e=.Subscript v (.Slice l u none p') p/\(ak c a v&&gf c lo l&&gf c hi u)=true:=by have h:(az (jT e) λt=>az (Ei t.2.1) λs=>s.2.2.1.isNone&&(ak c a t.1&&gf c lo s.1&&gf c hi s.2.1))=true:=h;obtain ⟨t,ht,h⟩:=aJ h;obtain ⟨s,hs,h⟩:=aJ h;rw[ae,eJ]at h;exact ⟨_,_,_,_,_,by rw[ht,hs,h.1],h.2⟩
theorem FN{c:CT}{f:String}{es:Exs}{e:Expr}(h:ak c (.call f es) e=true):∃x p args pos,e=.Call (.Name x p) args [] pos/\(x==Str.ofString f&&c.glo x&&(c.fs.any λp=>p.1==f&&p.2==args.length)&&!args.isEmpty&&aK c es args)=true:=by have h:((bc e).any λt=>t.1==Str.ofString f&&c.glo t.1&&(c.fs.any λp=>p.1==f&&p.2==t.2.2.1.length)&&!t.2.2.1.isEmpty&&aK c es t.2.2.1)=true:=h;obtain ⟨t,ht,h⟩:=aN h;exact ⟨_,_,_,_,cW ht,h⟩
theorem FP{c:CT}{f:Bf}{es:Exs}{e:Expr}(h:ak c (.bcl f es) e=true):∃x p args pos,e=.Call (.Name x p) args [] pos/\(x==Str.ofString f.name&&xM f&&c.glo x&&c.bt.contains f.name&&!args.isEmpty&&aK c es args)=true:=by have h:((bc e).any λt=>t.1==Str.ofString f.name&&xM f&&c.glo t.1&&c.bt.contains f.name&&!t.2.2.1.isEmpty&&aK c es t.2.2.1)=true:=h;obtain ⟨t,ht,h⟩:=aN h;exact ⟨_,_,_,_,cW ht,h⟩
theorem FQ{c:CT}{fz:Bool}{f:Lf}{es:Exs}{e:Expr}(h:ak c (.lcl fz f es) e=true):∃x p args pos,e=.Call (.Name x p) args [] pos/\(x==Str.ofString f.name&&xN f&&c.glo x&&c.bt.contains f.name&&!args.isEmpty&&aK c es args)=true:=by have h:((bc e).any λt=>t.1==Str.ofString f.name&&xN f&&c.glo t.1&&c.bt.contains f.name&&!t.2.2.1.isEmpty&&aK c es t.2.2.1)=true:=h;obtain ⟨t,ht,h⟩:=aN h;exact ⟨_,_,_,_,cW ht,h⟩
theorem FT {c:CT} {a:Ex} {t:String} {e:Expr} (h:ak c (.isi a t) e=true):∃x p v y p' pos,e=.Call (.Name x p) [v,.Name y p'] [] pos/\(x==Str.ofString "isinstance"&&c.glo x&&c.bt.contains "isinstance"&&ak c a v&&y==Str.ofString t&&c.glo y&&c.bt.contains t&&fY t)=true:=by have h:((bc e).any λu=>(two u.2.2.1).any λv=>az (asName v.2) λy=>u.1==Str.ofString "isinstance"&&c.glo u.1&&c.bt.contains "isinstance"&&ak c a v.1&&y.1==Str.ofString t&&c.glo y.1&&c.bt.contains t&&fY t)=true:=h;obtain ⟨u,hu,h⟩:=aN h;obtain ⟨v,hv,h⟩:=aN h;obtain ⟨y,hy,h⟩:=aJ h;exact ⟨_,_,_,_,_,_,by rw[cW hu,jU hv,hy],h⟩
theorem FW {c:CT} {a:Ex} {C:String} {xs:List String} {e:Expr} (h:ak c (.isx a C xs) e=true):∃x p v y p' pos,e=.Call (.Name x p) [v,.Name y p'] [] pos/\(x==Str.ofString "isinstance"&&c.glo x&&c.bt.contains "isinstance"&&ak c a v&&y==Str.ofString C&&c.glo y&&c.xs.contains (C,false)&&xs.all λx=>c.xs.contains (x,true))=true:=by have h:((bc e).any λu=>(two u.2.2.1).any λv=>az (asName v.2) λy=>u.1==Str.ofString "isinstance"&&c.glo u.1&&c.bt.contains "isinstance"&&ak c a v.1&&y.1==Str.ofString C&&c.glo y.1&&c.xs.contains (C,false)&&xs.all λx=>c.xs.contains (x,true))=true:=h;obtain ⟨u,hu,h⟩:=aN h;obtain ⟨v,hv,h⟩:=aN h;obtain ⟨y,hy,h⟩:=aJ h;exact ⟨_,_,_,_,_,_,by rw[cW hu,jU hv,hy],h⟩
theorem Ga{c:CT}{m:Mf}{o:Ex}{es:Exs}{e:Expr}(h:ak c (.mth m o es) e=true):∃v x apos args cpos,e=.Call (.Attribute v x apos) args [] cpos/\(x==Str.ofString m.name&&ak c o v&&!uf v&&(apos.endLine==cpos.line)&&decide (args.length < 29)&&!args.isEmpty&&aK c es args)=true:=by have h:(az (xO e) λt=>az (Ej t.1) λv=>t.2.2.1.isEmpty&&(v.2.1==Str.ofString m.name&&ak c o v.1&&!uf v.1&&(v.2.2.endLine==t.2.2.2.line)&&decide (t.2.1.length < 29)&&!t.2.1.isEmpty&&aK c es t.2.1))=true:=h;obtain ⟨t,ht,h⟩:=aJ h;obtain ⟨v,hv,h⟩:=aJ h;rw[ae,e6]at h;exact ⟨_,_,_,_,_,by rw[ht,hv,h.1],h.2⟩
theorem Gb{c:CT}{fz:Bool}{elt:Ex}{tg:Tg}{it:It'}{cond:Tx}{N:List String}{cap:List (Option Nat)}{e:Expr}(h:ak c (.comp fz elt tg it cond N cap) e=true):∃elt' tg' iter ifs as scope pos,e=.ListComp elt' [⟨tg',iter,ifs,as⟩] scope pos/\(decide (as=0)&&aU c it tg' iter&&eH c.N scope (N.map Str.ofString) cap&&gb c scope&&cV (N.map Str.ofString)&&bu (c.comp (N.map Str.ofString) scope) tg tg'&&lV (c.comp (N.map Str.ofString) scope) cond ifs&&ak (c.comp (N.map Str.ofString) scope) elt elt')=true:=by have h:(az (um e) λt=>(one t.2.1).any λg=>decide (g.is_async=0)&&aU c it g.target g.iter&&eH c.N t.2.2.1 (N.map Str.ofString) cap&&gb c t.2.2.1&&cV (N.map Str.ofString)&&bu (c.comp (N.map Str.ofString) t.2.2.1) tg g.target&&((xR cond&&g.ifs.isEmpty)||(one g.ifs).any λf=>bf (c.comp (N.map Str.ofString) t.2.2.1) cond f)&&ak (c.comp (N.map Str.ofString) t.2.2.1) elt t.1)=true:=h;obtain ⟨t,ht,h⟩:=aJ h;obtain ⟨⟨tg',iter,ifs,as⟩,hg,h⟩:=aN h;exact ⟨t.1,tg',iter,ifs,as,t.2.2.1,t.2.2.2,(ht).trans (by rw[bW hg]),h⟩
theorem xY{c:CT}{elt:Ex}{t1 t2 t3:Tg}{i1 i2 i3:It'}{N:List String}{cap:List (Option Nat)}{e:Expr}(h:ak c (.cm3 elt t1 i1 t2 i2 t3 i3 N cap) e=true):∃elt' a1 b1 a2 b2 a3 b3 scope pos,e=.ListComp elt' [⟨a1,b1,[],0⟩,⟨a2,b2,[],0⟩,⟨a3,b3,[],0⟩] scope pos/\
  (aU c i1 a1 b1=true/\eH c.N scope (N.map Str.ofString) cap=true/\gb c scope=true/\cV (N.map Str.ofString)=true/\bu (c.comp (N.map Str.ofString) scope) t1 a1=true/\aU (c.comp (N.map Str.ofString) scope) i2 a2 b2=true/\bu (c.comp (N.map Str.ofString) scope) t2 a2=true/\aU (c.comp (N.map Str.ofString) scope) i3 a3 b3=true/\bu (c.comp (N.map Str.ofString) scope) t3 a3=true/\ak (c.comp (N.map Str.ofString) scope) elt elt'=true):=by
 have h:(az (um e) λt=>(three t.2.1).any λg=>decide (g.1.is_async=0)&&decide (g.2.1.is_async=0)&&decide (g.2.2.is_async=0)&&g.1.ifs.isEmpty&&g.2.1.ifs.isEmpty&&g.2.2.ifs.isEmpty&&aU c i1 g.1.target g.1.iter&&eH c.N t.2.2.1 (N.map Str.ofString) cap&&gb c t.2.2.1&&cV (N.map Str.ofString)&&bu (c.comp (N.map Str.ofString) t.2.2.1) t1 g.1.target&&aU (c.comp (N.map Str.ofString) t.2.2.1) i2 g.2.1.target g.2.1.iter&&bu (c.comp (N.map Str.ofString) t.2.2.1) t2 g.2.1.target&&aU (c.comp (N.map Str.ofString) t.2.2.1) i3 g.2.2.target g.2.2.iter&&bu (c.comp (N.map Str.ofString) t.2.2.1) t3 g.2.2.target&&ak (c.comp (N.map Str.ofString) t.2.2.1) elt t.1)=true:=h;obtain ⟨t,ht,h⟩:=aJ h;obtain ⟨⟨⟨a1,b1,f1,z1⟩,⟨a2,b2,f2,z2⟩,⟨a3,b3,f3,z3⟩⟩,hg,h⟩:=aN h;simp only[ae,bp,e6,and_assoc]at h;obtain ⟨rfl,rfl,rfl,rfl,rfl,rfl,h⟩:=h;exact ⟨t.1,a1,b1,a2,b2,a3,b3,t.2.2.1,t.2.2.2,(ht).trans (by rw[aax hg]),h⟩
theorem aaB{c:CT}{t:Tx}{e:Expr}(h:bf c (.not t) e=true):∃x p,e=.UnaryOp .Not x p/\(bf c t x)=true:=by have h:(az (jR e) λu=>lR u.1&&bf c t u.2.1)=true:=h;obtain ⟨u,ht,h⟩:=aJ h;rw[ae]at h;exact ⟨_,_,by rw[ht,Ey h.1],h.2⟩
theorem aaC{c:CT}{isAnd:Bool}{x:Tx}{es:Txs}{e:Expr}(h:bf c (.boo isAnd x es) e=true):∃op v vs p,e=.BoolOp op (v::vs) p/\(op==(if isAnd then .And else .Or)&&bf c x v&&iU c es vs)=true:=by have h:(az (uh e) λu=>(hdT u.2.1).any λv=>u.1==(if isAnd then .And else .Or)&&bf c x v.1&&iU c es v.2)=true:=h;obtain ⟨t,ht,h⟩:=aJ h;obtain ⟨v,hv,h⟩:=aN h;exact ⟨_,_,_,_,by rw[ht,Ew hv],h⟩
theorem Gd {c:CT} {a:Ex} {tg e:Expr} (h:aU c (.rng a) tg e=true):∃x p v pos,e=.Call (.Name x p) [v] [] pos/\(x==Str.ofString "range"&&c.glo x&&c.bt.contains "range"&&ak c a v)=true:=by have h:((bc e).any λt=>(one t.2.2.1).any λv=>t.1==Str.ofString "range"&&c.glo t.1&&c.bt.contains "range"&&ak c a v)=true:=h;obtain ⟨t,ht,h⟩:=aN h;obtain ⟨v,hv,h⟩:=aN h;exact ⟨_,_,_,_,by rw[cW ht,bW hv],h⟩
theorem Ge {c:CT} {a:Ex} {tg e:Expr} (h:aU c (.rev a) tg e=true):∃x p y q v pos pos',e=.Call (.Name x p) [.Call (.Name y q) [v] [] pos] [] pos'/\(x==Str.ofString "reversed"&&c.glo x&&c.bt.contains "reversed"&&y==Str.ofString "range"&&c.glo y&&c.bt.contains "range"&&ak c a v)=true:=by have h:((bc e).any λt=>(one t.2.2.1).any λv=>(bc v).any λt'=>(one t'.2.2.1).any λv'=>t.1==Str.ofString "reversed"&&c.glo t.1&&c.bt.contains "reversed"&&t'.1==Str.ofString "range"&&c.glo t'.1&&c.bt.contains "range"&&ak c a v')=true:=h;obtain ⟨t,ht,h⟩:=aN h;obtain ⟨v,hv,h⟩:=aN h;obtain ⟨t',ht',h⟩:=aN h;obtain ⟨v',hv',h⟩:=aN h;exact ⟨_,_,_,_,_,_,_,by rw[cW ht,bW hv,cW ht',bW hv'],h⟩
theorem Gf {c:CT} {a b:Ex} {tg e:Expr} (h:aU c (.rng2 a b) tg e=true):∃x p v v' pos,e=.Call (.Name x p) [v,v'] [] pos/\(x==Str.ofString "range"&&c.glo x&&c.bt.contains "range"&&ak c a v&&ak c b v')=true:=by have h:((bc e).any λt=>(two t.2.2.1).any λv=>t.1==Str.ofString "range"&&c.glo t.1&&c.bt.contains "range"&&ak c a v.1&&ak c b v.2)=true:=h;obtain ⟨t,ht,h⟩:=aN h;obtain ⟨v,hv,h⟩:=aN h;exact ⟨_,_,_,_,_,by rw[cW ht,jU hv],h⟩
theorem Gg {c:CT} {a:Ex} {tg e:Expr} (h:aU c (.enm a) tg e=true):∃ts k p0 x p v pos,tg=.Tuple ts k p0/\e=.Call (.Name x p) [v] [] pos/\(x==Str.ofString "enumerate"&&c.glo x&&c.bt.contains "enumerate"&&ak c a v)=true:=by have h:(az (gU tg) λ_=>(bc e).any λt=>(one t.2.2.1).any λv=>t.1==Str.ofString "enumerate"&&c.glo t.1&&c.bt.contains "enumerate"&&ak c a v)=true:=h;obtain ⟨g,hg,h⟩:=aJ h;obtain ⟨t,ht,h⟩:=aN h;obtain ⟨v,hv,h⟩:=aN h;exact ⟨_,_,_,_,_,_,_,hg,by rw[cW ht,bW hv],h⟩
theorem Gi {c:CT} {a b:Ex} {tg e:Expr} (h:aU c (.zip a b) tg e=true):∃ts k p0 x p v v' pos,tg=.Tuple ts k p0/\e=.Call (.Name x p) [v,v'] [] pos/\(x==Str.ofString "zip"&&c.glo x&&c.bt.contains "zip"&&ak c a v&&ak c b v')=true:=by have h:(az (gU tg) λ_=>(bc e).any λt=>(two t.2.2.1).any λv=>t.1==Str.ofString "zip"&&c.glo t.1&&c.bt.contains "zip"&&ak c a v.1&&ak c b v.2)=true:=h;obtain ⟨g,hg,h⟩:=aJ h;obtain ⟨t,ht,h⟩:=aN h;obtain ⟨v,hv,h⟩:=aN h;exact ⟨_,_,_,_,_,_,_,_,hg,by rw[cW ht,jU hv],h⟩
theorem aaD{c:CT}{x:Ex}{st:Stmt}(h:aY c (.exp x) st=true):∃e pos,st=.Expr e pos/\(!dw e&&ak c x e)=true:=by have h:(az (uo st) λt=>!dw t.1&&ak c x t.1)=true:=h;obtain ⟨t,ht,h⟩:=aJ h;exact ⟨_,_,ht,h⟩
theorem Gj{c:CT}{g:Tg}{x:Ex}{st:Stmt}(h:aY c (.asg g x) st=true):∃tg e pos,st=.Assign [tg] e pos/\(bu c g tg&&ak c x e&&xU g x e)=true:=by have h:(az (gW st) λt=>(one t.1).any λtg=>bu c g tg&&ak c x t.2.1&&xU g x t.2.1)=true:=h;obtain ⟨t,ht,h⟩:=aJ h;obtain ⟨g,hg,h⟩:=aN h;exact ⟨_,_,_,by rw[ht,bW hg],h⟩
theorem aaE{c:CT}{o i x:Ex}{st:Stmt}(h:aY c (.set o i x) st=true):∃o' i' tpos e pos,st=.Assign [.Subscript o' i' tpos] e pos/\(ak c o o'&&ak c i i'&&ak c x e&&!dw e)=true:=by have h:(az (gW st) λt=>(one t.1).any λtg=>az (jT tg) λu=>ak c o u.1&&ak c i u.2.1&&ak c x t.2.1&&!dw t.2.1)=true:=h;obtain ⟨t,ht,h⟩:=aJ h;obtain ⟨g,hg,h⟩:=aN h;obtain ⟨u,hu,h⟩:=aJ h;exact ⟨_,_,_,_,_,by rw[ht,bW hg,hu],h⟩
theorem aaF{c:CT}{i:Nat}{op:Operator}{x:Ex}{st:Stmt}(h:aY c (.aug i op x) st=true):∃y py o e pos,st=.AugAssign (.Name y py) o e pos/\(o==op&&(c.N[i]?==some y)&&c.sto y&&okN y&&ak c x e)=true:=by have h:(az (Ek st) λt=>az (asName t.1) λy=>t.2.1==op&&(c.N[i]?==some y.1)&&c.sto y.1&&okN y.1&&ak c x t.2.2.1)=true:=h;obtain ⟨t,ht,h⟩:=aJ h;obtain ⟨u,hu,h⟩:=aJ h;exact ⟨_,_,_,_,_,by rw[ht,hu],h⟩
theorem aaG{c:CT}{C:String}{es:Exs}{st:Stmt}(h:aY c (.rse C es) st=true):∃x np m cpos pos,st=.Raise (some (.Call (.Name x np) [m] [] cpos)) none pos/\(x==Str.ofString C&&c.glo x&&c.xs.contains (C,true)&&ut c es m)=true:=by have h:(az (El st) λt=>t.2.1.isNone&&t.1.any λe=>(bc e).any λu=>u.1==Str.ofString C&&c.glo u.1&&c.xs.contains (C,true)&&(one u.2.2.1).any λm=>ut c es m)=true:=h;obtain ⟨t,ht,h⟩:=aJ h;rw[ae,eJ]at h;obtain ⟨e,he,h2⟩:=aN h.2;obtain ⟨u,hu,h3⟩:=aN h2;rw[ae]at h3;obtain ⟨m,hm,h4⟩:=aN h3.2;exact ⟨_,_,m,_,_,by rw[ht,h.1,he,cW hu,bW hm],by rw[ae];exact ⟨h3.1,h4⟩⟩
theorem aaH{b:Bool}{k:Const}(h:xV b k=true):k=.bool b:=by
 cases k <;> first | (cases h;done) |skip
 rw[show xV b (.bool _)=(_==b) from rfl,av]at h;rw[h]
theorem aaI{c:CT}{b:Tb}{C:String}{h:Hd}{xs:List String}{st:Stmt}(hh:aY c (.tryx b C h xs) st=true):
  ∃body cx p1 nm y p2 e p4 p5 pos,st=.Try body [.ExceptHandler (some (.Name cx p1)) nm [.Assign [.Name y p2] e p4] p5] [] [] pos/\
   cX c b body=true/\(xs.all λx=>c.xs.contains (x,true))=true/\(C=="ValueError")=false/\(cx==Str.ofString C&&c.glo cx&&c.xs.contains (C,false))=true/\uv c h nm y e=true:=by
 have hh:(az (Em st) λt=>t.2.2.1.isEmpty&&t.2.2.2.1.isEmpty&&cX c b t.1&&(xs.all λx=>c.xs.contains (x,true))&&!(C=="ValueError")&&(one t.2.1).any λhd=>az (Eo hd) λw=>w.1.any λte=>az (asName te) λn=>(n.1==Str.ofString C&&c.glo n.1&&c.xs.contains (C,false))&&(one w.2.2.1).any λs1=>az (gW s1) λa=>(one a.1).any λtg=>az (asName tg) λy=>uv c h w.2.1 y.1 a.2.1)=true:=hh;obtain ⟨t,ht,h1⟩:=aJ hh;simp only[ae,e6,fm]at h1;obtain ⟨⟨⟨⟨⟨e1,e2⟩,hx⟩,ha⟩,hv⟩,h2⟩:=h1;obtain ⟨hd,hhd,h3⟩:=aN h2;obtain ⟨w,hw,h3⟩:=aJ h3;obtain ⟨te,hte,h4⟩:=aN h3;obtain ⟨n,hn',h4⟩:=aJ h4;simp only[ae]at h4;obtain ⟨s1,hs1,h5⟩:=aN h4.2;obtain ⟨a,ha',h5⟩:=aJ h5;obtain ⟨tg,htg,h5⟩:=aN h5;obtain ⟨y,hy,h5⟩:=aJ h5;exact ⟨_,_,_,_,_,_,_,_,_,_,by rw[ht,e1,e2,bW hhd,hw,hte,hn',bW hs1,ha',bW htg,hy],hx,ha,hv,by simp only[ae];exact h4.1,h5⟩
theorem aaJ{c:CT}{f:String}{es:Exs}{sts:List Stmt}(h:cX c (.call f es) sts=true):∃x p args cpos p0,sts=[.Expr (.Call (.Name x p) args [] cpos) p0]/\
   (x==Str.ofString f&&c.glo x&&(c.fs.any λp=>p.1==f&&p.2==args.length)&&!args.isEmpty&&aK c es args)=true:=by
 have h:((one sts).any λs0=>az (uo s0) λe0=>(bc e0.1).any λu=>(u.1==Str.ofString f&&c.glo u.1&&(c.fs.any λp=>p.1==f&&p.2==u.2.2.1.length)&&!u.2.2.1.isEmpty&&aK c es u.2.2.1))=true:=h;obtain ⟨s0,hs0,h⟩:=aN h;obtain ⟨e0,he0,h⟩:=aJ h;obtain ⟨u,hu,h⟩:=aN h;exact ⟨_,_,_,_,_,by rw[bW hs0,he0,cW hu],h⟩
theorem aaK{c:CT}{i:Nat}{f:String}{es:Exs}{sts:List Stmt}(h:cX c (.asg i f es) sts=true):∃y p2 x p args cpos p0,sts=[.Assign [.Name y p2] (.Call (.Name x p) args [] cpos) p0]/\(c.N[i]?==some y&&c.sto y&&okN y)=true/\
   (x==Str.ofString f&&c.glo x&&(c.fs.any λp=>p.1==f&&p.2==args.length)&&!args.isEmpty&&aK c es args)=true:=by
 have h:((one sts).any λs0=>az (gW s0) λa=>(one a.1).any λtg=>az (asName tg) λy=>(bc a.2.1).any λu=>(c.N[i]?==some y.1&&c.sto y.1&&okN y.1)&&(u.1==Str.ofString f&&c.glo u.1&&(c.fs.any λp=>p.1==f&&p.2==u.2.2.1.length)&&!u.2.2.1.isEmpty&&aK c es u.2.2.1))=true:=h;obtain ⟨s0,hs0,h⟩:=aN h;obtain ⟨a,ha,h⟩:=aJ h;obtain ⟨tg,htg,h⟩:=aN h;obtain ⟨y,hy,h⟩:=aJ h;obtain ⟨u,hu,h⟩:=aN h;rw[ae]at h;exact ⟨_,_,_,_,_,_,_,by rw[bW hs0,ha,bW htg,hy,cW hu],h.1,h.2⟩
theorem aaL{c:CT}{t:Tx}{a b:Tb}{sts:List Stmt}(h:cX c (.ite t a b) sts=true):∃e x y pos,sts=[.If e x y pos]/\bf c t e=true/\cX c a x=true/\cX c b y=true:=by have h:((one sts).any λs0=>az (ur s0) λu=>bf c t u.1&&cX c a u.2.1&&cX c b u.2.2.1)=true:=h;obtain ⟨s0,hs0,h⟩:=aN h;obtain ⟨u,hu,h⟩:=aJ h;rw[ae,ae]at h;exact ⟨_,_,_,_,by rw[bW hs0,hu],h.1.1,h.1.2,h.2⟩
theorem aaM{c:CT}{x:Ex}{st:Stmt}(h:aY c (.ret x) st=true):∃e pos,st=.Return (some e) pos/\(ak c x e)=true:=by have h:(az (uq st) λt=>t.1.any λe=>ak c x e)=true:=h;obtain ⟨t,ht,h⟩:=aJ h;obtain ⟨e,he,h⟩:=aN h;exact ⟨_,_,by rw[ht,he],h⟩
theorem aaN{c:CT}{st:Stmt}(h:aY c .rtn st=true):∃pos,st=.Return none pos/\(true)=true:=by have h:(az (uq st) λt=>t.1.isNone)=true:=h;obtain ⟨t,ht,h⟩:=aJ h;rw[eJ]at h;exact ⟨_,by rw[ht,h],rfl⟩
theorem aaO{c:CT}{t:Tx}{a b:Sxs}{st:Stmt}(h:aY c (.ite t a b) st=true):∃t' a' b' pos,st=.If t' a' b' pos/\(bf c t t'&&aB c a a'&&aB c b b')=true:=by have h:(az (ur st) λu=>bf c t u.1&&aB c a u.2.1&&aB c b u.2.2.1)=true:=h;obtain ⟨u,ht,h⟩:=aJ h;exact ⟨_,_,_,_,ht,h⟩
theorem aaP{c:CT}{g:Tg}{it:It'}{b:Sxs}{st:Stmt}(h:aY c (.for_ g it b) st=true):∃tg iter body pos,st=.For tg iter body [] pos/\(bu c g tg&&aU c it tg iter&&aB c b body)=true:=by have h:(az (Ep st) λt=>t.2.2.2.1.isEmpty&&(bu c g t.1&&aU c it t.1 t.2.1&&aB c b t.2.2.1))=true:=h;obtain ⟨t,ht,h⟩:=aJ h;rw[ae,e6]at h;exact ⟨_,_,_,_,by rw[ht,h.1],h.2⟩
theorem aaQ{c:CT}{t:Tx}{b:Sxs}{st:Stmt}(h:aY c (.whl t b) st=true):∃t' body pos,st=.While t' body [] pos/\(bf c t t'&&aB c b body)=true:=by have h:(az (Er st) λu=>u.2.2.1.isEmpty&&(bf c t u.1&&aB c b u.2.1))=true:=h;obtain ⟨u,ht,h⟩:=aJ h;rw[ae,e6]at h;exact ⟨_,_,_,by rw[ht,h.1],h.2⟩
theorem aaR{c:CT}{st:Stmt}(h:aY c .pas st=true):∃pos,st=.Pass pos/\(true)=true:=by obtain ⟨⟨t,ht⟩,_⟩:=ck.mp (show (Es st).isSome=true from h);exact ⟨t,ht,rfl⟩
theorem aaS{c:CT}{st:Stmt}(h:aY c .brk st=true):∃pos,st=.Break pos/\(true)=true:=by obtain ⟨⟨t,ht⟩,_⟩:=ck.mp (show (Et st).isSome=true from h);exact ⟨t,ht,rfl⟩
theorem aaT{c:CT}{st:Stmt}(h:aY c .cnt st=true):∃pos,st=.Continue pos/\(true)=true:=by obtain ⟨⟨t,ht⟩,_⟩:=ck.mp (show (Eu st).isSome=true from h);exact ⟨t,ht,rfl⟩
def lX:Expr->Bool
 |.Starred ..=>false
 |.Set ..=>false
 |.Slice ..=>false
 |_=>true
theorem bD{c:CT}:∀(x:Ex){e:Expr},ak c x e=true->lX e=true
 |.frz a,e,h=>bD a (show ak c a e=true from h)
 |.var _,e,h=>by obtain ⟨_,_,rfl,_⟩:=Fe h;rfl
 |.cst _,e,h=>by obtain ⟨_,_,_,rfl,_⟩:=Ff h;rfl
 |.glb _ _,e,h=>by obtain ⟨_,_,rfl,_⟩:=Fg h;rfl
 |.bin _ _ _ _,e,h=>by obtain ⟨_,_,_,_,rfl,_⟩:=Fi h;rfl
 |.neg _,e,h=>by obtain ⟨_,_,rfl,_⟩:=Fj h;rfl
 |.cmp _ _ _,e,h=>by obtain ⟨_,_,_,_,rfl,_⟩:=Fp h;rfl
 |.chn _ _ _ _ _,e,h=>by obtain ⟨_,_,_,_,_,_,rfl,_⟩:=Fq h;rfl
 |.not _,e,h=>by obtain ⟨_,_,rfl,_⟩:=Fl h;rfl
 |.boo _ _ _,e,h=>by obtain ⟨_,_,_,_,rfl,_⟩:=Ft h;rfl
 |.ife _ _ _,e,h=>by obtain ⟨_,_,_,_,rfl,_⟩:=Fv h;rfl
 |.tup _,e,h=>by obtain ⟨_,_,_,rfl,_⟩:=Fw h;rfl
 |.lst _ _,e,h=>by obtain ⟨_,_,rfl,_⟩:=Fx h;rfl
 |.idx _ _,e,h=>by obtain ⟨_,_,_,rfl,_⟩:=Fy h;rfl
 |.slc _ _ _ _,e,h=>by obtain ⟨_,_,_,_,_,rfl,_⟩:=FJ h;rfl
 |.rvs _ _ _,_,h=>nomatch (show false=true from h)
 |.call _ _,e,h=>by obtain ⟨_,_,_,_,rfl,_⟩:=FN h;rfl
 |.bcl _ _,e,h=>by obtain ⟨_,_,_,_,rfl,_⟩:=FP h;rfl
 |.lcl _ _ _,e,h=>by obtain ⟨_,_,_,_,rfl,_⟩:=FQ h;rfl
 |.isi _ _,e,h=>by obtain ⟨_,_,_,_,_,_,rfl,_⟩:=FT h;rfl
 |.rgl _ _,_,h=>nomatch (show false=true from h)
 |.rgt _,_,h=>nomatch (show false=true from h)
 |.fst _,_,h=>nomatch (show false=true from h)
 |.isx _ _ _,e,h=>by obtain ⟨_,_,_,_,_,_,rfl,_⟩:=FW h;rfl
 |.rpl _ _ _ _,_,h=>nomatch (show false=true from h)
 |.fld _ _ _,_,h=>nomatch (show false=true from h)
 |.mcl _ _ _ _ _,_,h=>nomatch (show false=true from h)
 |.mko _ _,_,h=>nomatch (show false=true from h)
 |.pp0 _,_,h=>nomatch (show false=true from h)
 |.mth _ _ _,e,h=>by obtain ⟨_,_,_,_,_,rfl,_⟩:=Ga h;rfl
 |.comp _ _ _ _ _ _ _,e,h=>by obtain ⟨_,_,_,_,_,_,_,rfl,_⟩:=Gb h;rfl
 |.cm3 _ _ _ _ _ _ _ _ _,e,h=>by obtain ⟨_,_,_,_,_,_,_,_,_,rfl,_⟩:=xY h;rfl
theorem bY{e:Expr}(h:lX e=true):noStar e=true:=by cases e <;> first |rfl |exact nomatch (show false=true from h)
theorem Gk{e:Expr}(h:lX e=true)(op:CmpOp):behindInMarks op e=false:=by cases e <;> first |rfl |exact nomatch (show false=true from h)
theorem aaU{e:Expr}(h:lX e=true)(env:Env)(x:Value):foldedSetIterable e env x=pure x:=by cases e <;> first |rfl |exact nomatch (show false=true from h)
theorem aaV{e:Expr}(h:lX e=true):Bo e:=by intro o i;cases e <;> first |rfl |exact nomatch (show false=true from h)
theorem aaW{e:Expr}(h:iT e=true)(env:Env)(whole:Sem Value):isTrue e env whole=(do let v <-whole;standAt e.pos;holding [v] (truthy v)):=by
 cases e with
 |UnaryOp op x p=>cases op <;> first |rfl |exact nomatch (show false=true from h)
 |_=>first |rfl |exact nomatch (show false=true from h)
def XV(K:PF)(H:Hp)(F:FZ)(x:Xn)(cv:Value)(od:Option Addr):Prop:=
 ∃C,cv=.ref C/\PySem.W.nsIn K mainGlobals (Str.ofString x.cls)=some (some (.ref C))/\
  match x.fld with
  |.non=>True
  |d=>∃a f v,od=some a/\H a=some (.xd [(f,v)])/\Rep K H F d v
def XR(K:PF)(H:Hp)(F:FZ)(x:Xn)(EX:XK):Prop:=∀cv od,XV K H F x cv od->EX cv od H
def PX(K:PF)(H:Hp)(F:FZ)(EX:XK):EK:=λx G'=>∀H' F',Ext H F H' F'->R K H' F' G'->XR K H' F' x EX
theorem el{α β γ:Type}{p q r s:α->β->γ->Prop}{C:Prop}(h:∃x y z,p x y z/\q x y z/\r x y z/\s x y z)(k:∀x y z,p x y z->q x y z->r x y z->s x y z->C):C:=by obtain ⟨x,y,z,h1,h2,h3,h4⟩:=h;exact k x y z h1 h2 h3 h4
def lift(K:PF)(n:Nat)(S:RF.Spec):Sp:=λvs H Q EX=>vs.length=n/\∃F G ds,R K H F G/\Reps K H F ds vs/\S.t ds G (PV K H F Q) (PX K H F EX)
def CV(K:PF)(mg:Str->Option Value)(C':String)(cv:V):Prop:=
 (∃a,cv=.ref a/\mg (Str.ofString C')=some (.ref a)/\qG K a=true)\/(C'="ValueError"/\cv=.ty "ValueError"/\mg (Str.ofString C')=none)
def XI(K:PF)(C C':String)(cv:V):Prop:=
 ∃c,PySem.W.nsIn K mainGlobals (Str.ofString C)=some (some (.ref c))/\lC K c=true/\PySem.W.mroIn K c (valOf cv)=some (bB C C')/\(bB C C'=false->(Value.ref c==valOf cv)=false)
theorem CV.ok{K:PF}{mg:Str->Option Value}{C':String}{cv:V}(h:CV K mg C' cv):jB K (valOf cv)=true:=by
 rcases h with ⟨a,rfl,_,h⟩ |⟨_,rfl,_⟩
 ·have kc:=CG h;show ((PySem.W.clsIn K a).isSome&&PySem.W.typeIn K (.ref a)==some (.type "type"))=true;rw[kc.c,kc.t];rfl
 ·rfl
structure Bs where
 H:Hp
 F:FZ
def Gm(K:PF)(C f:String):Prop:=∃c,PySem.W.nsIn K mainGlobals (Str.ofString C)=some (some (.ref c))/\Cls K c/\V1 K c (Str.ofString f)
def MthOk(Φ:aa)(P:Program)(w:World)(K:PF)(mg:Str->Option Value)(base:Heap)(CX:CXT)(k:Nat)(f C m:String)(n:Nat):Prop:=
 ∃c fa fd ps,PySem.W.nsIn K mainGlobals (Str.ofString C)=some (some (.ref c))/\Cls K c/\Meth K c (Str.ofString m) fa/\Binds K fd ps []/\FnOk P w K mg base CX k fa fd ps (lift K n (Φ f))
def MkoOk(Φ:aa)(P:Program)(w:World)(K:PF)(mg:Str->Option Value)(base:Heap)(CX:CXT)(k:Nat)(C:String)(n:Nat):Prop:=
 ∃c fa fd ps sp j,j+1<=k/\mg (Str.ofString C)=some (.ref c)/\Mk K c fa/\Binds K fd ps []/\FnOk P w K mg base CX j fa fd ps sp/\
  ∀vs H Q E,lift K n (Φ C) vs H Q E->∀x dx,H x=none->H dx=none->dx≠x->sp (.ref x::vs) (upd (upd H dx (.own x)) x (.ins c dx [])) (λv H2=>v=.non/\Q (.ref x) H2) E
structure Stat(Φ:aa)(CX:CXT)(k:Nat)(c:CT)(E:EK)(B:Bs)(X:Cx):Prop where
 N:X.N=c.N
 nd:X.N.Nodup
 calm:X.calm=true
 own:PassesOwn (model X.prog X.w) X.A X.env X.xe
 kd:X.env.kindOf=λx=>X.env.scope.names.lookup x
 vis:∀x,iR (c.kd.lookup x)=true->Vis X.env.scope x
 cel:∀x,(c.kd.lookup x=some .cell\/c.kd.lookup x=some .free)->(X.env.kindOf x=some .cell\/X.env.kindOf x=some .free)
 glo:∀x,c.kd.lookup x=some .globalImplicit->Gl X x
 sto:∀x,c.sto x=true->Loc X.env.scope x/\(X.fn x=true\/X.env.scope.names.lookup x=some .local)
 room:Room k X.A
 call:∀f n,(f,n)∈c.fs->∃fa fd ps,FnOk X.prog X.w X.K X.mg X.base CX k fa fd ps (lift X.K n (Φ f))/\PySem.W.keepIn X.K (.ref fa)=true/\Binds X.K fd ps []/\X.mg (Str.ofString f)=some (.ref fa)
 blt:∀f,f∈c.bt->X.mg (Str.ofString f)=none
 con:∀x d,(x,d)∈c.cn->∃u v,X.mg (Str.ofString x)=some u/\RelV v u/\∀H F,Rep X.K H F d v
 exc:∃EX,jA CX X EX/\Throws X EX/\∀x G' H' F',E x G'->Ext B.H B.F H' F'->R X.K H' F' G'->XR X.K H' F' x EX
 nox:∀(Y:Cx),jA CX Y λ_ _ _=>False
 xcl:∀C,c.xs.contains (C,true)=true->∃a,X.mg (Str.ofString C)=some (.ref a)/\iC X.K a=true/\PySem.W.nsIn X.K mainGlobals (Str.ofString C)=some (some (.ref a))
 loc:∀x,c.kd.lookup x=some .local->X.env.scope.names.lookup x=some .local
 xis:∀C',c.xs.contains (C',false)=true->∃cv,CV X.K X.mg C' cv/\∀C,c.xs.contains (C,true)=true->XI X.K C C' cv
 mth:∀f C m n,(f,C,m,n)∈c.ot.ms->MthOk Φ X.prog X.w X.K X.mg X.base CX k f C m n
 mko:∀C n,(C,n)∈c.ot.ks->MkoOk Φ X.prog X.w X.K X.mg X.base CX k C n
 fld:∀C f,(C,f)∈c.ot.fl->Gm X.K C f
 trc:c.xs≠[]->CX=CX1 X.prog X.w/\X.stack=X.env::X.outer/\X.ex=[]
def tE(K:PF)(B:Bs)(w:aj->DH->(D->DH->Prop)->Prop):TE:=λσ H Q=>∃ρ F G,Ext B.H B.F H F/\EnvR K H F ρ σ/\R K H F G/\w ρ G (PV K H F Q)
def tB'(K:PF)(B:Bs)(w:aj->DH->(Bool->DH->Prop)->Prop):TT:=λσ H Q=>∃ρ F G,Ext B.H B.F H F/\EnvR K H F ρ σ/\R K H F G/\w ρ G (PB K H F Q)
def tL(K:PF)(B:Bs)(w:aj->DH->(List D->DH->Prop)->Prop):TA:=λσ H Q=>∃ρ F G,Ext B.H B.F H F/\EnvR K H F ρ σ/\R K H F G/\w ρ G (PLs K H F Q)
noncomputable def POp(K:PF)(H:Hp)(F:FZ)(Q:Option Int->Hp->Prop):Option Int->DH->Prop:=λb G'=>∀H' F',Ext H F H' F'->R K H' F' G'->Q b H'
def Gn(K:PF)(B:Bs)(w:aj->DH->(Option Int->DH->Prop)->Prop):TO:=λσ H Q=>∃ρ F G,Ext B.H B.F H F/\EnvR K H F ρ σ/\R K H F G/\w ρ G (POp K H F Q)
theorem peI{X:Cx}{e:Expr}{t t':TE}(h:PE X e t)(i:∀σ H Q,t' σ H Q->t σ H Q):PE X e t':=λpins s σ H Q I q=>h pins s σ H Q I (i σ H Q q)
theorem ptI{X:Cx}{e:Expr}{t t':TT}(h:PT X e t)(i:∀σ H Q,t' σ H Q->t σ H Q):PT X e t':=λpins s σ H Q I q=>h pins s σ H Q I (i σ H Q q)
theorem pwI{X:Cx}{e:Expr}{t t':TT}(h:PW X e t)(i:∀σ H Q,t' σ H Q->t σ H Q):PW X e t':=λwh pins s σ H Q I q=>h wh pins s σ H Q I (i σ H Q q)
theorem paI{X:Cx}{e:List Expr}{t t':TA}(h:PA X e t)(i:∀σ H Q,t' σ H Q->t σ H Q):PA X e t':=λpos pins s σ H Q I q=>h pos pins s σ H Q I (i σ H Q q)
section
variable {Φ:aa} {CX:CXT} {k:Nat} {c:CT} {E:EK} {B:Bs} {X:Cx}
theorem aO{K:PF}{x:Ex}{σ:L2.St}{H:Hp}{F:FZ}{G:DH}{ρ:aj}{W:D->DH->Prop}{Q:VK}(e0:Ext B.H B.F H F)(he:EnvR K H F ρ σ)(r:R K H F G)(hw:wpE Φ x E ρ G W)
  (h:∀d G1 H1 F1 v,W d G1->Ext B.H B.F H1 F1->Ext H F H1 F1->EnvR K H1 F1 ρ σ->R K H1 F1 G1->Rep K H1 F1 d v->Q v H1):tE K B (wpE Φ x E) σ H Q:=
 ⟨ρ,F,G,e0,he,r,aC x (λd G1 q H1 F1 v x1 r1 rv=>h d G1 H1 F1 v q (e0.trans x1) x1 (he.ext x1) r1 rv) hw⟩
theorem cB{K:PF}{x:Exs}{σ:L2.St}{H:Hp}{F:FZ}{G:DH}{ρ:aj}{W:List D->DH->Prop}{Q:List V->Hp->Prop}(e0:Ext B.H B.F H F)(he:EnvR K H F ρ σ)(r:R K H F G)(hw:aM Φ x E ρ G W)
  (h:∀d G1 H1 F1 v,W d G1->Ext B.H B.F H1 F1->Ext H F H1 F1->EnvR K H1 F1 ρ σ->R K H1 F1 G1->Reps K H1 F1 d v->Q v H1):tL K B (aM Φ x E) σ H Q:=
 ⟨ρ,F,G,e0,he,r,cz x (λd G1 q H1 F1 v x1 r1 rv=>h d G1 H1 F1 v q (e0.trans x1) x1 (he.ext x1) r1 rv) hw⟩
theorem gY{K:PF}{x:Tx}{σ:L2.St}{H:Hp}{F:FZ}{G:DH}{ρ:aj}{W:Bool->DH->Prop}{Q:Bool->Hp->Prop}(e0:Ext B.H B.F H F)(he:EnvR K H F ρ σ)(r:R K H F G)(hw:wpT Φ x E ρ G W)
  (h:∀d G1 H1 F1,W d G1->Ext B.H B.F H1 F1->Ext H F H1 F1->EnvR K H1 F1 ρ σ->R K H1 F1 G1->Q d H1):tB' K B (wpT Φ x E) σ H Q:=
 ⟨ρ,F,G,e0,he,r,cL x (λd G1 q H1 F1 x1 r1=>h d G1 H1 F1 q (e0.trans x1) x1 (he.ext x1) r1) hw⟩
theorem Gp{K:PF}{x:Ox}{σ:L2.St}{H:Hp}{F:FZ}{G:DH}{ρ:aj}{W:Option Int->DH->Prop}{Q:Option Int->Hp->Prop}(e0:Ext B.H B.F H F)(he:EnvR K H F ρ σ)(r:R K H F G)(hw:wpO Φ x E ρ G W)
  (h:∀d G1 H1 F1,W d G1->Ext B.H B.F H1 F1->Ext H F H1 F1->EnvR K H1 F1 ρ σ->R K H1 F1 G1->Q d H1):Gn K B (wpO Φ x E) σ H Q:=
 ⟨ρ,F,G,e0,he,r,xq x (λd G1 q H1 F1 x1 r1=>h d G1 H1 F1 q (e0.trans x1) x1 (he.ext x1) r1) hw⟩
theorem PV.later{K:PF}{H H1:Hp}{F F1:FZ}{Q:VK}{d:D}{G:DH}(h:PV K H F Q d G)(x:Ext H F H1 F1):PV K H1 F1 Q d G:=λH' F' v x1=>h H' F' v (x.trans x1)
theorem PB.later{K:PF}{H H1:Hp}{F F1:FZ}{Q:Bool->Hp->Prop}{d:Bool}{G:DH}(h:PB K H F Q d G)(x:Ext H F H1 F1):PB K H1 F1 Q d G:=λH' F' x1=>h H' F' (x.trans x1)
theorem PB.now{K:PF}{H:Hp}{F:FZ}{Q:Bool->Hp->Prop}{d:Bool}{G:DH}(h:PB K H F Q d G)(r:R K H F G):Q d H:=h H F (Ext.refl H F) r
theorem jV(S:Stat Φ CX k c E B X):X.A.units+100 < cLine:=by have:=S.room.un;omega
theorem bF {x:Str} (h:okN x=true):(x==("__debug__":Str))=false:=by
 unfold okN at h;cases e:x==("__debug__":Str) with
 |false=>rfl
 |true=>rw[e]at h;simp at h
theorem Gq {x:Str} (h:okN x=true):(x==("__classdict__":Str))=false:=by
 unfold okN at h;cases e:x==("__classdict__":Str) with
 |false=>rfl
 |true=>rw[e]at h;simp at h
theorem dz {x:Str} (h:okN x=true):x≠"__name__":=by unfold okN at h;intro e;rw[av.mpr e]at h;simp at h
theorem bZ{x:Str}(h:c.glo x=true):c.kd.lookup x=some .globalImplicit/\okN x=true:=by unfold CT.glo at h;rw[ae,av]at h;exact h
theorem aaX(S:Stat Φ CX k c E B X){i:Nat}{e:Expr}(h:ak c (.var i) e=true):PE X e (tE X.K B (wpE Φ (.var i) E)):=by
 replace h:=Fe h;obtain ⟨x,pos,rfl,h⟩:=h
 ·rw[ae,ae,av]at h;refine peI (vA (i:=i) (by rw[S.N];exact h.1.1) (S.vis x h.1.2) (bF h.2) (Gq h.2)) λσ H Q q=>?_;obtain ⟨ρ,F,G,_,he,r,hw⟩:=q;rw[rD]at hw;split at hw
  ·rename_i d hd;obtain ⟨v,e1,rv⟩:=he.get hd;exact ⟨v,e1,hw.now r rv⟩
  ·exact hw.elim
theorem aaY(S:Stat Φ CX k c E B X){d:D}{e:Expr}(h:ak c (.cst d) e=true):PE X e (tE X.K B (wpE Φ (.cst d) E)):=by
 replace h:=Ff h;obtain ⟨kk,_,_,rfl,h⟩:=h
 ·unfold ue at h;split at h
  ·exact peI Ub λσ H Q hq=>el hq λρ F G _ he r hw=>by rw[iI]at hw;exact hw.now r rfl
  ·rw[av]at h;subst h;exact peI Ad λσ H Q hq=>el hq λρ F G _ he r hw=>by rw[iI]at hw;exact hw.now r rfl
  ·rw[av]at h;subst h;exact peI Ua λσ H Q hq=>el hq λρ F G _ he r hw=>by rw[iI]at hw;exact hw.now r rfl
  ·rename_i l b;rw[ae,av,bp]at h;refine peI Ae λσ H Q hq=>el hq λρ F G _ he r hw=>?_;rw[iI]at hw;refine hw.now r ⟨?_,h.2⟩;rw[h.1,<-vM]
  ·cases h
theorem aaZ(S:Stat Φ CX k c E B X){x:String}{d:D}{e:Expr}(h:ak c (.glb x d) e=true):PE X e (tE X.K B (wpE Φ (.glb x d) E)):=by
 replace h:=Fg h;obtain ⟨y,pos,rfl,h⟩:=h
 ·rw[ae,ae,av,List.any_eq_true]at h;obtain ⟨⟨e1,h1⟩,⟨x',d'⟩,hm,h2⟩:=h;rw[ae,av]at h2;obtain ⟨e2,e3⟩:=h2;have e3:=aau e3;simp only at e2 e3;subst e1 e2 e3;obtain ⟨g1,g2⟩:=bZ h1;obtain ⟨u,v,hu,ru,hr⟩:=S.con _ _ hm;exact peI (Af (S.glo _ g1) hu ru (bF g2)) λσ H Q hq=>el hq λρ F G _ he r hw=>by rw[rE]at hw;exact hw.now r (hr H F)
theorem aa0(S:Stat Φ CX k c E B X){op:Operator}{fz:Bool}{a b:Ex}(iha:∀{e},ak c a e=true->PE X e (tE X.K B (wpE Φ a E)))(ihb:∀{e},ak c b e=true->PE X e (tE X.K B (wpE Φ b E))){e:Expr}
  (h:ak c (.bin op fz a b) e=true):PE X e (tE X.K B (wpE Φ (.bin op fz a b) E)):=by
 replace h:=Fi h;obtain ⟨l,o,r,pos,rfl,h⟩:=h
 ·rw[ae,ae,av]at h;obtain ⟨⟨e1,h1⟩,h2⟩:=h;subst e1;refine peI (Vr (Zj _ fz) (iha h1) (ihb h2)) λσ H Q hq=>el hq λρ F G e0 he r hw=>?_;rw[rF]at hw;refine aO e0 he r hw λx G1 H1 F1 v q e1 x1 he1 r1 rv=>aO e1 he1 r1 q λy G2 H2 F2 u q e2 x2 he2 r2 ru=>?_;exact ⟨F2,G2,x,y,r2,Rep.ext x2 rv,ru,Dq (λd G' z=>PV.later z (x1.trans x2)) q⟩
theorem aa1(S:Stat Φ CX k c E B X){a:Ex}(iha:∀{e},ak c a e=true->PE X e (tE X.K B (wpE Φ a E))){e:Expr}(h:ak c (.neg a) e=true):PE X e (tE X.K B (wpE Φ (.neg a) E)):=by
 replace h:=Fj h;obtain ⟨_,_,rfl,h⟩:=h
 ·refine peI (Vs VB (iha h)) λσ H Q hq=>el hq λρ F G e0 he r hw=>?_;rw[rG]at hw;refine aO e0 he r hw λx G1 H1 F1 v q e1 x1 he1 r1 rv=>?_;split at q
  ·have e2:v=.int _:=rv;subst e2;exact ⟨_,rfl,q _ _ _ x1 r1 rfl⟩
  ·exact q.elim
theorem Gs(S:Stat Φ CX k c E B X){op:CmpOp}{a b:Ex}(iha:∀{e},ak c a e=true->PE X e (tE X.K B (wpE Φ a E)))(ihb:∀{e},ak c b e=true->PE X e (tE X.K B (wpE Φ b E))){e:Expr}
  (h:ak c (.cmp op a b) e=true):PE X e (tE X.K B (wpE Φ (.cmp op a b) E))/\PT X e (tB' X.K B (wpT Φ (.val (.cmp op a b)) E)):=by
 replace h:=Fp h;obtain ⟨l,o,r,pos,rfl,h⟩:=h
 ·rw[ae,ae,av]at h;obtain ⟨⟨e1,h1⟩,h2⟩:=h;subst e1;have hm:=Gk (bD b h2) o;refine ⟨peI (VG (jQ _ (jV S)) (iha h1) (ihb h2) hm) λσ H Q hq=>el hq λρ F G e0 he r hw=>?_,ptI (VH (jQ _ (jV S)) (iha h1) (ihb h2) hm) λσ H Q hq=>el hq λρ F G e0 he r hw=>?_⟩
  ·rw[lH]at hw;refine aO e0 he r hw λx G1 H1 F1 v q e1 x1 he1 r1 rv=>aO e1 he1 r1 q λy G2 H2 F2 u q e2 x2 he2 r2 ru=>?_;exact ⟨F2,G2,x,y,r2,Rep.ext x2 rv,ru,iJ (λd z=>PV.later z (x1.trans x2)) q⟩
  ·rw[jM,lH]at hw;refine aO e0 he r hw λx G1 H1 F1 v q e1 x1 he1 r1 rv=>aO e1 he1 r1 q λy G2 H2 F2 u q e2 x2 he2 r2 ru=>?_;refine ⟨F2,G2,x,y,r2,Rep.ext x2 rv,ru,iJ (λd z=>?_) q⟩;intro H' F' v' x' r' rv';have e3:v'=.bl d:=rv';exact ⟨d,e3,z H' F' ((x1.trans x2).trans x') r'⟩
theorem Gu(S:Stat Φ CX k c E B X){op op':CmpOp}{a b d:Ex}(iha:∀{e},ak c a e=true->PE X e (tE X.K B (wpE Φ a E)))(ihb:∀{e},ak c b e=true->PE X e (tE X.K B (wpE Φ b E)))(ihd:∀{e},ak c d e=true->PE X e (tE X.K B (wpE Φ d E))){e:Expr}
  (h:ak c (.chn op op' a b d) e=true):PE X e (tE X.K B (wpE Φ (.chn op op' a b d) E))/\PT X e (tB' X.K B (wpT Φ (.val (.chn op op' a b d)) E)):=by
 replace h:=Fq h;obtain ⟨l,o,o',m,r,pos,rfl,h⟩:=h
 ·simp only[ae,av]at h;obtain ⟨⟨⟨⟨e1,e2⟩,h1⟩,h2⟩,h3⟩:=h;subst e1 e2;have hm:lastMarks [o,o'] [m,r]=false:=Gk (bD d h3) o';have go:∀{σ H Q ρ F G}{W:Bool->DH->Prop},Ext B.H B.F H F->EnvR X.K H F ρ σ->R X.K H F G->
    wpE Φ a E ρ G (λx G1=>wpE Φ b E ρ G1 λy G2=>aX o (view G2 x) (view G2 y) λt=>match t with |true=>wpE Φ d E ρ G2 λz G3=>aX o' (view G3 y) (view G3 z) λt'=>W t' G3 |false=>W false G2)->
    (∀t G' H' F',W t G'->Ext H F H' F'->R X.K H' F' G'->Q (.bl t) H')->
    vH (rC2 X.K (aX o)) (rC2 X.K (aX o')) (tE X.K B (wpE Φ a E)) (tE X.K B (wpE Φ b E)) (tE X.K B (wpE Φ d E)) σ H Q:=by
   intro σ H Q ρ F G W e0 he r hw fin;refine aO e0 he r hw λx G1 H1 F1 v q e1 x1 he1 r1 rv=>aO e1 he1 r1 q λy G2 H2 F2 u q e2 x2 he2 r2 ru=>?_;refine ⟨F2,G2,x,y,r2,Rep.ext x2 rv,ru,iJ (λt q=>?_) q⟩;intro H3 F3 v3 x3 r3 rv3;have e3:v3=.bl t:=rv3;refine ⟨t,e3,?_⟩;cases t with
   |true=>
    rw[if_pos rfl];refine aO (e2.trans x3) (he2.ext x3) r3 q λz G4 H4 F4 v4 q e4 x4 he4 r4 rv4=>?_;refine ⟨F4,G4,y,z,r4,Rep.ext (x3.trans x4) ru,rv4,iJ (λt' q=>?_) q⟩;intro H5 F5 v5 x5 r5 rv5;have e5:v5=.bl t':=rv5;subst e5;exact fin _ _ _ _ q ((((x1.trans x2).trans x3).trans x4).trans x5) r5
   |false=>
    rw[if_neg bi];exact fin _ _ _ _ q ((x1.trans x2).trans x3) r3
  refine ⟨peI (VJ (jQ _ (jV S)) (jQ _ (jV S)) (iha h1) (ihb h2) (ihd h3) hm) λσ H Q hq=>el hq λρ F G e0 he r hw=>?_,ptI (VL (jQ _ (jV S)) (jQ _ (jV S)) (iha h1) (ihb h2) (ihd h3) hm) λσ H Q hq=>el hq λρ F G e0 he r hw=>?_⟩
  ·rw[lJ]at hw;exact go (W:=λt G'=>PV X.K H F Q (.bl t) G') e0 he r hw λt G' H' F' z x' r'=>z H' F' _ x' r' rfl
  ·rw[jM,lJ]at hw;refine go (W:=λt G'=>PB X.K H F Q t G') e0 he r hw λt G' H' F' z x' r'=>⟨t,rfl,z H' F' x' r'⟩
end
section
variable {Φ:aa} {CX:CXT} {k:Nat} {c:CT} {E:EK} {B:Bs} {X:Cx}
abbrev OkE(Φ:aa)(c:CT)(E:EK)(B:Bs)(X:Cx)(x:Ex):Prop:=∀{e:Expr},ak c x e=true->PE X e (tE X.K B (wpE Φ x E))
abbrev fG(Φ:aa)(c:CT)(E:EK)(B:Bs)(X:Cx)(x:Exs):Prop:=∀{es:List Expr},aK c x es=true->PA X es (tL X.K B (aM Φ x E))
abbrev OkT(Φ:aa)(c:CT)(E:EK)(B:Bs)(X:Cx)(x:Tx):Prop:=∀{e:Expr},bf c x e=true->PT X e (tB' X.K B (wpT Φ x E))
theorem aa2(S:Stat Φ CX k c E B X){a:Ex}(iha:OkE Φ c E B X a){e:Expr}(h:ak c (.not a) e=true):PE X e (tE X.K B (wpE Φ (.not a) E)):=by
 replace h:=Fl h;obtain ⟨_,_,rfl,h⟩:=h
 ·intro pins s σ H Q I q;obtain ⟨ρ,F,G,e0,he,r,hw⟩:=q;rw[rH]at hw;have q':tE X.K B (wpE Φ a E) σ H (λx H1=>∃b,qx X.K x H1 b/\Q (.bl (!b)) H1):=aO e0 he r hw λx G1 H1 F1 v q e1 x1 he1 r1 rv=>by
   split at q
   ·rename_i b hb;exact ⟨b,DR r1 rv hb,q _ _ _ x1 r1 rfl⟩
   ·exact q.elim
  refine UnaryOp_ (thn (iha h pins s σ H _ I q') λv s1 ⟨x,H1,I1,r1,b,tb,q1⟩=>?_);refine not_of (thn (Ar pins s1 σ H1 x v (λb' H'=>Q (.bl (!b')) H') I1 r1 ⟨b,tb,q1⟩) λb' s2 ⟨H2,I2,q2⟩=>?_);exact ⟨.bl (!b'),H2,I2,rfl,q2⟩
theorem xZ{es:List Expr}(h:aK c .nil es=true):PA X es (tL X.K B (aM Φ .nil E)):=by
 unfold aK at h;cases es with
 |nil=>exact paI gG λσ H Q hq=>el hq λρ F G e0 he r hw=>by rw[iH]at hw;exact hw H F [] (Ext.refl _ _) r rfl
 |cons _ _=>cases h
theorem uw{x:Ex}{xs:Exs}(ih:OkE Φ c E B X x)(ihs:fG Φ c E B X xs){es:List Expr}(h:aK c (.cons x xs) es=true):PA X es (tL X.K B (aM Φ (.cons x xs) E)):=by
 unfold aK at h;split at h
 ·rename_i e es;rw[ae]at h;refine paI (dZ (ih h.1) (ihs h.2) (bK e es X.env (bY (bD x h.1)))) λσ H Q hq=>el hq λρ F G e0 he r hw=>?_;rw[gP]at hw;refine aO e0 he r hw λd G1 H1 F1 v q e1 x1 he1 r1 rv=>cB e1 he1 r1 q λds G2 H2 F2 vs q e2 x2 he2 r2 rvs=>?_;exact q H2 F2 _ (x1.trans x2) r2 ⟨v,vs,rfl,Rep.ext x2 rv,rvs⟩
 ·cases h
theorem aa3(S:Stat Φ CX k c E B X){es:Exs}(ih:fG Φ c E B X es){e:Expr}(h:ak c (.tup es) e=true):PE X e (tE X.K B (wpE Φ (.tup es) E)):=by
 replace h:=Fw h;obtain ⟨_,_,_,rfl,h⟩:=h
 ·refine peI (V9 (ih h)) λσ H Q hq=>el hq λρ F G e0 he r hw=>?_;rw[rM]at hw;refine cB e0 he r hw λds G1 H1 F1 vs q e1 x1 he1 r1 rvs=>⟨by rw[<-rvs.length];exact cM q.1,lM (PV.later q.2 x1) r1 rvs⟩
theorem aa4(S:Stat Φ CX k c E B X){fz:Bool}{es:Exs}(ih:fG Φ c E B X es){e:Expr}(h:ak c (.lst fz es) e=true):PE X e (tE X.K B (wpE Φ (.lst fz es) E)):=by
 replace h:=Fx h;obtain ⟨_,_,rfl,h⟩:=h
 ·refine peI (Wa (ih h)) λσ H Q hq=>el hq λρ F G e0 he r hw=>?_;rw[rN]at hw;refine cB e0 he r hw λds G1 H1 F1 vs q e1 x1 he1 r1 rvs=>⟨by rw[<-rvs.length];exact cM q.1,fB (cT (λd G' z=>PV.later z x1) q.2) r1 rvs⟩
theorem aa5(S:Stat Φ CX k c E B X){a i:Ex}(iha:OkE Φ c E B X a)(ihi:OkE Φ c E B X i){e:Expr}(h:ak c (.idx a i) e=true):PE X e (tE X.K B (wpE Φ (.idx a i) E)):=by
 replace h:=Fy h;obtain ⟨_,_,_,rfl,h⟩:=h
 ·rw[ae]at h;refine peI (Wv Zt (iha h.1) (ihi h.2) (aaV (bD i h.2))) λσ H Q hq=>el hq λρ F G e0 he r hw=>?_;rw[rO]at hw;refine aO e0 he r hw λx G1 H1 F1 v q e1 x1 he1 r1 rv=>aO e1 he1 r1 q λy G2 H2 F2 u q e2 x2 he2 r2 ru=>?_;exact ⟨F2,G2,x,y,r2,Rep.ext x2 rv,ru,sZ (λd z=>PV.later z (x1.trans x2)) q⟩
theorem Gv{lo:Ox}(ih:∀x,lo=.ob x->OkE Φ c E B X x){l:Option Expr}(h:gf c lo l=true):PO X l (Gn X.K B (wpO Φ lo E)):=by
 cases lo with
 |no=>
  unfold gf at h;cases l with
  |none=>
   intro pins s σ H Q I q;refine Wn pins s σ H Q I ?_;obtain ⟨ρ,F,G,e0,he,r,hw⟩:=q;rw[qZ]at hw;exact hw H F (Ext.refl _ _) r
  |some _=>cases h
 |ob x=>
  unfold gf at h;split at h
  ·intro pins s σ H Q I q;refine Wo (ih x rfl h) pins s σ H Q I ?_;obtain ⟨ρ,F,G,e0,he,r,hw⟩:=q;rw[q8]at hw;refine aO e0 he r hw λd G1 H1 F1 v q e1 x1 he1 r1 rv=>?_;split at q
   ·have e2:v=.int _:=rv;exact ⟨_,e2,q H1 F1 x1 r1⟩
   ·exact q.elim
  ·cases h
theorem aa6(S:Stat Φ CX k c E B X){fz:Bool}{a:Ex}{lo hi:Ox}(iha:OkE Φ c E B X a)(ihl:∀x,lo=.ob x->OkE Φ c E B X x)(ihh:∀x,hi=.ob x->OkE Φ c E B X x){e:Expr}(h:ak c (.slc fz a lo hi) e=true):
  PE X e (tE X.K B (wpE Φ (.slc fz a lo hi) E)):=by
 replace h:=FJ h;obtain ⟨_,_,_,_,_,rfl,h⟩:=h
 ·rw[ae,ae]at h;refine peI (Wq (Zz fz) (iha h.1.1) (Gv ihl h.1.2) (Gv ihh h.2)) λσ H Q hq=>el hq λρ F G e0 he r hw=>?_;rw[rP]at hw;refine aO e0 he r hw λx G1 H1 F1 v q e1 x1 he1 r1 rv=>Gp e1 he1 r1 q λl G2 H2 F2 q e2 x2 he2 r2=>Gp e2 he2 r2 q λu G3 H3 F3 q e3 x3 he3 r3=>?_;exact ⟨F3,G3,x,r3,Rep.ext (x2.trans x3) rv,Dt (λd G' z=>PV.later z ((x1.trans x2).trans x3)) q⟩
theorem aa7(S:Stat Φ CX k c E B X){fz:Bool}{a s:Ex}(iha:OkE Φ c E B X a)(ihs:OkE Φ c E B X s){e:Expr}(h:ak c (.rvs fz a s) e=true):PE X e (tE X.K B (wpE Φ (.rvs fz a s) E)):=nomatch (show false=true from h)
theorem aa8(S:Stat Φ CX k c E B X){a:Ex}(iha:OkE Φ c E B X a){e:Expr}(h:ak c (.frz a) e=true):PE X e (tE X.K B (wpE Φ (.frz a) E)):=by
 have h:ak c a e=true:=h;refine peI (iha h) λσ H Q hq=>el hq λρ F G e0 he r hw=>?_;rw[rZ]at hw;refine aO e0 he r hw λx G1 H1 F1 v q e1 x1 he1 r1 rv=>?_;split at q
 ·rename_i p;have e2:v=.ref p:=rv;subst e2;split at q
  ·rename_i ds hg;exact q _ _ _ (x1.trans v9) (r1.frz hg) (Y9 r1 hg)
  ·exact q.elim
 ·exact q _ _ _ x1 r1 rv
theorem jW{es:List Expr}{xs:Exs}(h:aK c xs es=true)(env:Env)(pos:Pos):(backTo pos (starEach es env)).any (·.1)=false:=by
 induction es generalizing xs with
 |nil=>rfl
 |cons e es ih=>
  cases xs with
  |nil=>unfold aK at h;cases h
  |cons x xs=>
   unfold aK at h;rw[ae]at h;rw[bK e es env (bY (bD x h.1))];show (false||(backTo pos (starEach es env)).any (·.1))=false;rw[ih h.2];rfl
theorem iV{e:Expr}{es:List Expr}{xs:Exs}(h:aK c xs (e::es)=true):∃x xs',xs=.cons x xs'/\ak c x e=true/\aK c xs' es=true:=by
 cases xs with
 |nil=>unfold aK at h;cases h
 |cons x xs'=>
  unfold aK at h;rw[ae]at h;exact ⟨x,xs',rfl,h.1,h.2⟩
theorem ux{ρ:aj}:∀(xs:Exs){es:List Expr}{G:DH}{Q:List D->DH->Prop},aK c xs es=true->aM Φ xs E ρ G Q->aM Φ xs E ρ G (λds G'=>ds.length=es.length/\Q ds G')
 |.nil,es,G,Q,h,q=>by
  unfold aK at h;rw[iH]at q ⊢;cases es with
  |nil=>exact ⟨rfl,q⟩
  |cons _ _=>cases h
 |.cons x xs,es,G,Q,h,q=>by
  unfold aK at h;split at h
  ·rename_i e es;rw[ae]at h;rw[gP]at q ⊢;refine aC x (λd G1 q=>cz xs (λds G2 z=>?_) (ux xs h.2 q)) q;exact ⟨by simp[z.1],z.2⟩
  ·cases h
theorem aa9(S:Stat Φ CX k c E B X){f:String}{xs:Exs}(ih:fG Φ c E B X xs){e:Expr}(h:ak c (.call f xs) e=true):PE X e (tE X.K B (wpE Φ (.call f xs) E)):=by
 replace h:=FN h;obtain ⟨x,p,args,pos,rfl,h⟩:=h
 ·simp only[ae,av,List.any_eq_true]at h;obtain ⟨⟨⟨⟨e1,h1⟩,⟨f',n⟩,hm,e2,e3⟩,h2⟩,h3⟩:=h;simp only at e2 e3;subst e1 e2 e3;obtain ⟨g1,g2⟩:=bZ h1;obtain ⟨fa,fd,ps,F0,hk,hb,hmg⟩:=S.call _ _ hm;obtain ⟨EX,hpass,_,hEX⟩:=S.exc;cases args with
  |nil=>cases h2
  |cons e es=>
   obtain ⟨x0,xs',rfl,c1,c2⟩:=iV h3;refine peI (Wd F0 S.room (S.glo _ g1) hmg hk hb .nil hpass (ih h3) (bF g2) (bK e es X.env (bY (bD x0 c1))) (jW c2 X.env pos)) λσ H Q hq=>el hq λρ F G e0 he r hw=>?_;rw[rQ]at hw;refine cB e0 he r (ux _ h3 hw) λds G1 H1 F1 vs q e1 x1 he1 r1 rvs=>?_;rw[d4];refine ⟨by rw[<-rvs.length];exact q.1,F1,G1,ds,r1,rvs,Spec.mono q.2 (λd G' z=>PV.later z x1) λx G' z H' F' x' r'=>?_⟩;exact hEX x G' H' F' z (e1.trans x') r'
theorem aba(S:Stat Φ CX k c E B X){f:Bf}{xs:Exs}(ih:fG Φ c E B X xs){e:Expr}(h:ak c (.bcl f xs) e=true):PE X e (tE X.K B (wpE Φ (.bcl f xs) E)):=by
 replace h:=FP h;obtain ⟨x,p,args,pos,rfl,h⟩:=h
 ·simp only[ae,av]at h;obtain ⟨⟨⟨⟨⟨e1,hok⟩,h1⟩,hm⟩,h2⟩,h3⟩:=h;subst e1;obtain ⟨g1,g2⟩:=bZ h1;have hmg:=S.blt _ (a7.mp hm);cases args with
  |nil=>cases h2
  |cons e es=>
   obtain ⟨x0,xs',rfl,c1,c2⟩:=iV h3;have hs:=bK e es X.env (bY (bD x0 c1));have ha:=jW c2 X.env pos;have go:∀σ H Q,tE X.K B (wpE Φ (.bcl f (.cons x0 xs')) E) σ H Q->tCB (iK X.K f) (tL X.K B (aM Φ (.cons x0 xs') E)) σ H Q:=λσ H Q hq=>el hq λρ F G e0 he r hw=>by
    rw[rR]at hw;refine cB e0 he r hw λds G1 H1 F1 vs q e1 x1 he1 r1 rvs=>?_;exact ⟨F1,G1,ds,r1,rvs,Du (λd z=>PV.later z x1) q⟩
   cases f with
   |len=>exact peI (lz ZC (S.glo _ g1) hmg PySem.boot_len (ih h3) (dz g2) (bF g2) hs ha) go
   |all=>exact peI (lz (ZD S.calm) (S.glo _ g1) hmg Xm (ih h3) (dz g2) (bF g2) hs ha) go
   |int=>exact peI (qy ZF (S.glo _ g1) hmg BV (ih h3) (dz g2) (bF g2) hs ha) go
   |tuple=>exact peI (qy ZG (S.glo _ g1) hmg (by ac_rfl) (ih h3) (dz g2) (bF g2) hs ha) go
   |sum=>cases hok
   |min=>exact peI (lz (ZS S.calm) (S.glo _ g1) hmg ZV (ih h3) (dz g2) (bF g2) hs ha) go
   |max=>cases hok
   |abs=>cases hok
   |min2=>cases hok
   |str=>exact peI (qy ZW (S.glo _ g1) hmg BW (ih h3) (dz g2) (bF g2) hs ha) go
theorem abb(S:Stat Φ CX k c E B X){fz:Bool}{f:Lf}{xs:Exs}(ih:fG Φ c E B X xs){e:Expr}(h:ak c (.lcl fz f xs) e=true):PE X e (tE X.K B (wpE Φ (.lcl fz f xs) E)):=by
 replace h:=FQ h;obtain ⟨x,p,args,pos,rfl,h⟩:=h
 ·simp only[ae,av]at h;obtain ⟨⟨⟨⟨⟨e1,hok⟩,h1⟩,hm⟩,h2⟩,h3⟩:=h;subst e1;obtain ⟨g1,g2⟩:=bZ h1;have hmg:=S.blt _ (a7.mp hm);cases args with
  |nil=>cases h2
  |cons e es=>
   obtain ⟨x0,xs',rfl,c1,c2⟩:=iV h3;have hs:=bK e es X.env (bY (bD x0 c1));have ha:=jW c2 X.env pos;have go:∀σ H Q,tE X.K B (wpE Φ (.lcl fz f (.cons x0 xs')) E) σ H Q->tCB (DW X.K fz f) (tL X.K B (aM Φ (.cons x0 xs') E)) σ H Q:=λσ H Q hq=>el hq λρ F G e0 he r hw=>by
    rw[rT]at hw;refine cB e0 he r hw λds G1 H1 F1 vs q e1 x1 he1 r1 rvs=>?_;exact ⟨F1,G1,ds,r1,rvs,Dv (λd z=>cT (λd G' z=>PV.later z x1) z) q⟩
   cases f with
   |list=>exact peI (qy (ZL S.calm fz) (S.glo _ g1) hmg BX (ih h3) (dz g2) (bF g2) hs ha) go
   |sorted=>cases hok
theorem abd(S:Stat Φ CX k c E B X){fz:Bool}{a:Ex}(iha:OkE Φ c E B X a){e:Expr}(h:ak c (.rgl fz a) e=true):PE X e (tE X.K B (wpE Φ (.rgl fz a) E)):=nomatch (show false=true from h)
theorem abe(S:Stat Φ CX k c E B X){a:Ex}(iha:OkE Φ c E B X a){e:Expr}(h:ak c (.rgt a) e=true):PE X e (tE X.K B (wpE Φ (.rgt a) E)):=nomatch (show false=true from h)
theorem abf{t:String}(h:fY t=true):bootBuiltins (Str.ofString t)=some (.type t):=by
 simp only[fY,cp,av]at h;rcases h with (((rfl |rfl) |rfl) |rfl) |rfl
 ·exact Xf
 ·exact BV
 ·exact BW
 ·ac_rfl
 ·exact BX
theorem abg(S:Stat Φ CX k c E B X){a:Ex}{t:String}(iha:OkE Φ c E B X a){e:Expr}(h:ak c (.isi a t) e=true):PE X e (tE X.K B (wpE Φ (.isi a t) E)):=by
 replace h:=FT h;obtain ⟨x,p,v,y,p2,pos,rfl,h⟩:=h
 ·simp only[ae,av]at h;obtain ⟨⟨⟨⟨⟨⟨⟨e1,h1⟩,hm1⟩,h2⟩,e2⟩,h3⟩,hm2⟩,h4⟩:=h;subst e1 e2;obtain ⟨g1,g2⟩:=bZ h1;obtain ⟨g3,g4⟩:=bZ h3;have hmg:=S.blt _ (a7.mp hm1);have hmt:=S.blt _ (a7.mp hm2);have hty:PE X (.Name (Str.ofString t) p2) (tC (.ty t)):=Ca (S.glo _ g3) hmt (abf h4) (dz g4) (bF g4);have sv:=bY (bD a h2);refine peI (lz Xe (S.glo _ g1) hmg BZ (dZ (iha h2) (dZ hty gG (bK _ _ _ rfl)) (bK _ _ _ sv)) (dz g2) (bF g2) (bK _ _ _ sv) rfl) λσ H Q hq=>el hq λρ F G e0 he r hw=>?_;rw[rW]at hw;refine aO e0 he r hw λd G1 H1 F1 v q e1 x1 he1 r1 rv=>?_;split at q
  ·rename_i b hb;obtain ⟨T,hk,hT,hb'⟩:=Z1 hb;refine ⟨v,t,.type T,b,rfl,ZX r1 rv hk,?_,q _ _ _ x1 r1 rfl⟩;rw[Z0 T t hT h4,hb' h4]
  ·exact q.elim
theorem abh:bootBuiltins (Str.ofString "ValueError")=some (.type "ValueError"):=by ac_rfl
theorem abi(S:Stat Φ CX k c E B X){a:Ex}{C:String}{xs:List String}(iha:OkE Φ c E B X a){e:Expr}(h:ak c (.isx a C xs) e=true):PE X e (tE X.K B (wpE Φ (.isx a C xs) E)):=by
 replace h:=FW h;obtain ⟨x,p,v,y,p2,pos,rfl,h⟩:=h;simp only[ae,av]at h;obtain ⟨⟨⟨⟨⟨⟨⟨e1,h1⟩,hm1⟩,h2⟩,e2⟩,h3⟩,hC⟩,hxs⟩:=h;subst e1 e2;obtain ⟨g1,g2⟩:=bZ h1;obtain ⟨g3,g4⟩:=bZ h3;have hmg:=S.blt _ (a7.mp hm1);have sv:=bY (bD a h2);obtain ⟨cv,hcv,hall⟩:=S.xis C hC;have hok:=hcv.ok;have hty:PE X (.Name (Str.ofString C) p2) (tC cv):=by
  rcases hcv with ⟨a1,rfl,hm,_⟩ |⟨rfl,rfl,hm⟩
  ·exact Af (S.glo _ g3) hm rfl (bF g4)
  ·exact Ca (S.glo _ g3) hm abh (dz g4) (bF g4)
 refine peI (lz Yn (S.glo _ g1) hmg BZ (dZ (iha h2) (dZ hty gG (bK _ _ _ rfl)) (bK _ _ _ sv)) (dz g2) (bF g2) (bK _ _ _ sv) rfl) λσ H Q hq=>el hq λρ F G e0 he r hw=>?_;rw[rY]at hw;refine aO e0 he r hw λd G1 H1 F1 v q e1 x1 he1 r1 rv=>?_;split at q
 ·rename_i C1;obtain ⟨c1,k1,k2,k4,k5⟩:=hall C1 (bv.mp hxs C1 (a7.mp q.1));obtain ⟨a',c',e2,xo,hn⟩:=rv;rw[k1]at hn;have ec:c1=c':=by simpa using hn
  subst ec;subst e2;exact ⟨a',c1,cv,_,rfl,xo,k2,hok,k4,k5,q.2 _ _ _ x1 r1 rfl⟩
 ·exact q.elim
theorem abj{v:Expr}(h:(!uf v)=true)(name:Str)(env:Env):attributeBase v name env (eval v env)=eval v env:=by
 cases v with
 |Call f args kw pos=>
  cases f with
  |Name id p=>
   cases args with
   |nil=>
    cases kw with
    |nil=>cases h
    |cons _ _=>rfl
   |cons _ _=>rfl
  |_=>rfl
 |_=>rfl
theorem all_plain{es:List Expr}{xs:Exs}(h:aK c xs es=true)(env:Env)(pos:Pos):(backTo pos (starEach es env)).all (λx=>!x.1)=true:=by
 induction es generalizing xs with
 |nil=>rfl
 |cons e es ih=>
  obtain ⟨x0,xs',rfl,c1,c2⟩:=iV h;rw[bK e es env (bY (bD x0 c1))];show (!false&&(backTo pos (starEach es env)).all (λx=>!x.1))=true;rw[ih c2];rfl
theorem abk(S:Stat Φ CX k c E B X){f:String}{a b ix:Ex}(iha:OkE Φ c E B X a)(ihb:OkE Φ c E B X b)(ihx:OkE Φ c E B X ix){e:Expr}(h:ak c (.rpl f a b ix) e=true):PE X e (tE X.K B (wpE Φ (.rpl f a b ix) E)):=nomatch (show false=true from h)
theorem abl(S:Stat Φ CX k c E B X){C f:String}{o:Ex}(iho:OkE Φ c E B X o){e:Expr}(h:ak c (.fld C f o) e=true):PE X e (tE X.K B (wpE Φ (.fld C f o) E)):=nomatch (show false=true from h)
theorem aik{o:Expr}{name:Str}{apos pos:Pos}{args:List Expr}{env:Env}(hbase:attributeBase o name env (eval o env)=eval o env)
  (hfew:methodCallForm (args.length+([]:List Keyword).length) (backTo pos (starEach args env)) (backToKw pos (keywordEach [] env))=true) (hline:(apos.endLine==pos.line)=true):
  eval (.Call (.Attribute o name apos) args [] pos) env=(do
   let ov <-eval o env
   standAt apos.atName
   let (f,first) <-holding [ov] (getMethod ov name (do return (<-importBound o env).getD true))
   callWith pos f first (backTo pos (starEach args env)) (backToKw pos (keywordEach [] env))):=by
 have hpos:methodCallPos true o env apos pos=pure pos:=by unfold methodCallPos;simp[hline]
 rw[arm_eval_Call,hbase];unfold methodCall;rw[hfew,hpos];rfl
theorem ail{f m:Str}{v:V}(h:(m==f)=false):List.lookup m [(f,v)]=none:=by simp[List.lookup,h]
theorem abm(S:Stat Φ CX k c E B X){f C m:String}{o:Ex}{xs:Exs}(iho:OkE Φ c E B X o)(ih:fG Φ c E B X xs){e:Expr}(h:ak c (.mcl f C m o xs) e=true):PE X e (tE X.K B (wpE Φ (.mcl f C m o xs) E)):=nomatch (show false=true from h)
theorem abn(S:Stat Φ CX k c E B X){C:String}{xs:Exs}(ih:fG Φ c E B X xs){e:Expr}(h:ak c (.mko C xs) e=true):PE X e (tE X.K B (wpE Φ (.mko C xs) E)):=nomatch (show false=true from h)
theorem abo(S:Stat Φ CX k c E B X){o:Ex}(iho:OkE Φ c E B X o){e:Expr}(h:ak c (.pp0 o) e=true):PE X e (tE X.K B (wpE Φ (.pp0 o) E)):=nomatch (show false=true from h)
theorem abp(S:Stat Φ CX k c E B X){m:Mf}{o:Ex}{xs:Exs}(iho:OkE Φ c E B X o)(ih:fG Φ c E B X xs){e:Expr}(h:ak c (.mth m o xs) e=true):PE X e (tE X.K B (wpE Φ (.mth m o xs) E)):=by
 replace h:=Ga h;obtain ⟨v,x,apos,args,cpos,rfl,h⟩:=h
 ·simp only[ae,av,bp]at h;obtain ⟨⟨⟨⟨⟨⟨e1,h1⟩,hb⟩,hl⟩,hn⟩,h2⟩,h3⟩:=h;subst e1;cases args with
  |nil=>cases h2
  |cons e es=>
   obtain ⟨x0,xs',rfl,c1,c2⟩:=iV h3;have hs:=bK e es X.env (bY (bD x0 c1));have ha:=jW c2 X.env cpos;have hbase:=abj hb (Str.ofString m.name) X.env;have hfew:((backTo cpos (starEach (e::es) X.env)).all (λx=>!x.1)&&(backToKw cpos (keywordEach [] X.env)).all (λx=>x.1.isSome)
    &&decide ((e::es).length+([]:List Keyword).length+(if ([]:List Keyword).isEmpty then 0 else 1) < 30))=true:=by
    rw[all_plain h3 X.env cpos];have:(e::es).length+([]:List Keyword).length+(if ([]:List Keyword).isEmpty then 0 else 1) < 30:=by have e0:(if ([]:List Keyword).isEmpty=true then 0 else 1)=0:=rfl;rw[e0];show (e::es).length+0+0 < 30;omega
    rw[aT this];rfl
   have hline:(apos.endLine==cpos.line)=true:=by rw[av];exact hl
   have lst:∀{d:D} {u:V} {G1:DH} {H1:Hp} {F1:FZ},(match d with |.ref p=>(match G1 p with |some (.lst _)=>True |none=>False) |_=>False)->R X.K H1 F1 G1->Rep X.K H1 F1 d u->tyV X.K "list" u H1:=λ{d u G1 H1 F1} q r1 ru=>by
    split at q
    ·rename_i p;split at q
     ·rename_i ds hg;obtain ⟨vs,hv,_⟩:=r1.lst hg;have e2:u=.ref p:=ru;subst e2;exact .inl ⟨rfl,vs,SqL.of hv⟩
     ·exact q.elim
    ·exact q.elim
   have lstV:∀{d:D} {u:V} {G1:DH} {H1:Hp} {F1:FZ},wz (view G1 d)->R X.K H1 F1 G1->Rep X.K H1 F1 d u->tyV X.K "list" u H1:=λ{d u G1 H1 F1} q r1 ru=>by
    generalize hv:view G1 d=w at q;cases w with
    |lst ds=>
     obtain ⟨a,vs,rfl,sq,_⟩:=Rep.list r1 ru hv;exact .inl ⟨rfl,vs,sq⟩
    |_=>exact (show False from q).elim
   cases m with
   |join=>
    refine peI (iB PySem.F.plainAttrs_str PySem.F.slot_str_join PySem.F.type_str_join Z2 (iho h1) (ih h3) hbase hfew hline hs ha) λσ H Q hq=>el hq λρ F G e0 he r hw=>?_;rw[eZ]at hw;refine aO e0 he r hw λd G1 H1 F1 u q e1 x1 he1 r1 ru=>⟨?_,cB e1 he1 r1 q.2 λds G2 H2 F2 vs q e2 x2 he2 r2 rvs=>?_⟩
    ·have q1:=q.1;cases d with
     |str l=>obtain ⟨e2,_⟩:=ru;subst e2;exact rfl
     |_=>exact (show False from q1).elim
    ·exact ⟨F2,G2,d,ds,r2,Rep.ext x2 ru,rvs,gR (λd G' z=>PV.later z (x1.trans x2)) q⟩
   |append=>
    refine peI (iB ef PySem.F.slot_list_append PySem.F.type_list_append Z3 (iho h1) (ih h3) hbase hfew hline hs ha) λσ H Q hq=>el hq λρ F G e0 he r hw=>?_;rw[eZ]at hw;refine aO e0 he r hw λd G1 H1 F1 u q e1 x1 he1 r1 ru=>⟨?_,cB e1 he1 r1 q.2 λds G2 H2 F2 vs q e2 x2 he2 r2 rvs=>?_⟩
    ·refine lst (d:=d) (G1:=G1) ?_ r1 ru;have q1:=q.1;cases d <;> first |exact q1 |exact (show False from q1).elim
    ·exact ⟨F2,G2,d,ds,r2,Rep.ext x2 ru,rvs,gR (λd G' z=>PV.later z (x1.trans x2)) q⟩
   |extend=>
    refine peI (iB ef PySem.F.slot_list_extend PySem.F.type_list_extend aad (iho h1) (ih h3) hbase hfew hline hs ha) λσ H Q hq=>el hq λρ F G e0 he r hw=>?_;rw[eZ]at hw;refine aO e0 he r hw λd G1 H1 F1 u q e1 x1 he1 r1 ru=>⟨?_,cB e1 he1 r1 q.2 λds G2 H2 F2 vs q e2 x2 he2 r2 rvs=>?_⟩
    ·refine lst (d:=d) (G1:=G1) ?_ r1 ru;have q1:=q.1;cases d <;> first |exact q1 |exact (show False from q1).elim
    ·exact ⟨F2,G2,d,ds,r2,Rep.ext x2 ru,rvs,gR (λd G' z=>PV.later z (x1.trans x2)) q⟩
   |insert=>
    refine peI (iB ef PySem.F.slot_list_insert PySem.F.type_list_insert aaa (iho h1) (ih h3) hbase hfew hline hs ha) λσ H Q hq=>el hq λρ F G e0 he r hw=>?_;rw[eZ]at hw;refine aO e0 he r hw λd G1 H1 F1 u q e1 x1 he1 r1 ru=>⟨?_,cB e1 he1 r1 q.2 λds G2 H2 F2 vs q e2 x2 he2 r2 rvs=>?_⟩
    ·refine lst (d:=d) (G1:=G1) ?_ r1 ru;have q1:=q.1;cases d <;> first |exact q1 |exact (show False from q1).elim
    ·exact ⟨F2,G2,d,ds,r2,Rep.ext x2 ru,rvs,gR (λd G' z=>PV.later z (x1.trans x2)) q⟩
   |pop=>
    refine peI (iB ef PySem.F.slot_list_pop PySem.F.type_list_pop aab (iho h1) (ih h3) hbase hfew hline hs ha) λσ H Q hq=>el hq λρ F G e0 he r hw=>?_;rw[eZ]at hw;refine aO e0 he r hw λd G1 H1 F1 u q e1 x1 he1 r1 ru=>⟨?_,cB e1 he1 r1 q.2 λds G2 H2 F2 vs q e2 x2 he2 r2 rvs=>?_⟩
    ·refine lst (d:=d) (G1:=G1) ?_ r1 ru;have q1:=q.1;cases d <;> first |exact q1 |exact (show False from q1).elim
    ·exact ⟨F2,G2,d,ds,r2,Rep.ext x2 ru,rvs,gR (λd G' z=>PV.later z (x1.trans x2)) q⟩
   |count=>
    refine peI (iB ef PySem.F.slot_list_count PySem.F.type_list_count Z4 (iho h1) (ih h3) hbase hfew hline hs ha) λσ H Q hq=>el hq λρ F G e0 he r hw=>?_;rw[eZ]at hw;refine aO e0 he r hw λd G1 H1 F1 u q e1 x1 he1 r1 ru=>⟨lstV q.1 r1 ru,cB e1 he1 r1 q.2 λds G2 H2 F2 vs q e2 x2 he2 r2 rvs=>?_⟩;exact ⟨F2,G2,d,ds,r2,Rep.ext x2 ru,rvs,gR (λd G' z=>PV.later z (x1.trans x2)) q⟩
   |index=>
    refine peI (iB ef PySem.F.slot_list_index PySem.F.type_list_index Z5 (iho h1) (ih h3) hbase hfew hline hs ha) λσ H Q hq=>el hq λρ F G e0 he r hw=>?_;rw[eZ]at hw;refine aO e0 he r hw λd G1 H1 F1 u q e1 x1 he1 r1 ru=>⟨lstV q.1 r1 ru,cB e1 he1 r1 q.2 λds G2 H2 F2 vs q e2 x2 he2 r2 rvs=>?_⟩;exact ⟨F2,G2,d,ds,r2,Rep.ext x2 ru,rvs,gR (λd G' z=>PV.later z (x1.trans x2)) q⟩
end
section
variable {Φ:aa} {CX:CXT} {k:Nat} {c:CT} {E:EK} {B:Bs} {X:Cx}
def EachE(Φ:aa)(c:CT)(E:EK)(B:Bs)(X:Cx):Exs->Prop
 |.nil=>True
 |.cons e es=>OkE Φ c E B X e/\EachE Φ c E B X es
def uy(Φ:aa)(c:CT)(E:EK)(B:Bs)(X:Cx):Txs->Prop
 |.nil=>True
 |.cons e es=>OkT Φ c E B X e/\uy Φ c E B X es
theorem abq(S:Stat Φ CX k c E B X){es:Exs}(ih:EachE Φ c E B X es){e:Expr}(h:ak c (.fst es) e=true):PE X e (tE X.K B (wpE Φ (.fst es) E)):=nomatch (show false=true from h)
theorem EachE.oks:∀{xs:Exs},EachE Φ c E B X xs->fG Φ c E B X xs
 |.nil,_=>by intro h;exact xZ h
 |.cons x xs,hh=>by intro h;exact uw hh.1 (EachE.oks hh.2) h
def uz(Φ:aa)(E:EK)(isAnd:Bool)(x:Ex)(xs:Exs):aj->DH->(D->DH->Prop)->Prop:=λρ G kk=>wpE Φ x E ρ G λd G1=>match d with |.bl b=>wpB Φ xs isAnd b E ρ G1 (λc G2=>kk (.bl c) G2) |_=>False
theorem Gw{isAnd:Bool}{pos:Pos}:∀(xs:Exs){x:Ex},OkE Φ c E B X x->EachE Φ c E B X xs->∀{v:Expr}{vs:List Expr},ak c x v=true->aK c xs vs=true->
  PE X (.BoolOp (if isAnd then .And else .Or) (v::vs) pos) (tE X.K B (uz Φ E isAnd x xs))
 |.nil,x,ih,_,v,vs,h1,h2=>by
  unfold aK at h2;cases vs with
  |nil=>
   refine peI (Uo (ih h1)) λσ H Q hq=>el hq λρ F G e0 he r hw=>?_;unfold uz at hw;refine aO e0 he r hw λd G1 H1 F1 u q e1 x1 he1 r1 ru=>?_;split at q
   ·rw[qX]at q;exact q _ _ _ x1 r1 ru
   ·exact q.elim
  |cons _ _=>cases h2
 |.cons y ys,x,ih,hh,v,vs,h1,h2=>by
  unfold aK at h2;split at h2
  ·rename_i w ws;rw[ae]at h2;have rest:=Gw (isAnd:=isAnd) (pos:=pos) ys hh.1 hh.2 h2.1 h2.2;cases isAnd with
   |true=>
    refine peI (Up (ih h1) rest) λσ H Q hq=>el hq λρ F G e0 he r hw=>?_;unfold uz at hw;refine aO e0 he r hw λd G1 H1 F1 u q e1 x1 he1 r1 ru=>?_;split at q
    ·rename_i b;refine ⟨b,ru,?_⟩;rw[lF]at q;cases b with
     |true=>
      rw[if_pos rfl];exact ⟨ρ,F1,G1,e1,he1,r1,aC y (λd G' z=>by
       cases d <;> first |exact (show False from z).elim |exact tD ys (λc G2 z=>PV.later z x1) z) q⟩
     |false=>
      rw[if_neg bi];exact q _ _ _ x1 r1 rfl
    ·exact q.elim
   |false=>
    refine peI (Uq (ih h1) rest) λσ H Q hq=>el hq λρ F G e0 he r hw=>?_;unfold uz at hw;refine aO e0 he r hw λd G1 H1 F1 u q e1 x1 he1 r1 ru=>?_;split at q
    ·rename_i b;refine ⟨b,ru,?_⟩;rw[lF]at q;cases b with
     |false=>
      rw[if_neg bi];exact ⟨ρ,F1,G1,e1,he1,r1,aC y (λd G' z=>by
       cases d <;> first |exact (show False from z).elim |exact tD ys (λc G2 z=>PV.later z x1) z) q⟩
     |true=>
      rw[if_pos rfl];exact q _ _ _ x1 r1 rfl
    ·exact q.elim
  ·cases h2
theorem abr{isAnd:Bool}{x:Ex}{xs:Exs}(ih:OkE Φ c E B X x)(hh:EachE Φ c E B X xs){e:Expr}(h:ak c (.boo isAnd x xs) e=true):PE X e (tE X.K B (wpE Φ (.boo isAnd x xs) E)):=by
 replace h:=Ft h;obtain ⟨_,_,_,_,rfl,h⟩:=h
 ·simp only[ae,av]at h;obtain ⟨⟨e1,h1⟩,h2⟩:=h;subst e1;refine peI (Gw xs ih hh h1 h2) λσ H Q hq=>el hq λρ F G e0 he r hw=>⟨ρ,F,G,e0,he,r,?_⟩;rw[rJ]at hw;exact hw
theorem abt{t:Tx}{a b:Ex}(iht:OkT Φ c E B X t)(iha:OkE Φ c E B X a)(ihb:OkE Φ c E B X b){e:Expr}(h:ak c (.ife t a b) e=true):PE X e (tE X.K B (wpE Φ (.ife t a b) E)):=by
 replace h:=Fv h;obtain ⟨_,_,_,_,rfl,h⟩:=h
 ·simp only[ae]at h;obtain ⟨⟨h1,h2⟩,h3⟩:=h;refine peI (Ur (iht h1) (iha h2) (ihb h3)) λσ H Q hq=>el hq λρ F G e0 he r hw=>?_;rw[rK]at hw;refine gY e0 he r hw λb' G1 H1 F1 q e1 x1 he1 r1=>?_;cases b' with
  |true=>
   rw[if_pos rfl];exact ⟨ρ,F1,G1,e1,he1,r1,aC a (λd G' z=>PV.later z x1) q⟩
  |false=>
   rw[if_neg bi];exact ⟨ρ,F1,G1,e1,he1,r1,aC b (λd G' z=>PV.later z x1) q⟩
theorem abu{x:Ex}(ih:OkE Φ c E B X x){e:Expr}(hp:iT e=true)(h:ak c x e=true):PT X e (tB' X.K B (wpT Φ (.val x) E)):=by
 refine ptI (VN (ih h) (aaW hp X.env)) λσ H Q hq=>el hq λρ F G e0 he r hw=>?_;rw[jM]at hw;refine aO e0 he r hw λd G1 H1 F1 u q e1 x1 he1 r1 ru=>?_;split at q
 ·rename_i b hb;exact ⟨b,DR r1 ru hb,q _ _ x1 r1⟩
 ·exact q.elim
theorem abv{t:Tx}(ih:OkT Φ c E B X t){e:Expr}(h:bf c (.not t) e=true):PT X e (tB' X.K B (wpT Φ (.not t) E)):=by
 replace h:=aaB h;obtain ⟨_,_,rfl,h⟩:=h
 ·refine ptI (Uk (ih h)) λσ H Q hq=>el hq λρ F G e0 he r hw=>?_;rw[qT]at hw;exact gY e0 he r hw λb G1 H1 F1 q e1 x1 he1 r1=>q _ _ x1 r1
def lY(Φ:aa)(E:EK)(isAnd:Bool)(x:Tx)(xs:Txs):aj->DH->(Bool->DH->Prop)->Prop:=λρ G kk=>wpT Φ x E ρ G λb G1=>fZ Φ xs isAnd b E ρ G1 kk
theorem Gx{isAnd:Bool}{pos:Pos}:∀(xs:Txs){x:Tx},OkT Φ c E B X x->uy Φ c E B X xs->∀{v:Expr}{vs:List Expr},bf c x v=true->iU c xs vs=true->
  PW X (.BoolOp (if isAnd then .And else .Or) (v::vs) pos) (tB' X.K B (lY Φ E isAnd x xs))
 |.nil,x,ih,_,v,vs,h1,h2=>by
  unfold iU at h2;cases vs with
  |nil=>
   have go:∀σ H Q,tB' X.K B (lY Φ E isAnd x .nil) σ H Q->tB' X.K B (wpT Φ x E) σ H Q:=λσ H Q hq=>el hq λρ F G e0 he r hw=>by
    unfold lY at hw;refine ⟨ρ,F,G,e0,he,r,cL x (λb G1 q=>?_) hw⟩;rw[qY]at q;exact q
   cases isAnd with
   |true=>exact pwI (Ug (ih h1)) go
   |false=>exact pwI (Uh (ih h1)) go
  |cons _ _=>cases h2
 |.cons y ys,x,ih,hh,v,vs,h1,h2=>by
  unfold iU at h2;split at h2
  ·rename_i w ws;rw[ae]at h2;have rest:=Gx (isAnd:=isAnd) (pos:=pos) ys hh.1 hh.2 h2.1 h2.2;cases isAnd with
   |true=>
    refine pwI (Ui (ih h1) rest) λσ H Q hq=>el hq λρ F G e0 he r hw=>?_;unfold lY at hw;refine gY e0 he r hw λb G1 H1 F1 q e1 x1 he1 r1=>?_;rw[lG]at q;cases b with
    |true=>
     rw[if_pos rfl];exact ⟨ρ,F1,G1,e1,he1,r1,cL y (λb' G' z=>tH ys (λc G2 z=>PB.later z x1) z) q⟩
    |false=>
     rw[if_neg bi];exact q _ _ x1 r1
   |false=>
    refine pwI (Uj (ih h1) rest) λσ H Q hq=>el hq λρ F G e0 he r hw=>?_;unfold lY at hw;refine gY e0 he r hw λb G1 H1 F1 q e1 x1 he1 r1=>?_;rw[lG]at q;cases b with
    |false=>
     rw[if_neg bi];exact ⟨ρ,F1,G1,e1,he1,r1,cL y (λb' G' z=>tH ys (λc G2 z=>PB.later z x1) z) q⟩
    |true=>
     rw[if_pos rfl];exact q _ _ x1 r1
  ·cases h2
theorem abw{isAnd:Bool}{x:Tx}{xs:Txs}(ih:OkT Φ c E B X x)(hh:uy Φ c E B X xs){e:Expr}(h:bf c (.boo isAnd x xs) e=true):PT X e (tB' X.K B (wpT Φ (.boo isAnd x xs) E)):=by
 replace h:=aaC h;obtain ⟨_,_,_,_,rfl,h⟩:=h
 ·simp only[ae,av]at h;obtain ⟨⟨e1,h1⟩,h2⟩:=h;subst e1;refine ptI (PW.pt (Gx xs ih hh h1 h2)) λσ H Q hq=>el hq λρ F G e0 he r hw=>⟨ρ,F,G,e0,he,r,?_⟩;rw[qU]at hw;exact hw
def tG(K:PF)(B:Bs)(t:Tg):TG:=λv σ H Q=>∃ρ F G d,Ext B.H B.F H F/\EnvR K H F ρ σ/\R K H F G/\Rep K H F d v/\aP t d ρ G (λρ'=>∀σ',EnvR K H F ρ' σ'->Q σ' H)
def tGs(K:PF)(B:Bs)(t:Tgs):TGs:=λvs σ H Q=>∃ρ F G ds,Ext B.H B.F H F/\EnvR K H F ρ σ/\R K H F G/\Reps K H F ds vs/\bL t ds ρ G (λρ'=>∀σ',EnvR K H F ρ' σ'->Q σ' H)
theorem uA:∀{ts:Tgs}{es:List Expr}{env:Env},cA c ts es=true->(assignEach es env).length=es.length/\(assignEach es env).findIdx? (·.1)=none/\(assignEach es env).map (·.2)=es.map λe=>assign e env
 |.nil,[],env,_=>⟨rfl,rfl,rfl⟩
 |.nil,_::_,env,h=>by unfold cA at h;cases h
 |.cons t r,[],env,h=>by unfold cA at h;cases h
 |.cons t r,e::es,env,h=>by
  unfold cA at h;rw[ae]at h;obtain ⟨h1,h2,h3⟩:=uA (env:=env) h.2;have hs:assignEach (e::es) env=(false,assign e env)::assignEach es env:=by
   cases t with
   |nm i=>
    have h':=h.1;obtain ⟨_,_,rfl,_⟩:=xW h';rfl
   |tp ts=>
    have h':=h.1;obtain ⟨_,_,_,rfl,_⟩:=xX h';rfl
  rw[hs];refine ⟨by simp[h1],?_,by simp[h3]⟩;rw[List.findIdx?_cons];simp[h2]
section
variable {prog:Program} {w:World} {A:Around} {E:Value->Shared->Prop} {s:Shared}
theorem Gy{it t:Addr}{items:Array Value}(hne:t≠it):∀(n i:Nat)(s:Shared)(Q:List Value->Shared->Prop),s.heap.IsListIter it t i->s.heap.IsList t items->i+n<=items.size->
  (∀h',h'.IsListIter it t (i+n)->Heap.SameBut it s.heap h'->Q ((items.toList.drop i).take n) { s with heap:=h' })->wpAny (model prog w) A (draw (.ref it) n) Q E s
 |0,i,s,Q,hit,_,_,hQ=>by
  show wpAny _ _ (pure []) Q E s;exact aS (by simpa using hQ s.heap hit (Heap.SameBut.refl ..))
 |n+1,i,s,Q,hit,ht,hle,hQ=>by
  have hlt:i < items.size:=by omega
  show wpAny _ _ (pyNext (.ref it) >>= _) Q E s;refine ag (wpAny_pyNext_list_item hit ht (x:=items[i]) (by simp[hlt]) λh₁ hit₁ hs₁=>?_);refine ag (eI (Gy hne n (i+1) _ _ hit₁ (ht.extBut hs₁.extBut hne) (by omega) λh₂ hit₂ hs₂=>aS ?_));have hd:items.toList.drop i=items[i]::items.toList.drop (i+1):=by simp[bP,hlt]
  have:=hQ h₂ (by rw[show i+(n+1)=i+1+n by omega];exact hit₂) (hs₁.trans hs₂);rw[hd,List.take_succ_cons]at this;exact this
theorem abx{t:Addr}{items:Array Value}{Q:List Value->Shared->Prop}(hh:A.handled=none)(ht:s.heap.IsList t items)
  (hQ:∀h',Heap.ExtBut s.heap.objs.size s.heap h'->Q items.toList { s with heap:=h' }):wpAny (model prog w) A (unpackItems (.ref t) items.size none) Q E s:=by
 have hlt:t≠s.heap.objs.size:=by obtain ⟨o,ho,_⟩:=ht;exact ca (ay ho)
 unfold unpackItems;refine ag ?_;unfold notIterableAtAll;refine ag (wpAny_specialOf ht.typeIs PySem.F.slot_list_iter.lookup ?_);refine aS ?_;simp only[fN,if_false];refine ag (eI (wpAny_pyIter_list ht ?_));refine ag (eI (Gy hlt items.size 0 _ _ ⟨_,a9 _ rfl,rfl,rfl⟩ (ht.push _) (by omega) λh₁ hit₁ hs₁=>?_));have hall:List.take items.size (List.drop 0 items.toList)=items.toList:=by rw[List.drop_zero];exact eg (by simp)
 rw[hall];rw[if_neg (by simp)];have ht₁:h₁.IsList t items:=(ht.push _).extBut hs₁.extBut hlt;refine ag (eI (wpAny_pyNext_list_end hh hit₁ ht₁ (by simp) λh₂ he₂=>?_));simp only[Option.isSome_none,fN,if_false];refine aS (hQ h₂ λb o hb e=>he₂ b o hb (hs₁.extBut b o hb (ah _ e)))
theorem aby{env:Env}{elts:List Expr}{x1}{pos:Pos}{t:Addr}{items:Array Value}{Q:Unit->Shared->Prop}(hh:A.handled=none)(ht:s.heap.IsList t items)
  (hn:(assignEach elts env).length=items.size) (hstar:(assignEach elts env).findIdx? (·.1)=none)
  (h:∀h',Heap.ExtBut s.heap.objs.size s.heap h'->wpAny (model prog w) A (assignInOrder ((assignEach elts env).map (·.2)) items.toList) Q E { s with heap:=h' }):
  wpAny (model prog w) A (assign (.Tuple elts x1 pos) env (.ref t)) Q E s:=by
 rw[assign_Tuple];refine ag (gv ?_);unfold unpack;rw[hn,hstar];exact ag (eI (abx hh ht h))
end
section
variable {X:Cx} {pos:Pos}
def abz(K:PF)(n:Nat)(t:TGs):TG:=λv σ H Q=>∃a xs,v=.ref a/\SqL K H a xs/\xs.length=n/\t xs σ H Q
theorem abA{es:List Expr}{k:Nat}{t:TGs}{n:Nat}(hc:X.calm=true)(h:PGs X es t)
  (hn:(assignEach es X.env).length=n:=by rfl) (hst:(assignEach es X.env).findIdx? (·.1)=none:=by rfl):PG X (.Tuple es k pos) (abz X.K n t):=by
 intro pins s σ H v u Q I r hw;obtain ⟨a,xs,e1,hq,hl,hw⟩:=hw;subst e1;cases r;obtain ⟨its,rv,pl,hz⟩:=I.list hq;refine aby (I.ok.hd hc) pl.isList (by simp[hn,<-hl,rv.length]) hst λh' hx=>?_;have I1:Inv X pins σ H { s with heap:=h' }:=I.kept (t':=s.toks) λb o e=>hx b o (ca (ay e)) e;exact h pins _ σ H xs _ Q I1 (by simpa using rv) hw
end
mutual
theorem iW(S:Stat Φ CX k c E B X):∀(t:Tg){e:Expr},bu c t e=true->PG X e (tG X.K B t)
 |.nm i,e,h=>by
  replace h:=xW h;obtain ⟨x,pos,rfl,h⟩:=h
  ·skip;rw[ae,av]at h;obtain ⟨l,f⟩:=S.sto x h.2;intro pins s σ H v u Q I rv q;refine U6 (i:=i) S.nd (by rw[S.N];exact h.1) l f pins s σ H v u Q I rv ?_;obtain ⟨ρ,F,G,d,e0,he,r,rd,hw⟩:=q;unfold aP at hw;exact hw _ (he.set rd i)
 |.tp ts,e,h=>by
  replace h:=xX h;obtain ⟨es,kk,pos,rfl,h⟩:=h
  ·skip;obtain ⟨h1,h2,h3⟩:=uA (env:=X.env) h;intro pins s σ H v u Q I rv q;obtain ⟨ρ,F,G,d,e0,he,r,rd,hw⟩:=q;unfold aP at hw;split at hw
   ·rename_i ds;refine Vc (n:=es.length) S.calm (yc S ts h) h1 h2 pins s σ H v u Q I rv ?_;obtain ⟨a,vs,e1,q,t⟩:=rd;refine ⟨a,vs,e1,q.sq,?_,ρ,F,G,ds,e0,he,r,t,hw⟩;rw[<-t.length];exact yd ts h hw
   ·rename_i ds;refine abA (n:=es.length) S.calm (yc S ts h) h1 h2 pins s σ H v u Q I rv ?_;obtain ⟨a,vs,e1,q,t⟩:=rd;refine ⟨a,vs,e1,q.sq,?_,ρ,F,G,ds,e0,he,r,t,hw⟩;rw[<-t.length];exact yd ts h hw
   ·exact hw.elim
theorem yc(S:Stat Φ CX k c E B X):∀(ts:Tgs){es:List Expr},cA c ts es=true->PGs X es (tGs X.K B ts)
 |.nil,es,h=>by
  unfold cA at h;cases es with
  |nil=>
   intro pins s σ H vs us Q I rv q;refine U9 pins s σ H vs us Q I rv ?_;obtain ⟨ρ,F,G,ds,e0,he,r,rd,hw⟩:=q;unfold bL at hw;split at hw
   ·exact ⟨rd,hw _ he⟩
   ·exact hw.elim
  |cons _ _=>cases h
 |.cons t r,es,h=>by
  unfold cA at h;split at h
  ·rename_i e es;rw[ae]at h;intro pins s σ H vs us Q I rv q;have hs:(assignEach (e::es) X.env).map (·.2)=assign e X.env::(assignEach es X.env).map (·.2):=by
    have hh:cA c (.cons t r) (e::es)=true:=by unfold cA;show (bu c t e&&cA c r es)=true;rw[h.1,h.2];rfl
    rw[(uA (env:=X.env) hh).2.2,(uA (env:=X.env) h.2).2.2];rfl
   refine Va (iW S t h.1) (yc S r h.2) hs pins s σ H vs us Q I rv ?_;obtain ⟨ρ,F,G,ds,e0,he,rr,rd,hw⟩:=q;unfold bL at hw;split at hw
   ·rename_i d ds;obtain ⟨v,vs',e1,rd1,rds⟩:=rd;refine ⟨v,vs',e1,ρ,F,G,d,e0,he,rr,rd1,du (λρ' z σ' he'=>?_) t hw⟩;exact ⟨ρ',F,G,ds,e0,he',rr,rds,z⟩
   ·exact hw.elim
  ·cases h
theorem yd{G:DH}:∀(ts:Tgs){es:List Expr}{ds:List D}{ρ:aj}{Q:aj->Prop},cA c ts es=true->bL ts ds ρ G Q->ds.length=es.length
 |.nil,es,ds,ρ,Q,h,q=>by
  unfold cA at h;unfold bL at q;split at q
  ·cases es with
   |nil=>rfl
   |cons _ _=>cases h
  ·exact q.elim
 |.cons t r,es,ds,ρ,Q,h,q=>by
  unfold cA at h;split at h
  ·rw[ae]at h;unfold bL at q;split at q
   ·rename_i d ds;have:∃ρ',bL r ds ρ' G Q:=Gz t q;obtain ⟨ρ',q'⟩:=this;have:=yd r h.2 q';simp[this]
   ·exact q.elim
  ·cases h
theorem Gz{G:DH}:∀(t:Tg){d:D}{ρ:aj}{Q:aj->Prop},aP t d ρ G Q->∃ρ',Q ρ'
 |.nm i,d,ρ,Q,q=>⟨_,q⟩
 |.tp ts,d,ρ,Q,q=>by
  unfold aP at q;split at q
  ·exact ye ts q
  ·exact ye ts q
  ·exact q.elim
theorem ye{G:DH}:∀(ts:Tgs){ds:List D}{ρ:aj}{Q:aj->Prop},bL ts ds ρ G Q->∃ρ',Q ρ'
 |.nil,ds,ρ,Q,q=>by
  unfold bL at q;split at q
  ·exact ⟨_,q⟩
  ·exact q.elim
 |.cons t r,ds,ρ,Q,q=>by
  unfold bL at q;split at q
  ·obtain ⟨ρ',q'⟩:=Gz t q;exact ye r q'
  ·exact q.elim
end
end
structure WalkJ(K:PF)(H:Hp)(F:FZ)(items:List D)(g:Hld)(J:It):Prop where
 go:∀H' F' G i,Ext H F H' F'->R K H' F' G->held g G->i < items.length->J.go i H'
 stop:∀H' F' G,Ext H F H' F'->R K H' F' G->held g G->J.stop items.length H'
 yld:∀H' F' i x H'' d G,Ext H F H' F'->R K H' F' G->held g G->items[i]?=some d->J.yld i H' x H''->Ext H' F' H'' F'/\R K H'' F' G/\Rep K H'' F' d x
section
variable {K:PF} {H:Hp} {F:FZ}
structure Src(K:PF)(H:Hp)(F:FZ)(u:Value)(ds:List D)(g:Hld)(k:SK):Prop where
 val:k.val=u
 sat:∀H' F' G,Ext H F H' F'->R K H' F' G->held g G->∃vs,k.Sat H' vs/\Reps K H' F' ds vs
theorem uB{d:D}{v:V}{u:Value}{G:DH}{ds:List D×Hld}(h:Rep K H F d v)(r:RelV v u)(e:itemsOf G d=some ds):∃k,Src K H F u ds.1 ds.2 k:=by
 cases d with
 |lst xs=>
  simp only[itemsOf,aI]at e;subst e;obtain ⟨a,vs,e1,q,t⟩:=h;subst e1;have hu:u=Value.ref a:=r;subst hu;exact ⟨.lst a,rfl,λH' F' G' x _ _=>⟨vs,(FzL.ext x q).2,Reps.ext x t⟩⟩
 |tup xs=>
  simp only[itemsOf,aI]at e;subst e;obtain ⟨a,vs,e1,q,t⟩:=h;subst e1;have hu:u=Value.ref a:=r;subst hu;exact ⟨.tup a,rfl,λH' F' G' x _ _=>⟨vs,(TpT.ext (K:=K) x q).it,Reps.ext x t⟩⟩
 |str l=>
  simp only[itemsOf,aI]at e;subst e;obtain ⟨e1,hl⟩:=h;subst e1;obtain ⟨t,hu⟩:∃t,u=Value.str (tx l) t:=r;subst hu;exact ⟨.str (tx l) t,rfl,λH' F' G' x _ _=>⟨_,rfl,by simpa using xH l⟩⟩
 |ref p=>
  simp only[itemsOf]at e;split at e
  ·rename_i xs hg;simp only[aI]at e;subst e;have e1:v=.ref p:=h;subst e1;have hu:u=Value.ref p:=r;subst hu;exact ⟨.lst p,rfl,λH' F' G' x r' hh=>r'.lst hh.1⟩
  ·cases e
 |_=>cases e
theorem uC{G:DH}{d:D}{ds:List D×Hld}(e:itemsOf G d=some ds):held ds.2 G:=by
 cases d with
 |ref p=>
  simp only[itemsOf]at e;split at e
  ·rename_i xs hg;simp only[aI]at e;subst e;exact ⟨hg,trivial⟩
  ·cases e
 |_=>simp only[itemsOf]at e;first | (cases e;done) | (simp only[aI]at e;subst e;exact trivial)
theorem abB{u:Value}{ds:List D}{g:Hld}{k:SK}(s:Src K H F u ds g k):WalkJ K H F ds g (Jk k) where
 go:=λH' F' G i x r hh hi=>by
  obtain ⟨vs,h1,h2⟩:=s.sat H' F' G x r hh;exact ⟨vs,h1,by rw[<-h2.length];exact hi⟩
 stop:=λH' F' G x r hh=>by
  obtain ⟨vs,h1,h2⟩:=s.sat H' F' G x r hh;exact ⟨vs,h1,h2.length.symm⟩
 yld:=λH' F' i v H'' d G x r hh hd y=>by
  obtain ⟨e,hv⟩:=y;subst e;obtain ⟨vs,h1,h2⟩:=s.sat _ F' G x r hh;obtain ⟨w,e1,rw'⟩:=h2.get hd;have e2:=hv vs h1;rw[e1]at e2;cases e2;exact ⟨Ext.refl _ _,r,rw'⟩
theorem iY:∀(n:Nat)(ds:List D),(dO n ds).length=ds.length
 |_,[]=>rfl
 |n,d::ds=>by simp[dO,iY (n+1) ds]
theorem jX:∀(n:Nat)(ds:List D)(i:Nat),(dO n ds)[i]?=(ds[i]?).map λd=>.tup [.int ((n+i:Nat):Int),d]
 |_,[],_=>by simp[dO]
 |n,d::ds,0=>by simp[dO]
 |n,d::ds,i+1=>by
  simp only[dO,gx];rw[jX (n+1) ds i];congr 1;funext d;rw[show n+1+i=n+(i+1) by omega]
theorem yf:∀(as bs:List D),(bT as bs).length=min as.length bs.length
 |[],bs=>by simp[bT]
 |a::as,[]=>by simp[bT]
 |a::as,b::bs=>by simp[bT,yf as bs]
theorem GC:∀(as bs:List D)(i:Nat)(d:D),(bT as bs)[i]?=some d->∃a b,as[i]?=some a/\bs[i]?=some b/\d=.tup [a,b]
 |[],bs,i,d,h=>by simp[bT]at h
 |a::as,[],i,d,h=>by simp[bT]at h
 |a::as,b::bs,0,d,h=>by simp[bT]at h;exact ⟨a,b,rfl,rfl,h.symm⟩
 |a::as,b::bs,i+1,d,h=>by
  simp only[bT,gx]at h;obtain ⟨x,y,h1,h2,h3⟩:=GC as bs i d h;exact ⟨x,y,by simpa using h1,by simpa using h2,h3⟩
theorem abC{u:Value}{ds:List D}{g:Hld}{k:SK}(s:Src K H F u ds g k):WalkJ K H F (dO 0 ds) g (Je k) where
 go:=λH' F' G i x r hh hi=>by
  obtain ⟨vs,h1,h2⟩:=s.sat H' F' G x r hh;exact ⟨vs,h1,by rw[<-h2.length,<-iY 0];exact hi⟩
 stop:=λH' F' G x r hh=>by
  obtain ⟨vs,h1,h2⟩:=s.sat H' F' G x r hh;exact ⟨vs,h1,by rw[iY];exact h2.length.symm⟩
 yld:=λH' F' i v H'' d G x r hh hd y=>by
  obtain ⟨vs,h1,h2⟩:=s.sat H' F' G x r hh;obtain ⟨T,y,hT,e1,e2,hv⟩:=y;subst e1 e2;rw[jX]at hd;obtain ⟨d',hd',e3⟩:=aE.mp hd;subst e3;obtain ⟨w,e1,rw'⟩:=h2.get hd';have e2:=hv vs h1;rw[e1]at e2;cases e2;refine ⟨d8 r hT,r.new hT,?_⟩;rw[Nat.zero_add];exact v8 r hT (Reps.cons rfl (Reps.cons rw' Reps.nil))
theorem jY{g g':Hld}{G:DH}:held (g++g') G->held g G/\held g' G:=by
 induction g with
 |nil=>exact λh=>⟨trivial,h⟩
 |cons p r ih=>
  intro h;obtain ⟨h1,h2⟩:=ih h.2;exact ⟨⟨h.1,h1⟩,h2⟩
theorem abD{u u':Value}{ds es:List D}{g g':Hld}{k l:SK}(s:Src K H F u ds g k)(s':Src K H F u' es g' l):WalkJ K H F (bT ds es) (g++g') (Jz k l) where
 go:=λH' F' G i x r hh hi=>by
  obtain ⟨vs,h1,h2⟩:=s.sat H' F' G x r (jY hh).1;obtain ⟨ws,h3,h4⟩:=s'.sat H' F' G x r (jY hh).2;rw[yf]at hi;exact ⟨vs,ws,h1,h3,by rw[<-h2.length];omega,by rw[<-h4.length];omega⟩
 stop:=λH' F' G x r hh=>by
  obtain ⟨vs,h1,h2⟩:=s.sat H' F' G x r (jY hh).1;obtain ⟨ws,h3,h4⟩:=s'.sat H' F' G x r (jY hh).2;exact ⟨vs,ws,h1,h3,by rw[yf,<-h2.length,<-h4.length];omega⟩
 yld:=λH' F' i v H'' d G x r hh hd y=>by
  obtain ⟨T,y,z,hT,e1,e2,hv,hz⟩:=y;subst e1 e2;obtain ⟨a,b,ha,hb,e3⟩:=GC _ _ _ _ hd;subst e3;obtain ⟨vs,h1,h2⟩:=s.sat H' F' G x r (jY hh).1;obtain ⟨ws,h3,h4⟩:=s'.sat H' F' G x r (jY hh).2;obtain ⟨w,e1,rw'⟩:=h2.get ha;obtain ⟨w2,e3,rw2⟩:=h4.get hb;have e2:=hv vs h1;have e4:=hz ws h3;rw[e1]at e2;cases e2;rw[e3]at e4;cases e4;exact ⟨d8 r hT,r.new hT,v8 r hT (Reps.cons rw' (Reps.cons rw2 Reps.nil))⟩
theorem GD(lo:Int)(n:Nat):WalkJ K H F (aR lo n) [] (Itr lo n) where
 go:=λH' F' G i x _ _ hi=>by show i < n;simpa [aR] using hi
 stop:=λH' F' G x _ _=>by show n<=(aR lo n).length;simp[aR]
 yld:=λH' F' i v H'' d G x r _ hd y=>by
  obtain ⟨e1,e2⟩:=y;subst e1 e2;refine ⟨Ext.refl _ _,r,?_⟩;unfold aR at hd;rw[a8]at hd;obtain ⟨j,hj,e3⟩:=aE.mp hd;have:j=i:=by have:=am.mp hj;obtain ⟨h1,h2⟩:=this;simpa using h2.symm
  subst this;subst e3;rfl
end
def tI(K:PF)(B:Bs)(w:aj->DH->(List D->Hld->DH->Prop)->Prop):TI:=λσ H Rr=>∃ρ F G,Ext B.H B.F H F/\EnvR K H F ρ σ/\R K H F G/\
 w ρ G (λitems g G'=>∀H' F' J,Ext H F H' F'->R K H' F' G'->WalkJ K H' F' items g J->Rr J H')
section
variable {Φ:aa} {CX:CXT} {k:Nat} {c:CT} {E:EK} {B:Bs} {X:Cx}
theorem uD{pins:List (Addr×Obj)}{σ:L2.St}{H:Hp}{s:Shared}(I:Inv X pins σ H s){kk:SK}{vs:List V}(h:kk.Sat H vs):∃its:Array Value,kk.On its s.heap:=by
 cases kk with
 |lst a=>obtain ⟨its,_,pl,_⟩:=I.list (SqL.of (show H a=some _ from h));exact ⟨its.toArray,pl.isList⟩
 |tup a=>obtain ⟨its,_,pl,_⟩:=I.tuple (SqT.of (show H a=some _ from h));exact ⟨its.toArray,pl⟩
 |str x t=>exact ⟨#[],trivial⟩
theorem abE{x:Ex}(ih:OkE Φ c E B X x){tg e:Expr}(h:ak c x e=true):PI X tg e (tI X.K B (wpI Φ (.seq x) E)):=by
 intro pins s σ H Rr I q;obtain ⟨ρ,F,G,e0,he,r,hw⟩:=q;rw[q9]at hw;have q':tE X.K B (wpE Φ x E) σ H (λv H1=>∃F1 G1 d items,R X.K H1 F1 G1/\Rep X.K H1 F1 d v/\itemsOf G1 d=some items/\∀J,WalkJ X.K H1 F1 items.1 items.2 J->Rr J H1):=
  aO e0 he r hw λd G1 H1 F1 u q e1 x1 he1 r1 ru=>by
   split at q
   ·rename_i ds hd;exact ⟨F1,G1,d,ds,r1,ru,hd,λJ w=>q H1 F1 J x1 r1 w⟩
   ·exact q.elim
 refine thn (ih h pins s σ H _ I q') λu s1 ⟨v,H1,I1,rv,F1,G1,d,items,r1,rd,hd,q1⟩=>?_;obtain ⟨kk,src⟩:=uB rd rv hd;obtain ⟨vs,sat,_⟩:=src.sat H1 F1 G1 (Ext.refl _ _) r1 (uC hd);obtain ⟨its,on⟩:=uD I1 sat;rw[<-src.val];refine SK.iter on ?_;refine ⟨s1.heap.objs.size,[s1.heap.objs.size],_,_,H1,rfl,I1.kept (t':=s1.toks) λb o e=>ah _ e,aak kk _,SK.pos0,λb hb=>?_,q1 _ (abB src)⟩;have e:b=s1.heap.objs.size:=by simpa using hb
 subst e;exact I1.fpOk (aw _) (I1.hok.fresh (aw _))
theorem abF(S:Stat Φ CX k c E B X){a:Ex}(ih:OkE Φ c E B X a){tg e:Expr}(h:aU c (.rng a) tg e=true):PI X tg e (tI X.K B (wpI Φ (.rng a) E)):=by
 replace h:=Gd h;obtain ⟨_,_,_,_,rfl,h⟩:=h
 ·simp only[ae,av]at h;obtain ⟨⟨⟨e1,h1⟩,hm⟩,h2⟩:=h;subst e1;obtain ⟨g1,g2⟩:=bZ h1;have hmg:=S.blt _ (a7.mp hm);have hs:=bK _ [] X.env (bY (bD a h2));intro pins s σ H Rr I q;refine Vm (S.glo _ g1) hmg (dZ (ih h2) gG hs) hs pins s σ H Rr I ?_;obtain ⟨ρ,F,G,e0,he,r,hw⟩:=q;rw[rm]at hw;refine aO e0 he r hw λd G1 H1 F1 u q e1 x1 he1 r1 ru=>?_;split at q
  ·rename_i n;have e2:u=.int n:=ru;subst e2;exact ⟨n,rfl,q.1.1,q.1.2,q.2 H1 F1 _ x1 r1 (GD 0 n.toNat)⟩
  ·exact q.elim
theorem abG{K:PF}{H:Hp}{F:FZ}(lo:Int)(n:Nat):WalkJ K H F (dq lo n) [] (Itd lo n) where
 go:=λH' F' G i x _ _ hi=>by show i < n;simpa [dq] using hi
 stop:=λH' F' G x _ _=>by show n<=(dq lo n).length;simp[dq]
 yld:=λH' F' i v H'' d G x r _ hd y=>by
  obtain ⟨e1,e2⟩:=y;subst e1 e2;refine ⟨Ext.refl _ _,r,?_⟩;unfold dq at hd;rw[a8]at hd;obtain ⟨j,hj,e3⟩:=aE.mp hd;have:j=i:=by have:=am.mp hj;obtain ⟨h1,h2⟩:=this;simpa using h2.symm
  subst this;subst e3;rfl
theorem abH(S:Stat Φ CX k c E B X){a:Ex}(ih:OkE Φ c E B X a){tg e:Expr}(h:aU c (.rev a) tg e=true):PI X tg e (tI X.K B (wpI Φ (.rev a) E)):=by
 replace h:=Ge h;obtain ⟨_,_,_,_,_,_,_,rfl,h⟩:=h;simp only[ae,av]at h;obtain ⟨⟨⟨⟨⟨⟨e1,h1⟩,hm⟩,e2⟩,h2⟩,hm2⟩,h3⟩:=h;subst e1 e2;obtain ⟨g1,_⟩:=bZ h1;obtain ⟨g2,_⟩:=bZ h2;have hmg:=S.blt _ (a7.mp hm);have hmg2:=S.blt _ (a7.mp hm2);have hs:=bK _ [] X.env (bY (bD a h3));intro pins s σ H Rr I q;refine XJ (S.glo _ g1) hmg (S.glo _ g2) hmg2 (dZ (ih h3) gG hs) hs pins s σ H Rr I ?_;obtain ⟨ρ,F,G,e0,he,r,hw⟩:=q;rw[rz]at hw;refine aO e0 he r hw λd G1 H1 F1 u q e1 x1 he1 r1 ru=>?_;split at q
 ·rename_i n;have e2:u=.int n:=ru;subst e2;exact ⟨n,rfl,q.1.1,q.1.2,q.2 H1 F1 _ x1 r1 (abG _ n.toNat)⟩
 ·exact q.elim
theorem abI(S:Stat Φ CX k c E B X){a b d:Ex}(iha:OkE Φ c E B X a)(ihb:OkE Φ c E B X b)(ihd:OkE Φ c E B X d){tg e:Expr}(h:aU c (.dwn a b d) tg e=true):PI X tg e (tI X.K B (wpI Φ (.dwn a b d) E)):=nomatch (show false=true from h)
theorem abJ(S:Stat Φ CX k c E B X){a b:Ex}(iha:OkE Φ c E B X a)(ihb:OkE Φ c E B X b){tg e:Expr}(h:aU c (.rng2 a b) tg e=true):PI X tg e (tI X.K B (wpI Φ (.rng2 a b) E)):=by
 replace h:=Gf h;obtain ⟨_,_,v,v',pos,rfl,h⟩:=h
 ·simp only[ae,av]at h;obtain ⟨⟨⟨⟨e1,h1⟩,hm⟩,h2⟩,h3⟩:=h;subst e1;obtain ⟨g1,g2⟩:=bZ h1;have hmg:=S.blt _ (a7.mp hm);have hs2:=bK v' [] X.env (bY (bD b h3));have hs:=bK v [v'] X.env (bY (bD a h2));intro pins s σ H Rr I q;refine Vn (S.glo _ g1) hmg (dZ (iha h2) (dZ (ihb h3) gG hs2) hs) (by rw[hs,hs2];rfl) hs2 pins s σ H Rr I ?_;obtain ⟨ρ,F,G,e0,he,r,hw⟩:=q;rw[rn]at hw;refine aO e0 he r hw λd G1 H1 F1 u q e1 x1 he1 r1 ru=>aO e1 he1 r1 q λd' G2 H2 F2 u' q e2 x2 he2 r2 ru'=>?_;cases d with
  |int m=>
   cases d' with
   |int n=>
    have e3:u=.int m:=ru;have e4:u'=.int n:=ru';subst e3 e4;exact ⟨m,n,rfl,q.1,q.2 H2 F2 _ (x1.trans x2) r2 (GD m (n - m).toNat)⟩
   |_=>exact (show False from q).elim
  |_=>exact (show False from q).elim
theorem abK(S:Stat Φ CX k c E B X){a:Ex}(ih:OkE Φ c E B X a){tg e:Expr}(h:aU c (.enm a) tg e=true):PI X tg e (tI X.K B (wpI Φ (.enm a) E)):=by
 replace h:=Gg h;obtain ⟨_,_,_,_,_,_,_,rfl,rfl,h⟩:=h
 ·skip
  ·simp only[ae,av]at h;obtain ⟨⟨⟨e1,h1⟩,hm⟩,h2⟩:=h;subst e1;obtain ⟨g1,g2⟩:=bZ h1;have hmg:=S.blt _ (a7.mp hm);have hs:=bK _ [] X.env (bY (bD a h2));intro pins s σ H Rr I q;obtain ⟨ρ,F,G,e0,he,r,hw⟩:=q;rw[rA]at hw;have q':tL X.K B (aM Φ (.cons a .nil) E) σ H (λvs H1=>∃v F1 G1 d items,vs=[v]/\R X.K H1 F1 G1/\Rep X.K H1 F1 d v/\itemsOf G1 d=some items/\∀J,WalkJ X.K H1 F1 (dO 0 items.1) items.2 J->Rr J H1):=by
    refine cB (W:=λds G1=>∃d items,ds=[d]/\itemsOf G1 d=some items/\∀H' F' J,Ext H F H' F'->R X.K H' F' G1->WalkJ X.K H' F' (dO 0 items.1) items.2 J->Rr J H') e0 he r ?_ λds G1 H1 F1 vs q e1 x1 he1 r1 rvs=>?_
    ·rw[gP];refine aC a (λd G1 q=>?_) hw;rw[iH];split at q
     ·rename_i items hd;exact ⟨d,items,rfl,hd,q⟩
     ·exact q.elim
    ·obtain ⟨d,items,e2,hd,q⟩:=q;subst e2;obtain ⟨v,e3,rv⟩:=bC rvs;exact ⟨v,F1,G1,d,items,e3,r1,rv,hd,λJ w=>q H1 F1 J x1 r1 w⟩
   refine Call_ (fU I (S.glo _ g1) hmg (u:=.type "enumerate") boot_enumerate (cw (thn (uw ih (λh=>xZ h) (c:=c) (es:=[_]) (by unfold aK;show (ak c a _&&true)=true;rw[h2];rfl) _ pins s σ H _ I q') λus s1 ⟨vs,H1,I1,r1v,q1⟩=>?_) hs rfl) (dz g2) (bF g2));obtain ⟨v,F1,G1,d,items,e1,r1,rd,hd,q1⟩:=q1;subst e1;obtain ⟨u,rfl,ru⟩:=vals1 r1v;obtain ⟨kk,src⟩:=uB rd ru hd;obtain ⟨vs,sat,_⟩:=src.sat H1 F1 G1 (Ext.refl _ _) r1 (uC hd);obtain ⟨its,on⟩:=uD I1 sat;rw[<-src.val];refine aat on λh' hen hit hsz hk=>?_;refine wpAny_pyIter_enum hen ?_;have n1:H1 s1.heap.objs.size=none:=I1.hok.fresh (aw _);have n2:H1 (s1.heap.objs.size+1)=none:=I1.hok.fresh (Nat.le_succ _);refine ⟨s1.heap.objs.size+1,[s1.heap.objs.size+1,s1.heap.objs.size],_,_,H1,rfl,I1.kept (t':=s1.toks) hk,aaj kk _ _ (Nat.succ_ne_self _),⟨⟨_,hen⟩,hit⟩,λb hb=>?_,q1 _ (abC src)⟩;have hb':b=s1.heap.objs.size+1\/b=s1.heap.objs.size:=by simpa using hb
   rcases hb' with rfl |rfl
   ·exact I1.fpOk (Nat.le_succ _) n2
   ·exact I1.fpOk (aw _) n1
theorem zap(n:Nat):ZApart (n+4) (n+2) (n+3) n (n+1):=
 ⟨(by omega:(n+2:Nat)≠n+4),(by omega:(n+3:Nat)≠n+4),(by omega:(n:Nat)≠n+4),(by omega:(n+1:Nat)≠n+4),(by omega:(n+2:Nat)≠n+3),(by omega:(n+2:Nat)≠n),(by omega:(n+2:Nat)≠n+1),(by omega:(n+3:Nat)≠n),(by omega:(n+3:Nat)≠n+1),(by omega:(n:Nat)≠n+1)⟩
theorem abL(S:Stat Φ CX k c E B X){a b:Ex}(iha:OkE Φ c E B X a)(ihb:OkE Φ c E B X b){tg e:Expr}(h:aU c (.zip a b) tg e=true):PI X tg e (tI X.K B (wpI Φ (.zip a b) E)):=by
 replace h:=Gi h;obtain ⟨_,_,_,_,_,v,v',pos,rfl,rfl,h⟩:=h
 ·skip
  ·simp only[ae,av]at h;obtain ⟨⟨⟨⟨e1,h1⟩,hm⟩,h2⟩,h3⟩:=h;subst e1;obtain ⟨g1,g2⟩:=bZ h1;have hmg:=S.blt _ (a7.mp hm);have hs2:=bK v' [] X.env (bY (bD b h3));have hs:=bK v [v'] X.env (bY (bD a h2));intro pins s σ H Rr I q;obtain ⟨ρ,F,G,e0,he,r,hw⟩:=q;rw[rB]at hw;have hA:aK c (.cons a (.cons b .nil)) [v,v']=true:=by
    unfold aK aK aK;show (ak c a v&&(ak c b v'&&true))=true;rw[h2,h3];rfl
   have q':tL X.K B (aM Φ (.cons a (.cons b .nil)) E) σ H (λvs H1=>∃v v' F1 G1 d d' items items',vs=[v,v']/\R X.K H1 F1 G1/\Rep X.K H1 F1 d v/\Rep X.K H1 F1 d' v'/\itemsOf G1 d=some items/\itemsOf G1 d'=some items'/\∀J,WalkJ X.K H1 F1 (bT items.1 items'.1) (items.2++items'.2) J->Rr J H1):=by
    refine cB (W:=λds G1=>∃d d' items items',ds=[d,d']/\itemsOf G1 d=some items/\itemsOf G1 d'=some items'/\∀H' F' J,Ext H F H' F'->R X.K H' F' G1->WalkJ X.K H' F' (bT items.1 items'.1) (items.2++items'.2) J->Rr J H') e0 he r ?_ λds G1 H1 F1 vs q e1 x1 he1 r1 rvs=>?_
    ·rw[gP];refine aC a (λd G1 q=>?_) hw;rw[gP];refine aC b (λd' G2 q=>?_) q;rw[iH];split at q
     ·rename_i items items' hd hd';exact ⟨d,d',items,items',rfl,hd,hd',q⟩
     ·exact q.elim
    ·obtain ⟨d,d',items,items',e2,hd,hd',q⟩:=q;subst e2;obtain ⟨w1,r2,e3,rw1,t2⟩:=rvs;obtain ⟨w2,e4,rw2⟩:=bC t2;subst e4;exact ⟨w1,w2,F1,G1,d,d',items,items',e3,r1,rw1,rw2,hd,hd',λJ w=>q H1 F1 J x1 r1 w⟩
   refine Call_ (fU I (S.glo _ g1) hmg (u:=.type "zip") Xo (cw (thn (uw iha (λh=>uw ihb (λh=>xZ h) h) (c:=c) (es:=[v,v']) hA _ pins s σ H _ I q') λus s1 ⟨vs,H1,I1,r1v,q1⟩=>?_) hs (by rw[hs2];rfl)) (dz g2) (bF g2));obtain ⟨w1,w2,F1,G1,d,d',items,items',e1,r1,rd,rd',hd,hd',q1⟩:=q1;subst e1;obtain ⟨u,u',rfl,ru,ru'⟩:=vals2 r1v;obtain ⟨kk,src⟩:=uB rd ru hd;obtain ⟨ll,src'⟩:=uB rd' ru' hd';obtain ⟨vs,sat,_⟩:=src.sat H1 F1 G1 (Ext.refl _ _) r1 (uC hd);obtain ⟨ws,sat',_⟩:=src'.sat H1 F1 G1 (Ext.refl _ _) r1 (uC hd');obtain ⟨its,on⟩:=uD I1 sat;obtain ⟨its',on'⟩:=uD I1 sat';rw[<-src.val,<-src'.val];refine aar on on' λh' hz hTI hTO p1 p2 hsz hk=>?_;refine wpAny_pyIter_zip hz ?_;have fr:∀j,H1 (s1.heap.objs.size+j)=none:=λj=>I1.hok.fresh (d5 _ _);refine ⟨s1.heap.objs.size+4,[s1.heap.objs.size+4,s1.heap.objs.size+2,s1.heap.objs.size+3,s1.heap.objs.size,s1.heap.objs.size+1],_,_,H1,rfl,I1.kept (t':=s1.toks) hk,
    aao kk ll (s1.heap.objs.size+4) (s1.heap.objs.size+2) (s1.heap.objs.size+3) s1.heap.objs.size (s1.heap.objs.size+1) (zap s1.heap.objs.size),⟨hz,hTI,⟨_,_,hTO⟩,p1,p2⟩,λb hb=>?_,q1 _ (abD src src')⟩
   have hb':b=s1.heap.objs.size+4\/b=s1.heap.objs.size+2\/b=s1.heap.objs.size+3\/b=s1.heap.objs.size\/b=s1.heap.objs.size+1:=by simpa using hb
   rcases hb' with rfl |rfl |rfl |rfl |rfl
   ·exact I1.fpOk (d5 _ _) (fr 4)
   ·exact I1.fpOk (d5 _ _) (fr 2)
   ·exact I1.fpOk (d5 _ _) (fr 3)
   ·exact I1.fpOk (aw _) (fr 0)
   ·exact I1.fpOk (d5 _ _) (fr 1)
end
section
variable {Φ:aa} {CX:CXT} {k:Nat} {c:CT} {E:EK} {B:Bs} {X:Cx}
theorem yg:∀{l:List Str},cV l=true->l.Nodup
 |[],_=>List.nodup_nil
 |x::r,h=>by
  unfold cV at h;rw[ae]at h;refine List.nodup_cons.mpr ⟨λhm=>?_,yg h.2⟩;have:=h.1;rw[a7.mpr hm]at this;cases this
theorem jZ{N:List Str}{scope:Scope}:∀{N':List Str}{cap:List (Option Nat)},X.N=N->eH N scope N' cap=true->Caps X scope N' cap
 |[],[],_,_=>trivial
 |_::N',none::cap,e,h=>jZ (N':=N') (cap:=cap) e h
 |x::N',some j::cap,e,h=>by
  unfold eH at h;simp only[ae,av]at h;exact ⟨⟨by rw[e];exact h.1.1,h.1.2⟩,jZ (N':=N') (cap:=cap) e h.2⟩
 |[],_::_,_,h=>by cases h
 |_::_,[],_,h=>by cases h
theorem lZ{scope:Scope}{env:Env}(x:Str):(relabel scope env).names.lookup x=(scope.names.lookup x).map λkk=>if (kk==NameKind.free&&env.scope.kind==.function&&env.kindOf x==some .cell)=true then NameKind.cell else kk:=vL
theorem Stat.comp(S:Stat Φ CX k c E B X){N':List Str}{scope:Scope}(hn:cV N'=true)(cl:List (Str×Addr))(C:Addr)(s₁:Shared)(H₁:Hp)(fp:List Addr)(pn:List (Addr×Obj)):
  Stat Φ CX k (c.comp N' scope) noE B (X.comp N' scope cl C s₁ H₁ fp pn) where
 N:=rfl
 nd:=yg hn
 calm:=S.calm
 own:=PassesOwn.never
 kd:=rfl
 vis:=λx h=>by
  have h:iR (scope.names.lookup x)=true:=h;show (relabel scope X.env).names.lookup x=_\/(relabel scope X.env).names.lookup x=_\/(relabel scope X.env).names.lookup x=_;rw[lZ];cases e:scope.names.lookup x with
  |none=>rw[e]at h;cases h
  |some kk=>
   rw[e]at h;cases kk with
   | «local»=>exact .inl (by simp[show (NameKind.«local»==NameKind.free)=false by decide])
   |cell=>exact .inr (.inl (by simp[show (NameKind.cell==NameKind.free)=false by decide]))
   |free=>
    by_cases q:(NameKind.free==NameKind.free&&X.env.scope.kind==ScopeKind.function&&X.env.kindOf x==some NameKind.cell)=true
    ·exact .inr (.inl (by simp only[Option.map_some,if_pos q]))
    ·exact .inr (.inr (by simp only[Option.map_some,if_neg q]))
   |globalExplicit=>cases h
   |globalImplicit=>cases h
 cel:=λx h=>by
  have h:scope.names.lookup x=some .cell\/scope.names.lookup x=some .free:=h;show (relabel scope X.env).names.lookup x=_\/(relabel scope X.env).names.lookup x=_;rw[lZ];rcases h with h |h
  ·exact .inl (by rw[h];simp[show (NameKind.cell==NameKind.free)=false by decide])
  ·rw[h];by_cases q:(NameKind.free==NameKind.free&&X.env.scope.kind==ScopeKind.function&&X.env.kindOf x==some NameKind.cell)=true
   ·exact .inl (by simp only[Option.map_some,if_pos q])
   ·exact .inr (by simp only[Option.map_some,if_neg q])
 glo:=λx h=>by
  have h:scope.names.lookup x=some .globalImplicit:=h;show (relabel scope X.env).names.lookup x=_;rw[lZ,h];simp[show (NameKind.globalImplicit==NameKind.free)=false by decide]
 sto:=λx h=>by
  have h:(scope.names.lookup x==some .local||(false&&scope.names.lookup x==some .cell))=true:=h;rw[e7,Bool.or_false,av]at h;have e:(relabel scope X.env).names.lookup x=some .local:=by rw[lZ,h];simp[show (NameKind.«local»==NameKind.free)=false by decide]
  exact ⟨.inl e,.inr e⟩
 room:=S.room
 call:=S.call
 blt:=S.blt
 con:=S.con
 exc:=⟨_,S.nox _,λ_ _ _ _ _ _ _ _ _ _ q=>q.elim,λx G' H' F' h=>h.elim⟩
 nox:=S.nox
 xcl:=λC h=>nomatch (show false=true from h)
 loc:=λx h=>by show (relabel scope X.env).names.lookup x=_;rw[lZ,show scope.names.lookup x=some .local from h];simp[show (NameKind.«local»==NameKind.free)=false by decide]
 xis:=λC h=>nomatch (show false=true from h)
 mth:=S.mth
 mko:=S.mko
 fld:=S.fld
 trc:=λh=>absurd rfl h
theorem abM(S:Stat Φ CX k c E B X){t:Tx}(ih:OkT Φ c E B X t){ifs:List Expr}(h:lV c t ifs=true):PIf X ifs (tB' X.K B (wpT Φ t E)):=by
 unfold lV at h;rw[cp]at h;rcases h with h |h
 ·rw[ae,e6]at h;obtain ⟨hy,rfl⟩:=h;cases t with
  |yes=>
   intro pins s σ H Q I q;refine Xa pins s σ H Q I ?_;obtain ⟨ρ,F,G,e0,he,r,hw⟩:=q;rw[qW]at hw;exact hw.now r
  |_=>cases hy
 ·obtain ⟨e,he,h⟩:=aN h;rw[bW he];exact Xb (ih h)
theorem GF(S:Stat Φ CX k c E B X){fz:Bool}{elt:Ex}{tg:Tg}{it:It'}{cond:Tx}{N':List Str}{cap:List (Option Nat)}{scope:Scope}{elt' tg':Expr}{ifs:List Expr}(hn:cV N'=true)
  (ihe:∀{X':Cx},Stat Φ CX k (c.comp N' scope) noE B X'->OkE Φ (c.comp N' scope) noE B X' elt) (iht:∀{X':Cx},Stat Φ CX k (c.comp N' scope) noE B X'->OkT Φ (c.comp N' scope) noE B X' cond)
  (hg:bu (c.comp N' scope) tg tg'=true) (hi:lV (c.comp N' scope) cond ifs=true) (he:ak (c.comp N' scope) elt elt'=true)
  {σ:L2.St} {H:Hp} {Q:VK} {ρ:aj} {F:FZ} {G:DH} (e0:Ext B.H B.F H F) (henv:EnvR X.K H F ρ σ) (r:R X.K H F G)
  (hw:wpI Φ it E ρ G λitems g G1=>
   compLoop (λd ρ' G' k'=>aP tg d ρ' G' λρ1=>wpT Φ cond noE ρ1 G' λb G2=>match b with |true=>wpE Φ elt noE ρ1 G2 λy G3=>k' (some y) ρ1 G3 |false=>k' none ρ1 G2)
    g items [] (cap.map λo=>match o with |none=>none |some j=>(ρ[j]?).join) G1 λds G2=>mk fz ds G2 (PV X.K H F Q)):
  tI X.K B (wpI Φ it E) σ H (λJ H1=>vX true X N' scope tg' (emT ifs elt') J (dM cap σ) H1 Q):=by
 refine ⟨ρ,F,G,e0,henv,r,fu it (λitems g G1 q H1 F1 J x1 r1 W=>?_) hw⟩;let step:D->aj->DH->(Option D->aj->DH->Prop)->Prop:=λd ρ' G' k'=>aP tg d ρ' G' λρ1=>wpT Φ cond noE ρ1 G' λb G2=>match b with |true=>wpE Φ elt noE ρ1 G2 λy G3=>k' (some y) ρ1 G3 |false=>k' none ρ1 G2
 let fin:List D->DH->Prop:=λds G2=>mk fz ds G2 (PV X.K H F Q)
 refine ⟨λi m ys σ' H'=>m=items.length - i/\i<=items.length/\∃ρ' F' G' acc,Ext B.H B.F H' F'/\Ext H1 F1 H' F'/\EnvR X.K H' F' ρ' σ'/\R X.K H' F' G'/\Reps X.K H' F' acc ys/\compLoop step g (items.drop i) acc ρ' G' fin,
  ⟨items.length,by simp,d3 _,_,F1,G1,[],e0.trans x1,Ext.refl _ _,(henv.ext x1).cap cap,r1,rfl,q⟩,?_⟩
 rintro i m ys σ' H' ⟨rfl,hle,ρ',F',G',acc,eB,e1,he',r',ra,hl⟩;by_cases hlt:i < items.length
 ·have hd:items.drop i=items[i]::items.drop (i+1):=bP hlt;rw[hd]at hl;obtain ⟨hh,hz,hl⟩:=hl;refine .inr ⟨W.go H' F' G' i e1 r' hh hlt,λ_=>by rw[<-ra.length];exact bb hz szl,λcl C s₁ H₁ fp pn=>?_⟩;have S':=S.comp (scope:=scope) hn cl C s₁ H₁ fp pn;refine ⟨_,tmT _ _,iW S' tg hg,λa ha=>Y5 rfl ha (abM S' (iht S') hi) (ihe S' he),λx H2 hy=>?_⟩;obtain ⟨xy,ry,rx⟩:=W.yld H' F' i x H2 items[i] G' e1 r' hh (by simp[hlt]) hy;refine ⟨ρ',F',G',items[i],eB.trans xy,he'.ext xy,ry,rx,du (λρ1 z σ1 hσ1=>?_) tg hl⟩;unfold tmT;refine gY (eB.trans xy) hσ1 ry z λb G2 H3 F3 z e3 x3 he3 r3=>?_;cases b with
  |true=>
   rw[if_pos rfl];refine aO e3 he3 r3 z λy G4 H4 F4 v z e4 x4 he4 r4 rv=>?_;exact ⟨items.length - (i+1),by omega,rfl,hlt,ρ1,F4,G4,acc++[y],e4,e1.trans (xy.trans (x3.trans x4)),he4,r4,(Reps.ext (xy.trans (x3.trans x4)) ra).append (Reps.cons rv Reps.nil),z⟩
  |false=>
   rw[if_neg bi];exact ⟨items.length - (i+1),by omega,rfl,hlt,ρ1,F3,G2,acc,e3,e1.trans (xy.trans x3),he3,r3,Reps.ext (xy.trans x3) ra,z⟩
 ·have hi':i=items.length:=by omega
  subst hi';rw[ez]at hl;obtain ⟨hh,hz,hl⟩:=hl;refine .inl ⟨W.stop H' F' G' e1 r' hh,by rw[<-ra.length];exact cM hz,λp hp=>?_⟩;exact fB (cT (λd G' z=>PV.later z (x1.trans e1)) hl) r' ra p hp
structure CompC(c:CT)(elt:Ex)(tg:Tg)(it:It')(cond:Tx)(N':List Str)(cap:List (Option Nat))(elt' tg' iter:Expr)(ifs:List Expr)(scope:Scope):Prop where
 it:aU c it tg' iter=true
 cap:eH c.N scope N' cap=true
 sc:gb c scope=true
 nd:cV N'=true
 tg:bu (c.comp N' scope) tg tg'=true
 cd:lV (c.comp N' scope) cond ifs=true
 el:ak (c.comp N' scope) elt elt'=true
theorem uE(S:Stat Φ CX k c E B X){scope:Scope}(h:gb c scope=true):scope.names.all (λy=>y.2 != NameKind.cell)=true/\scope.names.all (λy=>y.2 != NameKind.local||scope.names.lookup y.1==some NameKind.local)=true/\
  scope.names.all (λy=>y.2 != NameKind.free||(X.env.kindOf y.1==some NameKind.cell||X.env.kindOf y.1==some NameKind.free))=true/\scope.kind=.function:=by
 unfold gb at h;simp only[ae,bp]at h;obtain ⟨⟨⟨⟨h1,h2⟩,h3⟩,h4⟩,_⟩:=h;refine ⟨h1,h2,?_,h4⟩;rw[bv]at h3 ⊢;intro y hy;have:=h3 y hy;rw[cp,cp,av,av]at this;rw[cp,cp,av,av];rcases this with q |q
 ·exact .inl q
 ·exact .inr (S.cel y.1 q)
theorem GJ{fz:Bool}{elt:Ex}{tg:Tg}{it:It'}{cond:Tx}{N:List String}{cap:List (Option Nat)}{e:Expr}(h:ak c (.comp fz elt tg it cond N cap) e=true):
  ∃elt' tg' iter ifs scope pos,e=.ListComp elt' [⟨tg',iter,ifs,0⟩] scope pos/\CompC c elt tg it cond (N.map Str.ofString) cap elt' tg' iter ifs scope:=by
 replace h:=Gb h;obtain ⟨_,_,_,_,_,_,_,rfl,h⟩:=h;simp only[ae,bp]at h;obtain ⟨⟨⟨⟨⟨⟨⟨h1,h2⟩,h3⟩,h4⟩,h5⟩,h6⟩,h7⟩,h8⟩:=h;subst h1;exact ⟨_,_,_,_,_,_,rfl,h2,h3,h4,h5,h6,h7,h8⟩
theorem gh{it:It'}{tg' iter:Expr}(h:aU c it tg' iter=true)(env:Env)(x:Value):foldedSetIterable iter env x=pure x:=by
 cases it with
 |seq y=>exact aaU (bD y (show ak c y iter=true from h)) env x
 |rng a=>obtain ⟨_,_,_,_,rfl,_⟩:=Gd h;rfl
 |rng2 a b=>obtain ⟨_,_,_,_,_,rfl,_⟩:=Gf h;rfl
 |rev a=>obtain ⟨_,_,_,_,_,_,_,rfl,_⟩:=Ge h;rfl
 |dwn _ _ _=>exact nomatch (show false=true from h)
 |enm a=>obtain ⟨_,_,_,_,_,_,_,_,rfl,_⟩:=Gg h;rfl
 |zip a b=>obtain ⟨_,_,_,_,_,_,_,_,_,rfl,_⟩:=Gi h;rfl
theorem abN(S:Stat Φ CX k c E B X){fz:Bool}{elt:Ex}{tg:Tg}{it:It'}{cond:Tx}{N:List String}{cap:List (Option Nat)}
  (ihe:∀{c':CT}{X':Cx},Stat Φ CX k c' noE B X'->OkE Φ c' noE B X' elt) (iht:∀{c':CT}{X':Cx},Stat Φ CX k c' noE B X'->OkT Φ c' noE B X' cond)
  (ihi:∀{tg' iter:Expr},aU c it tg' iter=true->PI X tg' iter (tI X.K B (wpI Φ it E))) {e:Expr} (h:ak c (.comp fz elt tg it cond N cap) e=true):
  PE X e (tE X.K B (wpE Φ (.comp fz elt tg it cond N cap) E)):=by
 obtain ⟨elt',tg',iter,ifs,scope,pos,rfl,C⟩:=GJ h;obtain ⟨s1,s2,s3,s4⟩:=uE S C.sc;refine peI (De (lim:=true) (N.map Str.ofString) cap S.calm (ihi C.it) (jZ S.N C.cap) s1 s2 s3 s4 (gh C.it X.env) (CW _ _ _ _ _ _)) λσ H Q hq=>el hq λρ F G e0 he r hw=>?_;rw[wZ]at hw;exact GF S C.nd (λS'=>ihe S') (λS'=>iht S') C.tg C.cd C.el e0 he r hw
def RelM(K:PF)(B:Bs)(eD:List D->aj->DH->(List D->aj->DH->Prop)->Prop)(tm:TM):Prop:=
 ∀(σ:L2.St)(H:Hp)(ρ:aj)(F:FZ)(G:DH)(acc:List D)(ys:List V)(W:List D->aj->DH->Prop)(Q:List V->L2.St->Hp->Prop),Ext B.H B.F H F->EnvR K H F ρ σ->R K H F G->Reps K H F acc ys->eD acc ρ G W->
  (∀acc' ρ' G' H' F' σ' ys',W acc' ρ' G'->Ext H F H' F'->EnvR K H' F' ρ' σ'->R K H' F' G'->Reps K H' F' acc' ys'->Q ys' σ' H')->tm ys σ H Q
theorem abO{K:PF}{elt:Ex}:RelM K B (λacc ρ G k=>acc.length < sz/\wpE Φ elt noE ρ G λy G'=>k (acc++[y]) ρ G') (tmE (tE K B (wpE Φ elt noE))):=by intro σ H ρ F G acc ys W Q e0 he r ra hw hk;refine ⟨by rw[<-ra.length];exact bb hw.1 szl,aO e0 he r hw.2 λy G1 H1 F1 v q e1 x1 he1 r1 rv=>?_⟩;exact hk _ _ _ H1 F1 _ _ q x1 he1 r1 ((Reps.ext x1 ra).append (Reps.cons rv Reps.nil))
theorem GK{K:PF}{t:Tg}{eD:List D->aj->DH->(List D->aj->DH->Prop)->Prop}{tm:TM}(hr:RelM K B eD tm){items:List D}{g:Hld}{ρ:aj}{G:DH}{acc:List D}{ys:List V}{σ:L2.St}{H:Hp}{F:FZ}{J:It}{W:List D->aj->DH->Prop}{Q:List V->L2.St->Hp->Prop}
  (e0:Ext B.H B.F H F) (he:EnvR K H F ρ σ) (r:R K H F G) (ra:Reps K H F acc ys) (Wk:WalkJ K H F items g J) (hw:dm (λd acc ρ' G' k=>aP t d ρ' G' λρ1=>eD acc ρ1 G' k) g items acc ρ G W)
  (hk:∀acc' ρ' G' H' F' σ' ys',W acc' ρ' G'->Ext H F H' F'->EnvR K H' F' ρ' σ'->R K H' F' G'->Reps K H' F' acc' ys'->Q ys' σ' H'):CZ J (tG K B t) tm ys σ H Q:=by
 refine ⟨λi m ys σ' H'=>m=items.length - i/\i<=items.length/\∃ρ' F' G' acc,Ext B.H B.F H' F'/\Ext H F H' F'/\EnvR K H' F' ρ' σ'/\R K H' F' G'/\Reps K H' F' acc ys/\dm (λd acc ρ' G' k=>aP t d ρ' G' λρ1=>eD acc ρ1 G' k) g (items.drop i) acc ρ' G' W,
  ⟨items.length,by simp,d3 _,ρ,F,G,acc,e0,Ext.refl _ _,he,r,ra,hw⟩,?_⟩
 rintro i m ys σ' H' ⟨rfl,hle,ρ',F',G',acc,eB,e1,he',r',ra,hl⟩;by_cases hlt:i < items.length
 ·have hd:items.drop i=items[i]::items.drop (i+1):=bP hlt;rw[hd]at hl;obtain ⟨hh,hl⟩:=hl;refine .inr ⟨Wk.go H' F' G' i e1 r' hh hlt,λx H2 hy=>?_⟩;obtain ⟨xy,ry,rx⟩:=Wk.yld H' F' i x H2 items[i] G' e1 r' hh (by simp[hlt]) hy;refine ⟨ρ',F',G',items[i],eB.trans xy,he'.ext xy,ry,rx,du (λρ1 z σ1 hσ1=>?_) t hl⟩;refine hr _ _ _ _ _ _ _ _ _ (eB.trans xy) hσ1 ry (Reps.ext xy ra) z λacc' ρ2 G2 H3 F3 σ3 ys3 q x3 he3 r3 ra3=>?_;exact ⟨items.length - (i+1),by omega,rfl,hlt,ρ2,F3,G2,acc',(eB.trans xy).trans x3,e1.trans (xy.trans x3),he3,r3,ra3,q⟩
 ·have hi':i=items.length:=by omega
  subst hi';rw[ez]at hl;exact .inl ⟨Wk.stop H' F' G' e1 r' hl.1,hk _ _ _ _ _ _ _ hl.2 e1 he' r' ra⟩
theorem GP{K:PF}{t:Tg}{it:It'}{eD:List D->aj->DH->(List D->aj->DH->Prop)->Prop}{tm:TM}(hr:RelM K B eD tm):
  RelM K B (λacc ρ G k=>wpI Φ it noE ρ G λitems g G1=>dm (λd acc ρ' G' k=>aP t d ρ' G' λρ1=>eD acc ρ1 G' k) g items acc ρ G1 k) (tmG (tI K B (wpI Φ it noE)) (tG K B t) tm):=by
 intro σ H ρ F G acc ys W Q e0 he r ra hw hk;refine ⟨ρ,F,G,e0,he,r,fu it (λitems g G1 q H1 F1 J x1 r1 Wk=>?_) hw⟩;exact GK hr (e0.trans x1) (he.ext x1) r1 (Reps.ext x1 ra) Wk q λacc' ρ' G' H' F' σ' ys' z x2 he2 r2 ra2=>hk _ _ _ _ _ _ _ z (x1.trans x2) he2 r2 ra2
theorem GQ(S:Stat Φ CX k c E B X){elt:Ex}{t1 t2 t3:Tg}{i1 i2 i3:It'}{N':List Str}{cap:List (Option Nat)}{scope:Scope}{elt' a1 b1 a2 b2 a3 b3:Expr}{pos:Pos}(hn:cV N'=true)
  (ihe:∀{X':Cx},Stat Φ CX k (c.comp N' scope) noE B X'->OkE Φ (c.comp N' scope) noE B X' elt)
  (ih2:∀{X':Cx},Stat Φ CX k (c.comp N' scope) noE B X'->PI X' a2 b2 (tI X'.K B (wpI Φ i2 noE))) (ih3:∀{X':Cx},Stat Φ CX k (c.comp N' scope) noE B X'->PI X' a3 b3 (tI X'.K B (wpI Φ i3 noE)))
  (f2:∀env x,foldedSetIterable b2 env x=pure x) (f3:∀env x,foldedSetIterable b3 env x=pure x)
  (hg1:bu (c.comp N' scope) t1 a1=true) (hg2:bu (c.comp N' scope) t2 a2=true) (hg3:bu (c.comp N' scope) t3 a3=true) (he:ak (c.comp N' scope) elt elt'=true)
  {σ:L2.St} {H:Hp} {Q:VK} {ρ:aj} {F:FZ} {G:DH} (e0:Ext B.H B.F H F) (henv:EnvR X.K H F ρ σ) (r:R X.K H F G)
  (hw:wpE Φ (.cm3 elt t1 i1 t2 i2 t3 i3 N0 cap) E ρ G (PV X.K H F Q)):
  tI X.K B (wpI Φ i1 E) σ H (λJ H1=>vX false X N' scope a1 (emG (.ListComp elt' [⟨a1,b1,[],0⟩,⟨a2,b2,[],0⟩,⟨a3,b3,[],0⟩] scope pos) 1 b2) J (dM cap σ) H1 Q):=by
 rw[w5]at hw;refine ⟨ρ,F,G,e0,henv,r,fu i1 (λitems g G1 q H1 F1 J x1 r1 W=>?_) hw⟩;have rel:=GP (Φ:=Φ) (K:=X.K) (B:=B) (t:=t2) (it:=i2) (GP (Φ:=Φ) (t:=t3) (it:=i3) (abO (Φ:=Φ) (elt:=elt)));obtain ⟨WW,⟨m0,w0⟩,turn⟩:=GK (t:=t1) (Q:=λys _ H'=>ys.length<=sizeLine/\∀D,H' D=none->Q (.ref D) (upd H' D (.lst ys))) rel (e0.trans x1) ((henv.ext x1).cap cap) r1 (Reps.nil) W q λacc' ρ' G' H' F' σ' ys' z x2 he2 r2 ra2=>
  ⟨by rw[<-ra2.length];exact cM z.1,λp hp=>fB (cT (λd G' z=>PV.later z (x1.trans x2)) z.2) r2 ra2 p hp⟩
 refine ⟨WW,⟨m0,w0⟩,λi m ys σ' H' w=>?_⟩;rcases turn i m ys σ' H' w with ⟨st,z1,z2⟩ |⟨go,step⟩
 ·exact .inl ⟨st,z1,z2⟩
 ·refine .inr ⟨go,(λz=>nomatch z),λcl C s₁ H₁ fp pn=>?_⟩;have S':=S.comp (scope:=scope) hn cl C s₁ H₁ fp pn;exact ⟨_,_,iW S' t1 hg1,λa ha=>Dc rfl S'.calm rfl (Y0 _ _ _ _ _ _ _ _ _) (ih2 S') (iW S' t2 hg2) (f2 _) (Dc rfl S'.calm rfl (YZ _ _ _ _ _ _ _ _ _) (ih3 S') (iW S' t3 hg3) (f3 _) (CQ rfl ha (ihe S' he))),step⟩
theorem abP(S:Stat Φ CX k c E B X){elt:Ex}{t1 t2 t3:Tg}{i1 i2 i3:It'}{N:List String}{cap:List (Option Nat)}
  (ihe:∀{c':CT}{X':Cx},Stat Φ CX k c' noE B X'->OkE Φ c' noE B X' elt) (ih1:∀{tg' iter:Expr},aU c i1 tg' iter=true->PI X tg' iter (tI X.K B (wpI Φ i1 E)))
  (ih2:∀{c':CT}{X':Cx},Stat Φ CX k c' noE B X'->∀{tg' iter:Expr},aU c' i2 tg' iter=true->PI X' tg' iter (tI X'.K B (wpI Φ i2 noE)))
  (ih3:∀{c':CT}{X':Cx},Stat Φ CX k c' noE B X'->∀{tg' iter:Expr},aU c' i3 tg' iter=true->PI X' tg' iter (tI X'.K B (wpI Φ i3 noE))) {e:Expr} (h:ak c (.cm3 elt t1 i1 t2 i2 t3 i3 N cap) e=true):
  PE X e (tE X.K B (wpE Φ (.cm3 elt t1 i1 t2 i2 t3 i3 N cap) E)):=by
 obtain ⟨elt',a1,b1,a2,b2,a3,b3,scope,pos,rfl,c1,c2,c3,c4,c5,c6,c7,c8,c9,c10⟩:=xY h;obtain ⟨s1,s2,s3,s4⟩:=uE S c3;refine peI (De (lim:=false) (N.map Str.ofString) cap S.calm (ih1 c1) (jZ S.N c2) s1 s2 s3 s4 (gh c1 X.env) (CN _ _ _ _ _ _ _ _ _)) λσ H Q hq=>el hq λρ F G e0 he r hw=>?_;exact GQ S c4 (λS'=>ihe S') (λS'=>ih2 S' c6) (λS'=>ih3 S' c8) (gh c6) (gh c8) c5 c7 c9 c10 e0 he r hw
theorem bh{x:Ex}(ih:OkE Φ c E B X x)(hn:∀l os rs pos,ak c x (.Compare l os rs pos)=true->False){e:Expr}(h:bf c (.val x) e=true):PT X e (tB' X.K B (wpT Φ (.val x) E)):=by
 have h:((iT e||lU e)&&ak c x e&&EY x)=true:=h;simp only[ae,cp]at h;obtain ⟨⟨h1,h2⟩,h3⟩:=h;rcases h1 with h1 |h1
 ·exact abu ih h1 h2
 ·obtain ⟨⟨t,ht⟩,_⟩:=ck.mp h1;rw[ht]at h2;exact (hn _ _ _ _ h2).elim
end
mutual
theorem aA{Φ:aa}{CX:CXT}{k:Nat}{B:Bs}:∀(x:Ex){c:CT}{E:EK}{X:Cx},Stat Φ CX k c E B X->OkE Φ c E B X x
 |.var i,c,E,X,S=>by intro h;exact aaX S h
 |.cst d,c,E,X,S=>by intro h;exact aaY S h
 |.glb x d,c,E,X,S=>by intro h;exact aaZ S h
 |.bin op fz a b,c,E,X,S=>by intro h;exact aa0 S (aA a S) (aA b S) h
 |.neg a,c,E,X,S=>by intro h;exact aa1 S (aA a S) h
 |.cmp op a b,c,E,X,S=>by intro h;exact (Gs S (aA a S) (aA b S) h).1
 |.chn op op' a b d,c,E,X,S=>by intro h;exact (Gu S (aA a S) (aA b S) (aA d S) h).1
 |.not a,c,E,X,S=>by intro h;exact aa2 S (aA a S) h
 |.boo isAnd e es,c,E,X,S=>by intro h;exact abr (aA e S) (dB es S) h
 |.ife t a b,c,E,X,S=>by intro h;exact abt (gj t S) (aA a S) (aA b S) h
 |.tup es,c,E,X,S=>by intro h;exact aa3 S (EachE.oks (dB es S)) h
 |.lst fz es,c,E,X,S=>by intro h;exact aa4 S (EachE.oks (dB es S)) h
 |.idx a i,c,E,X,S=>by intro h;exact aa5 S (aA a S) (aA i S) h
 |.slc fz a lo hi,c,E,X,S=>by intro h;exact aa6 S (aA a S) (GX lo S) (GX hi S) h
 |.rvs fz a s,c,E,X,S=>by intro h;exact aa7 S (aA a S) (aA s S) h
 |.call f es,c,E,X,S=>by intro h;exact aa9 S (EachE.oks (dB es S)) h
 |.bcl f es,c,E,X,S=>by intro h;exact aba S (EachE.oks (dB es S)) h
 |.lcl fz f es,c,E,X,S=>by intro h;exact abb S (EachE.oks (dB es S)) h
 |.isi a t,c,E,X,S=>by intro h;exact abg S (aA a S) h
 |.isx a C xs,c,E,X,S=>by intro h;exact abi S (aA a S) h
 |.fst es,c,E,X,S=>by intro h;exact abq S (dB es S) h
 |.rgl fz a,c,E,X,S=>by intro h;exact abd S (aA a S) h
 |.rgt a,c,E,X,S=>by intro h;exact abe S (aA a S) h
 |.fld C f o,c,E,X,S=>by intro h;exact abl S (aA o S) h
 |.mcl f C m o es,c,E,X,S=>by intro h;exact abm S (aA o S) (EachE.oks (dB es S)) h
 |.mko C es,c,E,X,S=>by intro h;exact abn S (EachE.oks (dB es S)) h
 |.pp0 o,c,E,X,S=>by intro h;exact abo S (aA o S) h
 |.rpl f a b ix,c,E,X,S=>by intro h;exact abk S (aA a S) (aA b S) (aA ix S) h
 |.mth m o es,c,E,X,S=>by intro h;exact abp S (aA o S) (EachE.oks (dB es S)) h
 |.comp fz elt tg it cond N cap,c,E,X,S=>by intro h;exact abN S (λS'=>aA elt S') (λS'=>gj cond S') (gk it S) h
 |.cm3 elt t1 i1 t2 i2 t3 i3 N cap,c,E,X,S=>by intro h;exact abP S (λS'=>aA elt S') (gk i1 S) (λS'=>gk i2 S') (λS'=>gk i3 S') h
 |.frz a,c,E,X,S=>by intro h;exact aa8 S (aA a S) h
theorem dB{Φ:aa}{CX:CXT}{k:Nat}{B:Bs}:∀(x:Exs){c:CT}{E:EK}{X:Cx},Stat Φ CX k c E B X->EachE Φ c E B X x
 |.nil,_,_,_,_=>trivial
 |.cons e es,c,E,X,S=>⟨aA e S,dB es S⟩
theorem gj{Φ:aa}{CX:CXT}{k:Nat}{B:Bs}:∀(x:Tx){c:CT}{E:EK}{X:Cx},Stat Φ CX k c E B X->OkT Φ c E B X x
 |.not t,c,E,X,S=>by intro h;exact abv (gj t S) h
 |.boo isAnd t ts,c,E,X,S=>by intro h;exact abw (gj t S) (GR ts S) h
 |.yes,c,E,X,S=>by intro h;exact nomatch (show false=true from h)
 |.val (.cmp op a b),c,E,X,S=>by
  intro h;have h:((iT _||lU _)&&ak c (.cmp op a b) _&&true)=true:=h;simp only[ae]at h;exact (Gs S (aA a S) (aA b S) h.1.2).2
 |.val (.chn op op' a b d),c,E,X,S=>by
  intro h;have h:((iT _||lU _)&&ak c (.chn op op' a b d) _&&true)=true:=h;simp only[ae]at h;exact (Gu S (aA a S) (aA b S) (aA d S) h.1.2).2
 |.val (.frz a),c,E,X,S=>by
  intro h;have h:((iT _||lU _)&&ak c (.frz a) _&&false)=true:=h;rw[e8]at h;cases h
 |.val (.var i),c,E,X,S=>by intro h;exact bh (aA (.var i) S) (λ_ _ _ _ h=>nomatch (show false=true from h)) h
 |.val (.cst d),c,E,X,S=>by intro h;exact bh (aA (.cst d) S) (λ_ _ _ _ h=>nomatch (show false=true from h)) h
 |.val (.glb x d),c,E,X,S=>by intro h;exact bh (aA (.glb x d) S) (λ_ _ _ _ h=>nomatch (show false=true from h)) h
 |.val (.bin op fz a b),c,E,X,S=>by intro h;exact bh (aA (.bin op fz a b) S) (λ_ _ _ _ h=>nomatch (show false=true from h)) h
 |.val (.neg a),c,E,X,S=>by intro h;exact bh (aA (.neg a) S) (λ_ _ _ _ h=>nomatch (show false=true from h)) h
 |.val (.not a),c,E,X,S=>by intro h;exact bh (aA (.not a) S) (λ_ _ _ _ h=>nomatch (show false=true from h)) h
 |.val (.boo isAnd e es),c,E,X,S=>by intro h;exact bh (aA (.boo isAnd e es) S) (λ_ _ _ _ h=>nomatch (show false=true from h)) h
 |.val (.ife t a b),c,E,X,S=>by intro h;exact bh (aA (.ife t a b) S) (λ_ _ _ _ h=>nomatch (show false=true from h)) h
 |.val (.tup es),c,E,X,S=>by intro h;exact bh (aA (.tup es) S) (λ_ _ _ _ h=>nomatch (show false=true from h)) h
 |.val (.lst fz es),c,E,X,S=>by intro h;exact bh (aA (.lst fz es) S) (λ_ _ _ _ h=>nomatch (show false=true from h)) h
 |.val (.idx a i),c,E,X,S=>by intro h;exact bh (aA (.idx a i) S) (λ_ _ _ _ h=>nomatch (show false=true from h)) h
 |.val (.slc fz a lo hi),c,E,X,S=>by intro h;exact bh (aA (.slc fz a lo hi) S) (λ_ _ _ _ h=>nomatch (show false=true from h)) h
 |.val (.rvs fz a s),c,E,X,S=>by intro h;exact bh (aA (.rvs fz a s) S) (λ_ _ _ _ h=>nomatch (show false=true from h)) h
 |.val (.call f es),c,E,X,S=>by intro h;exact bh (aA (.call f es) S) (λ_ _ _ _ h=>nomatch (show false=true from h)) h
 |.val (.bcl f es),c,E,X,S=>by intro h;exact bh (aA (.bcl f es) S) (λ_ _ _ _ h=>nomatch (show false=true from h)) h
 |.val (.lcl fz f es),c,E,X,S=>by intro h;exact bh (aA (.lcl fz f es) S) (λ_ _ _ _ h=>nomatch (show false=true from h)) h
 |.val (.isx a C xs),c,E,X,S=>by intro h;exact bh (aA (.isx a C xs) S) (λ_ _ _ _ h=>nomatch (show false=true from h)) h
 |.val (.rgl fz a),c,E,X,S=>by intro h;exact bh (aA (.rgl fz a) S) (λ_ _ _ _ h=>nomatch (show false=true from h)) h
 |.val (.rpl f a b ix),c,E,X,S=>by intro h;exact bh (aA (.rpl f a b ix) S) (λ_ _ _ _ h=>nomatch (show false=true from h)) h
 |.val (.fld C f o),c,E,X,S=>by intro h;exact bh (aA (.fld C f o) S) (λ_ _ _ _ h=>nomatch (show false=true from h)) h
 |.val (.mcl f C m o es),c,E,X,S=>by intro h;exact bh (aA (.mcl f C m o es) S) (λ_ _ _ _ h=>nomatch (show false=true from h)) h
 |.val (.mko C es),c,E,X,S=>by intro h;exact bh (aA (.mko C es) S) (λ_ _ _ _ h=>nomatch (show false=true from h)) h
 |.val (.pp0 o),c,E,X,S=>by intro h;exact bh (aA (.pp0 o) S) (λ_ _ _ _ h=>nomatch (show false=true from h)) h
 |.val (.rgt a),c,E,X,S=>by intro h;exact bh (aA (.rgt a) S) (λ_ _ _ _ h=>nomatch (show false=true from h)) h
 |.val (.fst es),c,E,X,S=>by intro h;exact bh (aA (.fst es) S) (λ_ _ _ _ h=>nomatch (show false=true from h)) h
 |.val (.isi a t),c,E,X,S=>by intro h;exact bh (aA (.isi a t) S) (λ_ _ _ _ h=>nomatch (show false=true from h)) h
 |.val (.mth m o es),c,E,X,S=>by intro h;exact bh (aA (.mth m o es) S) (λ_ _ _ _ h=>nomatch (show false=true from h)) h
 |.val (.comp fz elt tg it cond N cap),c,E,X,S=>by intro h;exact bh (aA (.comp fz elt tg it cond N cap) S) (λ_ _ _ _ h=>nomatch (show false=true from h)) h
 |.val (.cm3 elt t1 i1 t2 i2 t3 i3 N cap),c,E,X,S=>by intro h;exact bh (aA (.cm3 elt t1 i1 t2 i2 t3 i3 N cap) S) (λ_ _ _ _ h=>nomatch (show false=true from h)) h
theorem GR{Φ:aa}{CX:CXT}{k:Nat}{B:Bs}:∀(x:Txs){c:CT}{E:EK}{X:Cx},Stat Φ CX k c E B X->uy Φ c E B X x
 |.nil,_,_,_,_=>trivial
 |.cons e es,c,E,X,S=>⟨gj e S,GR es S⟩
theorem GX{Φ:aa}{CX:CXT}{k:Nat}{B:Bs}:∀(x:Ox){c:CT}{E:EK}{X:Cx},Stat Φ CX k c E B X->∀y,x=.ob y->OkE Φ c E B X y
 |.no,c,E,X,S,y,e=>by cases e
 |.ob z,c,E,X,S,y,e=>by injection e with e;subst e;exact aA z S
theorem gk{Φ:aa}{CX:CXT}{k:Nat}{B:Bs}:∀(x:It'){c:CT}{E:EK}{X:Cx},Stat Φ CX k c E B X->∀{tg e:Expr},aU c x tg e=true->PI X tg e (tI X.K B (wpI Φ x E))
 |.seq y,c,E,X,S,tg,e,h=>abE (aA y S) (show ak c y e=true from h)
 |.rng a,c,E,X,S,tg,e,h=>abF S (aA a S) h
 |.rng2 a b,c,E,X,S,tg,e,h=>abJ S (aA a S) (aA b S) h
 |.rev a,c,E,X,S,tg,e,h=>abH S (aA a S) h
 |.dwn a b d,c,E,X,S,tg,e,h=>abI S (aA a S) (aA b S) (aA d S) h
 |.enm a,c,E,X,S,tg,e,h=>abK S (aA a S) h
 |.zip a b,c,E,X,S,tg,e,h=>abL S (aA a S) (aA b S) h
end
def EnD(K:PF)(H:Hp)(F:FZ)(D:Ends):En where
 nx:=λρ G'=>∀H' F' σ',Ext H F H' F'->EnvR K H' F' ρ σ'->R K H' F' G'->D.nx σ' H'
 rt:=PV K H F D.rt
 bk:=λρ G'=>∀H' F' σ',Ext H F H' F'->EnvR K H' F' ρ σ'->R K H' F' G'->D.bk σ' H'
 ct:=λρ G'=>∀H' F' σ',Ext H F H' F'->EnvR K H' F' ρ σ'->R K H' F' G'->D.ct σ' H'
theorem EnD.later{K:PF}{H H1:Hp}{F F1:FZ}{D:Ends}(x:Ext H F H1 F1):(EnD K H F D).Le (EnD K H1 F1 D):=
 ⟨λ_ _ h H' F' σ' x1=>h H' F' σ' (x.trans x1),λ_ _ h=>PV.later h x,λ_ _ h H' F' σ' x1=>h H' F' σ' (x.trans x1),λ_ _ h H' F' σ' x1=>h H' F' σ' (x.trans x1)⟩
def tS(K:PF)(B:Bs)(w:aj->DH->En->Prop):TS:=λD σ H=>∃ρ F G,Ext B.H B.F H F/\EnvR K H F ρ σ/\R K H F G/\w ρ G (EnD K H F D)
theorem psI{X:Cx}{st:Stmt}{t t':TS}(h:PS X st t)(i:∀D σ H,t' D σ H->t D σ H):PS X st t':=λpins s σ H D I q=>h pins s σ H D I (i D σ H q)
theorem GZ{X:Cx}{st:List Stmt}{t t':TS}(h:PSs X st t)(i:∀D σ H,t' D σ H->t D σ H):PSs X st t':=λpins s σ H D I q=>h pins s σ H D I (i D σ H q)
theorem yh{e:Expr}(h:dw e=false)(t:Option Expr)(n:Nat)(env:Env):swapsWith e t n env=pure false:=by cases e <;> first |rfl |exact nomatch (show true=false from h)
theorem Ha{e:Expr}(h:dw e=false)(t:Expr)(n:Nat)(env:Env):swapsWithSole [t] e n env=pure false:=yh h _ _ _
section
variable {Φ:aa} {CX:CXT} {k:Nat} {c:CT} {E:EK} {B:Bs} {X:Cx}
abbrev OkS(Φ:aa)(c:CT)(E:EK)(B:Bs)(X:Cx)(x:Sx):Prop:=∀{st:Stmt},aY c x st=true->PS X st (tS X.K B (wpS Φ x E))
abbrev j0(Φ:aa)(c:CT)(E:EK)(B:Bs)(X:Cx)(x:Sxs):Prop:=∀{st:List Stmt},aB c x st=true->PSs X st (tS X.K B (au Φ x E))
theorem abQ(S:Stat Φ CX k c E B X){x:Ex}{st:Stmt}(h:aY c (.exp x) st=true):PS X st (tS X.K B (wpS Φ (.exp x) E)):=by
 replace h:=aaD h;obtain ⟨_,_,rfl,h⟩:=h
 ·rw[ae]at h;refine psI (UL (aA x S h.2) (yh (by simpa using h.1) _ _ _)) λD σ H hq=>el hq λρ F G e0 he r hw=>?_;rw[sr]at hw;exact aO e0 he r hw λd G1 H1 F1 v q e1 x1 he1 r1 rv=>q _ _ _ x1 he1 r1
theorem abR(S:Stat Φ CX k c E B X){i:Nat}{x:Ex}{st:Stmt}(h:aY c (.asg (.nm i) x) st=true):PS X st (tS X.K B (wpS Φ (.asg (.nm i) x) E)):=by
 replace h:=Gj h;obtain ⟨tg,e,pos,rfl,h⟩:=h
 ·simp only[ae]at h;obtain ⟨⟨h1,h2⟩,h3⟩:=h;have h3:(!dw e||Fb x)=true:=h3;replace h1:=xW h1;obtain ⟨y,py,rfl,h1⟩:=h1
  ·rw[ae,av]at h1;obtain ⟨l,f⟩:=S.sto y h1.2;have hi:X.N[i]?=some y:=by rw[S.N];exact h1.1
   have go:∀(D:Ends)(σ:L2.St)(H:Hp),tS X.K B (wpS Φ (.asg (.nm i) x) E) D σ H->qt (tE X.K B (wpE Φ x E)) (qp i) D σ H:=λD σ H hq=>el hq λρ F G e0 he r hw=>by
    rw[gQ]at hw;refine aO e0 he r hw λd G1 H1 F1 v q e1 x1 he1 r1 rv=>?_;unfold aP at q;exact q _ _ _ x1 (he1.set rv i) r1
   cases hc:dw e with
   |false=>exact psI (lu S.nd hi l (aA x S h2) (yh hc _ _ _) f) go
   |true=>
    rw[hc,gt,Bool.false_or]at h3;cases x with
    |comp fz elt tg it cond N cap=>
     obtain ⟨elt',tg',iter,ifs,scope,pos',rfl,C⟩:=GJ h2;obtain ⟨s1,s2,s3,s4⟩:=uE S C.sc;have hb:∃b:Bool,swapsWith (.ListComp elt' [⟨tg',iter,ifs,0⟩] scope pos') (some (.Name y py)) pos.line X.env=pure b:=⟨_,rfl⟩;obtain ⟨b,hb⟩:=hb;cases b with
     |false=>exact psI (lu S.nd hi l (aA _ S h2) hb f) go
     |true=>
      refine psI (Df (lim:=true) (CW _ _ _ _ _ _) S.nd hi l (N.map Str.ofString) cap S.calm (gk it S C.it) (jZ S.N C.cap) s1 s2 s3 s4 (gh C.it X.env) hb f) λD σ H hq=>el hq λρ F G e0 he r hw=>?_;rw[gQ]at hw;rw[wZ]at hw;refine GF (fz:=fz) (Q:=λv H1=>D.nx (σ.set i (some v)) H1) S C.nd (λS'=>aA elt S') (λS'=>gj cond S') C.tg C.cd C.el e0 he r (fu it (λitems g G1 q=>?_) hw);refine tu (λd ρ' G' k1 k2 hk z=>du (λρ1 z=>cL cond (λb G2 z=>by
       cases b with
       |true=>exact aC elt (λy G3 z=>hk _ _ _ z) z
       |false=>exact hk _ _ _ z) z) tg z) ?_ _ _ _ _ q
      ·intro ds G2 q;refine cT (λd G3 q=>?_) q;intro H1 F1 v x1 r1 rv;unfold aP at q;exact q _ _ _ x1 ((he.ext x1).set rv i) r1
    |cm3 elt t1 i1 t2 i2 t3 i3 N cap=>
     obtain ⟨elt',a1,b1,a2,b2,a3,b3,scope,pos',rfl,c1,c2,c3,c4,c5,c6,c7,c8,c9,c10⟩:=xY h2;obtain ⟨s1,s2,s3,s4⟩:=uE S c3;have hb:∃b:Bool,swapsWith (.ListComp elt' [⟨a1,b1,[],0⟩,⟨a2,b2,[],0⟩,⟨a3,b3,[],0⟩] scope pos') (some (.Name y py)) pos.line X.env=pure b:=⟨_,rfl⟩;obtain ⟨b,hb⟩:=hb;cases b with
     |false=>exact psI (lu S.nd hi l (aA _ S h2) hb f) go
     |true=>
      refine psI (Df (lim:=false) (CN _ _ _ _ _ _ _ _ _) S.nd hi l (N.map Str.ofString) cap S.calm (gk i1 S c1) (jZ S.N c2) s1 s2 s3 s4 (gh c1 X.env) hb f) λD σ H hq=>el hq λρ F G e0 he r hw=>?_;rw[gQ]at hw;refine GQ (Q:=λv H1=>D.nx (σ.set i (some v)) H1) S c4 (λS'=>aA elt S') (λS'=>gk i2 S' c6) (λS'=>gk i3 S' c8) (gh c6) (gh c8) c5 c7 c9 c10 e0 he r (aC _ (λd G3 q=>?_) hw);intro H1 F1 v x1 r1 rv;unfold aP at q;exact q _ _ _ x1 ((he.ext x1).set rv i) r1
    |_=>cases h3
theorem abS(S:Stat Φ CX k c E B X){ts:Tgs}{x:Ex}{st:Stmt}(h:aY c (.asg (.tp ts) x) st=true):PS X st (tS X.K B (wpS Φ (.asg (.tp ts) x) E)):=by
 replace h:=Gj h;obtain ⟨tg,e,pos,rfl,h⟩:=h
 ·rw[ae,ae]at h;have h34:(!Fd e&&!dw e)=true:=h.2;obtain ⟨h1,h2⟩:=h.1;rw[ae,fm,fm]at h34;obtain ⟨h3,h4⟩:=h34;have hg:=iW S (.tp ts) h1;replace h1:=xX h1;obtain ⟨_,_,_,rfl,h1⟩:=h1
  ·refine psI (Aj (aA x S h2) hg (Ha h4 _ _ _) ?_ rfl) λD σ H hq=>el hq λρ F G e0 he r hw=>?_
   ·cases e <;> first |rfl |exact nomatch (show true=false from h3)
   ·rw[gQ]at hw;refine aO e0 he r hw λd G1 H1 F1 v q e1 x1 he1 r1 rv=>?_;exact ⟨ρ,F1,G1,d,e1,he1,r1,rv,du (λρ' z σ' hσ=>z H1 F1 σ' x1 hσ r1) (.tp ts) q⟩
theorem abT(S:Stat Φ CX k c E B X){o i x:Ex}{st:Stmt}(h:aY c (.set o i x) st=true):PS X st (tS X.K B (wpS Φ (.set o i x) E)):=by
 replace h:=aaE h;obtain ⟨o',i',tpos,e,pos,rfl,h⟩:=h
 ·simp only[ae,fm]at h;obtain ⟨⟨⟨h1,h2⟩,h3⟩,h4⟩:=h;have hi:=bD i h2;refine psI (Aj (aA x S h3) (Ve (aA o S h1) (aA i S h2) aae ?_) (Ha h4 _ _ _) ?_ rfl) λD σ H hq=>el hq λρ F G e0 he r hw=>?_
  ·intro v;cases i' <;> first |rfl |exact nomatch (show false=true from hi)
  ·cases e <;> rfl
  ·rw[su]at hw;refine aO e0 he r hw λd G1 H1 F1 v q e1 x1 he1 r1 rv=>?_;refine aO e1 he1 r1 q λa G2 H2 F2 w q e2 x2 he2 r2 rw'=>?_;refine aO e2 he2 r2 q λy G3 H3 F3 u q e3 x3 he3 r3 ru=>?_;refine ⟨F3,G3,a,y,d,r3,rw'.ext x3,ru,rv.ext (x2.trans x3),xf (λG4 q=>?_) q⟩;intro H4 F4 x4 r4;exact q _ _ _ (x1.trans (x2.trans (x3.trans x4))) (he3.ext x4) r4
theorem abU(S:Stat Φ CX k c E B X){i:Nat}{op:Operator}{x:Ex}{st:Stmt}(h:aY c (.aug i op x) st=true):PS X st (tS X.K B (wpS Φ (.aug i op x) E)):=by
 replace h:=aaF h;obtain ⟨y,py,o,e,pos,rfl,h⟩:=h
 ·simp only[ae,av]at h;obtain ⟨⟨⟨⟨rfl,h1⟩,h2⟩,h3⟩,h4⟩:=h;obtain ⟨l,f⟩:=S.sto y h2;refine psI (Vg S.nd (by rw[S.N];exact h1) l (aA x S h4) (aaf o) f) λD σ H hq=>el hq λρ F G e0 he r hw=>?_;rw[sy]at hw;split at hw
  ·rename_i a ha;obtain ⟨v,e1,rv⟩:=he.get ha;refine ⟨v,e1,aO e0 he r hw λb G1 H1 F1 u q e1 x1 he1 r1 ru=>?_⟩;refine ⟨F1,G1,a,b,r1,rv.ext x1,ru,xg (λd q=>?_) q⟩;intro H2 F2 w x2 r2 rw';exact q _ _ _ (x1.trans x2) ((he1.ext x2).set rw' i) r2
  ·exact hw.elim
theorem abV(S:Stat Φ CX k c E B X){o i:Ex}{op:Operator}{x:Ex}{st:Stmt}(h:aY c (.augs o i op x) st=true):PS X st (tS X.K B (wpS Φ (.augs o i op x) E)):=nomatch (show false=true from h)
theorem abW(S:Stat Φ CX k c E B X){x:Ex}{st:Stmt}(h:aY c (.ret x) st=true):PS X st (tS X.K B (wpS Φ (.ret x) E)):=by
 replace h:=aaM h;obtain ⟨_,_,rfl,h⟩:=h
 ·refine psI (UT (aA x S h)) λD σ H hq=>el hq λρ F G e0 he r hw=>?_;rw[sE]at hw;exact ⟨ρ,F,G,e0,he,r,hw⟩
theorem abX{st:Stmt}(h:aY c .rtn st=true):PS X st (tS X.K B (wpS Φ .rtn E)):=by
 replace h:=aaN h;obtain ⟨_,rfl,h⟩:=h
 ·refine psI UW λD σ H hq=>el hq λρ F G e0 he r hw=>?_;rw[sG]at hw;exact hw.now r rfl
theorem abY(S:Stat Φ CX k c E B X){t:Tx}{a b:Sxs}(iha:j0 Φ c E B X a)(ihb:j0 Φ c E B X b){st:Stmt}(h:aY c (.ite t a b) st=true):PS X st (tS X.K B (wpS Φ (.ite t a b) E)):=by
 replace h:=aaO h;obtain ⟨_,_,_,_,rfl,h⟩:=h
 ·simp only[ae]at h;obtain ⟨⟨h1,h2⟩,h3⟩:=h;refine psI (U3 (gj t S h1) (iha h2) (ihb h3)) λD σ H hq=>el hq λρ F G e0 he r hw=>?_;rw[sH]at hw;refine gY e0 he r hw λb' G1 H1 F1 q e1 x1 he1 r1=>?_;cases b' with
  |true=>
   rw[if_pos rfl];exact ⟨ρ,F1,G1,e1,he1,r1,cU a (EnD.later x1) q⟩
  |false=>
   rw[if_neg bi];exact ⟨ρ,F1,G1,e1,he1,r1,cU b (EnD.later x1) q⟩
theorem abZ(S:Stat Φ CX k c E B X){t:Tg}{it:It'}{b:Sxs}(ihb:j0 Φ c E B X b){st:Stmt}(h:aY c (.for_ t it b) st=true):PS X st (tS X.K B (wpS Φ (.for_ t it b) E)):=by
 replace h:=aaP h;obtain ⟨tg,iter,body,pos,rfl,h⟩:=h
 ·simp only[ae]at h;obtain ⟨⟨h1,h2⟩,h3⟩:=h;refine psI (Vp S.own S.calm (gk it S h2) (iW S t h1) (ihb h3) (gh h2 X.env)) λD σ H hq=>el hq λρ F G e0 he r hw=>?_;rw[Dm]at hw;refine ⟨ρ,F,G,e0,he,r,fu it (λitems g G1 q H1 F1 J x1 r1 W=>?_) hw⟩;let step:RF.D->aj->DH->(aj->DH->Prop)->Prop:=λd ρ' G' k=>aP t d ρ' G' λρ1=>au Φ b E ρ1 G' { EnD X.K H F D with nx:=k,ct:=k,bk:=(EnD X.K H F D).nx }
  let P:Nat->L2.St->Hp->Prop:=λi σ' H'=>∃ρ' F' G',Ext B.H B.F H' F'/\Ext H1 F1 H' F'/\EnvR X.K H' F' ρ' σ'/\R X.K H' F' G'/\forLoop step g (items.drop i) ρ' G' (EnD X.K H F D).nx
  refine ⟨λi m σ' H'=>m=items.length - i/\i<=items.length/\P i σ' H',⟨items.length,by simp,d3 _,ρ,F1,G1,e0.trans x1,Ext.refl _ _,he.ext x1,r1,q⟩,?_⟩;rintro i m σ' H' ⟨rfl,hle,ρ',F',G',eB,e1,he',r',hl⟩;by_cases hlt:i < items.length
  ·have hd:items.drop i=items[i]::items.drop (i+1):=bP hlt;rw[hd]at hl;obtain ⟨hh,hl⟩:=hl;refine .inr ⟨W.go H' F' G' i e1 r' hh hlt,P (i+1),λσ2 H2 p=>⟨items.length - (i+1),by omega,rfl,hlt,p⟩,λx H2 hy=>?_⟩;obtain ⟨xy,ry,rx⟩:=W.yld H' F' i x H2 items[i] G' e1 r' hh (by simp[hlt]) hy;refine ⟨ρ',F',G',items[i],eB.trans xy,he'.ext xy,ry,rx,du (λρ1 z σ1 hσ1=>?_) t hl⟩;refine ⟨ρ1,F',G',eB.trans xy,hσ1,ry,cU b (D:={ EnD X.K H F D with nx:=λρ' G'=>forLoop step g (items.drop (i+1)) ρ' G' (EnD X.K H F D).nx,ct:=λρ' G'=>forLoop step g (items.drop (i+1)) ρ' G' (EnD X.K H F D).nx,bk:=(EnD X.K H F D).nx }) ⟨λρ2 G2 z H3 F3 σ3 x3 he3 r3=>?_,λd G2 z=>PV.later z (x1.trans (e1.trans xy)),λρ2 G2 z H3 F3 σ3 x3=>z H3 F3 σ3 (x1.trans (e1.trans (xy.trans x3))),λρ2 G2 z H3 F3 σ3 x3 he3 r3=>?_⟩ z⟩
   ·exact ⟨ρ2,F3,G2,eB.trans (xy.trans x3),e1.trans (xy.trans x3),he3,r3,z⟩
   ·exact ⟨ρ2,F3,G2,eB.trans (xy.trans x3),e1.trans (xy.trans x3),he3,r3,z⟩
  ·have hi':i=items.length:=by omega
   subst hi';rw[ez]at hl;exact .inl ⟨W.stop H' F' G' e1 r' hl.1,hl.2 _ _ _ (x1.trans e1) he' r'⟩
theorem ab0(S:Stat Φ CX k c E B X){t:Tx}{b:Sxs}(ihb:j0 Φ c E B X b){st:Stmt}(h:aY c (.whl t b) st=true):PS X st (tS X.K B (wpS Φ (.whl t b) E)):=by
 replace h:=aaQ h;obtain ⟨_,_,_,rfl,h⟩:=h
 ·simp only[ae]at h;obtain ⟨h1,h2⟩:=h;refine psI (Vi S.own (gj t S h1) (ihb h2)) λD σ H hq=>el hq λρ F G e0 he r hw=>?_;rw[Do]at hw;obtain ⟨n,hw⟩:=hw;let test:aj->DH->(Bool->DH->Prop)->Prop:=λρ' G' k=>wpT Φ t E ρ' G' k
  let bd:aj->DH->(aj->DH->Prop)->Prop:=λρ' G' k=>au Φ b E ρ' G' { EnD X.K H F D with nx:=k,ct:=k,bk:=(EnD X.K H F D).nx }
  let P:Nat->L2.St->Hp->Prop:=λm σ' H'=>∃ρ' F' G',Ext B.H B.F H' F'/\Ext H F H' F'/\EnvR X.K H' F' ρ' σ'/\R X.K H' F' G'/\whileLoop test bd m ρ' G' (EnD X.K H F D).nx
  refine ⟨P,⟨n,ρ,F,G,e0,Ext.refl _ _,he,r,hw⟩,?_⟩;rintro m σ' H' ⟨ρ',F',G',eB,e1,he',r',hl⟩;cases m with
  |zero=>exact hl.elim
  |succ m=>
   refine gY eB he' r' hl λb' G1 H1 F1 q e2 x2 he2 r2=>?_;cases b' with
   |true=>
    rw[if_pos rfl];refine ⟨P m,λσ2 H2 p=>⟨m,gs _,p⟩,ρ',F1,G1,e2,he2,r2,cU b (D:={ EnD X.K H F D with nx:=λρ' G'=>whileLoop test bd m ρ' G' (EnD X.K H F D).nx,ct:=λρ' G'=>whileLoop test bd m ρ' G' (EnD X.K H F D).nx,bk:=(EnD X.K H F D).nx }) ⟨λρ2 G2 z H3 F3 σ3 x3 he3 r3=>?_,λd G2 z=>PV.later z (e1.trans x2),λρ2 G2 z H3 F3 σ3 x3=>z H3 F3 σ3 (e1.trans (x2.trans x3)),λρ2 G2 z H3 F3 σ3 x3 he3 r3=>?_⟩ q⟩
    ·exact ⟨ρ2,F3,G2,e2.trans x3,e1.trans (x2.trans x3),he3,r3,z⟩
    ·exact ⟨ρ2,F3,G2,e2.trans x3,e1.trans (x2.trans x3),he3,r3,z⟩
   |false=>
    rw[if_neg bi];exact q _ _ _ (e1.trans x2) he2 r2
def tJ(K:PF)(B:Bs)(w:aj->DH->(DH->Prop)->Prop):TJ:=λσ H Q=>∃ρ F G,Ext B.H B.F H F/\EnvR K H F ρ σ/\R K H F G/\w ρ G λG'=>∀H' F',Ext H F H' F'->R K H' F' G'->Q H'
theorem pjI{X:Cx}{ps:List Expr}{t t':TJ}{n:Nat}(h:PJ X ps t n)(i:∀σ H Q,t' σ H Q->t σ H Q):PJ X ps t' n:=λpins s σ H Q out I hl q=>h pins s σ H Q out I hl (i σ H Q q)
theorem yj{E:EK}{ρ:aj}:∀(es:Exs){G:DH}{k k':DH->Prop},(∀G',k G'->k' G')->wpM Φ es E ρ G k->wpM Φ es E ρ G k'
 |.nil,G,k,k',h,q=>h G q
 |.cons e es,G,k,k',h,q=>by
  rw[sS]at q ⊢;exact aC e (λd G1 q=>⟨q.1,yj es h q.2⟩) q
theorem Hb{p:Expr}(h:xT p=true):∃y k pos,p=.Constant (.str y) k pos/\y.length<=1000:=by obtain ⟨t,ht,h⟩:=aJ h;obtain ⟨x,hx,h⟩:=aJ h;exact ⟨x,_,_,by rw[ht,hx],dQ h⟩
theorem yl(S:Stat Φ CX k c E B X):∀(ps:List Expr){es:Exs},lW c es ps=true->∃n,n<=1000 * ps.length/\PJ X ps (tJ X.K B (wpM Φ es E)) n
 |[],es,h=>by
  cases es with
  |nil=>exact ⟨0,d3 _,pjI X5 λσ H Q hq=>el hq λρ F G e0 he r hw=>hw H F (Ext.refl _ _) r⟩
  |cons _ _=>exact nomatch (show false=true from h)
 |p::ps,es,h=>by
  unfold lW at h;split at h
  ·rename_i hm;obtain ⟨y,kk,pos,rfl,hy⟩:=Hb hm;obtain ⟨n,hn,hp⟩:=yl S ps h;exact ⟨y.length+n,by rw[eA];omega,X6 hp⟩
  ·split at h
   ·rename_i x rr;rw[ae]at h;obtain ⟨t,ht,h1⟩:=aJ h.1;rw[ae,ae,eJ,bp]at h1;obtain ⟨n,hn,hp⟩:=yl S ps h.2;refine ⟨3+n,by rw[eA];omega,?_⟩;rw[ht,h1.1.1,h1.1.2];refine pjI (X7 (aA x S h1.2) hp) λσ H Q hq=>el hq λρ F G e0 he r hw=>?_;rw[sS]at hw;refine aO e0 he r hw λd G1 H1 F1 v q e1 x1 he1 r1 rv=>?_;obtain ⟨q1,q2⟩:=q;unfold qR at q1;split at q1
    ·rename_i i;rw[ae,bp,bp]at q1;have e2:v=.int i:=rv;refine ⟨⟨i.toNat,by rw[e2];congr 1;omega,by omega⟩,ρ,F1,G1,e1,he1,r1,yj rr (λG' z H' F' x' r'=>z H' F' (x1.trans x') r') q2⟩
    ·cases q1
   ·cases h
theorem ab1(S:Stat Φ CX k c E B X){C:String}{es:Exs}{st:Stmt}(h:aY c (.rse C es) st=true):PS X st (tS X.K B (wpS Φ (.rse C es) E)):=by
 replace h:=aaG h;obtain ⟨x,np,m,cpos,pos,rfl,h⟩:=h;simp only[ae,av]at h;obtain ⟨⟨⟨e1,h1⟩,h2⟩,h3⟩:=h;subst e1;obtain ⟨g1,g2⟩:=bZ h1;obtain ⟨a,hm,hb,hn⟩:=S.xcl C h2;obtain ⟨EX,_,hth,hEX⟩:=S.exc;unfold ut at h3;rw[cp]at h3;rcases h3 with h3 |h3
 ·cases es with
  |cons _ _=>cases h3
  |nil=>
   obtain ⟨y,kk,p,rfl,hy⟩:=Hb h3;refine psI (Cw S.calm (S.glo _ g1) hm hb hth (dZ Ae gG rfl) (bF g2) rfl rfl) λD σ H hq=>el hq λρ F G e0 he r hw=>?_;rw[lK,wU]at hw;exact ⟨show 1<=sizeLine by decide,hEX ⟨C,.non⟩ G H F hw e0 r (.ref a) none ⟨a,rfl,hn,trivial⟩⟩
 ·obtain ⟨t,ht,h3⟩:=aJ h3;rw[ae,ae,bp,bp]at h3;obtain ⟨n,hn',hp⟩:=yl S t.1 h3.2;rcases hps:t.1 with _ |⟨v1,_ |⟨v2,r⟩⟩
  ·rw[hps]at h3;simp at h3
  ·rw[hps]at h3;simp at h3
  ·rw[hps]at hp;subst ht;rw[hps]at *;refine psI (Cw S.calm (S.glo _ g1) hm hb hth (dZ (X8 hp (by omega)) gG rfl) (bF g2) rfl rfl) λD σ H hq=>el hq λρ F G e0 he r hw=>?_;rw[lK]at hw;refine ⟨ρ,F,G,e0,he,r,yj es (λG1 q H1 F1 x1 r1 y=>⟨show 1<=sizeLine by decide,?_⟩) hw⟩;exact hEX ⟨C,.non⟩ G1 H1 F1 q (e0.trans x1) r1 (.ref a) none ⟨a,rfl,hn,trivial⟩
theorem Stat.wish(S:Stat Φ CX k c E B X)(E':Value->Shared->Prop)(ho:PassesOwn (model X.prog X.w) X.A X.env E'):Stat Φ CX k c noE B (X.wish E'):=
 ⟨S.N,S.nd,S.calm,ho,S.kd,S.vis,S.cel,S.glo,S.sto,S.room,S.call,S.blt,S.con,⟨_,S.nox _,λ_ _ _ _ _ _ _ _ _ _ q=>q.elim,λx G' H' F' h=>h.elim⟩,S.nox,S.xcl,S.loc,S.xis,S.mth,S.mko,S.fld,S.trc⟩
theorem ab2(S:Stat Φ CX k c E B X){f:String}{es:Exs}{C:String}{i:Nat}{b:Bool}{st:Stmt}(h:aY c (.tryc f es C i b) st=true):PS X st (tS X.K B (wpS Φ (.tryc f es C i b) E)):=nomatch (show false=true from h)
def PNx(K:PF)(H:Hp)(F:FZ)(nx:L2.St->Hp->Prop):aj->DH->Prop:=λρ' G'=>∀H' F' σ',Ext H F H' F'->EnvR K H' F' ρ' σ'->R K H' F' G'->nx σ' H'
def PEx(K:PF)(H:Hp)(F:FZ)(ex:Value->L2.St->Hp->Prop):Xn->aj->DH->Prop:=λx ρ' G'=>∀H' F' σ' cv od,Ext H F H' F'->EnvR K H' F' ρ' σ'->R K H' F' G'->XV K H' F' x cv od->ex cv σ' H'
def tXX(K:PF)(B:Bs)(w:aj->DH->(aj->DH->Prop)->(Xn->aj->DH->Prop)->Prop):TX:=λnx ex σ H=>∃ρ F G,Ext B.H B.F H F/\EnvR K H F ρ σ/\R K H F G/\w ρ G (PNx K H F nx) (PEx K H F ex)
theorem pxI{X:Cx}{sts:List Stmt}{t t':TX}(h:PXs X sts t)(i:∀nx ex σ H,t' nx ex σ H->t nx ex σ H):PXs X sts t':=λpins s σ H nx ex E' I ho hE q=>h pins s σ H nx ex E' I ho hE (i nx ex σ H q)
theorem ab3{B:Bs}{c:CT}{E:EK}{X:Cx}(S:Stat Φ (CX1 X.prog X.w) k c E B X){f g:String}{i:Nat}{es:Exs}{sts:List Stmt}(h:cX c (.pick f g i es) sts=true):PXs X sts (tXX X.K B (wpX Φ (.pick f g i es))):=nomatch (show false=true from h)
theorem uF{B:Bs}{c:CT}{E:EK}{X:Cx}(S:Stat Φ (CX1 X.prog X.w) k c E B X):∀(b:Tb){sts:List Stmt},cX c b sts=true->PXs X sts (tXX X.K B (wpX Φ b))
 |.call f es,sts,h=>by
  obtain ⟨x,p,args,cpos,p0,rfl,h1⟩:=aaJ h;simp only[ae,av,List.any_eq_true]at h1;obtain ⟨⟨⟨⟨e1,h1⟩,⟨f',n⟩,hm,e2,e3⟩,h4⟩,h5⟩:=h1;simp only at e2 e3;subst e1 e2 e3;obtain ⟨g1,g2⟩:=bZ h1;obtain ⟨fa,fd,ps,F0,hk,hb,hmg⟩:=S.call _ _ hm;cases args with
  |nil=>cases h4
  |cons e0 es0=>
   obtain ⟨x0,xs',rfl,c1,c2⟩:=iV h5;refine pxI (Yo (ta:=tL X.K B (aM Φ (.cons x0 xs') noE)) F0 S.room (S.glo _ g1) hmg hk hb (λE' ho=>EachE.oks (dB (.cons x0 xs') (S.wish E' ho)) h5) rfl (bF g2) (bK e0 es0 X.env (bY (bD x0 c1))) (jW c2 X.env cpos)) λnx ex σ H hq=>el hq λρ F G eB he r hw=>?_;rw[sU]at hw;refine cB eB he r (ux _ h5 hw) λds G1 H1 F1 vs q e1 x1 he1 r1 rvs=>?_;exact ⟨by rw[<-rvs.length];exact q.1,F1,G1,ds,r1,rvs,Spec.mono q.2 (λd G2 z H2 F2 v x2 r2 _=>z H2 F2 σ (x1.trans x2) (he1.ext x2) r2) λxn G2 z H2 F2 x2 r2 cv od hv=>z H2 F2 σ cv od (x1.trans x2) (he1.ext x2) r2 hv⟩
 |.pick f g i es,sts,h=>ab3 S h
 |.mcl _ _ _ _ _,_,h=>nomatch (show false=true from h)
 |.mko _ _,_,h=>nomatch (show false=true from h)
 |.asg i f es,sts,h=>by
  obtain ⟨y,p2,x,p,args,cpos,p0,rfl,h0,h1⟩:=aaK h;simp only[ae,av,List.any_eq_true]at h0 h1;obtain ⟨⟨hi,hs⟩,hok⟩:=h0;obtain ⟨⟨⟨⟨e1,h1⟩,⟨f',n⟩,hm,e2,e3⟩,h4⟩,h5⟩:=h1;simp only at e2 e3;subst e1 e2 e3;obtain ⟨g1,g2⟩:=bZ h1;obtain ⟨fa,fd,ps,F0,hk,hb,hmg⟩:=S.call _ _ hm;obtain ⟨hloc,hfn⟩:=S.sto _ hs;cases args with
  |nil=>cases h4
  |cons e0 es0=>
   obtain ⟨x0,xs',rfl,c1,c2⟩:=iV h5;refine pxI (Yp (i:=i) (ta:=tL X.K B (aM Φ (.cons x0 xs') noE)) F0 S.room (S.glo _ g1) hmg hk hb S.nd (by rw[S.N];exact hi) hloc hfn (λE' ho=>EachE.oks (dB (.cons x0 xs') (S.wish E' ho)) h5) rfl (bF g2) (bK e0 es0 X.env (bY (bD x0 c1))) (jW c2 X.env cpos)) λnx ex σ H hq=>el hq λρ F G eB he r hw=>?_;rw[sV]at hw;refine cB eB he r (ux _ h5 hw) λds G1 H1 F1 vs q e1 x1 he1 r1 rvs=>?_;exact ⟨by rw[<-rvs.length];exact q.1,F1,G1,ds,r1,rvs,Spec.mono q.2 (λd G2 z H2 F2 v x2 r2 rv=>z H2 F2 _ (x1.trans x2) (EnvR.set rv i (he1.ext x2)) r2) λxn G2 z H2 F2 x2 r2 cv od hv=>z H2 F2 σ cv od (x1.trans x2) (he1.ext x2) r2 hv⟩
 |.ite t a b,sts,h=>by
  obtain ⟨e,xa,xb,pos,rfl,h1,h2,h3⟩:=aaL h;refine pxI (Yq (tc:=tB' X.K B (wpT Φ t noE)) (λE' ho=>gj t (S.wish E' ho) h1) (uF S a h2) (uF S b h3)) λnx ex σ H hq=>el hq λρ F G eB he r hw=>?_;rw[sW]at hw;refine gY eB he r hw λd G1 H1 F1 q e1 x1 he1 r1=>?_;have later:∀(z:Tb),wpX Φ z ρ G1 (PNx X.K H F nx) (PEx X.K H F ex)->tXX X.K B (wpX Φ z) nx ex σ H1:=λz q=>⟨ρ,F1,G1,e1,he1,r1,jP z (λ_ _ w H2 F2 σ2 x2=>w H2 F2 σ2 (x1.trans x2)) (λ_ _ _ w H2 F2 σ2 cv od x2=>w H2 F2 σ2 cv od (x1.trans x2)) q⟩;cases d with
  |true=>exact later a q
  |false=>exact later b q
theorem ab4(S:Stat Φ CX k c E B X){b:Tb}{C:String}{hd:Hd}{xs:List String}{st:Stmt}(h:aY c (.tryx b C hd xs) st=true):PS X st (tS X.K B (wpS Φ (.tryx b C hd xs) E)):=by
 obtain ⟨body,cx,p1,nm,y,p2,e,p4,p5,pos,rfl,h1,h2,h3,h4,h5⟩:=aaI h;simp only[ae,av]at h4;obtain ⟨⟨ec,hc⟩,hcx⟩:=h4;subst ec;obtain ⟨g3,g4⟩:=bZ hc;have hne:c.xs≠[]:=λe=>by rw[e]at hcx;cases hcx
 obtain ⟨ecx,hst,hex⟩:=S.trc hne;subst ecx;obtain ⟨cv,hcv,hall⟩:=S.xis C hcx;have hcat:∃a,cv=.ref a/\X.mg (Str.ofString C)=some (.ref a)/\Cat X.K a:=by
  rcases hcv with ⟨a,e,hm,hb⟩ |⟨e,_,_⟩
  ·exact ⟨a,e,hm,CG hb⟩
  ·rw[e]at h3;cases h3
 obtain ⟨a,rfl,ham,hca⟩:=hcat;unfold uv at h5;rw[ae,ae]at h5;obtain ⟨⟨h5,hsy⟩,hoy⟩:=h5;obtain ⟨hloc,hfn⟩:=S.sto _ hsy;have cls:∀{x:Xn}{H':Hp}{F':FZ}{cv:Value}{od:Option Addr},xs.contains x.cls=true->bB x.cls C=true->XV X.K H' F' x cv od->∃d,cv=.ref d/\PySem.W.mroIn X.K d (.ref a)=some true/\PySem.W.nsIn X.K mainGlobals (Str.ofString x.cls)=some (some (.ref d)):=by
  intro x H' F' cv od hx hs hv;obtain ⟨d,rfl,hn,_⟩:=hv;obtain ⟨c1,k1,_,k4,_⟩:=hall x.cls (bv.mp h2 _ (a7.mp hx));rw[k1]at hn;have ed:c1=d:=by simpa using hn
  subst ed;rw[hs]at k4;exact ⟨c1,rfl,k4,k1⟩
 cases hd with
 |flag i v=>
  simp only[ae,av,eJ]at h5;obtain ⟨⟨rfl,hi⟩,h6⟩:=h5;obtain ⟨kk,hk,h6⟩:=aJ h6;have ek:=aaH h6;subst hk;rw[ek];refine psI (Yt (uF S b h1) hst (S.glo _ g3) ham hca S.nd (by rw[S.N];exact hi) hloc hfn rfl (bF g4)) λD σ H hq=>el hq λρ F G eB he r hw=>?_;rw[lL]at hw;refine ⟨ρ,F,G,eB,he,r,jP b (λρ' G' z H' F' σ' x' he' r'=>z H' F' σ' x' he' r') (λx ρ' G' z H' F' σ' cv od x' he' r' hv=>?_) hw⟩;obtain ⟨z1,z2,z3,z4⟩:=z;obtain ⟨d,e1,e2,_⟩:=cls z2 z3 hv;exact ⟨d,e1,e2,z4 H' F' _ x' (EnvR.set (d:=.bl v) (v:=.bl v) (show V.bl v=.bl v from rfl) i he') r'⟩
 |bind n i=>
  obtain ⟨nn,hnn,h6⟩:=aN h5;simp only[ae,av]at h6;obtain ⟨⟨⟨⟨hi,hj⟩,hkd⟩,hon⟩,h7⟩:=h6;obtain ⟨zz,hz,h8⟩:=aJ h7;rw[av]at h8;rw[h8]at hz;subst hz hnn;have hnl:X.env.scope.names.lookup nn=some .local:=S.loc nn hkd;refine psI (Yv (jn:=n) (uF S b h1) hst hex (S.glo _ g3) ham hca S.nd (by rw[S.N];exact hi) hloc hfn (by rw[S.N];exact hj) (by rw[S.kd];exact hnl) hnl (bF hon) (Gq hon) rfl (bF g4)) λD σ H hq=>el hq λρ F G eB he r hw=>?_;rw[lL]at hw;refine ⟨ρ,F,G,eB,he,r,jP b (λρ' G' z H' F' σ' x' he' r'=>z H' F' σ' x' he' r') (λx ρ' G' z H' F' σ' cv od x' he' r' hv=>?_) hw⟩;obtain ⟨z1,z2,z3,z4⟩:=z;obtain ⟨d,e1,e2,e3⟩:=cls z2 z3 hv;refine ⟨d,e1,e2,λa0 o0 hn0 hc0=>?_⟩;have xx:Ext H' F' (upd H' a0 (.frz o0 (.own a0))) F':=d8 r' hn0;have rr:R X.K (upd H' a0 (.frz o0 (.own a0))) F' G':=r'.new hn0;have rx:Rep X.K (upd H' a0 (.frz o0 (.own a0))) F' (.exn x.cls) (.ref a0):=⟨a0,d,rfl,⟨o0,a0,dJ,hc0⟩,e3⟩;exact z4 _ F' _ (x'.trans xx) (EnvR.unset n (EnvR.set rx i (EnvR.set rx n (he'.ext xx)))) rr
theorem ab5{st:List Stmt}(h:aB c .nil st=true):PSs X st (tS X.K B (au Φ .nil E)):=by
 unfold aB at h;cases st with
 |nil=>exact GZ Uu λD σ H hq=>el hq λρ F G e0 he r hw=>by rw[jN]at hw;exact hw _ _ _ (Ext.refl _ _) he r
 |cons _ _=>cases h
theorem ab6{x:Sx}{xs:Sxs}(ih:OkS Φ c E B X x)(ihs:j0 Φ c E B X xs){st:List Stmt}(h:aB c (.cons x xs) st=true):PSs X st (tS X.K B (au Φ (.cons x xs) E)):=by
 unfold aB at h;split at h
 ·rw[ae]at h;refine GZ (Uv (ih h.1) (ihs h.2)) λD σ H hq=>el hq λρ F G e0 he r hw=>?_;rw[jO]at hw;refine ⟨ρ,F,G,e0,he,r,wpS_mono x (D:={ EnD X.K H F D with nx:=λρ' G'=>au Φ xs E ρ' G' (EnD X.K H F D) }) ⟨λρ1 G1 q H1 F1 σ1 x1 he1 r1=>?_,λ_ _ z=>z,λ_ _ z=>z,λ_ _ z=>z⟩ hw⟩;exact ⟨ρ1,F1,G1,e0.trans x1,he1,r1,cU xs (EnD.later x1) q⟩
 ·cases h
end
mutual
theorem ab7{Φ:aa}{CX:CXT}{k:Nat}{B:Bs}{c:CT}{E:EK}{X:Cx}(S:Stat Φ CX k c E B X):∀(x:Sx),OkS Φ c E B X x
 |.exp e=>by intro h;exact abQ S h
 |.asg (.nm i) e=>by intro h;exact abR S h
 |.asg (.tp ts) e=>by intro h;exact abS S h
 |.set o i e=>by intro h;exact abT S h
 |.aug i op e=>by intro h;exact abU S h
 |.augs o i op e=>by intro h;exact abV S h
 |.ret e=>by intro h;exact abW S h
 |.rtn=>by intro h;exact abX h
 |.ite t a b=>by intro h;exact abY S (iZ S a) (iZ S b) h
 |.for_ t it b=>by intro h;exact abZ S (iZ S b) h
 |.whl t b=>by intro h;exact ab0 S (iZ S b) h
 |.pas=>by
  intro h;obtain ⟨_,rfl,_⟩:=aaR h;exact psI Uy λD σ H hq=>el hq λρ F G e0 he r hw=>by rw[sI]at hw;exact hw _ _ _ (Ext.refl _ _) he r
 |.brk=>by
  intro h;obtain ⟨_,rfl,_⟩:=aaS h;exact psI Uz λD σ H hq=>el hq λρ F G e0 he r hw=>by rw[sJ]at hw;exact hw _ _ _ (Ext.refl _ _) he r
 |.cnt=>by
  intro h;obtain ⟨_,rfl,_⟩:=aaT h;exact psI UG λD σ H hq=>el hq λρ F G e0 he r hw=>by rw[sO]at hw;exact hw _ _ _ (Ext.refl _ _) he r
 |.rse C es=>by intro h;exact ab1 S h
 |.tryc f es C i b=>by intro h;exact ab2 S h
 |.tryx b C h xs=>by intro hh;exact ab4 S hh
 |.nev=>by
  intro h;exact psI U5 λD σ H hq=>el hq λρ F G e0 he r hw=>by rw[sX]at hw;exact hw.elim
theorem iZ{Φ:aa}{CX:CXT}{k:Nat}{B:Bs}{c:CT}{E:EK}{X:Cx}(S:Stat Φ CX k c E B X):∀(x:Sxs),j0 Φ c E B X x
 |.nil=>by intro h;exact ab5 h
 |.cons s r=>by intro h;exact ab6 (ab7 S s) (iZ S r) h
end
end RF
namespace L2
open PySem PySem.Spec PyProof.Rows
theorem Fun.okX{P:Program}{w:World}{K:PF}{mg:Str->Option Value}{base:Heap}{CX:CXT}{x qual:Str}{st:Stmt}{f:Addr}{fd:FuncData}{N ps:List Str}{k:Nat}{sp:Sp}(F:Fun K x qual st f fd)(S:FnScope N ps (aq st))(len:∀vs H Q E,sp vs H Q E->vs.length=ps.length)
  (hbody:∀(cdv:Value)(A:Around)(outer:List Env)(s:Shared)(H:Hp)(vs:List V)(Q:VK)(E:XK),Room k (A.deeper (envOfC qual (aq st) s.heap.objs.size f cdv))->sp vs H Q E->
   ∃t,PSs (cR CX P w K mg base N qual (aq st) f cdv A outer s H E) (aF st) t/\t { nx:=λ_ H'=>Q .non H',rt:=Q } (start N vs) H):FnOk P w K mg base CX (k+1) f fd ps sp:=by
 obtain ⟨oc,od,kV,doc,pm,an,cdv,ct,osl,rfl,lk,hcd⟩:=F.ex;exact We lk hcd S len λA outer s H vs Q E hr hsp=>hbody cdv A outer s H vs Q E hr hsp
theorem FnOk.cx{P:Program}{w:World}{K:PF}{mg:Str->Option Value}{base:Heap}{k:Nat}{CX:CXT}{f:Addr}{fd:FuncData}{ps:List Str}{sp:Sp}(F:FnOk P w K mg base CX0 k f fd ps sp):FnOk P w K mg base CX k f fd ps sp:=
 ⟨F.len,λA outer s H args us vs Q E hr he hb hv hs=>codeAny_mono (F.run A outer s H args us vs Q E hr he hb hv hs) λr s' hq=>by
  cases r with
  |error e=>exact False.elim hq
  |ok fl=>cases fl <;> exact hq⟩
end L2
namespace RF
open PySem PySem.Spec PyProof.Rows L2
noncomputable def fnB(N ps:List Str)(sc:Scope):Bool:=
 decide (sc.kind=.function)&&!sc.isCoroutine&&!sc.isGenerator&&cV N&&(N.take ps.length==ps)&&ps.all (λx=>sc.names.lookup x==some .local||sc.names.lookup x==some .cell)&&sc.names.all (λy=>y.2 != .free)
theorem ym{N ps:List Str}{sc:Scope}(h:fnB N ps sc=true):FnScope N ps sc:=by unfold fnB at h;simp only[ae,fm,bp,av,bv,cp,bne_iff_ne]at h;obtain ⟨⟨⟨⟨⟨⟨h1,h2⟩,h3⟩,h4⟩,h5⟩,h6⟩,h7⟩:=h;exact ⟨h1,h2,h3,yg h4,h5,h6,λy hy=>h7 y hy⟩
structure Bse(Φ:aa)(P:Program)(w:World)(K:PF)(mg:Str->Option Value)(base:Heap)(CX:CXT)(k:Nat)(fs:List (String×Nat))(bt:List String)(cn:List (String×D))(xs:List (String×Bool))(ot:OT):Prop where
 call:∀f n,(f,n)∈fs->∃fa fd ps,FnOk P w K mg base CX k fa fd ps (lift K n (Φ f))/\PySem.W.keepIn K (.ref fa)=true/\Binds K fd ps []/\mg (Str.ofString f)=some (.ref fa)
 blt:∀f,f∈bt->mg (Str.ofString f)=none
 con:∀x d,(x,d)∈cn->∃u v,mg (Str.ofString x)=some u/\RelV v u/\∀H F,Rep K H F d v
 xcl:∀C,xs.contains (C,true)=true->∃a,mg (Str.ofString C)=some (.ref a)/\iC K a=true/\PySem.W.nsIn K mainGlobals (Str.ofString C)=some (some (.ref a))
 xis:∀C',xs.contains (C',false)=true->∃cv,CV K mg C' cv/\∀C,xs.contains (C,true)=true->XI K C C' cv
 mth:∀f C m n,(f,C,m,n)∈ot.ms->MthOk Φ P w K mg base CX k f C m n
 mko:∀C n,(C,n)∈ot.ks->MkoOk Φ P w K mg base CX k C n
 fld:∀C f,(C,f)∈ot.fl->Gm K C f
def aH(N:List Str)(sc:Scope)(fs:List (String×Nat))(bt:List String)(cn:List (String×D))(xs:List (String×Bool))(ot:OT):CT:={ N:=N,kd:=sc.names,fn:=true,fs:=fs,bt:=bt,cn:=cn,xs:=xs,ot:=ot }
section
variable {Φ:aa} {P:Program} {w:World} {K:PF} {mg:Str->Option Value} {base:Heap} {k:Nat} {fs:List (String×Nat)} {bt:List String} {cn:List (String×D)} {xs:List (String×Bool)} {ot:OT}
theorem Hc{N ps:List Str}{sc:Scope}{qual:Str}{f:Addr}{cdv:Value}{A:Around}{outer:List Env}{s:Shared}{H:Hp}{EX:XK}{B:Bs}(T:Bse Φ P w K mg base (CX1 P w) k fs bt cn xs ot)(hs:fnB N ps sc=true)
  (hr:Room k (A.deeper (envOfC qual sc s.heap.objs.size f cdv))):Stat Φ (CX1 P w) k (aH N sc fs bt cn xs ot) noE B (cR (CX1 P w) P w K mg base N qual sc f cdv A outer s H EX).nox where
 N:=rfl
 nd:=(ym hs).nd
 calm:=rfl
 own:=PassesOwn.never
 kd:=rfl
 vis:=λx h=>by
  have h:iR (sc.names.lookup x)=true:=h;show sc.names.lookup x=_\/sc.names.lookup x=_\/sc.names.lookup x=_;unfold iR at h;split at h <;> first | (cases h;done) |simp_all
 cel:=λx h=>h
 glo:=λx h=>h
 sto:=λx h=>by
  have h:(sc.names.lookup x==some .local||(true&&sc.names.lookup x==some .cell))=true:=h;rw[eS,cp,av,av]at h;exact ⟨h,.inl rfl⟩
 room:=hr
 call:=T.call
 blt:=T.blt
 con:=T.con
 exc:=⟨_,Ck _,λ_ _ _ _ _ _ _ _ _ _ q=>q.elim,λ_ _ _ _ h=>h.elim⟩
 nox:=λY=>Ck Y
 xcl:=T.xcl
 loc:=λx h=>h
 xis:=T.xis
 mth:=T.mth
 mko:=T.mko
 fld:=T.fld
 trc:=λ_=>⟨rfl,rfl,rfl⟩
theorem ab8{N ps:List Str}{sc:Scope}{qual:Str}{f:Addr}{cdv:Value}{A:Around}{outer:List Env}{s:Shared}{H:Hp}{EX:XK}{B:Bs}{E:EK}(T:Bse Φ P w K mg base (CX1 P w) k fs bt cn xs ot)(hs:fnB N ps sc=true)
  (hr:Room k (A.deeper (envOfC qual sc s.heap.objs.size f cdv))) (hE:∀x G' H' F',E x G'->Ext B.H B.F H' F'->R K H' F' G'->XR K H' F' x EX):Stat Φ (CX1 P w) k (aH N sc fs bt cn xs ot) E B (cR (CX1 P w) P w K mg base N qual sc f cdv A outer s H EX):=
 have S:=Hc (EX:=EX) (B:=B) (qual:=qual) (f:=f) (cdv:=cdv) (A:=A) (outer:=outer) (s:=s) (H:=H) T hs hr
 ⟨S.N,S.nd,S.calm,PassesOwn.leaving,S.kd,S.vis,S.cel,S.glo,S.sto,S.room,S.call,S.blt,S.con,⟨EX,XQ rfl rfl λ_ _ h=>h,Yb rfl rfl λ_ _ h=>h,hE⟩,S.nox,S.xcl,S.loc,S.xis,S.mth,S.mko,S.fld,λ_=>⟨rfl,rfl,rfl⟩⟩
theorem ab9{outer:List Env}{H:Hp}{s s':Shared}{e:Value}(h:CX1 P w outer H s (λ_ _ _=>False) e s'):False:=by obtain ⟨_,_,_,_,_,_,_,_,_,q⟩:=h;exact q
def ends(Q:D->DH->Prop):En:={ nx:=λ_ G=>Q .non G,rt:=Q,bk:=λ_ _=>False,ct:=λ_ _=>False }
def env0(ds:List D)(n:Nat):aj:=ds.map some++List.replicate n none
theorem aca{x qual:Str}{st:Stmt}{f:Addr}{fd:FuncData}(Fu:Fun K x qual st f fd)(T:Bse Φ P w K mg base (CX1 P w) k fs bt cn xs ot){N ps:List Str}{body:Sxs}(S:RF.Spec)(n m:Nat)(hs:fnB N ps (aq st)=true)
  (hc:aB (aH N (aq st) fs bt cn xs ot) body (aF st)=true) (hn:ps.length=n) (hm:N.length=n+m)
  (hw:∀ds G a,ds.length=n->S.pre ds G a->au Φ body (S.exc a) (env0 ds m) G (ends (S.post a))):FnOk P w K mg base (CX1 P w) (k+1) f fd ps (lift K n S):=by
 refine Fu.okX (ym hs) (λvs H Q E h=>by rw[hn];exact h.1) λcdv A outer s H vs Q EX hr hsp=>?_;obtain ⟨hl,F,G,ds,r,rs,a,h1,h2,h3⟩:=hsp;have St:Stat Φ (CX1 P w) k (aH N (aq st) fs bt cn xs ot) (S.exc a) ⟨H,F⟩ (cR (CX1 P w) P w K mg base N qual (aq st) f cdv A outer s H EX):=ab8 T hs hr λx G' H' F' hx e r'=>h3 x G' hx H' F' e r';refine ⟨_,iZ St body hc,?_⟩;refine ⟨env0 ds m,F,G,Ext.refl _ _,?_,r,cU body (D:=ends (S.post a)) ⟨λρ G' q=>?_,λd G' q=>h2 d G' q,λ_ _ q=>False.elim q,λ_ _ q=>False.elim q⟩ (hw ds G a (by rw[rs.length];exact hl) h1)⟩
 ·unfold L2.start;rw[show N.length - vs.length=m by omega];exact EnvR.start m rs
 ·intro H' F' σ' x1 _ r1;exact h2 .non G' q H' F' .non x1 r1 rfl
theorem uG{x qual:Str}{st:Stmt}{f:Addr}{fd:FuncData}(Fu:Fun K x qual st f fd)(T:Bse Φ P w K mg base (CX1 P w) k fs bt cn xs ot){N ps:List Str}{body:Sxs}(S:RF.Spec)(n m:Nat)(hs:fnB N ps (aq st)=true)
  (hc:aB (aH N (aq st) fs bt cn xs ot) body (aF st)=true) (hn:ps.length=n) (hm:N.length=n+m)
  (hw:∀ds G a,ds.length=n->S.pre ds G a->au Φ body noE (env0 ds m) G (ends (S.post a))):FnOk P w K mg base (CX1 P w) (k+1) f fd ps (lift K n S):=by
 refine Fu.okX (ym hs) (λvs H Q E h=>by rw[hn];exact h.1) λcdv A outer s H vs Q EX hr hsp=>?_;obtain ⟨hl,F,G,ds,r,rs,a,h1,h2,h3⟩:=hsp;have St:Stat Φ (CX1 P w) k (aH N (aq st) fs bt cn xs ot) noE ⟨H,F⟩ (cR (CX1 P w) P w K mg base N qual (aq st) f cdv A outer s H EX).nox:=Hc T hs hr;refine ⟨_,(iZ St body hc).nox,?_⟩;refine ⟨env0 ds m,F,G,Ext.refl _ _,?_,r,cU body (D:=ends (S.post a)) ⟨λρ G' q=>?_,λd G' q=>h2 d G' q,λ_ _ q=>False.elim q,λ_ _ q=>False.elim q⟩ (hw ds G a (by rw[rs.length];exact hl) h1)⟩
 ·unfold L2.start;rw[show N.length - vs.length=m by omega];exact EnvR.start m rs
 ·intro H' F' σ' x1 _ r1;exact h2 .non G' q H' F' .non x1 r1 rfl
end
def bx(pre:List D->DH->Prop)(post:List D->DH->D->DH->Prop):RF.Spec where
 A:=List D×DH
 pre:=λds G a=>a=(ds,G)/\pre ds G
 post:=λa d G'=>post a.1 a.2 d G'
 exc:=λ_ _ _=>False
theorem bU{pre:List D->DH->Prop}{post:List D->DH->D->DH->Prop}{ds:List D}{G:DH}{k:D->DH->Prop}{E:EK}(h:pre ds G)(hk:∀d G',post ds G d G'->k d G'):(bx pre post).t ds G k E:=
 ⟨(ds,G),⟨rfl,h⟩,hk,λ_ _ z=>z.elim⟩
theorem bV{Φ:aa}{body:Sxs}{m n:Nat}{pre:List D->DH->Prop}{post:List D->DH->D->DH->Prop}(h:∀ds G,pre ds G->au Φ body noE (env0 ds m) G (ends (post ds G))):
  ∀ds G a,ds.length=n->(bx pre post).pre ds G a->au Φ body noE (env0 ds m) G (ends ((bx pre post).post a)):=by
 rintro ds G a _ ⟨rfl,h1⟩;exact h ds G h1
def aD(f:List D->Option D):RF.Spec:=bx (λds _=>(f ds).isSome=true) (λds G d G'=>G'=G/\f ds=some d)
theorem bM{f:List D->Option D}{ds:List D}{d:D}{G:DH}{k:D->DH->Prop}{E:EK}(h:f ds=some d)(hk:k d G):(aD f).t ds G k E:=
 bU (by rw[h];rfl) λd' G' ⟨e1,e2⟩=>by rw[h]at e2;cases e2;rw[e1];exact hk
theorem cN{Φ:aa}{body:Sxs}{m n:Nat}{f:List D->Option D}(h:∀ds G d,f ds=some d->au Φ body noE (env0 ds m) G (ends λd' G'=>G'=G/\d'=d)):
  ∀ds G a,ds.length=n->(aD f).pre ds G a->au Φ body noE (env0 ds m) G (ends ((aD f).post a)):=by
 refine bV λds G hf=>?_;obtain ⟨d,e⟩:=ck.mp hf;refine cU body (D:=ends λd' G'=>G'=G/\d'=d) ⟨λρ G' q=>?_,λd' G' q=>?_,λ_ _ q=>q,λ_ _ q=>q⟩ (h ds G d e)
 ·exact ⟨q.1,by rw[e];exact fe some q.2.symm⟩
 ·exact ⟨q.1,by rw[e];exact fe some q.2.symm⟩
theorem acb{step:D->aj->DH->(aj->DH->Prop)->Prop}{g:Hld}{items:List D}{ρ:aj}{G:DH}{k:aj->DH->Prop}(P:Nat->aj->DH->Prop)(h0:P 0 ρ G)(hh:∀i ρ G,P i ρ G->held g G)
  (hs:∀i d ρ G,items[i]?=some d->P i ρ G->∀kk:aj->DH->Prop,(∀ρ' G',P (i+1) ρ' G'->kk ρ' G')->step d ρ G kk) (he:∀ρ G,P items.length ρ G->k ρ G):forLoop step g items ρ G k:=by
 have go:∀(l:List D)(i:Nat)(ρ:aj)(G:DH),items.drop i=l->i<=items.length->P i ρ G->forLoop step g l ρ G k:=by
  intro l;induction l with
  |nil=>
   intro i ρ G e hi p;have:i=items.length:=by have:=fe List.length e;rw[de]at this;simp at this;omega
   subst this;exact ⟨hh _ _ _ p,he _ _ p⟩
  |cons d l ih=>
   intro i ρ G e hi p;have hl:i < items.length:=by
    by_cases h:i < items.length
    ·exact h
    ·rw[List.drop_eq_nil_of_le (by omega)]at e;cases e
   rw[bP hl]at e;injection e with e1 e2;refine ⟨hh _ _ _ p,hs i d ρ G (by rw[bS hl,e1]) p _ λρ' G' p'=>ih (i+1) ρ' G' e2 hl p'⟩
 exact go _ 0 ρ G (by simp) (d3 _) h0
theorem Hf{step:D->aj->DH->(Option D->aj->DH->Prop)->Prop}{g:Hld}{items acc:List D}{ρ:aj}{G:DH}{k:List D->DH->Prop}(P:Nat->List D->aj->DH->Prop)(h0:P 0 acc ρ G)(hh:∀i acc ρ G,P i acc ρ G->held g G)
  (hl:acc.length+items.length<=sz)
  (hs:∀i d acc ρ G,items[i]?=some d->P i acc ρ G->∀kk:Option D->aj->DH->Prop,(∀o ρ' G',P (i+1) (acc++o.toList) ρ' G'->kk o ρ' G')->step d ρ G kk) (he:∀acc ρ G,P items.length acc ρ G->k acc G):compLoop step g items acc ρ G k:=by
 have go:∀(l:List D)(i:Nat)(acc:List D)(ρ:aj)(G:DH),items.drop i=l->i<=items.length->acc.length+l.length<=sz->P i acc ρ G->compLoop step g l acc ρ G k:=by
  intro l;induction l with
  |nil=>
   intro i acc ρ G e hi ha p;have:i=items.length:=by have:=fe List.length e;rw[de]at this;simp at this;omega
   subst this;exact ⟨hh _ _ _ _ p,by simpa using ha,he _ _ _ p⟩
  |cons d l ih=>
   intro i acc ρ G e hi ha p;have hl:i < items.length:=by
    by_cases h:i < items.length
    ·exact h
    ·rw[List.drop_eq_nil_of_le (by omega)]at e;cases e
   rw[bP hl]at e;injection e with e1 e2;have ha':acc.length+(l.length+1)<=sz:=ha;refine ⟨hh _ _ _ _ p,by omega,hs i d acc ρ G (by rw[bS hl,e1]) p _ λo ρ' G' p'=>?_⟩;cases o with
   |some y=>exact ih (i+1) (acc++[y]) ρ' G' e2 hl (by rw[bq];simp;omega) p'
   |none=>exact ih (i+1) acc ρ' G' e2 hl (by omega) (by simpa using p')
 exact go _ 0 acc ρ G (by simp) (d3 _) hl h0
theorem acd{step:D->aj->DH->(Option D->aj->DH->Prop)->Prop}{items:List D}{ρ:aj}{G:DH}{k:List D->DH->Prop}(g:Hld)(f:D->Option D)(I:aj->Prop)(h0:I ρ)(hg:held g G)(hl:items.length<=sz)
  (hs:∀d ρ,d∈items->I ρ->∀kk:Option D->aj->DH->Prop,(∀ρ',I ρ'->kk (f d) ρ' G)->step d ρ G kk) (he:k (items.filterMap f) G):compLoop step g items [] ρ G k:=by
 refine Hf (λi acc ρ' G'=>I ρ'/\G'=G/\acc=(items.take i).filterMap f) ⟨h0,rfl,rfl⟩ (λi acc ρ' G' p=>by rw[p.2.1];exact hg) (by simpa using hl) ?_ ?_
 ·rintro i d acc ρ' G' hd ⟨p1,rfl,rfl⟩ kk hk;refine hs d ρ' (b6 hd) p1 kk λρ2 i2=>hk _ _ _ ⟨i2,rfl,?_⟩;rw[fk,hd,List.filterMap_append];congr 1
 ·rintro acc ρ' G' ⟨_,rfl,rfl⟩;rw[eW];exact he
theorem ace{step:D->aj->DH->(Option D->aj->DH->Prop)->Prop}{items:List D}{ρ:aj}{G:DH}{k:List D->DH->Prop}(g:Hld)(f:D->D)(I:aj->Prop)(h0:I ρ)(hg:held g G)(hl:items.length<=sz)
  (hs:∀d ρ,d∈items->I ρ->∀kk:Option D->aj->DH->Prop,(∀ρ',I ρ'->kk (some (f d)) ρ' G)->step d ρ G kk) (he:k (items.map f) G):compLoop step g items [] ρ G k:=
 acd g (λd=>some (f d)) I h0 hg hl hs (by rw[<-List.filterMap_eq_map]at he;exact he)
theorem mj{α:Type}(f:α->Bool):∀l:List α,bools (l.map λx=>D.bl (f x))=some (l.map f)
 |[]=>rfl
 |x::l=>by simp[bools,mj f l]
theorem strs_map{α:Type}(f:α->List Nat):∀l:List α,bw (l.map λx=>D.str (f x))=some (l.map f)
 |[]=>rfl
 |x::l=>by simp[bw,strs_map f l]
theorem Hg:∀l:List (List Nat),eF [] l=l.flatten
 |[]=>rfl
 |[x]=>by simp[eF]
 |x::y::r=>by simp[eF,Hg (y::r)]
def Sa(G G':DH):Prop:=∀b o,G b=some o->G' b=some o
def Sb(p:Addr)(G G':DH):Prop:=∀b o,G b=some o->b≠p->G' b=some o
theorem Sa.refl(G:DH):Sa G G:=λ_ _ h=>h
theorem Sb.refl(p:Addr)(G:DH):Sb p G G:=λ_ _ h _=>h
theorem Sa.trans{G G1 G2:DH}(a:Sa G G1)(b:Sa G1 G2):Sa G G2:=λc o h=>b c o (a c o h)
theorem Sb.trans{p:Addr}{G G1 G2:DH}(a:Sb p G G1)(b:Sb p G1 G2):Sb p G G2:=λc o h n=>b c o (a c o h n) n
theorem Sa.sb{p:Addr}{G G':DH}(a:Sa G G'):Sb p G G':=λc o h _=>a c o h
theorem Sa.new{G:DH}{p:Addr}{o:DO}(h:G p=none):Sa G (aQ G p o):=λb u e=>by rw[dN (v6 e h)];exact e
theorem Sb.upd{G:DH}{p:Addr}{o:DO}:Sb p G (aQ G p o):=λb u e n=>by rw[dN n];exact e
theorem Sa.then{p:Addr}{G G1 G2:DH}(a:Sa G G1)(hp:G p=none)(b:Sb p G1 G2):Sa G G2:=λc o h=>b c o (a c o h) (v6 h hp)
theorem Hh{α:Type}{a:α}{l:List α}:atI (a::l) 0=some a:=b8 (j:=0) rfl
theorem Hi{α:Type}{a b:α}{l:List α}:atI (a::b::l) 1=some b:=b8 (j:=1) rfl
theorem Hj{α:Type}{a b c:α}{l:List α}:atI (a::b::c::l) 2=some c:=b8 (j:=2) rfl
theorem Hk{α:Type}{a b c d:α}{l:List α}:atI (a::b::c::d::l) 3=some d:=b8 (j:=3) rfl
theorem acf{n j:Nat}(h:j < n):ixN n (j:Int)=some j:=by unfold ixN;rw[if_pos (by omega),if_pos (by omega)];simp
theorem Hl{n:Nat}:ixN (n+1) 0=some 0:=by unfold ixN;rw[if_pos (by omega),if_pos (by omega)];rfl
theorem Hm{n:Nat}:ixN (n+2) 1=some 1:=by unfold ixN;rw[if_pos (by omega),if_pos (by omega)];rfl
theorem Hn{n:Nat}:ixN (n+3) 2=some 2:=by unfold ixN;rw[if_pos (by omega),if_pos (by omega)];rfl
theorem acg{α:Type}{xs:List α}{i:Int}(h0:0<=i)(h1:i < xs.length):∃a,atI xs i=some a/\a∈xs:=by
 obtain ⟨n,rfl⟩:=cq h0;have hn:n < xs.length:=by omega
 exact ⟨xs[n],b8 (by simp[hn]),ee _⟩
theorem Ho{α:Type}(xs:List α)(lo hi:Option Int):(cut xs lo hi).length<=xs.length:=by unfold cut;rw[dE,de];omega
theorem ach{l:List D}:bR l []=l.isEmpty:=by cases l <;> rfl
theorem yo{α:Type}(l:List α)(n:Nat):cut l none (some (n:Int))=l.take n:=by
 unfold cut;rw[show HT.sIx l.length 0 none=0 from rfl,HT.Bd,List.drop_zero,Nat.sub_zero];by_cases h:n<=l.length
 ·rw[Nat.min_eq_left h]
 ·rw[Nat.min_eq_right (by omega),eg (aw _),eg (by omega)]
theorem Hq{α:Type}(l:List α)(n:Nat):cut l (some (n:Int)) none=l.drop n:=by
 unfold cut;rw[show HT.sIx l.length l.length none=l.length from rfl,HT.Bd];by_cases h:n<=l.length
 ·rw[Nat.min_eq_left h,eg (by rw[de];exact aw _)]
 ·rw[Nat.min_eq_right (by omega),Nat.sub_self,List.take_zero,List.drop_eq_nil_of_le (by omega)]
theorem Hr{α:Type}(l:List α)(n:Nat):cut l (some ((n:Int)+1)) none=l.drop (n+1):=Hq l (n+1)
theorem yp:∀{l:List D},(∀d∈l,nr d=true)->nrs l=true
 |[],_=>rfl
 |a::l,h=>by rw[nrs,h a br,yp λd hd=>h d (ba _ hd)];rfl
theorem Hs{n:Nat}:∀{l:List D},(∀d∈l,dpt d<=n)->aW l<=n
 |[],_=>d3 _
 |a::l,h=>by rw[aW];exact Nat.max_le.mpr ⟨h a br,Hs λd hd=>h d (ba _ hd)⟩
theorem aci{α:Type}{motive:List α->Prop}(l:List α)(nil:motive [])(snoc:∀(l:List α)(a:α),motive l->motive (l++[a])):motive l:=by
 have go:∀(n:Nat)(l:List α),l.length=n->motive l:=by
  intro n;induction n with
  |zero=>intro l h;rw[cy.mp h];exact nil
  |succ n ih=>
   intro l h;have hne:l≠[]:=by rintro rfl;simp at h
   rw[<-fg hne];exact snoc _ _ (ih _ (by rw[List.length_dropLast];omega))
 exact go _ l rfl
section
variable {G:DH} {k:D->DH->Prop} {fz:Bool} {kb:Bool->Prop} {kd:D->Prop} {p:Addr}
theorem Ht{i j:Int}:cg .Add fz (.int i) (.int j) G k=k (.int (i+j)) G:=rfl
theorem Hu{x y:List Nat}:cg .Add fz (.str x) (.str y) G k=(x.length+y.length<=sz/\k (.str (x++y)) G):=rfl
theorem Hv{x y:List D}:cg .Add fz (.lst x) (.lst y) G k=(x.length+y.length<=sz/\mk fz (x++y) G k):=rfl
theorem Hw{x y:List D}:cg .Add fz (.tup x) (.tup y) G k=(x.length+y.length<=sz/\k (.tup (x++y)) G):=rfl
theorem Hx{i j:Int}:cg .Sub fz (.int i) (.int j) G k=k (.int (i - j)) G:=rfl
theorem Hy{i j:Int}:cg .Mult fz (.int i) (.int j) G k=(CMul i j/\k (.int (i * j)) G):=rfl
theorem Hz{x:List D}{n:Int}:cg .Mult fz (.tup x) (.int n) G k=(2<=n/\n<=1000/\x≠[]/\x.length * n.toNat<=sz/\k (.tup (reps x n.toNat)) G):=rfl
theorem HB{x:List D}{n:Int}:cg .Mult fz (.lst x) (.int n) G k=(0<=n/\n<=1000/\x.length * n.toNat<=sz/\mk fz (reps x n.toNat) G k):=rfl
theorem HF{x:List Nat}{n:Int}:cg .Mult fz (.str x) (.int n) G k=(0<=n/\n<=1000/\x.length * n.toNat<=sz/\k (.str (reps x n.toNat)) G):=rfl
theorem HH{i j:Int}:cg .FloorDiv fz (.int i) (.int j) G k=((0 < j/\j < 1152921504606846976)/\k (.int (i / j)) G):=rfl
theorem HJ{i j:Int}:cg .Mod fz (.int i) (.int j) G k=(0 < j/\k (.int (i % j)) G):=rfl
theorem HN{i j:Int}:cg .Pow fz (.int i) (.int j) G k=(qw i j/\k (.int (i ^ j.toNat)) G):=rfl
def fH:D->Bool
 |.non=>true
 |_=>false
theorem HQ{a b:D}:aX .Eq a b kb=((nr a=true/\nr b=true/\min (dpt a) (dpt b)<=60)/\kb (deq a b)):=rfl
theorem HR{a b:D}:aX .NotEq a b kb=((nr a=true/\nr b=true/\min (dpt a) (dpt b)<=60)/\kb (!deq a b)):=rfl
theorem HS{i j:Int}:aX .Lt (.int i) (.int j) kb=kb (decide (i < j)):=rfl
theorem HW{i j:Int}:aX .LtE (.int i) (.int j) kb=kb (decide (i<=j)):=rfl
theorem HX{i j:Int}:aX .Gt (.int i) (.int j) kb=kb (decide (j < i)):=rfl
theorem HY{i j:Int}:aX .GtE (.int i) (.int j) kb=kb (decide (j<=i)):=rfl
theorem H9{i j:List Nat}:aX .Lt (.str i) (.str j) kb=kb (decide (i < j)):=rfl
theorem Ia{i j:List Nat}:aX .LtE (.str i) (.str j) kb=kb (!decide (j < i)):=rfl
theorem Ib{a:D}:aX .Is a .non kb=kb (fH a):=by cases a <;> rfl
theorem Ie{a:D}:aX .IsNot a .non kb=kb (!fH a):=by cases a <;> rfl
theorem Ig{a b:Bool}:aX .Is (.bl a) (.bl b) kb=kb (a==b):=rfl
theorem Ih{a b:Bool}:aX .IsNot (.bl a) (.bl b) kb=kb (a != b):=rfl
theorem Ii{c:Nat}{l:List Nat}:aX .In (.str [c]) (.str l) kb=kb (l.contains c):=rfl
theorem Ij{c:Nat}{l:List Nat}:aX .NotIn (.str [c]) (.str l) kb=kb (!l.contains c):=rfl
theorem Ik{a:D}{l:List D}:aX .In a (.lst l) kb=((nr a=true/\nrs l=true/\aW l<=60)/\kb (isIn a l)):=rfl
theorem Il{a:D}{l:List D}:aX .In a (.tup l) kb=((nr a=true/\nrs l=true/\aW l<=60)/\kb (isIn a l)):=rfl
theorem Im{a:D}{l:List D}:aX .NotIn a (.lst l) kb=((nr a=true/\nrs l=true/\aW l<=60)/\kb (!isIn a l)):=rfl
theorem Io{a:D}{l:List D}:aX .NotIn a (.tup l) kb=((nr a=true/\nrs l=true/\aW l<=60)/\kb (!isIn a l)):=rfl
theorem Ip{i:Int}:fH (.int i)=false:=rfl
theorem Ir{i:Bool}:fH (.bl i)=false:=rfl
theorem Iu{i:List Nat}:fH (.str i)=false:=rfl
theorem Iv{i:List D}:fH (.tup i)=false:=rfl
theorem Iw{i:List D}:fH (.lst i)=false:=rfl
theorem Iz{i:Addr}:fH (.ref i)=false:=rfl
theorem IK:fH .non=true:=rfl
def aZ{α:Type}(o:Option α)(k:α->Prop):Prop:=match o with |some a=>k a |none=>False
theorem IV{α:Type}{a:α}{k:α->Prop}:aZ (some a) k=k a:=rfl
theorem bN{α:Type}{o:Option α}{a:α}{k:α->Prop}(e:o=some a)(h:k a):aZ o k:=by rw[e];exact h
theorem IW{α:Type}{xs:List α}{i:Int}{k:α->Prop}(h0:0<=i)(h1:i < xs.length)(h:∀a,a∈xs->k a):aZ (atI xs i) k:=by obtain ⟨a,e,m⟩:=acg h0 h1;exact bN e (h a m)
theorem Ja{ds:List D}{i:Int}:cj (.lst ds) (.int i) kd=aZ (atI ds i) kd:=by unfold cj aZ;(try dsimp only) <;> (cases atI ds i <;> rfl)
theorem Jb{ds:List D}{i:Int}:cj (.tup ds) (.int i) kd=aZ (atI ds i) kd:=by unfold cj aZ;(try dsimp only) <;> (cases atI ds i <;> rfl)
theorem Jc{l:List Nat}{i:Int}:cj (.str l) (.int i) kd=aZ (atI l i) (λc=>kd (.str [c])):=by unfold cj aZ;(try dsimp only) <;> (cases atI l i <;> rfl)
theorem Jd{ds:List D}{lo hi:Option Int}:eE fz (.lst ds) lo hi G k=mk fz (cut ds lo hi) G k:=rfl
theorem Jf{ds:List D}{y:D}:jL fz (.lst ds) y G k=(y=.int (-1)/\mk fz ds.reverse G k):=rfl
theorem Jg{ds:List Int}{lo hi:Option Int}:eE fz (.scr ds) lo hi G k=mk fz ((cut ds lo hi).map .int) G k:=rfl
theorem Jh{ds:List D}{lo hi:Option Int}:eE fz (.tup ds) lo hi G k=k (.tup (cut ds lo hi)) G:=rfl
theorem Ji{ds:List Nat}{lo hi:Option Int}:eE fz (.str ds) lo hi G k=k (.str (cut ds lo hi)) G:=rfl
theorem Jj{ds:List D}:opB .len [.lst ds] kd=kd (.int ds.length):=rfl
theorem Jl{ds:List D}:opB .len [.tup ds] kd=kd (.int ds.length):=rfl
theorem Jm{ds:List Nat}:opB .len [.str ds] kd=kd (.int ds.length):=rfl
theorem Jo{ds:List D}:opB .all [.lst ds] kd=aZ (bools ds) (λbs=>kd (.bl (bs.all id))):=by unfold opB qH aZ;(try dsimp only) <;> (cases bools ds <;> rfl)
theorem Jp{b:Bool}:opB .int [.bl b] kd=kd (.int (if b then 1 else 0)):=rfl
theorem Jq{b:Int}:opB .int [.int b] kd=kd (.int b):=rfl
theorem Jr{l:List Nat}:opB .int [.str l] kd=aZ (PySem.intText? (tx l)) (λn=>l.length<=640/\kd (.int n)):=by unfold opB qI aZ;(try dsimp only) <;> (cases PySem.intText? (tx l) <;> rfl)
theorem Js{ds:List D}:opB .sum [.lst ds] kd=aZ (cu ds) (λns=>kd (.int ns.sum)):=by unfold opB wk aZ;(try dsimp only) <;> (cases cu ds <;> rfl)
theorem Jt{a:Int}:opB .str [.int a] kd=((0<=a/\a < 100)/\kd (.str (gO a.toNat))):=rfl
theorem Ju{a:Int}:opB .abs [.int a] kd=kd (.int (if a < 0 then -a else a)):=rfl
theorem Jv{a b:Int}:opB .min2 [.int a,.int b] kd=kd (.int (if b < a then b else a)):=rfl
theorem Jw{a b:Int}:opB .max [.int a,.int b] kd=kd (.int (if b > a then b else a)):=rfl
theorem Jx{ds:List D}{kl:List D->Prop}:cJ .sorted [.tup ds] kl=aZ (cu ds) (λns=>ns.length < 64/\∀ns':List Int,ns'.Perm ns->ns'.Pairwise (·<=·)->kl (ns'.map D.int)):=by unfold cJ qJ aZ;(try dsimp only) <;> (cases cu ds <;> rfl)
theorem Jy{ds:List D}{kl:List D->Prop}:cJ .sorted [.lst ds] kl=aZ (bw ds) (λls=>ls.length < 64/\∀ls':List (List Nat),ls'.Perm ls->PyProof.Rows.sortedS (ls'.map tx)=true->kl (ls'.map D.str)):=by unfold cJ qJ aZ;(try dsimp only) <;> (cases bw ds <;> rfl)
theorem JC{ds:List D}:opB .tuple [.lst ds] kd=kd (.tup ds):=rfl
theorem JD{ds:List D}:opB .tuple [.tup ds] kd=kd (.tup ds):=rfl
theorem JF{ds:List D}{kl:List D->Prop}:cJ .list [.lst ds] kl=kl ds:=rfl
theorem JG{ds:List D}{kl:List D->Prop}:cJ .list [.tup ds] kl=kl ds:=rfl
theorem JH{l:List Nat}{kl:List D->Prop}:cJ .list [.str l] kl=kl (l.map λc=>.str [c]):=rfl
theorem JK{s:List Nat}{ds:List D}:opM .join (.str s) [.lst ds] G k=aZ (bw ds) (λls=>((ls.map (·.length)).sum+ls.length * s.length<=sz)/\k (.str (eF s ls)) G):=by unfold opM qK aZ;(simp only[ce,eP,view]) <;> (cases bw ds <;> rfl)
def trk(G:DH)(p:Addr)(k:List D->Prop):Prop:=match G p with |some (.lst ds)=>k ds |none=>False
theorem dW{ds:List D}{k:List D->Prop}(e:G p=some (.lst ds)):trk G p k=k ds:=by unfold trk;rw[e]
theorem JL{x:D}:opM .append (.ref p) [x] G k=trk G p (λds=>ds.length < sz/\k .non (aQ G p (.lst (ds++[x])))):=by unfold opM qL trk;(try dsimp only) <;> (cases G p <;> first |rfl | (rename_i o;cases o;rfl))
theorem JM{x:D}{i:Int}:opM .insert (.ref p) [.int i,x] G k=trk G p (λds=>ds.length < sz/\0<=i/\i<=1000000/\k .non (aQ G p (.lst (ds.take i.toNat++x::ds.drop i.toNat)))):=by unfold opM qN trk;(try dsimp only) <;> (cases G p <;> first |rfl | (rename_i o;cases o;rfl))
theorem JN:recv .insert (.ref p) G=trk G p (λ_=>True):=by unfold recv trk;(try dsimp only) <;> (cases G p <;> first |rfl | (rename_i o;cases o;rfl))
theorem JP{xs:List D}:opM .extend (.ref p) [.lst xs] G k=trk G p (λds=>ds.length+xs.length < sz/\k .non (aQ G p (.lst (ds++xs)))):=by unfold opM qM trk;(simp only[ce,eP,view]) <;> (cases G p <;> first |rfl | (rename_i o;cases o;rfl))
theorem yq{ds:List D}:opM .count (.lst ds) [.bl true] G k=aZ (bools ds) (λbs=>k (.int (bs.count true:Nat)) G):=by unfold opM qO aZ;(try dsimp only[view]) <;> (cases bools ds <;> rfl)
theorem yr{ds:List D}:opM .index (.lst ds) [.bl true] G k=aZ (bools ds) (λbs=>true∈bs/\k (.int (bs.idxOf true:Nat)) G):=by unfold opM qP aZ;(try dsimp only[view]) <;> (cases bools ds <;> rfl)
theorem JQ{ds:List D}:recv .count (.lst ds) G=True:=rfl
theorem JR{ds:List D}:recv .index (.lst ds) G=True:=rfl
theorem JS{s:List Nat}:recv .join (.str s) G=True:=rfl
theorem JT:recv .append (.ref p) G=trk G p (λ_=>True):=by unfold recv trk;(try dsimp only) <;> (cases G p <;> first |rfl | (rename_i o;cases o;rfl))
theorem JV:recv .extend (.ref p) G=trk G p (λ_=>True):=by unfold recv trk;(try dsimp only) <;> (cases G p <;> first |rfl | (rename_i o;cases o;rfl))
theorem JW{i:Int}{x:D}{kg:DH->Prop}:eG (.ref p) (.int i) x G kg=trk G p (λds=>aZ (ixN ds.length i) (λj=>kg (aQ G p (.lst (ds.set j x))))):=by
 unfold eG trk aZ
 (try dsimp only) <;> (cases G p <;> first |rfl | (rename_i o;cases o;(try dsimp only) <;> (rename_i ds;cases ixN ds.length i <;> rfl)))
theorem JX{i j:Int}:dR .Add (.int i) (.int j) kd=kd (.int (i+j)):=rfl
theorem JZ{x y:List Nat}:dR .Add (.str x) (.str y) kd=(x.length+y.length<=sz/\kd (.str (x++y))):=rfl
theorem J0{i j:Int}:dR .Sub (.int i) (.int j) kd=kd (.int (i - j)):=rfl
theorem J1{xs:List D}:mk true xs G k=k (.lst xs) G:=rfl
theorem J2{xs:List D}:mk false xs G k=∀p,G p=none->k (.ref p) (aQ G p (.lst xs)):=rfl
theorem J7:view G .non=.non:=rfl
theorem J8{b:Bool}:view G (.bl b)=.bl b:=rfl
theorem J9{b:Int}:view G (.int b)=.int b:=rfl
theorem Ka{b:List Nat}:view G (.str b)=.str b:=rfl
theorem Kc{b:List D}:view G (.tup b)=.tup b:=rfl
theorem Kd{b:List D}:view G (.lst b)=.lst b:=rfl
theorem Ke{C f:String}{q:Addr}:view G (.obj C f q)=.obj C f q:=rfl
theorem Kf{b:String}:view G (.exn b)=.exn b:=rfl
theorem Kg{b:List Int}:view G (.scr b)=.scr b:=rfl
theorem cO{ds:List D}(e:G p=some (.lst ds)):view G (.ref p)=.lst ds:=by unfold view;dsimp only;rw[e]
theorem Kh:truth .non=some false:=rfl
theorem Kl{b:Bool}:truth (.bl b)=some b:=rfl
theorem Km{i:Int}:truth (.int i)=some (i != 0):=rfl
theorem Ko{l:List Nat}:truth (.str l)=some (!l.isEmpty):=rfl
theorem Kp{l:List D}:truth (.tup l)=some (!l.isEmpty):=rfl
theorem Kq{l:List D}:truth (.lst l)=some (!l.isEmpty):=rfl
theorem Kr{l:List D}:itemsOf G (.lst l)=some (l,[]):=rfl
theorem Ks{l:List D}:itemsOf G (.tup l)=some (l,[]):=rfl
theorem Ku{l:List Nat}:itemsOf G (.str l)=some (l.map λc=>.str [c],[]):=rfl
theorem Kv{t:String}:isT t .non=some false:=rfl
theorem Kw {t:String} {b:Bool}:isT t (.bl b)=some (t=="bool"||t=="int"):=rfl
theorem Ky {t:String} {b:Int}:isT t (.int b)=some (t=="int"):=rfl
theorem Kz {t:String} {b:List Nat}:isT t (.str b)=some (t=="str"):=rfl
theorem is_tup {t:String} {b:List D}:isT t (.tup b)=some (t=="tuple"):=rfl
theorem KC {t:String} {b:List D}:isT t (.lst b)=some (t=="list"):=rfl
theorem KD{i:Nat}{d:D}{ρ:aj}{kr:aj->Prop}:aP (.nm i) d ρ G kr=kr (ρ.set i (some d)):=rfl
theorem KH{ts:Tgs}{ds:List D}{ρ:aj}{kr:aj->Prop}:aP (.tp ts) (.lst ds) ρ G kr=bL ts ds ρ G kr:=rfl
theorem KJ{ts:Tgs}{ds:List D}{ρ:aj}{kr:aj->Prop}:aP (.tp ts) (.tup ds) ρ G kr=bL ts ds ρ G kr:=rfl
theorem KN{ρ:aj}{kr:aj->Prop}:bL .nil [] ρ G kr=kr ρ:=rfl
theorem KQ{t:Tg}{r:Tgs}{d:D}{ds:List D}{ρ:aj}{kr:aj->Prop}:bL (.cons t r) (d::ds) ρ G kr=aP t d ρ G (λρ'=>bL r ds ρ' G kr):=rfl
theorem KR:deq .non .non=true:=rfl
theorem KY  {y:Bool}:deq .non (.bl y)=false:=rfl
theorem KZ  {y:Int}:deq .non (.int y)=false:=rfl
theorem K1  {y:List Nat}:deq .non (.str y)=false:=rfl
theorem K5  {y:List D}:deq .non (.tup y)=false:=rfl
theorem K6  {y:List D}:deq .non (.lst y)=false:=rfl
theorem K7{x:Bool} :deq (.bl x) .non=false:=rfl
theorem K8{x:Bool}{y:Bool}:deq (.bl x) (.bl y)=(x==y):=by rw[deq]
theorem K9{x:Bool}{y:List Nat}:deq (.bl x) (.str y)=false:=rfl
theorem La{x:Bool}{y:List D}:deq (.bl x) (.tup y)=false:=rfl
theorem Lb{x:Bool}{y:List D}:deq (.bl x) (.lst y)=false:=rfl
theorem Ld{x:Int} :deq (.int x) .non=false:=rfl
theorem Lg{x:Int}{y:Int}:deq (.int x) (.int y)=(x==y):=by rw[deq]
theorem Lh{x:Int}{y:List Nat}:deq (.int x) (.str y)=false:=rfl
theorem Li{x:Int}{y:List D}:deq (.int x) (.tup y)=false:=rfl
theorem Lj{x:Int}{y:List D}:deq (.int x) (.lst y)=false:=rfl
theorem Lk{x:List Nat} :deq (.str x) .non=false:=rfl
theorem Ln{x:List Nat}{y:Bool}:deq (.str x) (.bl y)=false:=rfl
theorem Lp{x:List Nat}{y:Int}:deq (.str x) (.int y)=false:=rfl
theorem Lq{x:List Nat}{y:List Nat}:deq (.str x) (.str y)=(x==y):=by rw[deq]
theorem Lr{x:List Nat}{y:List D}:deq (.str x) (.tup y)=false:=rfl
theorem Ls{x:List Nat}{y:List D}:deq (.str x) (.lst y)=false:=rfl
theorem Lw{x:List D} :deq (.tup x) .non=false:=rfl
theorem Lx{x:List D}{y:Bool}:deq (.tup x) (.bl y)=false:=rfl
theorem Ly{x:List D}{y:Int}:deq (.tup x) (.int y)=false:=rfl
theorem Lz{x:List D}{y:List Nat}:deq (.tup x) (.str y)=false:=rfl
theorem LC{x:List D}{y:List D}:deq (.tup x) (.tup y)=bR x y:=by rw[deq]
theorem LK{x:List D}{y:List D}:deq (.tup x) (.lst y)=false:=rfl
theorem LQ{x:List D} :deq (.lst x) .non=false:=rfl
theorem LR{x:List D}{y:Bool}:deq (.lst x) (.bl y)=false:=rfl
theorem Ma{x:List D}{y:Int}:deq (.lst x) (.int y)=false:=rfl
theorem Mg{x:List D}{y:List Nat}:deq (.lst x) (.str y)=false:=rfl
theorem Mh{x:List D}{y:List D}:deq (.lst x) (.tup y)=false:=rfl
theorem Mi{x:List D}{y:List D}:deq (.lst x) (.lst y)=bR x y:=by rw[deq]
theorem Mj:bR [] []=true:=rfl
theorem Ml{a b:D}{as bs:List D}:bR (a::as) (b::bs)=(deq a b&&bR as bs):=by rw[bR]
theorem Mm{b:D}{bs:List D}:bR [] (b::bs)=false:=rfl
theorem Mp{b:D}{bs:List D}:bR (b::bs) []=false:=rfl
theorem Mq :nr .non=true:=rfl
theorem Mr :dpt .non=0:=rfl
theorem Ms{x:Bool}:nr (.bl x)=true:=rfl
theorem Mt{x:Bool}:dpt (.bl x)=0:=rfl
theorem Mu{x:Int}:nr (.int x)=true:=rfl
theorem Mv{x:Int}:dpt (.int x)=0:=rfl
theorem Mw{x:List Nat}:nr (.str x)=true:=rfl
theorem Mx{x:List Nat}:dpt (.str x)=0:=rfl
theorem My{x:List D}:nr (.tup x)=nrs x:=by rw[nr]
theorem Mz{x:List D}:dpt (.tup x)=aW x+1:=by rw[dpt]
theorem MF{x:List D}:nr (.lst x)=nrs x:=by rw[nr]
theorem MJ{x:List D}:dpt (.lst x)=aW x+1:=by rw[dpt]
theorem MK:nrs []=true:=rfl
theorem MN{a:D}{l:List D}:nrs (a::l)=(nr a&&nrs l):=by rw[nrs]
theorem MP:aW []=0:=rfl
theorem MT{a:D}{l:List D}:aW (a::l)=max (dpt a) (aW l):=by rw[aW]
end
theorem seq{Φ:aa}{s:Sx}{r:Sxs}{E:EK}{ρ:aj}{G:DH}{D:En}(h:∀M:aj->DH->Prop,(∀ρ' G',au Φ r E ρ' G' D->M ρ' G')->wpS Φ s E ρ G { D with nx:=M }):au Φ (.cons s r) E ρ G D:=by rw[jO];exact h _ λ_ _ x=>x
theorem last{Φ:aa}{s:Sx}{E:EK}{ρ:aj}{G:DH}{D:En}(h:wpS Φ s E ρ G D):au Φ (.cons s .nil) E ρ G D:=by rw[jO];exact wpS_mono s (D:=D) (D':={ D with nx:=λρ' G'=>au Φ .nil E ρ' G' D }) ⟨λρ' G' q=>(show au Φ .nil E ρ' G' D from by rw[jN];exact q),λ_ _ q=>q,λ_ _ q=>q,λ_ _ q=>q⟩ h
theorem done{Φ:aa}{E:EK}{ρ:aj}{G:DH}{D:En}(h:D.nx ρ G):au Φ .nil E ρ G D:=by rw[jN];exact h
section
variable {Φ:aa} {E:EK} {ρ:aj} {G:DH}
def ForG(Φ:aa)(t:Tg)(body:Sxs)(E:EK)(D:En)(items:List RF.D)(g:Hld)(ρ:aj)(G:DH):Prop:=
 forLoop (λd ρ' G' k=>aP t d ρ' G' λρ1=>au Φ body E ρ1 G' { D with nx:=k,ct:=k,bk:=D.nx }) g items ρ G D.nx
theorem M3{t:Tg}{it:It'}{body:Sxs}{D:En}:wpS Φ (.for_ t it body) E ρ G D=wpI Φ it E ρ G λitems g G1=>ForG Φ t body E D items g ρ G1:=rfl
theorem ForG.inv{t:Tg}{body:Sxs}{D:En}{items:List RF.D}{g:Hld}(P:Nat->aj->DH->Prop)(h0:P 0 ρ G)(hh:∀i ρ G,P i ρ G->held g G)
  (hs:∀i d ρ G,items[i]?=some d->P i ρ G->∀kk:aj->DH->Prop,(∀ρ' G',P (i+1) ρ' G'->kk ρ' G')->aP t d ρ G λρ1=>au Φ body E ρ1 G { D with nx:=kk,ct:=kk,bk:=D.nx })
  (he:∀ρ G,P items.length ρ G->D.nx ρ G):ForG Φ t body E D items g ρ G:=acb P h0 hh hs he
def CompG(Φ:aa)(elt:Ex)(tg:Tg)(cond:Tx)(items:List D)(g:Hld)(ρ:aj)(G:DH)(k:List D->DH->Prop):Prop:=
 compLoop (λd ρ' G' k'=>aP tg d ρ' G' λρ1=>wpT Φ cond noE ρ1 G' λb G2=>match b with |true=>wpE Φ elt noE ρ1 G2 λy G3=>k' (some y) ρ1 G3 |false=>k' none ρ1 G2) g items [] ρ G k
def j4(cap:List (Option Nat))(ρ:aj):aj:=cap.map λo=>match o with |none=>none |some j=>(ρ[j]?).join
theorem M4{ρ:aj}:j4 [] ρ=[]:=rfl
theorem M5{cap:List (Option Nat)}{ρ:aj}:j4 (none::cap) ρ=none::j4 cap ρ:=rfl
theorem M6{cap:List (Option Nat)}{ρ:aj}{j:Nat}:j4 (some j::cap) ρ=(ρ[j]?).join::j4 cap ρ:=rfl
theorem M7{fz:Bool}{elt:Ex}{tg:Tg}{it:It'}{cond:Tx}{N:List String}{cap:List (Option Nat)}{k:D->DH->Prop}:
  wpE Φ (.comp fz elt tg it cond N cap) E ρ G k=wpI Φ it E ρ G λitems g G1=>CompG Φ elt tg cond items g (j4 cap ρ) G1 λds G2=>mk fz ds G2 k:=rfl
theorem CompG.inv{elt:Ex}{tg:Tg}{cond:Tx}{items:List D}{g:Hld}{k:List D->DH->Prop}(P:Nat->List D->aj->DH->Prop)(h0:P 0 [] ρ G)(hh:∀i acc ρ G,P i acc ρ G->held g G)(hl:items.length<=sz)
  (hs:∀i d acc ρ G,items[i]?=some d->P i acc ρ G->∀kk:Option D->aj->DH->Prop,(∀o ρ' G',P (i+1) (acc++o.toList) ρ' G'->kk o ρ' G')->
   aP tg d ρ G λρ1=>wpT Φ cond noE ρ1 G λb G2=>match b with |true=>wpE Φ elt noE ρ1 G2 λy G3=>kk (some y) ρ1 G3 |false=>kk none ρ1 G2)
  (he:∀acc ρ G,P items.length acc ρ G->k acc G):CompG Φ elt tg cond items g ρ G k:=Hf P h0 hh (by simpa using hl) hs he
theorem CompG.map{elt:Ex}{tg:Tg}{cond:Tx}{items:List D}{g:Hld}{k:List D->DH->Prop}(f:D->D)(I:aj->Prop)(h0:I ρ)(hg:held g G)(hl:items.length<=sz)
  (hs:∀d ρ,d∈items->I ρ->∀kk:Option D->aj->DH->Prop,(∀ρ',I ρ'->kk (some (f d)) ρ' G)->aP tg d ρ G λρ1=>wpT Φ cond noE ρ1 G λb G2=>match b with |true=>wpE Φ elt noE ρ1 G2 λy G3=>kk (some y) ρ1 G3 |false=>kk none ρ1 G2)
  (he:k (items.map f) G):CompG Φ elt tg cond items g ρ G k:=ace g f I h0 hg hl hs he
def WhlG(Φ:aa)(c:Tx)(body:Sxs)(E:EK)(D:En)(n:Nat)(ρ:aj)(G:DH):Prop:=
 whileLoop (λρ' G' k=>wpT Φ c E ρ' G' k) (λρ' G' k=>au Φ body E ρ' G' { D with nx:=k,ct:=k,bk:=D.nx }) n ρ G D.nx
theorem yt{c:Tx}{body:Sxs}{D:En}:wpS Φ (.whl c body) E ρ G D=∃n,WhlG Φ c body E D n ρ G:=rfl
theorem WhlG.inv{c:Tx}{body:Sxs}{D:En}(P:Nat->aj->DH->Prop)(hs:∀n ρ G,P n ρ G->wpT Φ c E ρ G λb G1=>match b with |true=>∀kk:aj->DH->Prop,(∀m ρ' G',m < n->P m ρ' G'->kk ρ' G')->au Φ body E ρ G1 { D with nx:=kk,ct:=kk,bk:=D.nx } |false=>D.nx ρ G1):
  ∀n ρ G,P n ρ G->WhlG Φ c body E D (n+1) ρ G:=by
 intro n;induction n using Nat.strongRecOn with
 |_ n ih=>
  intro ρ G p;refine cL c (λb G1 q=>?_) (hs n ρ G p);cases b with
  |false=>exact q
  |true=>
   refine q _ λm ρ' G' hm p'=>?_;have:=ih m hm ρ' G' p';have up:∀(i j:Nat)(ρ:aj)(G:DH),i<=j->WhlG Φ c body E D i ρ G->WhlG Φ c body E D j ρ G:=by
    intro i;induction i with
    |zero=>intro j ρ G _ h;exact h.elim
    |succ i ihi=>
     intro j ρ G hij h;cases j with
     |zero=>omega
     |succ j=>
      refine cL c (λb G1 q=>?_) h;cases b with
      |false=>exact q
      |true=>exact cU body (D:={ D with nx:=λρ' G'=>WhlG Φ c body E D i ρ' G',ct:=λρ' G'=>WhlG Φ c body E D i ρ' G',bk:=D.nx }) ⟨λρ' G' z=>ihi j ρ' G' (by omega) z,λ_ _ z=>z,λ_ _ z=>z,λρ' G' z=>ihi j ρ' G' (by omega) z⟩ q
   exact up (m+1) n ρ' G' hm this
end
theorem len0{α:Type}{l:List α}(h:l.length=0):l=[]:=cy.mp h
theorem mq{α:Type}{n:Nat}{l:List α}(h:l.length=n+1):∃a r,l=a::r/\r.length=n:=by
 cases l with
 |nil=>cases h
 |cons a r=>exact ⟨a,r,rfl,Nat.succ.inj h⟩
theorem cC{α:Type}{l:List α}(h:l.length=1):∃a,l=[a]:=by obtain ⟨a,r,rfl,h2⟩:=mq h;cases len0 h2;exact ⟨a,rfl⟩
theorem bz{α:Type}{l:List α}(h:l.length=2):∃a b,l=[a,b]:=by obtain ⟨a,r,rfl,h2⟩:=mq h;obtain ⟨b,rfl⟩:=cC h2;exact ⟨a,b,rfl⟩
theorem gm{α:Type}{l:List α}(h:l.length=3):∃a b c,l=[a,b,c]:=by obtain ⟨a,r,rfl,h2⟩:=mq h;obtain ⟨b,c,rfl⟩:=bz h2;exact ⟨a,b,c,rfl⟩
theorem yu{α:Type}{l:List α}(h:l.length=4):∃a b c d,l=[a,b,c,d]:=by obtain ⟨a,r,rfl,h2⟩:=mq h;obtain ⟨b,c,d,rfl⟩:=gm h2;exact ⟨a,b,c,d,rfl⟩
theorem acj{α:Type}{l:List α}(h:l.length=5):∃a b c d e,l=[a,b,c,d,e]:=by obtain ⟨a,r,rfl,h2⟩:=mq h;obtain ⟨b,c,d,e,rfl⟩:=yu h2;exact ⟨a,b,c,d,e,rfl⟩
structure Fo(Φ:aa)(P:Program)(w:World)(K:PF)(mg:Str->Option Value)(base:Heap)(k:Nat)(f:String)(n:Nat):Prop where
 ex:∃fa fd ps,FnOk P w K mg base (CX1 P w) k fa fd ps (lift K n (Φ f))/\PySem.W.keepIn K (.ref fa)=true/\Binds K fd ps []/\mg (Str.ofString f)=some (.ref fa)
section
variable {Φ:aa} {P:Program} {w:World} {K:PF} {mg:Str->Option Value} {base:Heap} {k:Nat} {xs:List (String×Bool)} {ot:OT}
noncomputable def AllF(Φ:aa)(P:Program)(w:World)(K:PF)(mg:Str->Option Value)(base:Heap)(k:Nat):List (String×Nat)->Prop
 |[]=>True
 | (f,n)::r=>Fo Φ P w K mg base k f n/\AllF Φ P w K mg base k r
noncomputable def AllB(mg:Str->Option Value):List String->Prop
 |[]=>True
 |f::r=>mg (Str.ofString f)=none/\AllB mg r
noncomputable def AllC(K:PF)(mg:Str->Option Value):List (String×D)->Prop
 |[]=>True
 | (x,d)::r=>(∃u v,mg (Str.ofString x)=some u/\RelV v u/\∀H F,Rep K H F d v)/\AllC K mg r
theorem AllF.get:∀{fs:List (String×Nat)}{f:String}{n:Nat},AllF Φ P w K mg base k fs->(f,n)∈fs->Fo Φ P w K mg base k f n
 | (f',n')::r,f,n,h,m=>by
  rcases bo.mp m with e |m
  ·cases e;exact h.1
  ·exact AllF.get h.2 m
theorem AllB.get:∀{fs:List String}{f:String},AllB mg fs->f∈fs->mg (Str.ofString f)=none
 |f'::r,f,h,m=>by
  rcases bo.mp m with e |m
  ·cases e;exact h.1
  ·exact AllB.get h.2 m
theorem AllC.get:∀{fs:List (String×D)}{x:String}{d:D},AllC K mg fs->(x,d)∈fs->∃u v,mg (Str.ofString x)=some u/\RelV v u/\∀H F,Rep K H F d v
 | (f',n')::r,f,n,h,m=>by
  rcases bo.mp m with e |m
  ·cases e;exact h.1
  ·exact AllC.get h.2 m
noncomputable def cvB(K:PF)(C':String):Option V:=match PySem.W.nsIn K mainGlobals (Str.ofString C') with
 |some (some (.ref a))=>if qG K a then some (.ref a) else none
 |some none=>if C'=="ValueError" then some (.ty "ValueError") else none
 |_=>none
noncomputable def xiB(K:PF)(C C':String)(cv:V):Bool:=match PySem.W.nsIn K mainGlobals (Str.ofString C) with
 |some (some (.ref c))=>lC K c&&PySem.W.mroIn K c (valOf cv)==some (bB C C')&&(bB C C'||!(Value.ref c==valOf cv))
 |_=>false
noncomputable def yw(K:PF)(C:String):Bool:=match PySem.W.nsIn K mainGlobals (Str.ofString C) with
 |some (some (.ref c))=>iC K c
 |_=>false
noncomputable def xsB(K:PF)(xs:List (String×Bool)):Bool:=xs.all λp=>match p.2 with
 |true=>yw K p.1
 |false=>(cvB K p.1).any λcv=>xs.all λq=>!q.2||xiB K q.1 p.1 cv
theorem ack{h:Heap}(X:K.In h)(Gh:h.Ns mainGlobals mg){xs:List (String×Bool)}(e:xsB K xs=true)(C:String)(hC:xs.contains (C,true)=true):∃a,mg (Str.ofString C)=some (.ref a)/\iC K a=true/\PySem.W.nsIn K mainGlobals (Str.ofString C)=some (some (.ref a)):=by
 have e1:yw K C=true:=bv.mp e _ (a7.mp hC);unfold yw at e1;split at e1
 ·rename_i a hn;exact ⟨a,PySem.W.mg_of X Gh hn,e1,hn⟩
 ·cases e1
theorem acl{h:Heap}(X:K.In h)(Gh:h.Ns mainGlobals mg){xs:List (String×Bool)}(e:xsB K xs=true)(C':String)(hC:xs.contains (C',false)=true):∃cv,CV K mg C' cv/\∀C,xs.contains (C,true)=true->XI K C C' cv:=by
 have e1:((cvB K C').any λcv=>xs.all λq=>!q.2||xiB K q.1 C' cv)=true:=bv.mp e _ (a7.mp hC);obtain ⟨cv,hcv,h2⟩:=aN e1;refine ⟨cv,?_,λC hC=>?_⟩
 ·unfold cvB at hcv;split at hcv
  ·rename_i a hn;split at hcv
   ·rename_i hb;cases hcv;exact .inl ⟨a,rfl,PySem.W.mg_of X Gh hn,hb⟩
   ·cases hcv
  ·rename_i hn;split at hcv
   ·rename_i hb;cases hcv;exact .inr ⟨av.mp hb,rfl,PySem.W.mg_none_of X Gh hn⟩
   ·cases hcv
  ·cases hcv
 ·have e3:(!true||xiB K C C' cv)=true:=bv.mp h2 _ (a7.mp hC);have e3:xiB K C C' cv=true:=e3;unfold xiB at e3;split at e3
  ·rename_i c hn;rw[ae,ae,av]at e3;refine ⟨c,hn,e3.1.1,e3.1.2,λhs=>?_⟩;have:=e3.2;rw[hs,Bool.false_or,fm]at this;exact this
  ·cases e3
theorem bse{h:Heap}{fs:List (String×Nat)}{bt:List String}{cn:List (String×D)}(h1:AllF Φ P w K mg base k fs)(h2:AllB mg bt)(h3:AllC K mg cn)(X:K.In h)(Gh:h.Ns mainGlobals mg)(e:xsB K xs=true):Bse Φ P w K mg base (CX1 P w) k fs bt cn xs {}:=
 ⟨λ_ _ m=>(h1.get m).ex,λ_ m=>h2.get m,λ_ _ m=>h3.get m,ack X Gh e,acl X Gh e,(λ_ _ _ _ h=>(nomatch h)),(λ_ _ h=>(nomatch h)),(λ_ _ h=>(nomatch h))⟩
theorem yx{x:String}{i:Int}{t:Tok}(h:mg (Str.ofString x)=some (.int i t)):∃u v,mg (Str.ofString x)=some u/\RelV v u/\∀H F,Rep K H F (.int i) v:=⟨_,.int i,h,⟨t,rfl⟩,λ_ _=>rfl⟩
theorem acn{x:String}{l:List Nat}{s:Str}{t:Tok}(h:mg (Str.ofString x)=some (.str s t))(e:s=tx l)(hl:l.length<=sz):∃u v,mg (Str.ofString x)=some u/\RelV v u/\∀H F,Rep K H F (.str l) v:=⟨_,.str s,h,⟨t,rfl⟩,λ_ _=>⟨by rw[e],hl⟩⟩
theorem M8{n:Nat}{S:RF.Spec}{fa:Addr}{fd:FuncData}{ps:List Str}(h:∀ds G a,¬S.pre ds G a):FnOk P w K mg base (CX1 P w) k fa fd ps (lift K n S):=
 ⟨λ_ _ _ _ ⟨_,_,_,_,_,_,a,hp,_⟩=>absurd hp (h _ _ a),λ_ _ _ _ _ _ _ _ _ _ _ _ _ ⟨_,_,_,_,_,_,a,hp,_⟩=>absurd hp (h _ _ a)⟩
end
section
variable {Φ:aa} {P:Program} {w:World} {K:PF} {mg:Str->Option Value} {base:Heap} {k j n:Nat} {fs:List (String×Nat)} {bt:List String} {cn:List (String×D)} {xs:List (String×Bool)} {ot:OT} {x:String} {S:RF.Spec} {fa:Addr} {fd:FuncData} {ps:List Str}
theorem MthOk.mono{f C m:String}(h:MthOk Φ P w K mg base (CX1 P w) k f C m n)(hk:k<=j):MthOk Φ P w K mg base (CX1 P w) j f C m n:=by obtain ⟨c,fa,fd,ps,h1,h2,h3,h4,h5⟩:=h;exact ⟨c,fa,fd,ps,h1,h2,h3,h4,h5.mono hk⟩
theorem MkoOk.mono{C:String}(h:MkoOk Φ P w K mg base (CX1 P w) k C n)(hk:k<=j):MkoOk Φ P w K mg base (CX1 P w) j C n:=by obtain ⟨c,fa,fd,ps,sp,i,h0,h⟩:=h;exact ⟨c,fa,fd,ps,sp,i,cb h0 hk,h⟩
theorem Bse.add(B:Bse Φ P w K mg base (CX1 P w) k fs bt cn xs ot)(e:Φ x=S)(o:FnOk P w K mg base (CX1 P w) (k+j) fa fd ps (lift K n S))(h2:PySem.W.keepIn K (.ref fa)=true)(h3:Binds K fd ps [])(h4:mg (Str.ofString x)=some (.ref fa)):Bse Φ P w K mg base (CX1 P w) (k+j) ((x,n)::fs) bt cn xs ot:=by
 refine ⟨λf m hm=>?_,B.blt,B.con,B.xcl,B.xis,λf C m n h=>(B.mth f C m n h).mono (d5 _ _),λC n h=>(B.mko C n h).mono (d5 _ _),B.fld⟩;rcases bo.mp hm with e' |hm
 ·cases e';exact ⟨fa,fd,ps,by rw[e];exact o,h2,h3,h4⟩
 ·obtain ⟨fa,fd,ps,h1,h⟩:=B.call f m hm;exact ⟨fa,fd,ps,h1.mono (d5 _ _),h⟩
theorem Bse.step{qual:Str}{st:Stmt}{N:List Str}{body:Sxs}(B:Bse Φ P w K mg base (CX1 P w) k fs bt cn xs ot)(F:Fun K (Str.ofString x) qual st fa fd)(h3:Binds K fd ps [])(h4:mg (Str.ofString x)=some (.ref fa))(e:Φ x=S)(m:Nat)
  (hs:fnB N ps (aq st)=true) (hc:aB (aH N (aq st) fs bt cn xs ot) body (aF st)=true) (hn:ps.length=n) (hm:N.length=n+m)
  (hw:∀ds G a,ds.length=n->S.pre ds G a->au Φ body noE (env0 ds m) G (ends (S.post a))):Bse Φ P w K mg base (CX1 P w) (k+1) ((x,n)::fs) bt cn xs ot:=
 B.add e (uG F B S n m hs hc hn hm hw) F.kp h3 h4
theorem Bse.stepX{qual:Str}{st:Stmt}{N:List Str}{body:Sxs}(B:Bse Φ P w K mg base (CX1 P w) k fs bt cn xs ot)(F:Fun K (Str.ofString x) qual st fa fd)(h3:Binds K fd ps [])(h4:mg (Str.ofString x)=some (.ref fa))(e:Φ x=S)(m:Nat)
  (hs:fnB N ps (aq st)=true) (hc:aB (aH N (aq st) fs bt cn xs ot) body (aF st)=true) (hn:ps.length=n) (hm:N.length=n+m)
  (hw:∀ds G a,ds.length=n->S.pre ds G a->au Φ body (S.exc a) (env0 ds m) G (ends (S.post a))):Bse Φ P w K mg base (CX1 P w) (k+1) ((x,n)::fs) bt cn xs ot:=
 B.add e (aca F B S n m hs hc hn hm hw) F.kp h3 h4
def jb(Φ:aa)(x:String)(S:RF.Spec):aa:=λf=>if f=x then S else Φ f
theorem j5{y:String}(e:Φ y=S){S':RF.Spec}(h:(y==x)=false):jb Φ x S' y=S:=by unfold jb;rw[if_neg (by simpa using h)];exact e
theorem Bse.self(B:Bse Φ P w K mg base (CX1 P w) k fs bt cn xs {})(hx:(fs.map (·.1)).contains x=false)(o:FnOk P w K mg base (CX1 P w) (k+j) fa fd ps (lift K n S))(h2:PySem.W.keepIn K (.ref fa)=true)(h3:Binds K fd ps [])(h4:mg (Str.ofString x)=some (.ref fa)):Bse (jb Φ x S) P w K mg base (CX1 P w) (k+j) ((x,n)::fs) bt cn xs {}:=by
 refine ⟨λf m hm=>?_,B.blt,B.con,B.xcl,B.xis,(λ_ _ _ _ h=>(nomatch h)),(λ_ _ h=>(nomatch h)),(λ_ _ h=>(nomatch h))⟩;rcases bo.mp hm with e' |hm'
 ·cases e';exact ⟨fa,fd,ps,by unfold jb;rw[if_pos rfl];exact o,h2,h3,h4⟩
 ·obtain ⟨fa,fd,ps,h1,h⟩:=B.call f m hm';have hf:f≠x:=by
   rintro rfl;rw[<-Bool.not_eq_true,a7]at hx;exact hx (cr.mpr ⟨(f,m),hm',rfl⟩)
  exact ⟨fa,fd,ps,by unfold jb;rw[if_neg hf];exact h1.mono (d5 _ _),h⟩
end
theorem aco{S:RF.Spec}(hS:∀(ns:List Int)(G:DH),ns.length<=63->∃a,S.pre [.scr ns] G a/\(∀d G',S.post a d G'->d=.bl true)/\∀x G',¬S.exc a x G')(K:PF)(H:Hp)(a:Addr)(ns:List Int)(hl:ns.length<=63)(hO:Only H)(hs:SqL K H a (ns.map V.int)):
  lift K 1 S [.ref a] H (λv _=>v=.bl true) λ_ _ _=>False:=by
 obtain ⟨b,h1,h2,h3⟩:=hS ns (λ_=>none) hl;refine ⟨rfl,λ_=>False,λ_=>none,[.scr ns],⟨λ_ f=>f.elim,λ_ _ e=>by cases e⟩,⟨.ref a,[],rfl,⟨a,rfl,?_⟩,rfl⟩,b,h1,λd G' q H' F' v _ _ rv=>?_,λx G' q=>absurd q (h3 x G')⟩
 ·rcases hs with (h |h) |h
  ·exfalso;rcases hO a with z |⟨o,u,z⟩
   ·rw[z]at h;cases h
   ·rw[z]at h;cases h
  ·exact .inl h
  ·exact .inr h
 ·rw[h2 d G' q]at rv;exact rv
theorem acp{pre:List D->DH->Prop}(h:∀(ns:List Int)(G:DH),ns.length<=63->pre [.scr ns] G):∀(ns:List Int)(G:DH),ns.length<=63->∃a,(bx pre (λ_ _ d _=>d=.bl true)).pre [.scr ns] G a/\(∀d G',(bx pre (λ_ _ d _=>d=.bl true)).post a d G'->d=.bl true)/\∀x G',¬(bx pre (λ_ _ d _=>d=.bl true)).exc a x G':=
 λns G hl=>⟨([.scr ns],G),⟨rfl,h ns G hl⟩,λ_ _ q=>q,λ_ _ z=>z⟩
def ghS{A:Type}(pre:A->List D->DH->Prop)(post:A->DH->D->DH->Prop):RF.Spec where
 A:=A×DH
 pre:=λds G a=>a.2=G/\pre a.1 ds G
 post:=λa d G'=>post a.1 a.2 d G'
 exc:=λ_ _ _=>False
theorem j6{A:Type}{pre:A->List D->DH->Prop}{post:A->DH->D->DH->Prop}{ds:List D}{G:DH}{k:D->DH->Prop}{E:EK}(a:A)(h:pre a ds G)(hk:∀d G',post a G d G'->k d G'):(ghS pre post).t ds G k E:=
 ⟨(a,G),⟨rfl,h⟩,hk,λ_ _ z=>z.elim⟩
theorem j7{A:Type}{Φ:aa}{body:Sxs}{m n:Nat}{pre:A->List D->DH->Prop}{post:A->DH->D->DH->Prop}(h:∀a ds G,pre a ds G->au Φ body noE (env0 ds m) G (ends (post a G))):
  ∀ds G a,ds.length=n->(ghS pre post).pre ds G a->au Φ body noE (env0 ds m) G (ends ((ghS pre post).post a)):=by
 rintro ds G ⟨a,G0⟩ _ ⟨rfl,h1⟩;exact h a ds _ h1
def cI{A:Type}(args:A->List D)(ok:A->Prop)(val:A->D):RF.Spec:=ghS (λa ds _=>ds=args a/\ok a) (λa G d G'=>G'=G/\d=val a)
theorem dD{A:Type}{args:A->List D}{ok:A->Prop}{val:A->D}{ds:List D}{G:DH}{k:D->DH->Prop}{E:EK}(a:A)(e:ds=args a)(h:ok a)(hk:k (val a) G):(cI args ok val).t ds G k E:=
 j6 a ⟨e,h⟩ λd G' ⟨e1,e2⟩=>by subst e1 e2;exact hk
theorem dF{A:Type}{Φ:aa}{body:Sxs}{m n:Nat}{args:A->List D}{ok:A->Prop}{val:A->D}(h:∀a G,ok a->au Φ body noE (env0 (args a) m) G (ends λd G'=>G'=G/\d=val a)):
  ∀ds G a,ds.length=n->(cI args ok val).pre ds G a->au Φ body noE (env0 ds m) G (ends ((cI args ok val).post a)):=
 j7 λa ds G ⟨e,h1⟩=>by subst e;exact h a G h1
theorem ai{a b:Prop}(x:a)(y:b):a/\b:=⟨x,y⟩
def M9:=ai @sr (ai @gQ (ai @su (ai @sy (ai @wR (ai @sE (ai @sG (ai @sH (ai @sI (ai @sJ (ai @sO (ai (ai @sX (ai @lK (ai @wV (ai @lL (ai (ai @sU (ai @wW (ai @wX @wY))) (ai @sV (ai @sW (ai (ai @rY (ai (ai (ai @wI (ai @wJ (ai @wK @wL))) (ai @wH @wM)) (ai @wN (ai @wO @wQ)))) (ai @wU @sS))))))))) (ai @M3 (ai @yt (ai (ai @rD (ai @qT (ai @qU (ai @qW (ai @jM (ai @iH (ai @gP (ai @qX (ai @lF (ai @qY (ai @lG (ai @qZ (ai @q8 (ai @q9 (ai @rm (ai @rn (ai @rz (ai @wF (ai @rA @rB))))))))))))))))))) (ai @iI (ai @rE (ai @rF (ai @rG (ai @lH (ai @lJ (ai @rH (ai @rJ (ai @rK (ai @rM (ai @rN (ai @rO (ai (ai @rP @wG) (ai @rQ (ai @rR (ai @rT (ai @rW (ai @eZ (ai @rZ (ai @M7 (ai @Ht (ai @Hu (ai @Hv (ai @Hw (ai @Hx (ai @Hy (ai (ai @HF (ai @HB @Hz)) (ai @HH (ai @HJ (ai @HN (ai @HQ (ai @HR (ai @HS (ai @HW (ai @HX (ai @HY (ai @H9 (ai @Ia (ai @Ib (ai @Ie (ai @Ig (ai @Ih (ai @Ii (ai @Ij (ai @Ik (ai @Il (ai @Im (ai @Io (ai @Ip (ai @Ir (ai @Iu (ai @Iv (ai @Iw (ai @Iz (ai @IK (ai @Ja (ai @Jb (ai @Jc (ai @Jd (ai (ai @Jg @Jf) (ai @Jh (ai @Ji (ai @Jj (ai @Jl (ai @Jm (ai @Jo (ai @Jp (ai @Jq (ai @Jr (ai @Js (ai (ai @Jy @Jx) (ai (ai @JC (ai (ai @Jw (ai @Ju @Jv)) @Jt)) (ai @JD (ai @JF (ai @JG (ai @JH (ai (ai @JK (ai @yq (ai @yr (ai @JQ (ai @JR (ai @Kf @Ke)))))) (ai @JL (ai (ai @JP (ai @JM @JN)) (ai @JS (ai @JT (ai @JV (ai @JW (ai @JX (ai @JZ (ai @J0 (ai @J1 (ai @J2 (ai @J7 (ai @J8 (ai @J9 (ai @Ka (ai @Kc (ai @Kd (ai @Kg (ai @Kh (ai @Kl (ai @Km (ai @Ko (ai @Kp (ai @Kq (ai @Kr (ai @Ks (ai @Ku (ai @Kv (ai @Kw (ai @Ky (ai @Kz (ai @is_tup (ai @KC (ai @KD (ai (ai @KJ @KH) (ai @KN (ai @KQ (@IV)))))))))))))))))))))))))))))))))))))))))))))))))))))))))))))))))))))))))))))))))))))))))))))))))))))))))))))))))))))))))))))))))
theorem acq:type_of% (af @jN @jO):=af @jN @jO
theorem Nb:type_of% (af @M4 (af @M5 (af @M6 (af @Option.join_some.{0} (af @ce.{0,0} (af @eP.{0,0} (af @List.cons_append.{0} (af @List.nil_append.{0} (af @ci.{0} (af @List.replicate_zero.{0} (af @List.getElem?_cons_zero.{0} (af @gx.{0} (af @List.set_cons_zero.{0} (af @List.set_cons_succ.{0} (af @eA.{0} (af @List.length_nil.{0} (af @Hh (af @Hi (af @Hj (af @Hk (af @Hl (af @Hm (af @Hn (af @true_and (af @ff (af @Nat.min_self (af @Nat.zero_min (af @Nat.min_zero (af @d3 (af @Bool.or_false (af @Bool.or_true (af @Bool.false_or (af @Bool.true_or (af @gt (af @Bool.not_false (af @KR (af @KY (af @KZ (af @K1 (af @K5 (af @K6 (af @K7 (af @K8 (af @K9 (af @La (af @Lb (af @Ld (af @Lg (af @Lh (af @Li (af @Lj (af @Lk (af @Ln (af @Lp (af @Lq (af @Lr (af @Ls (af @Lw (af @Lx (af @Ly (af @Lz (af @LC (af @LK (af @LQ (af @LR (af @Ma (af @Mg (af @Mh (af @Mi (af @Mj (af @Ml (af @Mm (af @Mp (af @Mq (af @Mr (af @Ms (af @Mt (af @Mu (af @Mv (af @Mw (af @Mx (af @My (af @Mz (af @MF (af @MJ (af @MK (af @MN (af @MP (@MT))))))))))))))))))))))))))))))))))))))))))))))))))))))))))))))))))))))))))))))))))))))))):=af @M4 (af @M5 (af @M6 (af @Option.join_some.{0} (af @ce.{0,0} (af @eP.{0,0} (af @List.cons_append.{0} (af @List.nil_append.{0} (af @ci.{0} (af @List.replicate_zero.{0} (af @List.getElem?_cons_zero.{0} (af @gx.{0} (af @List.set_cons_zero.{0} (af @List.set_cons_succ.{0} (af @eA.{0} (af @List.length_nil.{0} (af @Hh (af @Hi (af @Hj (af @Hk (af @Hl (af @Hm (af @Hn (af @true_and (af @ff (af @Nat.min_self (af @Nat.zero_min (af @Nat.min_zero (af @d3 (af @Bool.or_false (af @Bool.or_true (af @Bool.false_or (af @Bool.true_or (af @gt (af @Bool.not_false (af @KR (af @KY (af @KZ (af @K1 (af @K5 (af @K6 (af @K7 (af @K8 (af @K9 (af @La (af @Lb (af @Ld (af @Lg (af @Lh (af @Li (af @Lj (af @Lk (af @Ln (af @Lp (af @Lq (af @Lr (af @Ls (af @Lw (af @Lx (af @Ly (af @Lz (af @LC (af @LK (af @LQ (af @LR (af @Ma (af @Mg (af @Mh (af @Mi (af @Mj (af @Ml (af @Mm (af @Mp (af @Mq (af @Mr (af @Ms (af @Mt (af @Mu (af @Mv (af @Mw (af @Mx (af @My (af @Mz (af @MF (af @MJ (af @MK (af @MN (af @MP (@MT))))))))))))))))))))))))))))))))))))))))))))))))))))))))))))))))))))))))))))))))))))))))
section
local macro_rules|`(#[])=>`(.nil)|`(#[$x])=>`(.cons $x .nil)|`(#[$x,$y,*])=>`(.cons $x #[$y,*])
local macro_rules|`(-$x)=>`(.var $x)
local macro_rules|`(¬$x)=>`(.cst (.int $x))
local macro_rules|`(!$x)=>`(.cst (.str $x))
local macro_rules|`($x<|$y)=>`(.call $x $y)
def yz:Sxs:=#[.set (-0) (¬2) (¬0),.ret (-0)]
noncomputable def yC:Sxs:=#[.ite (.val (.cmp .GtE (-0) (.bin .Pow true (¬10) (¬18)))) #[.ret (-0)] #[],.asg (.nm 2) (.bin .Mod true (.bin .Add true (.bin .Add true (.bin .Mult true (.bin .Mod true (-0) (¬1000000007)) (¬69069)) (.bin .Mult true (-1) (¬40503))) (¬977)) (¬2147483629)),.asg (.nm 3) (.bin .Mod true (.bin .Add true (.bin .Add true (.bin .Mult true (-2) (-2)) (.bin .Mult true (-1) (¬7919))) (.bin .Mod true (-0) (¬65537))) (¬2147483587)),.asg (.nm 4) (.bin .Mod true (.bin .Add true (.bin .Add true (.bin .Mult true (-3) (-3)) (.bin .Mult true (-2) (¬31))) (¬5)) (¬2147483563)),.ret (.bin .Add true (.bin .Mult true (.bin .Add true (.bin .Mult true (-2) (¬2147483659)) (-3)) (¬2147483693)) (-4))]
noncomputable def yD:Sxs:=#[.ite (.val (.cmp .Lt (.idx (-0) (¬2)) (-1))) #[.asg (.nm 2) (.idx (-0) (¬1)),.asg (.nm 3) (¬0),.ite (.val (.cmp .Lt (-2) (.bcl .len #[.idx (-0) (¬0)]))) #[.asg (.nm 3) (.idx (.idx (-0) (¬0)) (-2))] #[.ite (.val (.cmp .Gt (.bcl .len #[.idx (-0) (¬0)]) (¬0))) #[.asg (.nm 3) (.bin .Mod true (.idx (.idx (-0) (¬0)) (.bin .Mod true (.bin .Add true (.bin .Mult true (-2) (¬5)) (¬3)) (.bcl .len #[.idx (-0) (¬0)]))) (.bin .Add true (.bin .Pow true (¬10) (¬17)) (-2)))] #[]],.set (-0) (¬1) (.bin .Add true (-2) (¬1)),.set (-0) (¬2) ("_law_spread"<|#[-3,-2])] #[],.asg (.nm 4) (.bin .Mod true (.idx (-0) (¬2)) (-1)),.set (-0) (¬2) (.bin .FloorDiv true (.idx (-0) (¬2)) (-1)),.ret (-4)]
noncomputable def yE:Sxs:=#[.ret (.mth .join (![]) #[.comp true (.idx (-1) ("_law_take"<|#[-2,.bcl .len #[-1]])) (.nm 0) (.rng (-1)) .yes ["at","signs","pen"] [none,some 2,some 0]])]
noncomputable def yF:Sxs:=#[.asg (.nm 2) (.lst true #[![97],![103,111],![115,116,97,121],![97,98,99,100,101,102,103,104],![110,111,110,101],![121,101,115],![105,110],![111,117,116],![107,101,101,112],![119,111,114,100],![122,122]]),.asg (.nm 3) ("_law_take"<|#[-0,¬11]),.asg (.nm 4) (.comp true (.idx (-1) (.bin .Mod true (.bin .Add true (-2) (.bin .Mult true (¬3) (-0))) (¬11))) (.nm 0) (.rng (.bin .Add true (¬1) ("_law_take"<|#[-0,-1]))) .yes ["k","some","turn"] [none,some 2,some 3]),.ite (.val (.cmp .Eq ("_law_take"<|#[-0,¬3]) (¬0))) #[.asg (.nm 5) (![97,98,99,100,101,102,103,104,105,106,107,108,109,110,111,112,113,114,115,116,117,118,119,120,121,122]),.asg (.nm 4) (.comp true ("_law_signs"<|#[-1,.bin .Add true (¬1) ("_law_take"<|#[-1,¬8]),-2]) (.nm 0) (.seq (-4)) .yes ["one","pen","letters"] [none,some 0,some 5])] #[],.ret (-4)]
noncomputable def yG:Sxs:=#[.ret ("_law_signs"<|#[-0,-1,.idx (.lst true #[![48,49,42],![48,49,42,42],![48,49,42,42,42,42],![48,42],![48,49]]) ("_law_take"<|#[-0,¬5])])]
noncomputable def yH:Sxs:=#[.asg (.nm 2) (![]),.for_ (.nm 3) (.seq (-1)) #[.ite (.val (.cmp .Eq ("_law_take"<|#[-0,¬3]) (¬0))) #[.asg (.nm 3) (![42])] #[],.asg (.nm 2) (.bin .Add true (-2) (-3))],.ret (-2)]
noncomputable def yI:Sxs:=#[.asg (.nm 2) (![]),.for_ (.nm 3) (.seq (-1)) #[.ite (.boo true (.val (.cmp .Eq (-3) (![42]))) #[.val (.cmp .Eq ("_law_take"<|#[-0,¬2]) (¬0))]) #[.asg (.nm 3) (.idx (![48,49]) ("_law_take"<|#[-0,¬2]))] #[],.asg (.nm 2) (.bin .Add true (-2) (-3))],.ret (-2)]
noncomputable def yJ:Sxs:=#[.asg (.nm 3) ("_law_take"<|#[-0,¬7]),.ite (.boo false (.val (.cmp .Eq (-2) (.lst true #[]))) #[.val (.cmp .Lt (-3) (¬2))]) #[.ret ("_law_form"<|#[-0,-1])] #[],.asg (.nm 4) (.idx (-2) ("_law_take"<|#[-0,.bcl .len #[-2]])),.ite (.val (.cmp .Eq (-3) (¬2))) #[.ret (-4)] #[],.ite (.val (.cmp .Lt (-3) (¬5))) #[.asg (.nm 5) ("_law_take"<|#[-0,-1]),.ret (.bin .Add true (.bin .Add true (.slc true (-4) .no (.ob (-5))) (.idx (![48,49,42]) ("_law_take"<|#[-0,¬3]))) (.slc true (-4) (.ob (.bin .Add true (-5) (¬1))) .no))] #[],.ite (.val (.cmp .Eq (-3) (¬5))) #[.ret ("_law_within"<|#[-0,-4])] #[],.ret ("_law_wider"<|#[-0,-4])]
noncomputable def yK:Sxs:=#[.asg (.nm 3) (.bin .Add true (¬1) ("_law_take"<|#[-0,-1])),.asg (.nm 4) ("_law_deeds_of"<|#[-0,¬3]),.asg (.nm 5) (.lst false #[]),.asg (.nm 6) (.lst false #[]),.for_ (.nm 7) (.rng ("_law_take"<|#[-0,.bin .Add true (-2) (¬1)])) #[.exp (.mth .append (-5) #["_law_form_like"<|#[-0,-3,-5]]),.exp (.mth .append (-6) #[.tup #[.idx (-5) (.neg (¬1)),.idx (-4) ("_law_take"<|#[-0,.bcl .len #[-4]])]])],.ret (.tup #[-3,.bcl .tuple #[-6]])]
noncomputable def yL:Sxs:=#[.asg (.nm 1) (.lst false #[.isx (-0) "Full" ["NoBook","NoMatch","NoRow","NoJoin"],.isx (-0) "NoBook" ["NoBook","NoMatch","NoRow","NoJoin"],.isx (-0) "NoForm" ["NoBook","NoMatch","NoRow","NoJoin"]]),.asg (.nm 1) (.bin .Add false (-1) (.lst true #[.isx (-0) "NoJoin" ["NoBook","NoMatch","NoRow","NoJoin"],.isx (-0) "NoLine" ["NoBook","NoMatch","NoRow","NoJoin"],.isx (-0) "NoMatch" ["NoBook","NoMatch","NoRow","NoJoin"]])),.asg (.nm 1) (.bin .Add false (-1) (.lst true #[.isx (-0) "NoOrder" ["NoBook","NoMatch","NoRow","NoJoin"],.isx (-0) "NoRow" ["NoBook","NoMatch","NoRow","NoJoin"],.isx (-0) "NoText" ["NoBook","NoMatch","NoRow","NoJoin"]])),.asg (.nm 1) (.bin .Add false (-1) (.lst true #[.isx (-0) "NoWord" ["NoBook","NoMatch","NoRow","NoJoin"],.isx (-0) "Nothing" ["NoBook","NoMatch","NoRow","NoJoin"],.isx (-0) "TooMany" ["NoBook","NoMatch","NoRow","NoJoin"]])),.exp (.mth .append (-1) #[.isx (-0) "Turned" ["NoBook","NoMatch","NoRow","NoJoin"]]),.ite (.boo false (.val (.cmp .NotEq (.mth .count (-1) #[.cst (.bl true)]) (¬1))) #[.not (.val (.isx (-0) "SieveError" ["NoBook","NoMatch","NoRow","NoJoin"])),.not (.val (.isx (-0) "ValueError" ["NoBook","NoMatch","NoRow","NoJoin"]))]) #[.ret (![111,100,100])] #[],.asg (.nm 2) (.lst true #[![102,117,108,108],![98,111,111,107],![102,111,114,109],![106,111,105,110],![108,105,110,101],![109,97,116,99,104],![111,114,100,101,114],![114,111,119],![116,101,120,116],![119,111,114,100],![110,111,116,104,105,110,103],![109,97,110,121]]),.ret (.idx (.bin .Add true (-2) (.lst true #[![116,117,114,110,101,100]])) (.mth .index (-1) #[.cst (.bl true)]))]
noncomputable def my:Sxs:=#[.ret (.boo true (.isi (-0) "int") #[.not (.isi (-0) "bool")])]
noncomputable def mz:Sxs:=#[.ret (.boo true ("is_whole"<|#[-1]) #[.chn .LtE .Lt (¬0) (-1) (-0)])]
noncomputable def mC:Sxs:=#[.ite (.val (.cmp .NotEq (.bcl .len #[-0]) (.bcl .len #[-1]))) #[.ret (.cst (.bl false))] #[],.ret (.bcl .all #[.comp true (.boo false (.cmp .Eq (-0) (![42])) #[.cmp .Eq (-0) (-1)]) (.tp #[.nm 0,.nm 1]) (.zip (-0) (-1)) .yes ["sign","given"] [none,none]])]
def mD:Sxs:=#[.ret ("fits"<|#[-1,-0])]
noncomputable def mF:Sxs:=#[.ret (.bin .Add true (.bin .Add true (.slc true (-0) .no (.ob (-1))) (-2)) (.slc true (-0) (.ob (.bin .Add true (-1) (¬1))) .no))]
noncomputable def mG:Sxs:=#[.ite (.val ("lies_in"<|#[-0,-1])) #[.ret (-1)] #[],.ite (.val ("lies_in"<|#[-1,-0])) #[.ret (-0)] #[],.asg (.nm 2) (.comp true (-0) (.tp #[.nm 0,.nm 1]) (.enm (-0)) (.val (.cmp .NotEq (-1) (.idx (-2) (-0)))) ["at","sign","other"] [none,none,some 1]),.ite (.val (.cmp .Eq (.bcl .len #[-2]) (¬1))) #[.ret ("with_sign"<|#[-0,.idx (-2) (¬0),![42]])] #[],.ret (.cst .non)]
noncomputable def j8:Sxs:=#[.ite (.boo false (.not (.val (.isi (-0) "str"))) #[.not (.val (.chn .LtE .LtE (¬1) (.bcl .len #[-0]) (.glb "LONGEST_DEED" (.int 8))))]) #[.ret (.cst (.bl false))] #[],.ret (.bcl .all #[.comp true (.cmp .In (-0) (.glb "LETTERS" (.str [97,98,99,100,101,102,103,104,105,106,107,108,109,110,111,112,113,114,115,116,117,118,119,120,121,122]))) (.nm 0) (.seq (-0)) .yes ["sign"] [none]])]
noncomputable def j9:Sxs:=#[.ite (.boo false (.not (.val (.isi (-2) "str"))) #[.val (.cmp .NotEq (.bcl .len #[-2]) (-1))]) #[.ret (.cst (.bl false))] #[],.ret (.bcl .all #[.comp true (.cmp .In (-0) (-1)) (.nm 0) (.seq (-2)) .yes ["sign","signs"] [none,some 0]])]
noncomputable def mH:Sxs:=#[.ret ("is_text_of"<|#[![48,49,42],-0,-1])]
noncomputable def gn:Sxs:=#[.ite (.boo false (.not (.val (.isi (-1) "tuple"))) #[.val (.cmp .NotEq (.bcl .len #[-1]) (¬2))]) #[.ret (.cst (.bl false))] #[],.ret (.boo true ("is_form"<|#[-0,.idx (-1) (¬0)]) #["is_deed"<|#[.idx (-1) (¬1)]])]
noncomputable def mJ:Sxs:=#[.ret (.boo true ("is_whole"<|#[-0]) #[.chn .LtE .LtE (¬1) (-0) (.glb "WIDEST" (.int 6))])]
noncomputable def gq:Sxs:=#[.ite (.boo false (.not (.val (.isi (-0) "tuple"))) #[.val (.cmp .NotEq (.bcl .len #[-0]) (¬2))]) #[.ret (.cst (.bl false))] #[],.asg (.tp #[.nm 1,.nm 2]) (-0),.ite (.boo false (.not (.val ("is_width"<|#[-1]))) #[.not (.val (.isi (-2) "tuple")),.val (.cmp .Gt (.bcl .len #[-2]) (.glb "MOST_ROWS" (.int 12)))]) #[.ret (.cst (.bl false))] #[],.ret (.bcl .all #[.comp true ("is_row"<|#[-1,-0]) (.nm 0) (.seq (-2)) .yes ["row","width"] [none,some 1]])]
noncomputable def jc:Sxs:=#[.ite (.not (.val ("is_book"<|#[-0]))) #[.rse "NoBook" #[]] #[]]
noncomputable def gZ:Sxs:=#[.exp ("need_book"<|#[-0]),.ite (.not (.val ("is_place"<|#[.bcl .len #[.idx (-0) (¬1)],-1]))) #[.rse "NoRow" #[.bcl .len #[.idx (-0) (¬1)]]] #[]]
noncomputable def jd:Sxs:=#[.exp ("need_row"<|#[-0,-1]),.asg (.tp #[.nm 2,.nm 3]) (-0),.ret (.tup #[-2,.bin .Add true (.slc true (-3) .no (.ob (-1))) (.slc true (-3) (.ob (.bin .Add true (-1) (¬1))) .no)])]
noncomputable def mK:Sxs:=#[.asg (.tp #[.nm 4,.nm 5]) (-0),.asg (.nm 6) ("joined"<|#[.idx (.idx (-5) (-1)) (¬0),.idx (.idx (-5) (-2)) (¬0)]),.ite (.boo false (.val (.cmp .Is (-6) (.cst .non))) #[.val (.cmp .NotEq (.idx (.idx (-5) (-1)) (¬1)) (.idx (.idx (-5) (-2)) (¬1)))]) #[.ret (.cst .non)] #[],.asg (.nm 7) (.tup #[-4,.bin .Add true (.bin .Add true (.slc true (-5) .no (.ob (-3))) (.tup #[.tup #[-6,.idx (.idx (-5) (-3)) (¬1)]])) (.slc true (-5) (.ob (.bin .Add true (-3) (¬1))) .no)]),.ret ("without"<|#[-7,.ife (.val (.cmp .Eq (-3) (-1))) (-2) (-1)])]
noncomputable def mL:Sxs:=#[.asg (.nm 2) (![]),.for_ (.tp #[.nm 3,.nm 4]) (.zip (-0) (-1)) #[.ite (.val (.cmp .Eq (-3) (![42]))) #[.aug 2 .Add (-4)] #[.ite (.boo false (.val (.cmp .Eq (-4) (![42]))) #[.val (.cmp .Eq (-4) (-3))]) #[.aug 2 .Add (-3)] #[.ret (.cst .non)]]],.ret (-2)]
noncomputable def mO:Sxs:=#[.for_ (.tp #[.nm 2,.nm 3]) (.enm (-0)) #[.ite (.val (.cmp .IsNot ("both"<|#[.idx (-3) (¬0),-1]) (.cst .non))) #[.ret (-2)] #[]],.ret (.cst .non)]
noncomputable def mQ:Sxs:=#[.asg (.nm 2) ("first_touching"<|#[-0,-1]),.ite (.val (.cmp .Is (-2) (.cst .non))) #[.ret (.cst .non)] #[],.for_ (.tp #[.nm 3,.nm 4]) (.enm (.idx (.idx (-0) (-2)) (¬0))) #[.ite (.boo true (.val (.cmp .Eq (.idx (-1) (-3)) (![42]))) #[.val (.cmp .NotEq (-4) (![42]))]) #[.ret (-3)] #[]],.ret (.cst .non)]
noncomputable def kh:Sxs:=#[.for_ (.nm 3) (.seq (-1)) #[.asg (.nm 4) ("splitting_place"<|#[-3,-2]),.ite (.val (.cmp .IsNot (-4) (.cst .non))) #[.asg (.nm 5) ("grown"<|#[-0,-1,"with_sign"<|#[-2,-4,![48]]]),.asg (.nm 6) ("grown"<|#[-0,-1,"with_sign"<|#[-2,-4,![49]]]),.ret (.tup #[![115,112,108,105,116],-4,-5,-6])] #[]],.ret (.bin .Add true (.tup #[-0]) (.bcl .tuple #[.comp true ("first_touching"<|#[-0,-1]) (.nm 0) (.seq (-1)) .yes ["rows","box"] [none,some 2]]))]
noncomputable def mR:Sxs:=#[.ret (.boo true (.isi (-2) "tuple") #[.cmp .Eq (.bcl .len #[-2]) (.bin .Add true (-1) (¬1)),.cmp .Eq (.idx (-2) (¬0)) (-0)])]
noncomputable def je:Sxs:=#[.ite (.not (.val ("is_named"<|#[![115,112,108,105,116],¬3,-1]))) #[.ret (.lst true #[.tup #[-0,-1]])] #[],.asg (.nm 2) (.idx (-1) (¬1)),.ite (.boo false (.not (.val ("is_place"<|#[.bcl .len #[-0],-2]))) #[.val (.cmp .NotEq (.idx (-0) (-2)) (![42]))]) #[.ret (.cst .non)] #[],.asg (.nm 3) ("leaves"<|#["with_sign"<|#[-0,-2,![48]],.idx (-1) (¬2)]),.asg (.nm 4) ("leaves"<|#["with_sign"<|#[-0,-2,![49]],.idx (-1) (¬3)]),.ite (.boo false (.val (.cmp .Is (-3) (.cst .non))) #[.val (.cmp .Is (-4) (.cst .non))]) #[.ret (.cst .non)] #[],.ret (.bin .Add true (-3) (-4))]
noncomputable def mU:Sxs:=#[.exp ("need_book"<|#[-0]),.exp ("need_book"<|#[-1]),.ite (.val (.cmp .NotEq (.idx (-0) (¬0)) (.idx (-1) (¬0)))) #[.rse "NoMatch" #[.idx (-0) (¬0),.idx (-1) (¬0)]] #[]]
noncomputable def kj:Sxs:=#[.ite (.val (.cmp .Is (-1) (.cst .non))) #[.ret (.cst .non)] #[],.ret (.idx (.idx (.idx (-0) (¬1)) (-1)) (¬1))]
noncomputable def mV:Sxs:=#[.ret (.cmp .Eq ("deed_of"<|#[-0,.idx (-2) (¬1)]) ("deed_of"<|#[-1,.idx (-2) (¬2)]))]
def mW:Sxs:=#[.ret (.bin .Mult true (![42]) (-0))]
noncomputable def mX:Sxs:=#[.exp ("need_two_books"<|#[-0,-1]),.asg (.nm 2) ("stars"<|#[.idx (-0) (¬0)]),.asg (.nm 3) ("grown"<|#[![115,97,109,101],.lst true #[.idx (-0) (¬1),.idx (-1) (¬1)],-2]),.asg (.nm 4) (.comp true ("least"<|#[-0]) (.tp #[.nm 0,.nm 1]) (.seq ("leaves"<|#[-2,-3])) (.not (.val ("same_deeds"<|#[-2,-3,-1]))) ["part","leaf","one","other"] [none,none,some 0,some 1]),.ite (.val (-4)) #[.ret (.tup #[![112,97,114,116,101,100],.bcl .min #[-4]])] #[],.ret (.tup #[![97,108,105,107,101],-3])]
noncomputable def mY:Sxs:=#[.asg (.tp #[.nm 2,.nm 3]) ("alike"<|#[-0,-1]),.ret (.ife (.val (.cmp .Eq (-2) (![112,97,114,116,101,100]))) (-3) (.cst .non))]
noncomputable def jf:Sxs:=#[.exp ("need_row"<|#[-0,-1]),.exp ("need_row"<|#[-0,-2]),.ite (.boo false (.not (.val ("is_place"<|#[.bcl .len #[.idx (-0) (¬1)],-3]))) #[.val (.cmp .NotIn (-3) (.tup #[-1,-2]))]) #[.rse "NoRow" #[]] #[],.asg (.nm 4) (.ife (.val (.cmp .Lt (-1) (-2))) ("joined_book"<|#[-0,-1,-2,-3]) (.cst .non)),.ite (.val (.cmp .Is (-4) (.cst .non))) #[.rse "NoJoin" #[]] #[],.asg (.nm 5) ("parting_word"<|#[-0,-4]),.ite (.val (.cmp .IsNot (-5) (.cst .non))) #[.nev] #[],.ret (-4)]
noncomputable def mZ:Sxs:=#[.asg (.nm 1) (.bcl .len #[.idx (-0) (¬1)]),.asg (.nm 2) (.cm3 (.tup #[-0,-1,-2]) (.nm 0) (.rng (-1)) (.nm 1) (.rng2 (.bin .Add true (-0) (¬1)) (-3)) (.nm 2) (.seq (.tup #[-0,-1])) ["one","other","at","many"] [none,none,none,some 1]),.asg (.nm 3) (.comp true (.tup #[-0,-1,-2,"joined_book"<|#[-3,-0,-1,-2]]) (.tp #[.nm 0,.nm 1,.nm 2]) (.seq (-2)) .yes ["one","other","at","book"] [none,none,none,some 0]),.ret (.comp true (-0) (.nm 0) (.seq (-3)) (.val (.cmp .IsNot (.idx (-0) (¬3)) (.cst .non))) ["candidate"] [none])]
noncomputable def jg:Sxs:=#[.exp ("need_book"<|#[-0]),.ret (.comp true (.tup #[-0,-1,-2]) (.tp #[.nm 0,.nm 1,.nm 2,.nm 3]) (.seq ("candidates"<|#[-0])) (.val (.cmp .Is ("parting_word"<|#[-4,-3]) (.cst .non))) ["one","other","at","made","book"] [none,none,none,none,some 0])]
noncomputable def m5:Sxs:=#[.for_ (.tp #[.nm 1,.nm 2,.nm 3,.nm 4]) (.seq ("candidates"<|#[-0])) #[.ite (.val (.cmp .Is ("parting_word"<|#[-0,-4]) (.cst .non))) #[.ret (-4)] #[]],.ret (.cst .non)]
noncomputable def m6:Sxs:=#[.asg (.nm 1) (-0),.asg (.nm 2) ("first_joined"<|#[-1]),.whl (.val (.cmp .IsNot (-2) (.cst .non))) #[.asg (.nm 1) (-2),.asg (.nm 2) ("first_joined"<|#[-1])],.ret (-1)]
noncomputable def jh:Sxs:=#[.asg (.tp #[.nm 2,.nm 3]) ("alike"<|#[-0,"without"<|#[-0,-1]]),.ret (.tup #[.ife (.val (.cmp .Eq (-2) (![97,108,105,107,101]))) (![110,101,101,100,108,101,115,115]) (![110,101,101,100,101,100]),-3])]
noncomputable def ji:Sxs:=#[.exp ("need_book"<|#[-0]),.asg (.nm 1) (-0),.for_ (.nm 2) (.rev (.bcl .len #[.idx (-0) (¬1)])) #[.ite (.val (.cmp .Eq (.idx ("needless"<|#[-1,-2]) (¬0)) (![110,101,101,100,108,101,115,115]))) #[.asg (.nm 1) ("without"<|#[-1,-2])] #[]],.ret (-1)]
noncomputable def jj:Sxs:=#[.exp ("need_book"<|#[-0]),.asg (.nm 1) (-0),.asg (.nm 2) ("lean"<|#["all_joined"<|#[-1]]),.whl (.val (.cmp .NotEq (-2) (-1))) #[.asg (.nm 1) (-2),.asg (.nm 2) ("lean"<|#["all_joined"<|#[-1]])],.ret (-2)]
noncomputable def yM:Sxs:=#[.asg (.nm 5) (.cst .non),.tryx (.ite (.val (.cmp .Eq (-0) (¬0))) ("join"<|#[-1,-2,-3,-4]) (.ite (.val (.cmp .Eq (-0) (¬1))) ("joins"<|#[-1]) ("press"<|#[-1]))) "SieveError" (.bind 6 5) ["NoBook","NoMatch","NoRow","NoJoin"],.ite (.val (.cmp .Is (-5) (.cst .non))) #[.ret (![116,111,108,100])] #[],.ret ("_law_refusal"<|#[-5])]
noncomputable def yN:Sxs:=#[.asg (.nm 2) (.bcl .len #[.idx (-1) (¬1)]),.asg (.nm 3) ("_law_take"<|#[-0,.bin .Pow true (¬10) (¬17)]),.for_ (.nm 4) (.seq (.lst true #[.neg (¬1),-2,.bin .Add true (-2) (-3),.bin .Sub true (.neg (¬1)) (-3),.cst (.bl true),.cst (.bl false),.cst .non,![48],.tup #[¬0]])) #[.ite (.boo false (.val (.cmp .NotEq ("_law_told"<|#[¬0,-1,-4,¬0,¬0]) (![114,111,119]))) #[.val (.cmp .NotEq ("_law_told"<|#[¬0,-1,¬0,-4,¬0]) (![114,111,119]))]) #[.ret (.cst (.bl false))] #[],.ite (.boo false (.val (.cmp .NotEq ("_law_told"<|#[¬0,-1,¬0,¬0,-4]) (![114,111,119]))) #[.val (.cmp .NotEq ("_law_told"<|#[¬0,-1,-4,-4,-4]) (![114,111,119]))]) #[.ret (.cst (.bl false))] #[]],.for_ (.nm 5) (.rng (-2)) #[.for_ (.nm 6) (.rng (-2)) #[.ite (.boo true (.val (.cmp .NotEq (-6) (-5))) #[.val (.cmp .NotEq ("_law_told"<|#[¬0,-1,-5,-5,-6]) (![114,111,119]))]) #[.ret (.cst (.bl false))] #[]],.ite (.val (.cmp .NotEq ("_law_told"<|#[¬0,-1,-5,-5,-5]) (![106,111,105,110]))) #[.ret (.cst (.bl false))] #[]],.ret (.boo false (.cmp .Lt (-2) (¬3)) #[.boo true (.cmp .Eq ("_law_told"<|#[¬0,-1,¬0,¬2,¬1]) (![114,111,119])) #[.cmp .Eq ("_law_told"<|#[¬0,-1,¬2,¬0,¬1]) (![114,111,119])]])]
noncomputable def yO:Sxs:=#[.asg (.nm 1) (.lcl false .list #[.slc true (-0) .no (.ob (¬12))]),.for_ (.tp #[.nm 2,.nm 3]) (.enm (.slc true (-0) (.ob (¬12)) (.ob (¬63)))) #[.set (-1) (.bin .Mod true (-2) (¬12)) (.bin .Add true (.idx (-1) (.bin .Mod true (-2) (¬12))) (-3))],.ret (.lst false #[.frz (-1),¬0,¬0])]
noncomputable def yP:Sxs:=#[.asg (.nm 1) ("_law_open"<|#[-0]),.for_ (.nm 2) (.rng (¬5)) #[.asg (.tp #[.nm 3,.nm 4]) ("_law_book"<|#["_law_anew"<|#[-1],¬6,¬6]),.for_ (.nm 5) (.seq (.lst true #[.tup #[-3,.lcl true .list #[-4]],.lst true #[-3,-4],.cst .non,-4,.tup #[¬7,-4],.tup #[-3,.bin .Add true (-4) (.tup #[.tup #[]])],.tup #[.cst (.bl true),.tup #[]]])) #[.for_ (.nm 6) (.rng (¬3)) #[.ite (.boo false (.val (.cmp .NotEq ("_law_told"<|#[-6,-5,¬0,¬1,¬0]) (![98,111,111,107]))) #[.val (.cmp .NotEq ("_law_told"<|#[-6,-5,.cst .non,.cst (.bl true),.neg (¬1)]) (![98,111,111,107]))]) #[.ret (.cst (.bl false))] #[]]],.ite (.not (.val ("_law_numbers_right"<|#[-1,.tup #[-3,-4]]))) #[.ret (.cst (.bl false))] #[],.ite (.boo false (.val (.cmp .NotEq ("_law_told"<|#[¬1,.tup #[-3,-4],¬0,¬0,¬0]) (![116,111,108,100]))) #[.val (.cmp .NotEq ("_law_told"<|#[¬2,.tup #[-3,-4],¬0,¬0,¬0]) (![116,111,108,100]))]) #[.ret (.cst (.bl false))] #[]],.ret (.cst (.bl true))]
end
end RF
local macro_rules | `(tactic| simp_arith [$l,*] $[$c:location]?) => `(tactic| simp -implicitDefEqProofs only [↓RF.acq, ↓RF.M9, RF.Nb, RF.env0, RF.ends, String.reduceBEq, $l,*] $[$c:location]?)
local macro_rules | `(tactic| simp_arith! [$l,*] $[$c:location]?) => `(tactic| simp -implicitDefEqProofs only [↓RF.M9, RF.Nb, RF.env0, RF.ends, String.reduceBEq, $l,*] $[$c:location]?)
local macro_rules | `(tactic| simp_all_arith [$l,*]) => `(tactic| simp -implicitDefEqProofs only [RF.env0, RF.ends, List.map_cons, List.map_nil, List.cons_append, List.nil_append, List.replicate_succ, List.replicate_zero, $l,*])
namespace RF
open PySem L2
theorem jk{i j:Int}(h:-(2 ^ 64) < j/\j < 2 ^ 64):CMul i j:=.inr h
theorem yQ{i j:Int}(h:-(2 ^ 64) < i/\i < 2 ^ 64):CMul i j:=.inl h
theorem yR{j:Int}(h:0<=j/\j<=1000):qw 10 j:=⟨h.1,by omega,by decide⟩
def uH:RF.Spec:=bx (λds _=>∃c k:Int,ds=[.int c,.int k]/\0<=k) (λ_ G d G'=>G'=G/\∃r:Int,d=.int r/\0<=r)
theorem acr(Φ:aa)(ds:List D)(G:DH)(h:∃c k:Int,ds=[.int c,.int k]/\0<=k):au Φ yC noE (env0 ds 3) G (ends λd G'=>G'=G/\∃r:Int,d=.int r/\0<=r):=by
 obtain ⟨c,k,rfl,hk⟩:=h;simp_arith[yC];refine ⟨yR (by decide),?_⟩;cases hc:decide (10 ^ Int.toNat 18<=c) with
 |true=>
  refine ⟨c,rfl,?_⟩;have:=dQ hc;have h2:(0:Int)<=(10:Int) ^ (18:Int).toNat:=by decide
  exact Int.le_trans h2 this
 |false=>
  generalize hone:(c % 1000000007 * 69069+k * 40503+977) % 2147483629=one;have o1:0<=one:=by rw[<-hone];exact fh _ (by decide)
  have o2:one < 2147483629:=by rw[<-hone];exact e9 _ (by decide)
  generalize htwo:(one * one+k * 7919+c % 65537) % 2147483587=two;have t1:0<=two:=by rw[<-htwo];exact fh _ (by decide)
  have t2:two < 2147483587:=by rw[<-htwo];exact e9 _ (by decide)
  generalize hthree:(two * two+one * 31+5) % 2147483563=three;have h1:0<=three:=by rw[<-hthree];exact fh _ (by decide)
  clear hone htwo hthree;refine ⟨by decide,jk (by decide),jk (by decide),by decide,yQ (by omega),jk (by decide),by decide,by decide,yQ (by omega),jk (by decide),by decide,jk (by decide),jk (by decide),_,rfl,?_⟩;omega
def Pen(G:DH)(p:Addr):Prop:=∃(ns:List Int)(k st:Int),G p=some (.lst [.lst (ns.map D.int),.int k,.int st])/\0<=k/\0<=st
theorem Pen.sa{G G':DH}{p:Addr}(h:Pen G p)(s:Sa G G'):Pen G' p:=by obtain ⟨ns,k,st,e,h1⟩:=h;exact ⟨ns,k,st,s _ _ e,h1⟩
theorem Pen.ne{G:DH}{p q:Addr}(h:Pen G p)(e:G q=none):p≠q:=by obtain ⟨ns,k,st,e1,h1⟩:=h;exact v6 e1 e
theorem Pen.sb{G G':DH}{p q:Addr}(h:Pen G p)(s:Sb q G G')(n:p≠q):Pen G' p:=by obtain ⟨ns,k,st,e,h1⟩:=h;exact ⟨ns,k,st,s _ _ e n,h1⟩
def uI:RF.Spec:=bx (λds G=>∃p,ds=[.ref p]/\Pen G p) (λds G d G'=>∃p,ds=[.ref p]/\d=.ref p/\Pen G' p/\Sb p G G')
theorem acs(Φ:aa)(ds:List D)(G:DH)(h:∃p,ds=[.ref p]/\Pen G p):au Φ yz noE (env0 ds 0) G (ends λd G'=>∃p,ds=[.ref p]/\d=.ref p/\Pen G' p/\Sb p G G'):=by obtain ⟨p,rfl,ns,k,st,e,h1,h2⟩:=h;simp_arith[yz,dW e];exact ⟨p,rfl,rfl,⟨ns,k,0,bO,h1,by decide⟩,Sb.upd⟩
def eN:RF.Spec:=bx (λds G=>∃p,∃m:Int,ds=[.ref p,.int m]/\Pen G p/\0 < m/\m < 1152921504606846976) (λds G d G'=>∃p,∃m r:Int,ds=[.ref p,.int m]/\d=.int r/\0<=r/\r < m/\Pen G' p/\Sb p G G')
theorem acu (Φ:aa) (hΦ:Φ "_law_spread"=uH) (ds:List D) (G:DH) (h:∃p,∃m:Int,ds=[.ref p,.int m]/\Pen G p/\0 < m/\m < 1152921504606846976):
  au Φ yD noE (env0 ds 3) G (ends λd G'=>∃p,∃m r:Int,ds=[.ref p,.int m]/\d=.int r/\0<=r/\r < m/\Pen G' p/\Sb p G G'):=by
 obtain ⟨p,m,rfl,⟨ns,k,st,e,h1,h2⟩,h3,h4⟩:=h;simp_all_arith[yD];refine seq λM hM=>?_;have fin:∀(ρ2 ρ3 ρ4:Option D)(G1:DH)(k1 s1:Int),0<=k1->0<=s1->G1 p=some (.lst [.lst (ns.map D.int),.int k1,.int s1])->Sb p G G1->M [some (.ref p),some (.int m),ρ2,ρ3,ρ4] G1:=by intro ρ2 ρ3 ρ4 G1 k1 s1 q1 q2 e1 sb;refine hM _ _ ?_;simp_arith[cO e1,dW e1];refine ⟨h3,⟨h3,h4⟩,p,m,_,rfl,rfl,fh _ (by omega),e9 _ h3,⟨ns,k1,_,bO,q1,?_⟩,sb.trans Sb.upd⟩;exact Int.ediv_nonneg q2 (by omega)
 simp_arith[cO e,dW e,hΦ];have draw:∀c:Int,uH.t [.int c,.int k] (aQ G p (.lst [.lst (ns.map D.int),.int (k+1),.int st])) (λx G1=>trk G1 p λds=>aZ (ixN ds.length 2) λj=>M [some (.ref p),some (.int m),some (.int k),some (.int c),none] (aQ G1 p (.lst (ds.set j x)))) noE:=by intro c;refine bU ⟨c,k,rfl,h1⟩ λd G' hx=>?_;obtain ⟨e1,r,e2,hr⟩:=hx;subst e1 e2;simp_arith[dW bO];refine fin _ _ _ _ (k+1) r (by omega) hr bO (Sb.trans Sb.upd Sb.upd)
 cases hc:decide (st < m) with
 |false=>exact fin _ _ _ _ k st h1 h2 e (Sb.refl _ _)
 |true=>
  cases hk:decide (k < ((ns.map D.int).length:Int)) with
  |true=>
   have hk:=dQ hk;rw[al]at hk;refine bN (a:=.int ns[k.toNat]) ?_ ?_
   ·obtain ⟨n,rfl⟩:=cq h1;exact b8 (by simp at hk ⊢)
   ·exact draw _
  |false=>
   cases hz:decide (0 < ((ns.map D.int).length:Int)) with
   |false=>exact draw 0
   |true=>
    have hz:=dQ hz;have j1:0<=(k * 5+3) % ((ns.map D.int).length:Int):=fh _ (by omega);have j2:(k * 5+3) % ((ns.map D.int).length:Int) < ((ns.map D.int).length:Int):=e9 _ hz;obtain ⟨j,hj⟩:=cq j1;rw[hj]at j2;have j3:j < ns.length:=by rw[al]at j2;omega
    refine ⟨jk (by decide),hz,bN (a:=.int ns[j]) ?_ ⟨yR (by decide),?_⟩⟩
    ·rw[hj];exact b8 (by simp[j3])
    ·simp_arith[dW e];refine ⟨?_,draw _⟩;have:(0:Int) < 10 ^ Int.toNat 17:=by decide
     omega
def m7:RF.Spec:=bx (λds G=>∃p,∃n:Nat,∃cs:List Nat,ds=[.ref p,.int n,.str cs]/\Pen G p/\n<=1000/\cs≠[]/\cs.length<=1000)
 (λds G d G'=>∃p,∃n:Nat,∃cs l:List Nat,ds=[.ref p,.int n,.str cs]/\d=.str l/\l.length=n/\(∀c∈l,c∈cs)/\Pen G' p/\Sb p G G')
theorem acv(l:List Nat):((l.map λc=>[c]).map (·.length)).sum=l.length:=by
 induction l with
 |nil=>rfl
 |cons a l ih=>simp at ih ⊢;omega
theorem acw(l:List Nat):(l.map λc=>[c]).flatten=l:=by
 induction l with
 |nil=>rfl
 |cons a l ih=>simp at ih ⊢;exact ih
theorem acx (Φ:aa) (hΦ:Φ "_law_take"=eN) (ds:List D) (G:DH) (h:∃p,∃n:Nat,∃cs:List Nat,ds=[.ref p,.int n,.str cs]/\Pen G p/\n<=1000/\cs≠[]/\cs.length<=1000):
  au Φ yE noE (env0 ds 0) G (ends λd G'=>∃p,∃n:Nat,∃cs l:List Nat,ds=[.ref p,.int n,.str cs]/\d=.str l/\l.length=n/\(∀c∈l,c∈cs)/\Pen G' p/\Sb p G G'):=by
 obtain ⟨p,n,cs,rfl,hp,hn,hc,hl⟩:=h;have hc1:0 < cs.length:=List.length_pos_iff.mpr hc;simp_arith[yE,hΦ];refine ⟨by omega,CompG.inv (P:=λi acc ρ G'=>(∃o,ρ=[o,some (.str cs),some (.ref p)])/\Pen G' p/\Sb p G G'/\∃l:List Nat,acc=l.map (λc=>D.str [c])/\l.length=i/\∀c∈l,c∈cs) (h0:=⟨⟨_,rfl⟩,hp,Sb.refl _ _,[],rfl,rfl,by simp⟩) (hh:=λ_ _ _ _ _=>trivial) (hl:=by simp[aR];have hsz:sz=1000000:=rfl;omega) (hs:=?_) (he:=?_)⟩
 ·rintro i d acc ρ G' hd ⟨⟨o,rfl⟩,hp',sb,l,rfl,hl',hm⟩ kk hk;simp_arith[hΦ];refine bU ⟨p,_,rfl,hp',by omega,by omega⟩ λd' G2 hx=>?_;obtain ⟨p2,m2,r,e1,e2,r0,r1,pp2,sb2⟩:=hx;cases e1;subst e2;obtain ⟨j,rfl⟩:=cq r0;have hj:j < cs.length:=by omega
  simp_arith[ends];refine bN (a:=cs[j]) (b8 (by simp[hj])) (hk _ _ _ ⟨⟨_,rfl⟩,pp2,sb.trans sb2,l++[cs[j]],by simp,by simp[hl'],?_⟩);intro c hc;rcases bn.mp hc with h |h
  ·exact hm c h
  ·rw[bg.mp h];exact ee _
 ·rintro acc ρ G' ⟨_,hp',sb,l,rfl,hl',hm⟩;simp_arith[strs_map];have hl2:l.length=n:=by rw[hl'];simp[aR]
  refine ⟨?_,p,n,cs,l,rfl,?_,hl2,hm,hp',sb⟩
  ·rw[acv];simp;have hsz:sz=1000000:=rfl;omega
  ·rw[Hg,acw]
def isF(c:Nat):Prop:=c=48\/c=49\/c=42
def yS:RF.Spec:=bx (λds G=>∃p,∃n:Nat,ds=[.ref p,.int n]/\Pen G p/\n<=1000) (λds G d G'=>∃p,∃n:Nat,∃l:List Nat,ds=[.ref p,.int n]/\d=.str l/\l.length=n/\(∀c∈l,isF c)/\Pen G' p/\Sb p G G')
theorem acy (Φ:aa) (h1:Φ "_law_take"=eN) (h2:Φ "_law_signs"=m7) (ds:List D) (G:DH) (h:∃p,∃n:Nat,ds=[.ref p,.int n]/\Pen G p/\n<=1000):
  au Φ yG noE (env0 ds 0) G (ends λd G'=>∃p,∃n:Nat,∃l:List Nat,ds=[.ref p,.int n]/\d=.str l/\l.length=n/\(∀c∈l,isF c)/\Pen G' p/\Sb p G G'):=by
 obtain ⟨p,n,rfl,hp,hn⟩:=h;simp_arith[yG,h1,h2];refine ⟨by decide,bU ⟨p,_,rfl,hp,by decide,by decide⟩ λd' G2 ⟨p2,m2,r,e1,e2,r0,r1,pp2,sb2⟩=>?_⟩;cases e1;subst e2;obtain ⟨j,rfl⟩:=cq r0;simp_arith[ends];have:∃cs:List Nat,atI [D.str [48,49,42],D.str [48,49,42,42],D.str [48,49,42,42,42,42],D.str [48,42],D.str [48,49]] ((j:Nat):Int)=some (.str cs)/\cs≠[]/\cs.length<=1000/\∀c∈cs,isF c:=by
  have hj:j=0\/j=1\/j=2\/j=3\/j=4:=by omega
  rcases hj with rfl |rfl |rfl |rfl |rfl <;> exact ⟨_,rfl,by decide,by decide,by simp[isF]⟩
 obtain ⟨cs,e,c1,c2,c3⟩:=this;refine bN e (bU ⟨p,n,cs,rfl,pp2,hn,c1,c2⟩ λd G3 ⟨p3,n3,cs3,l,e1,e2,q1,q2,q3,q4⟩=>?_);cases e1;exact ⟨p,n,l,rfl,e2,q1,λc hc=>c3 c (q2 c hc),q3,sb2.trans q4⟩
def yU:RF.Spec:=bx (λds _=>∃ns:List Int,ds=[.scr ns]/\ns.length<=63) (λ_ G d G'=>∃p,d=.ref p/\G p=none/\Pen G' p/\Sa G G')
theorem acz(Φ:aa)(ds:List D)(G:DH)(h:∃ns:List Int,ds=[.scr ns]/\ns.length<=63):au Φ yO noE (env0 ds 3) G (ends λd G'=>∃p,d=.ref p/\G p=none/\Pen G' p/\Sa G G'):=by
 obtain ⟨ns,rfl,hl⟩:=h;simp_all_arith[yO];refine seq λM hM=>?_;simp_arith[ends];intro c hc;refine hM _ _ ?_;refine seq λM hM=>?_;simp_arith[ends];refine ForG.inv (λi ρ G'=>∃(o2 o3:Option D)(xs:List Int),ρ=[some (.scr ns),some (.ref c),o2,o3]/\G'=aQ G c (.lst (xs.map D.int))/\(12<=xs.length\/cut ns (some 12) (some 63)=[])) ⟨_,_,cut ns none (some 12),rfl,rfl,?_⟩ (λ_ _ _ _=>trivial) ?_ ?_
 ·by_cases h12:12<=ns.length
  ·left;simp[cut,HT.sIx];omega
  ·right;simp[cut,HT.sIx];omega
 ·rintro i d ρ G' hd ⟨o2,o3,xs,rfl,rfl,hx⟩ kk hk;rw[jX]at hd;obtain ⟨d',hd',e3⟩:=aE.mp hd;subst e3;rw[a8]at hd';obtain ⟨x,hx',e4⟩:=aE.mp hd';subst e4;have h12:12<=xs.length:=by
   rcases hx with h |h
   ·exact h
   ·rw[h]at hx';simp at hx'
  obtain ⟨j,hj⟩:=cq (fh ((0+i:Nat):Int) (by decide:(12:Int)≠0));have hj12:j < 12:=by have:=e9 ((0+i:Nat):Int) (by decide:(0:Int) < 12);omega
  have hjx:j < xs.length:=by omega
  simp_arith[hj,cO bO,dW bO];refine ⟨by decide,bN (a:=.int xs[j]) (b8 (by simp[hjx])) ?_⟩;simp_arith[hj,cO bO,dW bO,al,acf hjx];refine ⟨by decide,hk _ _ ⟨_,_,xs.set j (xs[j]+x),rfl,?_,by simp[h12]⟩⟩;rw[Y6,List.map_set]
 ·rintro ρ G' ⟨o2,o3,xs,rfl,rfl,hx⟩;refine hM _ _ ?_;simp_arith[bO];refine ⟨by have hsz:sz=1000000:=rfl;omega,λp hp=>⟨p,rfl,?_,⟨xs,0,0,bO,by decide,by decide⟩,?_⟩⟩
  ·rw[Dh hc]at hp;exact hp
  ·rw[Dh hc]at hp ⊢;exact Sa.new hp
def m8:RF.Spec:=bx (λds _=>∃ns:List Int,ds=[.scr ns]/\ns.length<=63) (λ_ _ d _=>d=.bl true)
def whole:D->Bool
 |.int _=>true
 |_=>false
def g8:List D->Option D
 |[x]=>if nr x then some (.bl (whole x)) else none
 |_=>none
theorem acA(Φ:aa)(ds:List D)(G:DH)(d:D)(h:g8 ds=some d):au Φ my noE (env0 ds 0) G (ends λd' G'=>G'=G/\d'=d):=by
 unfold g8 at h;split at h
 ·rename_i x;split at h
  ·rename_i hx;cases h;cases x <;> first | (simp[nr]at hx;done) | (simp_arith[my,whole];try simp)
  ·cases h
 ·cases h
def uJ:D->Bool
 |.int i=>decide (1<=i)&&decide (i<=6)
 |_=>false
def m9:List D->Option D
 |[x]=>if nr x then some (.bl (uJ x)) else none
 |_=>none
theorem acB (Φ:aa) (h1:Φ "is_whole"=aD g8) (ds:List D) (G:DH) (d:D) (h:m9 ds=some d):au Φ mJ noE (env0 ds 0) G (ends λd' G'=>G'=G/\d'=d):=by
 unfold m9 at h;split at h
 ·rename_i x;split at h
  ·rename_i hx;cases h;have hf:g8 [x]=some (.bl (whole x)):=if_pos hx;simp_arith[mJ,h1];refine bM hf ?_;cases x <;> first | (simp[nr]at hx;done) | (simp_arith[whole,uJ];first | (simp;done) |skip)
   rename_i i;cases hi:decide (1<=i) with
   |true=>simp
   |false=>simp
  ·cases h
 ·cases h
noncomputable def isText(s:List Nat)(w:Int):D->Bool
 |.str l=>decide ((l.length:Int)=w)&&l.all (λc=>s.contains c)
 |_=>false
def szd:D->Bool
 |.str l=>decide (l.length<=100000)
 |_=>true
noncomputable def fText:List D->Option D
 |[.str s,.int w,x]=>if nr x&&szd x then some (.bl (isText s w x)) else none
 |_=>none
theorem all_map{l:List Nat}{f:Nat->Bool}:((l.map f).all id)=l.all f:=by
 induction l with
 |nil=>rfl
 |cons a l ih=>simp[ih]
theorem acC(Φ:aa)(ds:List D)(G:DH)(d:D)(h:fText ds=some d):au Φ j9 noE (env0 ds 0) G (ends λd' G'=>G'=G/\d'=d):=by
 unfold fText at h;split at h
 ·rename_i s w x;split at h
  ·rename_i hx;cases h;rw[ae]at hx;cases x with
   |str l=>
    have hl:l.length<=100000:=by simpa [szd] using hx.2
    simp_arith[j9,isText];by_cases hw:(l.length:Int)=w
    ·have hb:(((l.length:Int)==w):Bool)=true:=by simp[hw]
     simp_arith[hb];refine CompG.map (f:=λd=>match d with |.str [c]=>.bl (s.contains c) |_=>.non) (I:=λρ=>∃o,ρ=[o,some (.str s)]) ⟨_,rfl⟩ trivial (by simp;have hsz:sz=1000000:=rfl;omega) ?_ ?_
     ·rintro d ρ hd ⟨o,rfl⟩ kk hk;obtain ⟨c,_,rfl⟩:=cr.mp hd;simp_arith[ends];exact hk _ ⟨_,rfl⟩
     ·rw[gd];simp_arith[Function.comp_def,mj,all_map];simp only[aT hw,eS,fT]
    ·have hb:(((l.length:Int)==w):Bool)=false:=by simp[hw]
     simp_arith[hb];simp[hw]
   |ref p=>simp[nr]at hx
   |scr p=>simp[nr]at hx
   |exn p=>simp[nr]at hx
   |obj _ _ _=>simp[nr]at hx
   |_=>simp_arith[j9,isText];try simp
  ·cases h
 ·cases h
noncomputable def ni:List D->Option D
 |[.int w,x]=>if nr x&&szd x then some (.bl (isText [48,49,42] w x)) else none
 |_=>none
theorem acD (Φ:aa) (h1:Φ "is_text_of"=aD fText) (ds:List D) (G:DH) (d:D) (h:ni ds=some d):au Φ mH noE (env0 ds 0) G (ends λd' G'=>G'=G/\d'=d):=by
 unfold ni at h;split at h
 ·rename_i w x;split at h
  ·rename_i hx;cases h;simp_arith[mH,h1];exact bM (d:=.bl (isText [48,49,42] w x)) (if_pos hx) ⟨rfl,rfl⟩
  ·cases h
 ·cases h
theorem uK:∀{l:List D}{d:D},nrs l=true->d∈l->nr d=true
 |a::as,d,h,m=>by
  rw[nrs,ae]at h;rcases bo.mp m with e |m
  ·rw[e];exact h.1
  ·exact uK h.2 m
theorem acE{x:D}{G:DH}(h1:nr x=true):view G x=x:=by cases x <;> first |rfl | (simp[nr]at h1)
def okF(w:Nat)(l:List Nat):Prop:=l.length=w/\∀c∈l,isF c
theorem okF.app{w v:Nat}{l m:List Nat}(h:okF w l)(h':okF v m):okF (w+v) (l++m):=⟨by rw[bq,h.1,h'.1],λc hc=>(bn.mp hc).elim (h.2 c) (h'.2 c)⟩
theorem okF.one{c:Nat}(h:isF c):okF 1 [c]:=⟨rfl,λd hd=>by rw[bg.mp hd];exact h⟩
theorem cP{p:Addr}{m:Int}{G:DH}{k:D->DH->Prop}{E:EK}(hp:Pen G p)(h1:0 < m)(h2:m < 1152921504606846976)(hk:∀(r:Nat)(G':DH),(r:Int) < m->Pen G' p->Sb p G G'->k (.int r) G'):eN.t [.ref p,.int m] G k E:=by refine bU ⟨p,m,rfl,hp,h1,h2⟩ λd G' hx=>?_;obtain ⟨p2,m2,r,e1,e2,r0,r1,hp',sb⟩:=hx;cases e1;subst e2;obtain ⟨n,rfl⟩:=cq r0;exact hk n G' r1 hp' sb
theorem acF{n:Nat}(h:(n:Int) < 2):∃c,atI [48,49] (n:Int)=some c/\isF c:=by
 have:n=0\/n=1:=by omega
 rcases this with rfl |rfl
 ·exact ⟨48,rfl,.inl rfl⟩
 ·exact ⟨49,rfl,.inr (.inl rfl)⟩
theorem acG{n:Nat}(h:(n:Int) < 3):∃c,atI [48,49,42] (n:Int)=some c/\isF c:=by
 have:n=0\/n=1\/n=2:=by omega
 rcases this with rfl |rfl |rfl
 ·exact ⟨48,rfl,.inl rfl⟩
 ·exact ⟨49,rfl,.inr (.inl rfl)⟩
 ·exact ⟨42,rfl,.inr (.inr rfl)⟩
def yV(ds:List D)(G:DH):Prop:=∃p l,ds=[.ref p,.str l]/\Pen G p/\(∀c∈l,isF c)/\l.length<=1000
def yW(ds:List D)(G:DH)(d:D)(G':DH):Prop:=∃p l m,ds=[.ref p,.str l]/\d=.str m/\okF l.length m/\Pen G' p/\Sb p G G'
def jl:RF.Spec:=bx yV yW
theorem Nf{p:Addr}{l:List Nat}{G:DH}{k:D->DH->Prop}{E:EK}(hp:Pen G p)(hl:∀c∈l,isF c)(h2:l.length<=1000)(hk:∀(m:List Nat)(G':DH),okF l.length m->Pen G' p->Sb p G G'->k (.str m) G'):jl.t [.ref p,.str l] G k E:=by refine bU ⟨p,l,rfl,hp,hl,h2⟩ λd G' hx=>?_;obtain ⟨p2,l2,m,e1,e2,h,hp',sb⟩:=hx;cases e1;subst e2;exact hk m G' h hp' sb
theorem acH (Φ:aa) (h1:Φ "_law_take"=eN) (ds:List D) (G:DH) (h:yV ds G):au Φ yI noE (env0 ds 2) G (ends (yW ds G)):=by
 obtain ⟨p,l,rfl,hp,hl,hl2⟩:=h;simp_all_arith[yI];refine seq λM hM=>?_;simp_arith[ends];refine hM _ _ (seq λM hM=>?_);simp_arith![ends];refine ForG.inv (P:=λi ρ G'=>(∃o m,ρ=[some (.ref p),some (.str l),some (.str m),o]/\okF i m)/\Pen G' p/\Sb p G G') ⟨⟨_,_,rfl,rfl,by simp⟩,hp,Sb.refl _ _⟩ (λ_ _ _ _=>trivial) ?_ ?_
 ·rintro i d ρ G2 hd ⟨⟨o,m,rfl,hm⟩,hp2,sb2⟩ kk hk;rw[a8]at hd;obtain ⟨c,hc,rfl⟩:=aE.mp hd;have hi:i < l.length:=(am.mp hc).1;have fc:=hl c (b6 hc);have l1:=hm.1;simp_arith![ends];refine seq λM hM=>?_;have fin:∀(c:Nat)(G3:DH),isF c->Pen G3 p->Sb p G2 G3->M [some (.ref p),some (.str l),some (.str m),some (.str [c])] G3:=by
   intro c G3 fc hp3 sb3;refine hM _ _ (last ?_);simp_arith[ends];exact ⟨by have hsz:sz=1000000:=rfl;omega,hk _ _ ⟨⟨_,_,rfl,hm.app (okF.one fc)⟩,hp3,sb2.trans sb3⟩⟩
  simp_arith[h1];cases ht:([c]==[42]) with
  |false=>exact fin c G2 fc hp2 (Sb.refl _ _)
  |true=>
   refine cP hp2 (by decide) (by decide) λr G3 hr hp3 sb3=>?_;simp_arith[ends];cases hr0:((r:Int)==0) with
   |false=>exact fin c G3 fc hp3 sb3
   |true=>
    refine cP hp3 (by decide) (by decide) λr' G4 hr' hp4 sb4=>?_;obtain ⟨c',e,fc'⟩:=acF hr';simp_arith[e];exact fin c' G4 fc' hp4 (sb3.trans sb4)
 ·rintro ρ G2 ⟨⟨o,m,rfl,hm⟩,hp2,sb2⟩;refine hM _ _ ?_;simp_arith[ends];exact ⟨p,l,m,rfl,rfl,by simpa using hm,hp2,sb2⟩
theorem acI (Φ:aa) (h1:Φ "_law_take"=eN) (ds:List D) (G:DH) (h:yV ds G):au Φ yH noE (env0 ds 2) G (ends (yW ds G)):=by
 obtain ⟨p,l,rfl,hp,hl,hl2⟩:=h;simp_all_arith[yH];refine seq λM hM=>?_;simp_arith[ends];refine hM _ _ (seq λM hM=>?_);simp_arith![ends];refine ForG.inv (P:=λi ρ G'=>(∃o m,ρ=[some (.ref p),some (.str l),some (.str m),o]/\okF i m)/\Pen G' p/\Sb p G G') ⟨⟨_,_,rfl,rfl,by simp⟩,hp,Sb.refl _ _⟩ (λ_ _ _ _=>trivial) ?_ ?_
 ·rintro i d ρ G2 hd ⟨⟨o,m,rfl,hm⟩,hp2,sb2⟩ kk hk;rw[a8]at hd;obtain ⟨c,hc,rfl⟩:=aE.mp hd;have hi:i < l.length:=(am.mp hc).1;have fc:=hl c (b6 hc);have l1:=hm.1;simp_arith![ends];refine seq λM hM=>?_;have fin:∀(c:Nat)(G3:DH),isF c->Pen G3 p->Sb p G2 G3->M [some (.ref p),some (.str l),some (.str m),some (.str [c])] G3:=by
   intro c G3 fc hp3 sb3;refine hM _ _ (last ?_);simp_arith[ends];exact ⟨by have hsz:sz=1000000:=rfl;omega,hk _ _ ⟨⟨_,_,rfl,hm.app (okF.one fc)⟩,hp3,sb2.trans sb3⟩⟩
  simp_arith[h1];refine cP hp2 (by decide) (by decide) λr G3 hr hp3 sb3=>?_;simp_arith[ends];cases hr0:((r:Int)==0) with
  |false=>exact fin c G3 fc hp3 sb3
  |true=>exact fin 42 G3 (.inr (.inr rfl)) hp3 sb3
 ·rintro ρ G2 ⟨⟨o,m,rfl,hm⟩,hp2,sb2⟩;refine hM _ _ ?_;simp_arith[ends];exact ⟨p,l,m,rfl,rfl,by simpa using hm,hp2,sb2⟩
theorem Ng{G G':DH}{p:Addr}{x:D}{fs:List (List Nat)}(hv:view G x=.lst (fs.map D.str))(hp:Pen G p)(sb:Sb p G G'):view G' x=.lst (fs.map D.str):=by
 cases x with
 |ref q=>
  unfold view at hv;dsimp only at hv;cases g:G q with
  |none=>rw[g]at hv;cases hv
  |some o=>
   cases o with
   |lst ds=>
    rw[g]at hv;have e:ds=fs.map D.str:=by simpa using hv
    have hn:q≠p:=by
     rintro rfl;obtain ⟨ns,k,st,e1,_⟩:=hp;rw[g,e]at e1;cases fs with
     |nil=>simp at e1
     |cons a r=>simp at e1
    rw[cO (sb q _ g hn),e]
 |lst l=>exact hv
 |_=>cases hv
def Nh(ds:List D)(G:DH):Prop:=∃p,∃w:Nat,∃x,∃fs:List (List Nat),ds=[.ref p,.int w,x]/\Pen G p/\0 < w/\w<=1000/\view G x=.lst (fs.map D.str)/\fs.length<=1000/\∀f∈fs,okF w f
def yX(ds:List D)(G:DH)(d:D)(G':DH):Prop:=∃p,∃w:Nat,∃x m,ds=[.ref p,.int w,x]/\d=.str m/\okF w m/\Pen G' p/\Sb p G G'
def uL:RF.Spec:=bx Nh yX
theorem acJ{p:Addr}{w:Nat}{x:D}{fs:List (List Nat)}{G:DH}{k:D->DH->Prop}{E:EK}(hp:Pen G p)(h1:0 < w)(h2:w<=1000)(hv:view G x=.lst (fs.map D.str))(h3:fs.length<=1000)(h4:∀f∈fs,okF w f)
  (hk:∀(m:List Nat)(G':DH),okF w m->Pen G' p->Sb p G G'->k (.str m) G'):uL.t [.ref p,.int w,x] G k E:=by
 refine bU ⟨p,w,x,fs,rfl,hp,h1,h2,hv,h3,h4⟩ λd G' hx=>?_;obtain ⟨p2,w2,x2,m,e1,e2,h,hp',sb⟩:=hx;simp only[dc,D.ref.injEq,D.int.injEq,Int.ofNat_inj,ff]at e1;obtain ⟨rfl,rfl,rfl⟩:=e1;subst e2;exact hk m G' h hp' sb
theorem acK(fs:List (List Nat)):nrs (fs.map D.str)=true:=by
 induction fs with
 |nil=>rfl
 |cons a l ih=>rw[ce,nrs,ih];rfl
theorem acL(fs:List (List Nat)):aW (fs.map D.str)=0:=by
 induction fs with
 |nil=>rfl
 |cons a l ih=>rw[ce,aW,ih];rfl
theorem acM{w n:Nat}{l:List Nat}{c:Nat}(h:okF w l)(hn:n < w)(fc:isF c):okF w (cut l none (some (n:Int))++[c]++cut l (some ((n:Int)+1)) none):=by
 have h1:=h.1;rw[yo,Hr];refine ⟨?_,λd hd=>?_⟩
 ·simp;omega
 ·rcases bn.mp hd with hd |hd
  ·rcases bn.mp hd with hd |hd
   ·exact h.2 d (List.mem_of_mem_take hd)
   ·rw[bg.mp hd];exact fc
  ·exact h.2 d (List.mem_of_mem_drop hd)
theorem acN (Φ:aa) (h1:Φ "_law_take"=eN) (h2:Φ "_law_form"=yS) (h3:Φ "_law_within"=jl) (h4:Φ "_law_wider"=jl) (ds:List D) (G:DH) (h:Nh ds G):au Φ yJ noE (env0 ds 3) G (ends (yX ds G)):=by
 obtain ⟨p,w,x,fs,rfl,hp,w1,w2,hv,hf,hfs⟩:=h;simp_all_arith[yJ];refine seq λM hM=>?_;simp_arith[h1];refine cP hp (by decide) (by decide) λkd G2 hkd hp2 sb2=>?_;have hv2:=Ng hv hp sb2;refine hM _ _ (seq λM hM=>?_);have drawn:∀(ρ:aj) (G3:DH),Pen G3 p->Sb p G G3->au Φ (.cons (.ret (.call "_law_form" (.cons (.var 0) (.cons (.var 1) .nil)))) .nil) noE (some (.ref p)::some (.int w)::ρ) G3 { nx:=M,rt:=yX [.ref p,.int w,x] G,bk:=λ_ _=>False,ct:=λ_ _=>False }:=by intro ρ G3 hp3 sb3;simp_arith[h2];refine bU ⟨p,w,rfl,hp3,w2⟩ λd G4 hx=>?_;obtain ⟨p4,n4,l,e1,e2,l1,l2,hp4,sb4⟩:=hx;simp only[dc,D.ref.injEq,D.int.injEq,Int.ofNat_inj,ff]at e1;obtain ⟨rfl,rfl⟩:=e1;exact ⟨p,w,x,l,rfl,e2,⟨l1,l2⟩,hp4,sb3.trans sb4⟩
 simp_arith![hv2,ach,acL,acK];refine ⟨by decide,?_⟩;cases he:(fs.map D.str).isEmpty with
 |true=>exact drawn _ _ hp2 sb2
 |false=>
  have hlen:0 < fs.length:=by
   cases fs with
   |nil=>simp at he
   |cons a r=>simp
  simp_arith![ends];cases hk2:decide ((kd:Int) < 2) with
  |true=>exact drawn _ _ hp2 sb2
  |false=>
   simp_arith[ends];refine hM _ _ (seq λM hM=>?_);simp_arith[h1,hv2,al];refine cP hp2 (by omega) (by omega) λr G3 hr hp3 sb3=>?_;have hv3:=Ng hv2 hp2 sb3;simp_arith[hv3];have hr':r < fs.length:=by omega
   refine bN (a:=.str fs[r]) (b8 (by simp[hr'])) ?_;have fok:=hfs fs[r] (ee _);generalize fs[r]=f at fok;refine hM _ _ (seq λM hM=>?_);have sb':=sb2.trans sb3;simp_arith[ends];cases hk3:((kd:Int)==2) with
   |true=>exact ⟨p,w,x,f,rfl,rfl,fok,hp3,sb'⟩
   |false=>
    refine hM _ _ (seq λM hM=>?_);simp_arith![ends];cases hk5:decide ((kd:Int) < 5) with
    |true=>
     simp_arith[h1];refine cP hp3 (by omega) (by omega) λat' G4 hat hp4 sb4=>?_;refine cP hp4 (by decide) (by decide) λs G5 hs hp5 sb5=>?_;obtain ⟨c,e,fc⟩:=acG hs;have c1:=Ho f none (some (at':Int));have c2:=Ho f (some ((at':Int)+1)) none;have f1:=fok.1;simp_arith[e,bq];exact ⟨by have hsz:sz=1000000:=rfl;omega,by have hsz:sz=1000000:=rfl;omega,p,w,x,_,rfl,rfl,acM fok (by omega) fc,hp5,sb'.trans (sb4.trans sb5)⟩
    |false=>
     simp_arith[ends];refine hM _ _ (seq λM hM=>?_);have f1:=fok.1;simp_arith[h3];cases hk6:((kd:Int)==5) with
     |true=>
      refine Nf hp3 fok.2 (by omega) λm G4 hm hp4 sb4=>?_;rw[f1]at hm;exact ⟨p,w,x,m,rfl,rfl,hm,hp4,sb'.trans sb4⟩
     |false=>
      refine hM _ _ ?_;simp_arith[h4];refine Nf hp3 fok.2 (by omega) λm G4 hm hp4 sb4=>?_;rw[f1]at hm;exact ⟨p,w,x,m,rfl,rfl,hm,hp4,sb'.trans sb4⟩
def okD(l:List Nat):Prop:=1<=l.length/\l.length<=8/\∀c∈l,97<=c/\c<=122
theorem acO{p:Addr}{n:Nat}{cs:List Nat}{G:DH}{k:D->DH->Prop}{E:EK}(hp:Pen G p)(hn:n<=1000)(h1:cs≠[])(h2:cs.length<=1000)(hk:∀(l:List Nat)(G':DH),l.length=n->(∀c∈l,c∈cs)->Pen G' p->Sb p G G'->k (.str l) G'):m7.t [.ref p,.int n,.str cs] G k E:=by refine bU ⟨p,n,cs,rfl,hp,hn,h1,h2⟩ λd G' hx=>?_;obtain ⟨p2,n2,cs2,l,e1,e2,l1,l2,hp',sb⟩:=hx;simp only[dc,D.ref.injEq,D.int.injEq,D.str.injEq,Int.ofNat_inj,ff]at e1;obtain ⟨rfl,rfl,rfl⟩:=e1;subst e2;exact hk l G' l1 l2 hp' sb
def Ni(ds:List D)(G:DH):Prop:=∃p,∃m:Int,ds=[.ref p,.int m]/\Pen G p/\0 < m/\m<=100
def Nj(ds:List D)(G:DH)(d:D)(G':DH):Prop:=∃p,∃m:Int,∃xs:List (List Nat),ds=[.ref p,.int m]/\d=.lst (xs.map D.str)/\0 < xs.length/\xs.length<=100/\(∀x∈xs,okD x)/\Pen G' p/\Sb p G G'
def uM:RF.Spec:=bx Ni Nj
noncomputable def yZ:List (List Nat):=[[97],[103,111],[115,116,97,121],[97,98,99,100,101,102,103,104],[110,111,110,101],[121,101,115],[105,110],[111,117,116],[107,101,101,112],[119,111,114,100],[122,122]]
theorem acP:∀x∈yZ,okD x:=by
 have h:∀x∈yZ,1<=x.length/\x.length<=8/\∀c∈x,97<=c/\c<=122:=by decide
 exact h
theorem Nk{c:Nat}(h:c∈[97,98,99,100,101,102,103,104,105,106,107,108,109,110,111,112,113,114,115,116,117,118,119,120,121,122]):97<=c/\c<=122:=by
 have:∀c∈[97,98,99,100,101,102,103,104,105,106,107,108,109,110,111,112,113,114,115,116,117,118,119,120,121,122],97<=c/\c<=122:=by decide
 exact this c h
theorem acQ (Φ:aa) (h1:Φ "_law_take"=eN) (h2:Φ "_law_signs"=m7) (ds:List D) (G:DH) (h:Ni ds G):au Φ yF noE (env0 ds 4) G (ends (Nj ds G)):=by
 obtain ⟨p,m,rfl,hp,m1,m2⟩:=h;simp_all_arith[yF];refine seq λM hM=>?_;simp_arith[ends];refine ⟨by decide,hM _ _ ?_⟩;refine (λtail=>tail yZ rfl acP) (?_:∀xs:List (List Nat),xs.length=11->(∀x∈xs,okD x)->au Φ _ noE [some (.ref p),some (.int m),some (.lst (xs.map D.str)),none,none,none] G _);intro xs x1 x2;refine seq λM hM=>?_;simp_arith[h1];refine cP hp (by decide) (by decide) λt G2 ht hp2 sb2=>?_;refine hM _ _ (seq λM hM=>?_);simp_arith[h1];refine cP hp2 (by omega) (by omega) λr G3 hr hp3 sb3=>?_;simp_arith[ends];refine ⟨by omega,?_⟩;refine CompG.inv (P:=λi acc ρ G'=>(∃o,ρ=[o,some (.lst (xs.map D.str)),some (.int t)])/\G'=G3/\∃ys:List (List Nat),acc=ys.map D.str/\ys.length=i/\∀y∈ys,okD y) ⟨⟨_,rfl⟩,rfl,[],rfl,rfl,by simp⟩ (λ_ _ _ _ _=>trivial) (by simp[aR];have hsz:sz=1000000:=rfl;omega) ?_ ?_
 ·rintro i d acc ρ G' hd ⟨⟨o,rfl⟩,rfl,ys,rfl,y1,y2⟩ kk hk;unfold aR at hd;rw[a8]at hd;obtain ⟨j,hj,rfl⟩:=aE.mp hd;simp_arith[ends];have q0:0<=((t:Int)+3 * (0+(j:Int))) % 11:=fh _ (by decide);have q1:((t:Int)+3 * (0+(j:Int))) % 11 < 11:=e9 _ (by decide);refine ⟨yQ (by decide),by decide,IW q0 (by rw[al,x1];exact q1) λa ha=>?_⟩;obtain ⟨x,hx,rfl⟩:=cr.mp ha;refine hk _ _ _ ⟨⟨_,rfl⟩,rfl,ys++[x],by simp,by simp[y1],λy hy=>?_⟩;rcases bn.mp hy with h |h
  ·exact y2 y h
  ·rw[bg.mp h];exact x2 x hx
 ·rintro acc ρ G' ⟨_,rfl,ys,rfl,y1,y2⟩;have hy:ys.length=r+1:=by rw[y1];simp[aR];omega
  refine hM _ _ (seq λM hM=>?_);simp_arith[h1];refine cP hp3 (by decide) (by decide) λq G4 hq hp4 sb4=>?_;have sb':=sb2.trans (sb3.trans sb4);simp_arith[ends];cases hq0:((q:Int)==0) with
  |false=>
   refine hM _ _ ?_;simp_arith[ends];exact ⟨p,m,ys,rfl,rfl,by omega,by omega,y2,hp4,sb'⟩
  |true=>
   simp_arith[ends];refine CompG.inv (P:=λi acc ρ G'=>(∃o,ρ=[o,some (.ref p),some (.str [97,98,99,100,101,102,103,104,105,106,107,108,109,110,111,112,113,114,115,116,117,118,119,120,121,122])])/\Pen G' p/\Sb p G G'/\∃zs:List (List Nat),acc=zs.map D.str/\zs.length=i/\∀z∈zs,okD z) ⟨⟨_,rfl⟩,hp4,sb',[],rfl,rfl,by simp⟩ (λ_ _ _ _ _=>trivial) (by simp;have hsz:sz=1000000:=rfl;omega) ?_ ?_
   ·rintro i d acc ρ G' hd ⟨⟨o,rfl⟩,hp5,sb5,zs,rfl,z1,z2⟩ kk hk;simp_arith[h1,h2];refine cP hp5 (by decide) (by decide) λn G6 hn hp6 sb6=>?_;simp_arith[ends];rw[show (1:Int)+(n:Int)=((n+1:Nat):Int) by omega];refine acO hp6 (by omega) (by simp) (by simp) λl G7 l1 l2 hp7 sb7=>?_;refine hk _ _ _ ⟨⟨_,rfl⟩,hp7,sb5.trans (sb6.trans sb7),zs++[l],by simp,by simp[z1],λz hz=>?_⟩;rcases bn.mp hz with h |h
    ·exact z2 z h
    ·rw[bg.mp h];exact ⟨by omega,by omega,λc hc=>Nk (l2 c hc)⟩
   ·rintro acc ρ G' ⟨_,hp5,sb5,zs,rfl,z1,z2⟩;rw[al]at z1;refine hM _ _ ?_;simp_arith[ends];exact ⟨p,m,zs,rfl,rfl,by omega,by omega,z2,hp5,sb5⟩
abbrev Row:=List Nat×List Nat
def aG(r:Row):D:=.tup [.str r.1,.str r.2]
def ao(w:Nat)(rs:List Row):D:=.tup [.int w,.tup (rs.map aG)]
structure okB(w:Nat)(rs:List Row):Prop where
 w1:1<=w
 w6:w<=6
 len:rs.length<=12
 form:∀r∈rs,okF w r.1
 deed:∀r∈rs,okD r.2
def Nm(ds:List D)(G:DH):Prop:=∃p,∃w m:Nat,ds=[.ref p,.int w,.int m]/\Pen G p/\1<=w/\w<=6/\m<=12
def Np(ds:List D)(G:DH)(d:D)(G':DH):Prop:=∃p,∃w m v:Nat,∃rs:List Row,ds=[.ref p,.int w,.int m]/\d=ao v rs/\okB v rs/\v<=w/\rs.length<=m/\Pen G' p/\Sb p G G'
def uN:RF.Spec:=bx Nm Np
theorem acR{p:Addr}{w m:Nat}{G:DH}{k:D->DH->Prop}{E:EK}(hp:Pen G p)(h1:1<=w)(h2:w<=6)(h3:m<=12)(hk:∀(v:Nat)(rs:List Row)(G':DH),okB v rs->v<=w->rs.length<=m->Pen G' p->Sb p G G'->k (ao v rs) G'):uN.t [.ref p,.int w,.int m] G k E:=by refine bU ⟨p,w,m,rfl,hp,h1,h2,h3⟩ λd G' hx=>?_;obtain ⟨p2,w2,m2,v,rs,e1,e2,o,q1,q2,hp',sb⟩:=hx;simp only[dc,D.ref.injEq,D.int.injEq,Int.ofNat_inj,ff]at e1;obtain ⟨rfl,rfl,rfl⟩:=e1;subst e2;exact hk v rs G' o q1 q2 hp' sb
theorem acS{p:Addr}{m:Int}{G:DH}{k:D->DH->Prop}{E:EK}(hp:Pen G p)(h1:0 < m)(h2:m<=100)(hk:∀(xs:List (List Nat))(G':DH),0 < xs.length->xs.length<=100->(∀x∈xs,okD x)->Pen G' p->Sb p G G'->k (.lst (xs.map D.str)) G'):uM.t [.ref p,.int m] G k E:=by refine bU ⟨p,m,rfl,hp,h1,h2⟩ λd G' hx=>?_;obtain ⟨p2,m2,xs,e1,e2,q1,q2,q3,hp',sb⟩:=hx;cases e1;subst e2;exact hk xs G' q1 q2 q3 hp' sb
theorem Bm{α:Type}{l:List α}{a:α}:atI (l++[a]) (-1)=some a:=by unfold atI ixN;rw[if_neg (by decide),if_pos (by simp;omega),bq,List.length_singleton,show (-1+((l.length+1:Nat):Int)).toNat=l.length by omega];simp
theorem acT (Φ:aa) (h1:Φ "_law_take"=eN) (h2:Φ "_law_deeds_of"=uM) (h3:Φ "_law_form_like"=uL) (ds:List D) (G:DH) (h:Nm ds G):au Φ yK noE (env0 ds 5) G (ends (Np ds G)):=by
 obtain ⟨p,w,m,rfl,hp,w1,w2,m1⟩:=h;simp_all_arith[yK];refine seq λM hM=>?_;simp_arith[h1];refine cP hp (by omega) (by omega) λn G2 hn hp2 sb2=>?_;simp_arith[ends];rw[show (1:Int)+(n:Int)=((n+1:Nat):Int) by omega];refine hM _ _ (seq λM hM=>?_);simp_arith[h2];refine acS hp2 (by decide) (by decide) λxs G3 x1 x2 x3 hp3 sb3=>?_;refine hM _ _ (seq λM hM=>?_);simp_arith[ends];refine λq hq=>hM _ _ (seq λM hM=>?_);simp_arith[ends];refine λs hs=>hM _ _ (seq λM hM=>?_);have hqs:q≠s:=by rintro rfl;rw[bO]at hs;cases hs
 have hs3:G3 s=none:=by rw[dN (Ne.symm hqs)]at hs;exact hs
 have npq:p≠q:=hp3.ne hq;have nps:p≠s:=hp3.ne hs3;have sa4:Sa G3 (aQ (aQ G3 q (.lst [])) s (.lst [])):=(Sa.new hq).trans (Sa.new hs);have hp4:=hp3.sa sa4;simp_arith![h1];refine cP hp4 (by omega) (by omega) λr G5 hr hp5 sb5=>?_;simp_arith![ends];refine ⟨by omega,?_⟩;refine ForG.inv (P:=λi ρ G'=>(∃o,ρ=[some (.ref p),some (.int w),some (.int m),some (.int ((n+1:Nat):Int)),some (.lst (xs.map D.str)),some (.ref q),some (.ref s),o])/\Pen G' p/\Sb p G G'/\
   ∃rs:List Row,G' q=some (.lst ((rs.map (·.1)).map D.str))/\G' s=some (.lst (rs.map aG))/\rs.length=i/\(∀r∈rs,okF (n+1) r.1)/\∀r∈rs,okD r.2) ⟨⟨_,rfl⟩,hp5,sb2.trans (sb3.trans (sa4.sb.trans sb5)),[],?_,?_,rfl,by simp,by simp⟩ (λ_ _ _ _=>trivial) ?_ ?_
 ·exact sb5 q _ (by rw[dN hqs];exact bO) (Ne.symm npq)
 ·exact sb5 s _ bO (Ne.symm nps)
 ·rintro i d ρ G' hd ⟨⟨o,rfl⟩,hp6,sb6,rs,g1,g2,r1,r2,r3⟩ kk hk;have hi:i < r:=by
   have:=(am.mp hd).1;simpa [aR] using this
  simp_arith![ends];refine seq λM hM=>?_;simp_arith[h3,dW g1];refine acJ (fs:=rs.map (·.1)) hp6 (by omega) (by omega) (cO g1) (by simp;omega) (λf hf=>?_) λf G7 hf hp7 sb7=>?_
  ·obtain ⟨r',hr',rfl⟩:=cr.mp hf;exact r2 r' hr'
  have g1':=sb7 q _ g1 (Ne.symm npq);have g2':=sb7 s _ g2 (Ne.symm nps);simp_arith[dW g1'];refine ⟨by simp;have hsz:sz=1000000:=rfl;omega,hM _ _ (last ?_)⟩;have e2:aQ G7 q (.lst ((rs.map (·.1)).map D.str++[.str f])) s=some (.lst (rs.map aG)):=by rw[dN (Ne.symm hqs)];exact g2'
  have hp8:Pen (aQ G7 q (.lst ((rs.map (·.1)).map D.str++[.str f]))) p:=hp7.sb Sb.upd npq;simp_arith[h1,dW e2,cO bO,Bm,al];refine cP hp8 (by omega) (by omega) λt G9 ht hp9 sb9=>?_;have e1':=sb9 q _ bO (Ne.symm npq);have e2':=sb9 s _ e2 (Ne.symm nps);simp_arith[dW e2'];refine IW (by omega) (by simp;omega) λx hx=>?_;obtain ⟨dd,hdd,rfl⟩:=cr.mp hx;refine ⟨by decide,by simp;have hsz:sz=1000000:=rfl;omega,hk _ _ ⟨⟨_,rfl⟩,hp9.sb Sb.upd nps,?_,rs++[(f,dd)],?_,?_,by simp[r1],?_,?_⟩⟩
  ·intro b ob hb nb;by_cases hbs:b=s
   ·subst hbs;exfalso;have z:=sb2 b _ hb nb;have z:=sb3 b _ z nb;rw[hs3]at z;cases z
   ·by_cases hbq:b=q
    ·subst hbq;exfalso;have z:=sb2 b _ hb nb;have z:=sb3 b _ z nb;rw[hq]at z;cases z
    ·rw[dN hbs];exact sb9 b _ (by rw[dN hbq];exact sb7 b _ (sb6 b _ hb nb) nb) nb
  ·rw[dN hqs,e1'];simp
  ·rw[bO];simp[aG]
  ·intro r' hr';rcases bn.mp hr' with h |h
   ·exact r2 r' h
   ·rw[bg.mp h];exact hf
  ·intro r' hr';rcases bn.mp hr' with h |h
   ·exact r3 r' h
   ·rw[bg.mp h];exact x3 dd hdd
 ·rintro ρ G' ⟨⟨o,rfl⟩,hp6,sb6,rs,g1,g2,r1,r2,r3⟩;have hl:rs.length=r:=by rw[r1];simp[aR]
  refine hM _ _ ?_;simp_arith[cO g2];exact ⟨by decide,p,w,m,n+1,rs,rfl,rfl,⟨by omega,by omega,by omega,r2,r3⟩,by omega,by omega,hp6,sb6⟩
def alt(c:Nat):List Nat:=if c=42 then [48,49] else [c]
def step1(acc:List (List Nat))(c:Nat):List (List Nat):=acc.flatMap λt=>(alt c).map λs=>t++[s]
def ie(f:List Nat):List (List Nat):=f.foldl step1 [[]]
def Fits(f w:List Nat):Prop:=f.length=w.length/\∀(i c s:Nat),f[i]?=some c->w[i]?=some s->s∈alt c
theorem acU(f:List Nat)(c:Nat):ie (f++[c])=step1 (ie f) c:=by unfold ie;rw[List.foldl_append];rfl
theorem acV{acc:List (List Nat)}{c:Nat}{w:List Nat}:w∈step1 acc c↔∃t s,t∈acc/\s∈alt c/\w=t++[s]:=by
 unfold step1;rw[List.mem_flatMap];constructor
 ·rintro ⟨t,ht,h⟩;obtain ⟨s,hs,rfl⟩:=cr.mp h;exact ⟨t,s,ht,hs,rfl⟩
 ·rintro ⟨t,s,ht,hs,rfl⟩;exact ⟨t,ht,cr.mpr ⟨s,hs,rfl⟩⟩
theorem za{f w:List Nat}{c s:Nat}:Fits (f++[c]) (w++[s])↔Fits f w/\s∈alt c:=by
 constructor
 ·rintro ⟨h1,h2⟩;have hl:f.length=w.length:=by simpa using h1
  refine ⟨⟨hl,λi c' s' hc hs=>?_⟩,?_⟩
  ·have i1:=(am.mp hc).1;exact h2 i c' s' (by rw[eK i1];exact hc) (by rw[eK (by omega)];exact hs)
  ·exact h2 f.length c s (by simp) (by rw[hl];simp)
 ·rintro ⟨⟨h1,h2⟩,h3⟩;refine ⟨by simp[h1],λi c' s' hc hs=>?_⟩;by_cases hi:i < f.length
  ·rw[eK hi]at hc;rw[eK (by omega)]at hs;exact h2 i c' s' hc hs
  ·have i2:=(am.mp hc).1;simp at i2;have e:i=f.length:=by omega
   subst e;simp at hc;rw[h1]at hs;simp at hs;subst hc hs;exact h3
theorem zb{f w:List Nat}:w∈ie f↔Fits f w:=by
 induction f using aci generalizing w with
 |nil=>
  simp[ie,Fits];constructor
  ·rintro rfl;simp
  ·intro h;exact cy.mp h.symm
 |snoc f c ih=>
  rw[acU,acV];constructor
  ·rintro ⟨t,s,ht,hs,rfl⟩;exact za.mpr ⟨ih.mp ht,hs⟩
  ·intro h;have hl:=h.1;simp at hl;have hne:w≠[]:=by rintro rfl;simp at hl
   refine ⟨w.dropLast,w.getLast hne,?_,?_,(fg hne).symm⟩
   ·rw[<-fg hne]at h;exact ih.mpr (za.mp h).1
   ·rw[<-fg hne]at h;exact (za.mp h).2
def orX(S:RF.Spec)(P:List D->String->Prop):RF.Spec where
 A:=S.A ⊕ (String×DH)
 pre:=λds G a=>match a with |.inl a=>S.pre ds G a |.inr c=>c.2=G/\P ds c.1
 post:=λa d G'=>match a with |.inl a=>S.post a d G' |.inr _=>False
 exc:=λa x G'=>match a with |.inl a=>S.exc a x G' |.inr c=>x=⟨c.1,.non⟩/\G'=c.2
theorem jm{S:RF.Spec}{P:List D->String->Prop}{ds:List D}{G:DH}{k:D->DH->Prop}{E:EK}(h:S.t ds G k E):(orX S P).t ds G k E:=by obtain ⟨a,h1,h2,h3⟩:=h;exact ⟨.inl a,h1,h2,h3⟩
theorem gr{S:RF.Spec}{P:List D->String->Prop}{ds:List D}{G:DH}{k:D->DH->Prop}{E:EK}{C:String}(h:P ds C)(hE:E ⟨C,.non⟩ G):(orX S P).t ds G k E:=
 ⟨.inr (C,G),⟨rfl,h⟩,λ_ _ q=>q.elim,λx G' ⟨e1,e2⟩=>by subst e1 e2;exact hE⟩
theorem ig{Φ:aa}{body:Sxs}{m n:Nat}{S:RF.Spec}{P:List D->String->Prop}(hS:S.exc=λ_ _ _=>False)(h1:∀ds G a,ds.length=n->S.pre ds G a->au Φ body noE (env0 ds m) G (ends (S.post a)))
  (h2:∀ds G C,P ds C->au Φ body (λx G'=>x=⟨C,.non⟩/\G'=G) (env0 ds m) G (ends λ_ _=>False)):∀ds G a,ds.length=n->(orX S P).pre ds G a->au Φ body ((orX S P).exc a) (env0 ds m) G (ends ((orX S P).post a)):=by
 rintro ds G (a |c) hl h
 ·have e:(orX S P).exc (.inl a)=noE:=by show S.exc a=noE;rw[hS];rfl
  rw[e];exact h1 ds G a hl h
 ·obtain ⟨e,hp⟩:=h;subst e;exact h2 ds c.2 c.1 hp
mutual
noncomputable def szA:D->Bool
 |.str l=>decide (l.length<=100000)
 |.tup l=>decide (l.length<=100000)&&bG l
 |.lst l=>decide (l.length<=100000)&&bG l
 |_=>true
noncomputable def bG:List D->Bool
 |[]=>true
 |a::as=>szA a&&bG as
end
theorem Nq{x:D}(h:szA x=true):szd x=true:=by cases x <;> first |rfl | (rw[szA]at h;exact h)
theorem Nr:∀{l:List D}{d:D},bG l=true->d∈l->szA d=true
 |a::as,d,h,m=>by
  rw[bG,ae]at h;rcases bo.mp m with e |m
  ·rw[e];exact h.1
  ·exact Nr h.2 m
theorem Nt:∀{l:List D},(∀d∈l,szA d=true)->bG l=true
 |[],_=>rfl
 |a::l,h=>by rw[bG,h a br,Nt λd hd=>h d (ba _ hd)];rfl
noncomputable def letters:List Nat:=[97,98,99,100,101,102,103,104,105,106,107,108,109,110,111,112,113,114,115,116,117,118,119,120,121,122]
theorem acW:∀c:Fin 123,97<=c.1->letters.contains c.1=true:=by decide
theorem acX{c:Nat}:letters.contains c=true↔97<=c/\c<=122:=
 ⟨λh=>Nk (a7.mp h),λ⟨h1,h2⟩=>acW ⟨c,Nat.lt_succ_of_le h2⟩ h1⟩
noncomputable def jo:D->Bool
 |.str l=>decide (1<=l.length)&&decide (l.length<=8)&&l.all (λc=>letters.contains c)
 |_=>false
def nq:List D->Option D
 |[x]=>if nr x&&szd x then some (.bl (jo x)) else none
 |_=>none
theorem acY(Φ:aa)(ds:List D)(G:DH)(d:D)(h:nq ds=some d):au Φ j8 noE (env0 ds 0) G (ends λd' G'=>G'=G/\d'=d):=by
 unfold nq at h;split at h
 ·rename_i x;split at h
  ·rename_i hx;cases h;rw[ae]at hx;cases x with
   |str l=>
    have hl:l.length<=100000:=by simpa [szd] using hx.2
    simp_arith[j8,jo];by_cases hw:1<=l.length
    ·have hb:decide ((1:Int)<=(l.length:Int))=true:=aT (by omega);simp_arith[hb];by_cases hw8:l.length<=8
     ·have hb8:decide ((l.length:Int)<=8)=true:=aT (by omega);simp_arith[hb8];refine CompG.map (f:=λd=>match d with |.str [c]=>.bl (letters.contains c) |_=>.non) (I:=λρ=>∃o,ρ=[o]) ⟨_,rfl⟩ trivial (by simp;have hsz:sz=1000000:=rfl;omega) ?_ ?_
      ·rintro d ρ hd ⟨o,rfl⟩ kk hk;obtain ⟨c,_,rfl⟩:=cr.mp hd;simp_arith[ends];exact hk _ ⟨_,rfl⟩
      ·rw[gd];simp_arith[Function.comp_def,mj,all_map];simp only[aT hw,aT hw8,eS,fT]
     ·have hb8:decide ((l.length:Int)<=8)=false:=bX (by omega);simp_arith[hb8];simp only[bX hw8,e8,e7]
    ·have hb:decide ((1:Int)<=(l.length:Int))=false:=bX (by omega);simp_arith[hb];simp only[bX hw,e7]
   |ref p=>simp[nr]at hx
   |scr p=>simp[nr]at hx
   |exn p=>simp[nr]at hx
   |obj _ _ _=>simp[nr]at hx
   |_=>simp_arith[j8,jo];try simp
  ·cases h
 ·cases h
def cY(w:Int):D->Bool
 |.tup [a,b]=>isText [48,49,42] w a&&jo b
 |_=>false
def nu:List D->Option D
 |[.int w,x]=>if nr x&&szA x then some (.bl (cY w x)) else none
 |_=>none
theorem acZ (Φ:aa) (h1:Φ "is_form"=aD ni) (h2:Φ "is_deed"=aD nq) (ds:List D) (G:DH) (d:D) (h:nu ds=some d):au Φ gn noE (env0 ds 0) G (ends λd' G'=>G'=G/\d'=d):=by
 unfold nu at h;split at h
 ·rename_i w x;split at h
  ·rename_i hx;cases h;rw[ae]at hx;cases x with
   |tup l=>
    match l,hx with
    |[],_=>simp_arith[gn,cY];try simp
    |[a],_=>simp_arith[gn,cY];try simp
    |[a,b],hx=>
     simp only[nr,nrs,szA,bG,cf,ae]at hx;obtain ⟨⟨n1,n2⟩,_,s1,s2⟩:=hx;have g1:(nr a&&szd a)=true:=by rw[n1,Nq s1];rfl
     have g2:(nr b&&szd b)=true:=by rw[n2,Nq s2];rfl
     simp_arith[gn,h1,h2];simp_arith[show ((0+1+1:Nat):Int)=2 from rfl,BEq.rfl];refine bM (if_pos g1) ?_;simp_arith[ends];cases ht:isText [48,49,42] w a with
     |false=>simp[cY,ht]
     |true=>
      refine bM (if_pos g2) ?_;simp_arith[ends];simp[cY,ht]
    |a::b::c::r,_=>
     have hb:((((r.length+1+1+1:Nat):Int)==2):Bool)=false:=by rw[df];omega
     simp_arith[gn,cY,hb]
   |ref p=>simp[nr]at hx
   |scr p=>simp[nr]at hx
   |exn p=>simp[nr]at hx
   |obj _ _ _=>simp[nr]at hx
   |_=>simp_arith[gn,cY];try simp
  ·cases h
 ·cases h
noncomputable def dG:D->Bool
 |.tup [.int w,.tup rows]=>decide (1<=w)&&decide (w<=6)&&decide (rows.length<=12)&&rows.all (cY w)
 |_=>false
def km:List D->Option D
 |[x]=>if nr x&&szA x then some (.bl (dG x)) else none
 |_=>none
theorem ac0 (Φ:aa) (h1:Φ "is_width"=aD m9) (h2:Φ "is_row"=aD nu) (ds:List D) (G:DH) (d:D) (h:km ds=some d):au Φ gq noE (env0 ds 2) G (ends λd' G'=>G'=G/\d'=d):=by
 unfold km at h;split at h
 ·rename_i x;split at h
  ·rename_i hx;cases h;rw[ae]at hx;cases x with
   |tup l=>
    match l,hx with
    |[],_=>simp_arith[gq,dG];try simp
    |[a],_=>simp_arith[gq,dG];try simp
    |[a,b],hx=>
     simp only[nr,nrs,szA,bG,cf,ae]at hx;obtain ⟨⟨n1,n2⟩,_,s1,s2⟩:=hx;simp_all_arith[gq];refine seq λM hM=>?_;simp_arith[ends];simp_arith[show ((0+1+1:Nat):Int)=2 from rfl,BEq.rfl];refine hM _ _ (seq λM hM=>?_);simp_arith[ends];refine hM _ _ (seq λM hM=>?_);simp_arith[h1];refine bM (if_pos n1) ?_;simp_arith[ends];cases hw:uJ a with
     |false=>
      have:dG (.tup [a,b])=false:=by
       cases a with
       |int i=>
        have hw:(decide (1<=i)&&decide (i<=6))=false:=hw;cases b <;> simp only[dG]
        rw[hw];simp
       |_=>rfl
      rw[this];simp_arith[ends]
     |true=>
      cases a with
      |int w=>
       have hw':decide (1<=w)=true/\decide (w<=6)=true:=by unfold uJ at hw;simpa using hw
       cases b with
       |tup rows=>
        simp_arith[ends];simp only[nr,szA,ae,bp]at n2 s2;by_cases hr:rows.length<=12
        ·have hd:decide ((12:Int) < (rows.length:Int))=false:=bX (by omega);simp_arith[hd];refine hM _ _ ?_;simp_arith[ends];refine CompG.map (f:=λd=>.bl (cY w d)) (I:=λρ=>∃o,ρ=[o,some (.int w)]) ⟨_,rfl⟩ trivial (by have hsz:sz=1000000:=rfl;omega) ?_ ?_
         ·rintro d ρ hd ⟨o,rfl⟩ kk hk;simp_arith[h2];refine bM (if_pos (by rw[uK n2 hd,Nr s2.2 hd];rfl)) ?_;exact hk _ ⟨_,rfl⟩
         ·simp_arith[mj];simp only[dG,hw'.1,hw'.2,aT hr,eS,List.all_map,Function.comp_def,id_eq]
        ·have hd:decide ((12:Int) < (rows.length:Int))=true:=aT (by omega);simp_arith[hd,dG,bX hr,e8,e7]
       |ref p=>simp[nr]at n2
       |scr p=>simp[nr]at n2
       |exn p=>simp[nr]at n2
       |obj _ _ _=>simp[nr]at n2
       |_=>simp_arith[dG];try simp
      |_=>cases hw
    |a::b::c::r,_=>
     have hb:((((r.length+1+1+1:Nat):Int)==2):Bool)=false:=by rw[df];omega
     simp_arith[gq,dG,hb]
   |ref p=>simp[nr]at hx
   |scr p=>simp[nr]at hx
   |exn p=>simp[nr]at hx
   |obj _ _ _=>simp[nr]at hx
   |_=>simp_arith[gq,dG];try simp
  ·cases h
 ·cases h
theorem ac1{w:Nat}{l:List Nat}(h:okF w l):isText [48,49,42] (w:Int) (.str l)=true:=by unfold isText;rw[ae];refine ⟨aT (by rw[h.1]),bv.mpr λc hc=>?_⟩;rcases h.2 c hc with rfl |rfl |rfl <;> rfl
theorem ac2{l:List Nat}(h:okD l):jo (.str l)=true:=by unfold jo;rw[ae,ae];exact ⟨⟨aT h.1,aT h.2.1⟩,bv.mpr λc hc=>acX.mpr (h.2.2 c hc)⟩
theorem ac3{w:Nat}{r:Row}(h1:okF w r.1)(h2:okD r.2):cY (w:Int) (aG r)=true:=by show (isText [48,49,42] (w:Int) (.str r.1)&&jo (.str r.2))=true;rw[ac1 h1,ac2 h2];rfl
theorem ac4{w:Nat}{rs:List Row}(h:okB w rs):dG (ao w rs)=true:=by unfold ao dG;simp only[ae,bp,al,List.all_map,bv];have:=h.w1;have:=h.w6;refine ⟨⟨⟨by omega,by omega⟩,h.len⟩,λr hr=>ac3 (h.form r hr) (h.deed r hr)⟩
theorem zc(rs:List Row):nrs (rs.map aG)=true:=yp λd hd=>by obtain ⟨r,_,rfl⟩:=cr.mp hd;rfl
theorem nA(w:Nat)(rs:List Row):nr (ao w rs)=true:=by unfold ao;simp only[nr,nrs,zc,cf]
theorem Nu{w:Nat}{rs:List Row}(h:okB w rs):szA (ao w rs)=true:=by unfold ao;simp only[szA,bG,cf,eS,ae,bp,al];have hlen:=h.len;have hw:=h.w6;refine ⟨by simp,by omega,Nt λd hd=>?_⟩;obtain ⟨r,hr,rfl⟩:=cr.mp hd;have h1:=(h.form r hr).1;have h2:=(h.deed r hr).2.1;unfold aG;simp only[szA,bG,cf,ae,bp];exact ⟨by simp,by omega,by omega⟩
def ac5:RF.Spec:=bx (λds _=>∃w rs,ds=[ao w rs]/\okB w rs) (λ_ G d G'=>G'=G/\d=.non)
def gw(x:D):Prop:=nr x=true/\szA x=true/\dG x=false
def ik (ds:List D) (C:String):Prop:=C="NoBook"/\∃x,ds=[x]/\gw x
def dH:RF.Spec:=orX ac5 ik
theorem jq{w:Nat}{rs:List Row}{G:DH}{k:D->DH->Prop}{E:EK}(h:okB w rs)(hk:k .non G):dH.t [ao w rs] G k E:=jm (bU ⟨w,rs,rfl,h⟩ λd G' ⟨e1,e2⟩=>by subst e1 e2;exact hk)
theorem uO {x:D} {G:DH} {k:D->DH->Prop} {E:EK} (h:gw x) (hE:E ⟨"NoBook",.non⟩ G):dH.t [x] G k E:=gr ⟨rfl,x,rfl,h⟩ hE
theorem ac6 (Φ:aa) (h1:Φ "is_book"=aD km) (ds:List D) (G:DH) (h:∃w rs,ds=[ao w rs]/\okB w rs):au Φ jc noE (env0 ds 0) G (ends λd G'=>G'=G/\d=.non):=by obtain ⟨w,rs,rfl,hb⟩:=h;simp_arith[jc,h1];refine bM (d:=.bl true) (by rw[<-ac4 hb];exact if_pos (by rw[nA,Nu hb];rfl)) ?_;simp_arith[ends]
theorem ac7 (Φ:aa) (h1:Φ "is_book"=aD km) (ds:List D) (G:DH) (C:String) (h:ik ds C):au Φ jc (λx G'=>x=⟨C,.non⟩/\G'=G) (env0 ds 0) G (ends λ_ _=>False):=by obtain ⟨rfl,x,rfl,hx,hz,hn⟩:=h;simp_arith[jc,h1];refine bM (d:=.bl false) (by rw[<-hn];exact if_pos (by rw[hx,hz];rfl)) ?_;simp_arith[fT]
def kE(c s:Nat):Bool:=c==42||c==s
def fJ:List Nat->List Nat->Bool
 |c::f,s::w=>kE c s&&fJ f w
 |_,_=>true
def cZ(f w:List Nat):Bool:=decide (f.length=w.length)&&fJ f w
noncomputable def nF:List D->Option D
 |[.str f,.str w]=>if decide (f.length<=100000) then some (.bl (cZ f w)) else none
 |_=>none
theorem zf:∀(f w:List Nat),bT (f.map λc=>D.str [c]) (w.map λc=>D.str [c])=(f.zip w).map λp=>D.tup [.str [p.1],.str [p.2]]
 |[],w=>by simp[bT]
 |c::f,[]=>by simp[bT]
 |c::f,s::w=>by simp[bT,zf f w]
theorem Nv:∀(f w:List Nat),((f.zip w).map λp=>kE p.1 p.2).all id=fJ f w
 |[],w=>by simp[fJ]
 |c::f,[]=>by simp[fJ]
 |c::f,s::w=>by simp[fJ,Nv f w]
theorem il{c s:Nat}:(([c]==[s]):Bool)=(c==s):=by
 by_cases h:c=s
 ·subst h;simp
 ·rw[df.mpr h,df.mpr (by simp[h])]
theorem ac8{a b:Nat}:((((a:Nat):Int)==((b:Nat):Int)):Bool)=decide (a=b):=by
 by_cases h:a=b
 ·subst h;simp
 ·rw[bX h,df];omega
theorem ac9(Φ:aa)(ds:List D)(G:DH)(d:D)(h:nF ds=some d):au Φ mC noE (env0 ds 0) G (ends λd' G'=>G'=G/\d'=d):=by
 unfold nF at h;split at h
 ·rename_i f w;split at h
  ·rename_i hl;have hl:=dQ hl;cases h;simp_arith[mC,ac8,cZ];cases he:decide (f.length=w.length) with
   |false=>simp_arith[e7]
   |true=>
    simp_arith[zf,eS];refine CompG.map (f:=λd=>match d with |.tup [.str [c],.str [s]]=>.bl (kE c s) |_=>.non) (I:=λρ=>∃o o',ρ=[o,o']) ⟨_,_,rfl⟩ trivial (by simp;have hsz:sz=1000000:=rfl;omega) ?_ ?_
    ·rintro d ρ hd ⟨o,o',rfl⟩ kk hk;obtain ⟨⟨c,s⟩,_,rfl⟩:=cr.mp hd;simp_arith[il];have:=hk [some (.str [c]),some (.str [s])] ⟨_,_,rfl⟩;unfold kE at this;cases hc:(c==42) with
     |true=>simp_arith[hc]at this ⊢;exact this
     |false=>simp_arith[hc]at this ⊢;exact this
    ·rw[gd];simp_arith[Function.comp_def,mj,Nv,fT]
  ·cases h
 ·cases h
theorem Nx{c s:Nat}(hs:s=48\/s=49):kE c s=true↔s∈alt c:=by
 unfold kE alt;by_cases h:c=42
 ·subst h;simp;rcases hs with rfl |rfl <;> simp
 ·simp[h];exact eq_comm
def ir(rs:List Row)(w:List Nat):Option Nat:=rs.findIdx? λr=>cZ r.1 w
def aV:Option Nat->D
 |some n=>.int n
 |none=>.non
theorem Ny{w v:Nat}{rs ss:List Row}(h:ao w rs=ao v ss):w=v/\rs=ss:=by
 unfold ao at h;simp only[D.tup.injEq,dc,D.int.injEq,Int.ofNat_inj,ff]at h;refine ⟨h.1,?_⟩;have h2:=h.2;clear h;induction rs generalizing ss with
 |nil=>cases ss with
  |nil=>rfl
  |cons _ _=>simp at h2
 |cons r rs ih=>cases ss with
  |nil=>simp at h2
  |cons s ss=>
   simp only[ce,dc]at h2;have e:r=s:=by have:=h2.1;unfold aG at this;simp only[D.tup.injEq,dc,D.str.injEq,ff]at this;exact Prod.ext this.1 this.2
   rw[e,ih h2.2]
noncomputable def kI(rs:List Row):Option Nat->D
 |some n=>match rs[n]? with |some r=>.str r.2 |none=>.non
 |none=>.non
def uP:RF.Spec:=bx (λds _=>∃w rs o,ds=[ao w rs,aV o]/\∀n,o=some n->n < rs.length) (λds G d G'=>G'=G/\∃w rs o,ds=[ao w rs,aV o]/\d=kI rs o)
theorem ada{a b:Option Nat}(h:aV a=aV b):a=b:=by cases a <;> cases b <;> simp[aV]at h ⊢ <;> omega
theorem Nz{w:Nat}{rs:List Row}{o:Option Nat}{G:DH}{k:D->DH->Prop}{E:EK}(h:∀n,o=some n->n < rs.length)(hk:k (kI rs o) G):uP.t [ao w rs,aV o] G k E:=by refine bU ⟨w,rs,o,rfl,h⟩ λd G' ⟨e1,w2,rs2,o2,e2,e3⟩=>?_;simp only[dc,ff]at e2;obtain ⟨e2,e4⟩:=e2;obtain ⟨rfl,rfl⟩:=Ny e2;cases ada e4;subst e1 e3;exact hk
theorem adb(Φ:aa)(ds:List D)(G:DH)(h:∃w rs o,ds=[ao w rs,aV o]/\∀n,o=some n->n < rs.length):au Φ kj noE (env0 ds 0) G (ends λd G'=>G'=G/\∃w rs o,ds=[ao w rs,aV o]/\d=kI rs o):=by
 obtain ⟨w,rs,o,rfl,ho⟩:=h;cases o with
 |none=>
  simp_arith[kj,aV];exact ⟨w,rs,none,rfl,rfl⟩
 |some n=>
  have hn:=ho n rfl;simp_arith[kj,aV,ao];refine bN (a:=aG rs[n]) (b8 (by simp[hn])) ?_;simp_arith[aG];exact ⟨w,rs,some n,rfl,by simp[kI,hn]⟩
theorem NB{α β:Type}(f:α->β)(l:List α)(n:Nat):cut (l.map f) none (some (n:Int))=(l.take n).map f:=by rw[yo,List.map_take]
theorem adc{α β:Type}(f:α->β)(l:List α)(n:Nat):cut (l.map f) (some (n:Int)) none=(l.drop n).map f:=by rw[Hq,List.map_drop]
theorem okB.sub{w:Nat}{rs ss:List Row}(h:okB w rs)(hl:ss.length<=rs.length)(hs:∀r∈ss,r∈rs):okB w ss:=
 ⟨h.w1,h.w6,cb hl h.len,λr hr=>h.form r (hs r hr),λr hr=>h.deed r (hs r hr)⟩
theorem ade(c:Nat)(n:Nat):reps [c] n=List.replicate n c:=by
 unfold reps;induction n with
 |zero=>rfl
 |succ n ih=>rw[ci,eR,ih,ci];rfl
theorem adf(w:Nat):okF w (List.replicate w 42):=⟨dn,λc hc=>.inr (.inr (List.eq_of_mem_replicate hc))⟩
theorem adg{p:Addr}{G:DH}{k:D->DH->Prop}{E:EK}(hp:Pen G p)(hk:∀G',Pen G' p->Sb p G G'->k (.ref p) G'):uI.t [.ref p] G k E:=
 bU ⟨p,rfl,hp⟩ λd G' hx=>by obtain ⟨p2,e1,e2,hp',sb⟩:=hx;cases e1;subst e2;exact hk G' hp' sb
def eO(a b:Nat):Option Nat:=if a=42 then some b else if b=42\/b=a then some a else none
noncomputable def cF:List Nat->List Nat->Option (List Nat)
 |a::f,b::g=>match eO a b with |some c=>(cF f g).map (c::·) |none=>none
 |_,_=>some []
def bA:Option (List Nat)->D
 |some l=>.str l
 |none=>.non
noncomputable def nG:List D->Option D
 |[.str f,.str g]=>if decide (f.length<=100000) then some (bA (cF f g)) else none
 |_=>none
theorem adh{f g:List Nat}{i a b:Nat}(h:(f.zip g)[i]?=some (a,b)):cF (f.drop i) (g.drop i)=match eO a b with |some c=>(cF (f.drop (i+1)) (g.drop (i+1))).map (c::·) |none=>none:=by
 have hz:=am.mp h;obtain ⟨hl,he⟩:=hz;rw[List.length_zip]at hl;have h1:i < f.length:=by omega
 have h2:i < g.length:=by omega
 rw[List.getElem_zip]at he;rw[bP h1,bP h2];simp only[Prod.mk.injEq]at he;rw[he.1,he.2];rfl
theorem adi{f g:List Nat}:cF (f.drop (f.zip g).length) (g.drop (f.zip g).length)=some []:=by
 rw[List.length_zip];by_cases h:f.length<=g.length
 ·rw[Nat.min_eq_left h,ez];cases g.drop f.length <;> rfl
 ·rw[Nat.min_eq_right (by omega),ez];cases f.drop g.length <;> rfl
theorem adk(Φ:aa)(ds:List D)(G:DH)(d:D)(h:nG ds=some d):au Φ mL noE (env0 ds 3) G (ends λd' G'=>G'=G/\d'=d):=by
 unfold nG at h;split at h
 ·rename_i f g;split at h
  ·rename_i hl;have hl:=dQ hl;cases h;simp_all_arith[mL];refine seq λM hM=>?_;simp_arith[ends];refine hM _ _ (seq λM hM=>?_);simp_arith![zf];refine ForG.inv (P:=λi ρ G'=>(∃o3 o4 m,ρ=[some (.str f),some (.str g),some (.str m),o3,o4]/\m.length=i/\cF f g=(cF (f.drop i) (g.drop i)).map (m ++ ·))/\G'=G) ⟨⟨_,_,[],rfl,rfl,by simp⟩,rfl⟩ (λ_ _ _ _=>trivial) ?_ ?_
   ·rintro i d ρ G' hd ⟨⟨o3,o4,m,rfl,hm,hb⟩,rfl⟩ kk hk;rw[a8]at hd;obtain ⟨⟨a,b⟩,hab,rfl⟩:=aE.mp hd;have hi:=(am.mp hab).1;rw[List.length_zip]at hi;rw[adh hab]at hb;simp_arith![ends];refine last ?_;have put:∀(c:Nat)(o3 o4:Option D),eO a b=some c->m.length+1<=sz/\kk [some (.str f),some (.str g),some (.str (m++[c])),o3,o4] G':=by
     intro c o3 o4 hc;rw[hc]at hb;refine ⟨by have hsz:sz=1000000:=rfl;omega,hk _ _ ⟨⟨_,_,_,rfl,by simp[hm],?_⟩,rfl⟩⟩;rw[hb,Option.map_map];congr 1;funext x;simp
    simp_arith[il];by_cases h42:a=42
    ·have:((a==42):Bool)=true:=by simp[h42]
     simp_arith[this];exact put b _ _ (if_pos h42)
    ·have h0:((a==42):Bool)=false:=by simp[h42]
     simp_arith[h0,il];by_cases hb42:b=42
     ·have:((b==42):Bool)=true:=by simp[hb42]
      simp_arith[this];exact put a _ _ (by unfold eO;rw[if_neg h42,if_pos (.inl hb42)])
     ·have h1:((b==42):Bool)=false:=by simp[hb42]
      simp_arith[h1,il];by_cases hba:b=a
      ·have:((b==a):Bool)=true:=by simp[hba]
       simp_arith[this];exact put a _ _ (by unfold eO;rw[if_neg h42,if_pos (.inr hba)])
      ·have:((b==a):Bool)=false:=by simp[hba]
       simp_arith[this];have hn:eO a b=none:=by unfold eO;rw[if_neg h42,if_neg (by rintro (h |h);exact hb42 h;exact hba h)]
       rw[hn]at hb;rw[hb];rfl
   ·rintro ρ G' ⟨⟨o3,o4,m,rfl,hm,hb⟩,rfl⟩;rw[al,adi]at hb;refine hM _ _ ?_;simp_arith[ends];rw[hb];simp[bA]
  ·cases h
 ·cases h
noncomputable def gA:List D->Option D
 |[.str f,.int n,.str [c]]=>if decide (0<=n)&&decide (n < f.length)&&decide (f.length<=1000) then some (.str (f.set n.toNat c)) else none
 |_=>none
theorem adl{l:List Nat}{n c:Nat}(h:n < l.length):l.take n++[c]++l.drop (n+1)=l.set n c:=by rw[fR,if_pos h];simp
theorem adm(Φ:aa)(ds:List D)(G:DH)(d:D)(h:gA ds=some d):au Φ mF noE (env0 ds 0) G (ends λd' G'=>G'=G/\d'=d):=by
 unfold gA at h;split at h
 ·rename_i f n c;split at h
  ·rename_i hl;simp only[ae,bp]at hl;obtain ⟨⟨h0,h1⟩,h2⟩:=hl;cases h;obtain ⟨k,rfl⟩:=cq h0;simp_arith[mF,yo,Hr,bq,dE,de,dk,adl (show k < f.length by omega)];exact ⟨by have hsz:sz=1000000:=rfl;omega,by have hsz:sz=1000000:=rfl;omega⟩
  ·cases h
 ·cases h
noncomputable def jr:List D->Option D
 |[.int n]=>if decide (0<=n)&&decide (n<=1000) then some (.str (List.replicate n.toNat 42)) else none
 |_=>none
theorem adn(Φ:aa)(ds:List D)(G:DH)(d:D)(h:jr ds=some d):au Φ mW noE (env0 ds 0) G (ends λd' G'=>G'=G/\d'=d):=by
 unfold jr at h;split at h
 ·rename_i n;split at h
  ·rename_i hl;simp only[ae,bp]at hl;cases h;simp_arith[mW,ade];exact ⟨hl.1,hl.2,by have hsz:sz=1000000:=rfl;omega⟩
  ·cases h
 ·cases h
def bI(rs:List Row)(b:List Nat):Option Nat:=rs.findIdx? λr=>(cF r.1 b).isSome
def NK(ds:List D)(_:DH):Prop:=∃(rs:List Row)(b:List Nat),ds=[.tup (rs.map aG),.str b]/\∀r∈rs,r.1.length<=1000
def NQ(ds:List D)(G:DH)(d:D)(G':DH):Prop:=G'=G/\∃(rs:List Row)(b:List Nat),ds=[.tup (rs.map aG),.str b]/\d=aV (bI rs b)
def nH:RF.Spec:=bx NK NQ
theorem zg{rs ss:List Row}(h:rs.map aG=ss.map aG):rs=ss:=(Ny (w:=0) (v:=0) (by unfold ao;rw[h])).2
theorem NT{rs:List Row}{b:List Nat}{G:DH}{k:D->DH->Prop}{E:EK}(h:∀r∈rs,r.1.length<=1000)(hk:k (aV (bI rs b)) G):nH.t [.tup (rs.map aG),.str b] G k E:=by refine bU ⟨rs,b,rfl,h⟩ λd G' hx=>?_;obtain ⟨e1,rs2,b2,e2,e3⟩:=hx;simp only[dc,D.str.injEq,D.tup.injEq,ff]at e2;obtain ⟨e2,rfl⟩:=e2;cases zg e2;subst e1 e3;exact hk
theorem ado{o:Option (List Nat)}:fH (bA o)=!o.isSome:=by cases o <;> rfl
theorem adp{G:DH}{o:Option (List Nat)}:view G (bA o)=bA o:=by cases o <;> rfl
theorem adq{rs:List Row}{b:List Nat}{i:Nat}{r:Row}(h:rs[i]?=some r):bI (rs.drop i) b=if (cF r.1 b).isSome then some 0 else (bI (rs.drop (i+1)) b).map (·+1):=by
 have hi:=(am.mp h).1;have e:rs.drop i=r::rs.drop (i+1):=by rw[bP hi];rw[(am.mp h).2]
 rw[e];unfold bI;rw[List.findIdx?_cons]
theorem adt (Φ:aa) (h1:Φ "both"=aD nG) (ds:List D) (G:DH) (h:NK ds G):au Φ mO noE (env0 ds 2) G (ends (NQ ds G)):=by
 obtain ⟨rs,b,rfl,hb⟩:=h;simp_all_arith[mO];refine seq λM hM=>?_;simp_arith![ends];refine ForG.inv (P:=λi ρ G'=>(∃o2 o3,ρ=[some (.tup (rs.map aG)),some (.str b),o2,o3])/\G'=G/\bI rs b=(bI (rs.drop i) b).map (·+i)) ⟨⟨_,_,rfl⟩,rfl,by simp⟩ (λ_ _ _ _=>trivial) ?_ ?_
 ·rintro i d ρ G' hd ⟨⟨o2,o3,rfl⟩,rfl,hmet⟩ kk hk;rw[jX]at hd;obtain ⟨d',hd',rfl⟩:=aE.mp hd;rw[a8]at hd';obtain ⟨r,hr,rfl⟩:=aE.mp hd';have hrl:=hb r (b6 hr);rw[adq hr]at hmet;simp_arith![ends];refine last ?_;simp_arith[h1,aG];refine bM (d:=bA (cF r.1 b)) (if_pos (aT (by omega))) ?_;simp_arith[adp,ado];cases hf:(cF r.1 b).isSome with
  |true=>
   rw[hf,if_pos rfl]at hmet;exact ⟨rfl,rs,b,rfl,by rw[hmet];simp[aV]⟩
  |false=>
   rw[hf,if_neg bi]at hmet;refine hk _ _ ⟨⟨_,_,rfl⟩,rfl,?_⟩;rw[hmet,Option.map_map];congr 1;funext n;simp;omega
 ·rintro ρ G' ⟨⟨o2,o3,rfl⟩,rfl,hmet⟩;rw[iY,al,ez]at hmet;refine hM _ _ ?_;simp_arith[ends];exact ⟨rfl,rs,b,rfl,by rw[hmet];rfl⟩
def cQ(f b:List Nat):Option Nat:=(f.zip b).findIdx? λp=>p.2==42&&!(p.1==42)
noncomputable def dg(rs:List Row)(b:List Nat):Option Nat:=match bI rs b with |some n=>(match rs[n]? with |some r=>cQ r.1 b |none=>none) |none=>none
def NZ(ds:List D)(_:DH):Prop:=∃(rs:List Row)(b:List Nat),ds=[.tup (rs.map aG),.str b]/\(∀r∈rs,r.1.length=b.length)/\b.length<=1000
def N5(ds:List D)(G:DH)(d:D)(G':DH):Prop:=G'=G/\∃(rs:List Row)(b:List Nat),ds=[.tup (rs.map aG),.str b]/\d=aV (dg rs b)
def uQ:RF.Spec:=bx NZ N5
theorem adu{rs:List Row}{b:List Nat}{G:DH}{k:D->DH->Prop}{E:EK}(h:∀r∈rs,r.1.length=b.length)(hl:b.length<=1000)(hk:k (aV (dg rs b)) G):uQ.t [.tup (rs.map aG),.str b] G k E:=by refine bU ⟨rs,b,rfl,h,hl⟩ λd G' hx=>?_;obtain ⟨e1,rs2,b2,e2,e3⟩:=hx;simp only[dc,D.str.injEq,D.tup.injEq,ff]at e2;obtain ⟨e2,rfl⟩:=e2;cases zg e2;subst e1 e3;exact hk
theorem uR{rs:List Row}{b:List Nat}{n:Nat}(h:bI rs b=some n):n < rs.length:=(List.findIdx?_eq_some_iff_findIdx_eq.mp h).1
theorem adv{f b:List Nat}{i s c:Nat}(hs:f[i]?=some s)(hc:b[i]?=some c):cQ (f.drop i) (b.drop i)=if (c==42&&!(s==42))=true then some 0 else (cQ (f.drop (i+1)) (b.drop (i+1))).map (·+1):=by have h1:=am.mp hs;have h2:=am.mp hc;rw[bP h1.1,bP h2.1,h1.2,h2.2];unfold cQ;rw[List.zip_cons_cons,List.findIdx?_cons]
theorem adw (Φ:aa) (h1:Φ "first_touching"=nH) (ds:List D) (G:DH) (h:NZ ds G):au Φ mQ noE (env0 ds 3) G (ends (N5 ds G)):=by
 obtain ⟨rs,b,rfl,hb,hbl⟩:=h;simp_all_arith[mQ];refine seq λM hM=>?_;simp_arith[h1];refine NT (λr hr=>by rw[hb r hr];exact hbl) (hM _ _ (seq λM hM=>?_));cases ht:bI rs b with
 |none=>
  simp_arith[aV];exact ⟨rfl,rs,b,rfl,by unfold dg;rw[ht];rfl⟩
 |some n=>
  have hn:=uR ht;have hlen:=hb rs[n] (ee _);have hsp:dg rs b=cQ rs[n].1 b:=by unfold dg;rw[ht];simp[hn]
  simp_arith[aV];refine hM _ _ (seq λM hM=>?_);simp_arith![ends];refine bN (a:=aG rs[n]) (b8 (by simp[hn])) ?_;simp_arith![aG];generalize rs[n].1=f at hlen hsp;refine ForG.inv (P:=λi ρ G'=>(∃o3 o4,ρ=[some (.tup (rs.map aG)),some (.str b),some (.int (n:Int)),o3,o4])/\G'=G/\cQ f b=(cQ (f.drop i) (b.drop i)).map (·+i)) ⟨⟨_,_,rfl⟩,rfl,by simp⟩ (λ_ _ _ _=>trivial) ?_ ?_
  ·rintro i d ρ G' hd ⟨⟨o3,o4,rfl⟩,rfl,hs⟩ kk hk;rw[jX]at hd;obtain ⟨d',hd',rfl⟩:=aE.mp hd;rw[a8]at hd';obtain ⟨s,hsi,rfl⟩:=aE.mp hd';have hi:=(am.mp hsi).1;have hib:i < b.length:=by omega
   have hbi:b[i]?=some b[i]:=by simp[hib]
   rw[adv hsi hbi]at hs;simp_arith![ends];refine last ?_;simp_arith[ends];refine bN (a:=b[i]) (by rw[Nat.zero_add];exact b8 hbi) ?_;simp_arith[il];cases h42:(b[i]==42) with
   |false=>
    simp only[h42,e7,if_neg bi]at hs;simp_arith[ends];refine hk _ _ ⟨⟨_,_,rfl⟩,rfl,?_⟩;rw[hs,Option.map_map];congr 1;funext n;simp;omega
   |true=>
    simp_arith[il];cases hs42:(s==42) with
    |true=>
     simp only[h42,hs42,gt,e8,if_neg bi]at hs;simp_arith[ends];refine hk _ _ ⟨⟨_,_,rfl⟩,rfl,?_⟩;rw[hs,Option.map_map];congr 1;funext n;simp;omega
    |false=>
     simp only[h42,hs42,Bool.not_false,cf,if_pos]at hs;simp_arith[ends];exact ⟨rfl,rs,b,rfl,by rw[hsp,hs];simp[aV]⟩
  ·rintro ρ G' ⟨⟨o3,o4,rfl⟩,rfl,hs⟩;rw[iY,al,ez]at hs;refine hM _ _ ?_;simp_arith[ends];exact ⟨rfl,rs,b,rfl,by rw[hsp,hs];simp[cQ,aV]⟩
def kJ:List Nat:=[115,112,108,105,116]
def stc(b:List Nat):Nat:=b.countP (·==42)
theorem kO{b:List Nat}{n c:Nat}(h:b[n]?=some 42)(hc:c≠42):stc (b.set n c)+1=stc b:=by
 obtain ⟨hl,he⟩:=am.mp h;have e1:b=b.take n++42::b.drop (n+1):=by rw[<-he,<-bP hl,List.take_append_drop]
 have e2:b.set n c=b.take n++c::b.drop (n+1):=by rw[fR,if_pos hl]
 unfold stc;rw[e2];conv=>rhs;rw[e1]
 rw[List.countP_append,List.countP_append,List.countP_cons_of_neg (by simp[hc]),List.countP_cons_of_pos (by simp)];omega
theorem zj{w n c:Nat}{b:List Nat}(h:okF w b)(hc:isF c):okF w (b.set n c):=⟨by rw[cm];exact h.1,λd hd=>by
 rcases List.mem_or_eq_of_mem_set hd with h' |h'
 ·exact h.2 d h'
 ·rw[h'];exact hc⟩
theorem adx:isF 48:=.inl rfl
theorem ady:isF 49:=.inr (.inl rfl)
inductive Gr (name:List Nat) (rss:List (List Row)):List Nat->D->Prop
 |leaf (b:List Nat) (h:∀rs∈rss,dg rs b=none):Gr name rss b (.tup (.str name::rss.map λrs=>aV (bI rs b)))
 |node (b:List Nat) (n:Nat) (z o:D) (h:b[n]?=some 42) (hz:Gr name rss (b.set n 48) z) (ho:Gr name rss (b.set n 49) o):Gr name rss b (.tup [.str kJ,.int n,z,o])
def eQ(rss:List (List Row)):List D:=rss.map λrs=>.tup (rs.map aG)
structure okG(w:Nat)(name:List Nat)(rss:List (List Row)):Prop where
 len:rss.length<=100
 nl:name.length<=100
 form:∀rs∈rss,∀r∈rs,r.1.length=w
 w1000:w<=1000
def N6(n:Nat)(ds:List D)(_:DH):Prop:=∃(w:Nat)(name:List Nat)(rss:List (List Row))(b:List Nat),ds=[.str name,.lst (eQ rss),.str b]/\okG w name rss/\b.length=w/\stc b < n
def N7(ds:List D)(G:DH)(d:D)(G':DH):Prop:=G'=G/\∃(name:List Nat)(rss:List (List Row))(b:List Nat),ds=[.str name,.lst (eQ rss),.str b]/\Gr name rss b d
def fK(n:Nat):RF.Spec:=bx (N6 n) N7
theorem adz{a b:List (List Row)}(h:eQ a=eQ b):a=b:=by
 unfold eQ at h;induction a generalizing b with
 |nil=>cases b with
  |nil=>rfl
  |cons _ _=>simp at h
 |cons x a ih=>cases b with
  |nil=>simp at h
  |cons y b=>
   simp only[ce,dc,D.tup.injEq]at h;rw[zg h.1,ih h.2]
theorem zm{n w:Nat}{name:List Nat}{rss:List (List Row)}{b:List Nat}{G:DH}{k:D->DH->Prop}{E:EK}(h:okG w name rss)(hb:b.length=w)(hs:stc b < n)(hk:∀d,Gr name rss b d->k d G):(fK n).t [.str name,.lst (eQ rss),.str b] G k E:=by refine bU ⟨w,name,rss,b,rfl,h,hb,hs⟩ λd G' hx=>?_;obtain ⟨e1,name2,rss2,b2,e2,e3⟩:=hx;simp only[dc,D.str.injEq,D.lst.injEq,ff]at e2;obtain ⟨rfl,e2,rfl⟩:=e2;cases adz e2;subst e1;exact hk d e3
theorem adA{f b:List Nat}{n:Nat}(h:cQ f b=some n):b[n]?=some 42:=by unfold cQ at h;have h2:=fS.mp h;obtain ⟨hl,hp,_⟩:=h2;rw[List.length_zip]at hl;rw[List.getElem_zip]at hp;simp only[ae,av]at hp;rw[bS (by omega),hp.1]
theorem adB{rs:List Row}{b:List Nat}{n:Nat}(h:dg rs b=some n):b[n]?=some 42:=by
 unfold dg at h;split at h
 ·split at h
  ·exact adA h
  ·cases h
 ·cases h
theorem nJ{b:List Nat}{n c:Nat}{G:DH}{k:D->DH->Prop}{E:EK}(h:n < b.length)(hl:b.length<=1000)(hk:k (.str (b.set n c)) G):(aD gA).t [.str b,.int n,.str [c]] G k E:=
 bM (by
  unfold gA;dsimp only;rw[if_pos (by simp only[ae,bp];omega),dk]) hk
theorem adC (Φ:aa) (n:Nat) (h0:Φ "grown"=fK n) (h1:Φ "first_touching"=nH) (h2:Φ "splitting_place"=uQ) (h3:Φ "with_sign"=aD gA) (ds:List D) (G:DH) (h:N6 (n+1) ds G):au Φ kh noE (env0 ds 4) G (ends (N7 ds G)):=by
 obtain ⟨w,name,rss,b,rfl,hg,hb,hs⟩:=h;have hw:=hg.w1000;simp_all_arith[kh];refine seq λM hM=>?_;simp_arith![ends];refine ForG.inv (P:=λi ρ G'=>(∃o3 o4 o5 o6,ρ=[some (.str name),some (.lst (eQ rss)),some (.str b),o3,o4,o5,o6])/\G'=G/\∀rs∈rss.take i,dg rs b=none) ⟨⟨_,_,_,_,rfl⟩,rfl,by simp⟩ (λ_ _ _ _=>trivial) ?_ ?_
 ·rintro i d ρ G' hd ⟨⟨o3,o4,o5,o6,rfl⟩,rfl,hall⟩ kk hk;unfold eQ at hd;rw[a8]at hd;obtain ⟨rs,hrs,rfl⟩:=aE.mp hd;simp_arith![ends];refine seq λM hM=>?_;simp_arith[h2];refine adu (λr hr=>by rw[hg.form rs (b6 hrs) r hr,hb]) (by omega) (hM _ _ (last ?_));cases hsp:dg rs b with
  |none=>
   simp_arith[aV];refine hk _ _ ⟨⟨_,_,_,_,rfl⟩,rfl,λrs' hrs'=>?_⟩;rw[fk,hrs]at hrs';rcases bn.mp hrs' with h |h
   ·exact hall rs' h
   ·have:rs'=rs:=by simpa using h
    rw[this];exact hsp
  |some at'=>
   have hst:=adB hsp;have hat:=(am.mp hst).1;simp_arith![aV];refine seq λM hM=>?_;simp_arith[h0,h3];refine nJ hat (by omega) (zm hg (by rw[cm];exact hb) (by have:=kO hst (show 48≠42 by decide);omega) λz hz=>hM _ _ (seq λM hM=>?_));simp_arith[h0,h3];refine nJ hat (by omega) (zm hg (by rw[cm];exact hb) (by have:=kO hst (show 49≠42 by decide);omega) λo ho=>hM _ _ (last ?_));simp_arith[ends];exact ⟨by decide,rfl,name,rss,b,rfl,.node b at' z o hst hz ho⟩
 ·rintro ρ G' ⟨⟨o3,o4,o5,o6,rfl⟩,rfl,hall⟩;have hlen:(eQ rss).length=rss.length:=al _;rw[hlen,eW]at hall;have hrl:=hg.len;refine hM _ _ ?_;simp_arith[h1];refine ⟨by decide,CompG.inv (P:=λi acc ρ G''=>(∃o,ρ=[o,some (.str b)])/\G''=G'/\acc=(rss.take i).map λrs=>aV (bI rs b)) ⟨⟨_,rfl⟩,rfl,rfl⟩ (λ_ _ _ _ _=>trivial) (by rw[hlen];have hsz:sz=1000000:=rfl;omega) ?_ ?_⟩
  ·rintro i d acc ρ G'' hd ⟨⟨o,rfl⟩,rfl,rfl⟩ kk hk;unfold eQ at hd;rw[a8]at hd;obtain ⟨rs,hrs,rfl⟩:=aE.mp hd;simp_arith[h1];refine NT (λr hr=>by rw[hg.form rs (b6 hrs) r hr];omega) (hk _ _ _ ⟨⟨_,rfl⟩,rfl,?_⟩);rw[fk,hrs];simp
  ·rintro acc ρ G'' ⟨_,rfl,rfl⟩;rw[hlen,eW];simp_arith[al];exact ⟨by have hsz:sz=1000000:=rfl;omega,rfl,name,rss,b,rfl,.leaf b hall⟩
theorem adD(ds:List D)(G:DH)(a:(fK 0).A):¬(fK 0).pre ds G a:=λ⟨_,_,_,_,_,_,_,_,h⟩=>by omega
theorem adE(w:Nat):stc (List.replicate w 42)<=w:=by have:=List.countP_le_length (p:=(·==42)) (l:=List.replicate w 42);rw[dn]at this;exact this
theorem N8:∀{f b w:List Nat},cF f b=none->(∀s∈w,s=48\/s=49)->Fits b w->fJ f w=true->False
 |[],b,w,h,_,_,_=>by cases b <;> cases h
 |a::f,[],w,h,_,_,_=>by cases h
 |a::f,c::b,[],h,_,hf,_=>by have:=hf.1;simp at this
 |a::f,c::b,s::w,h,hw,hf,hz=>by
  rw[fJ,ae]at hz;have hs:=hf.2 0 c s rfl rfl;have hf':Fits b w:=⟨by have:=hf.1;simpa using this,λi c' s' h1 h2=>hf.2 (i+1) c' s' (by simpa using h1) (by simpa using h2)⟩;unfold cF at h;cases h1:eO a c with
  |some x=>
   rw[h1]at h;simp only[Option.map_eq_none_iff]at h;exact N8 h (λs hs=>hw s (ba _ hs)) hf' hz.2
  |none=>
   unfold eO at h1;split at h1
   ·cases h1
   ·split at h1
    ·cases h1
    ·rename_i ha hc;have h2:=(Nx (hw s br)).mp hz.1;unfold alt at hs h2;rw[if_neg ha]at h2;have es:s=a:=by simpa using h2
     split at hs
     ·rename_i e;exact hc (.inl e)
     ·have:s=c:=by simpa using hs
      exact hc (.inr (by omega))
theorem Oa:∀{f b w:List Nat},f.length=b.length->(cF f b).isSome=true->cQ f b=none->(∀s∈w,s=48\/s=49)->Fits b w->fJ f w=true
 |[],b,w,_,_,_,_,_=>rfl
 |a::f,[],w,h,_,_,_,_=>by simp at h
 |a::f,c::b,[],_,_,_,_,hf=>rfl
 |a::f,c::b,s::w,hl,hb,hs,hw,hf=>by
  have hs0:=hf.2 0 c s rfl rfl;have hf':Fits b w:=⟨by have:=hf.1;simpa using this,λi c' s' h1 h2=>hf.2 (i+1) c' s' (by simpa using h1) (by simpa using h2)⟩;unfold cQ at hs;rw[List.zip_cons_cons,List.findIdx?_cons]at hs;split at hs
  ·cases hs
  ·rename_i hne;have hs':cQ f b=none:=by unfold cQ;simpa using hs
   unfold cF at hb;cases h1:eO a c with
   |none=>rw[h1]at hb;cases hb
   |some x=>
    rw[h1]at hb;have hb':(cF f b).isSome=true:=by simpa using hb
    rw[fJ,ae];refine ⟨?_,Oa (by simpa using hl) hb' hs' (λs hs=>hw s (ba _ hs)) hf'⟩;rw[Nx (hw s br)];by_cases ha:a=42
    ·unfold alt;rw[if_pos ha];rcases hw s br with e |e <;> simp[e]
    ·have hc:c≠42:=by
      rintro rfl;exact hne (by simp[ha])
     unfold alt at hs0 ⊢;rw[if_neg hc]at hs0;rw[if_neg ha];unfold eO at h1;rw[if_neg ha]at h1;split at h1
     ·rename_i h2;rcases h2 with h2 |h2
      ·exact absurd h2 hc
      ·rw[<-h2];exact hs0
     ·cases h1
theorem adF{rs:List Row}{b l:List Nat}(hf:∀r∈rs,r.1.length=b.length)(hs:dg rs b=none)(hl:∀s∈l,s=48\/s=49)(hb:Fits b l):ir rs l=bI rs b:=by
 have no:∀r∈rs,(cF r.1 b).isSome=false->cZ r.1 l=false:=by
  intro r hr h;cases e:cZ r.1 l with
  |false=>rfl
  |true=>
   unfold cZ at e;rw[ae]at e;exact (N8 (by simpa using h) hl hb e.2).elim
 cases ht:bI rs b with
 |none=>
  unfold bI at ht;unfold ir;rw[List.findIdx?_eq_none_iff]at ht ⊢;exact λr hr=>no r hr (by simpa using ht r hr)
 |some n=>
  have hn:=uR ht;have ht':=fS.mp ht;obtain ⟨_,t1,t2⟩:=ht';unfold ir;rw[fS];refine ⟨hn,?_,λj hj=>?_⟩
  ·have hsf:cQ rs[n].1 b=none:=by
    unfold dg at hs;rw[ht]at hs;simpa [hn] using hs
   have hlen:=hf rs[n] (ee _);unfold cZ;rw[ae];exact ⟨aT (by rw[hlen,hb.1]),Oa hlen t1 hsf hl hb⟩
  ·have:=no rs[j] (ee _) (by simpa using t2 j hj);simp[this]
noncomputable def uT(name:List Nat)(rss:List (List Row))(b:List Nat):D:=.tup (.str name::rss.map λrs=>aV (bI rs b))
def nM(name:List Nat)(rss:List (List Row))(b:List Nat):D:=.tup [.str b,uT name rss b]
inductive Lv (name:List Nat) (rss:List (List Row)):List Nat->D->List (List Nat)->Prop
 |leaf (b:List Nat) (h:∀rs∈rss,dg rs b=none):Lv name rss b (uT name rss b) [b]
 |node (b:List Nat) (n:Nat) (z o:D) (l m:List (List Nat)) (h:b[n]?=some 42) (hz:Lv name rss (b.set n 48) z l) (ho:Lv name rss (b.set n 49) o m):Lv name rss b (.tup [.str kJ,.int n,z,o]) (l++m)
theorem Gr.lv{name:List Nat}{rss:List (List Row)}{b:List Nat}{d:D}(h:Gr name rss b d):∃bs,Lv name rss b d bs:=by
 induction h with
 |leaf b h=>exact ⟨_,.leaf b h⟩
 |node b n z o h _ _ hz ho=>
  obtain ⟨l,hl⟩:=hz;obtain ⟨m,hm⟩:=ho;exact ⟨_,.node b n z o l m h hl hm⟩
theorem Lv.len{name:List Nat}{rss:List (List Row)}{b:List Nat}{d:D}{bs:List (List Nat)}(h:Lv name rss b d bs):bs.length<=2 ^ stc b:=by
 induction h with
 |leaf b h=>exact Nat.one_le_two_pow
 |node b n z o l m h _ _ hz ho=>
  have e1:=kO h (show 48≠42 by decide);have e2:=kO h (show 49≠42 by decide);rw[<-e1,Nat.pow_succ,bq];have e3:stc (b.set n 49)=stc (b.set n 48):=by omega
  rw[e3]at ho;omega
theorem Lv.len'{name:List Nat}{rss:List (List Row)}{b:List Nat}{d:D}{bs:List (List Nat)}(h:Lv name rss b d bs)(hb:b.length<=12):bs.length<=4096:=by
 have h1:=h.len;have h2:stc b<=12:=cb (List.countP_le_length) hb;have h3:=Nat.pow_le_pow_right (show 0 < 2 by decide) h2;have h4:2 ^ 12=4096:=by decide
 omega
theorem Lv.box{name:List Nat}{rss:List (List Row)}{b:List Nat}{d:D}{bs:List (List Nat)}(h:Lv name rss b d bs):∀c∈bs,c.length=b.length/\∀rs∈rss,dg rs c=none:=by
 induction h with
 |leaf b h=>intro c hc;rw[bg.mp hc];exact ⟨rfl,h⟩
 |node b n z o l m h _ _ hz ho=>
  intro c hc;rcases bn.mp hc with hc |hc
  ·have:=hz c hc;rw[cm]at this;exact this
  ·have:=ho c hc;rw[cm]at this;exact this
theorem Lv.okf{w:Nat}{name:List Nat}{rss:List (List Row)}{b:List Nat}{d:D}{bs:List (List Nat)}(h:Lv name rss b d bs):okF w b->∀c∈bs,okF w c:=by
 induction h with
 |leaf b h=>intro hb c hc;rw[bg.mp hc];exact hb
 |node b n z o l m h _ _ hz ho=>
  intro hb c hc;rcases bn.mp hc with hc |hc
  ·exact hz (zj hb adx) c hc
  ·exact ho (zj hb ady) c hc
theorem adG{w:Nat}{f l:List Nat}(h:okF w f)(hf:Fits f l):∀s∈l,s=48\/s=49:=by
 intro s hs;obtain ⟨i,hi,rfl⟩:=List.getElem_of_mem hs;have hif:i < f.length:=by rw[hf.1];exact hi
 have:=hf.2 i f[i] l[i] (by simp[hif]) (by simp[hi]);rcases h.2 f[i] (ee _) with e |e |e <;> rw[e]at this <;> simp[alt]at this <;> omega
def isPlace(m:Int):D->Bool
 |.int i=>decide (0<=i)&&decide (i < m)
 |_=>false
def eU:List D->Option D
 |[.int m,x]=>if nr x then some (.bl (isPlace m x)) else none
 |_=>none
theorem adH (Φ:aa) (h1:Φ "is_whole"=aD g8) (ds:List D) (G:DH) (d:D) (h:eU ds=some d):au Φ mz noE (env0 ds 0) G (ends λd' G'=>G'=G/\d'=d):=by
 unfold eU at h;split at h
 ·rename_i m x;split at h
  ·rename_i hx;cases h;have hf:g8 [x]=some (.bl (whole x)):=if_pos hx;simp_arith[mz,h1];refine bM hf ?_;cases x <;> first | (simp[nr]at hx;done) | (simp_arith[whole,isPlace];first | (simp;done) |skip)
   rename_i i;cases hi:decide (0<=i) with
   |true=>simp
   |false=>simp
  ·cases h
 ·cases h
theorem zp{m i:Nat}{G:DH}{k:D->DH->Prop}{E:EK}(h:i < m)(hk:k (.bl true) G):(aD eU).t [.int m,.int i] G k E:=
 bM (by unfold eU;simp only[nr,if_true,isPlace];rw[aT (by omega),aT (by omega)];rfl) hk
noncomputable def gB:List D->Option D
 |[.str name,.int many,.tup (.str s::r)]=>some (.bl ((((r.length+1:Nat):Int)==many+1)&&(s==name)))
 |_=>none
theorem adI(Φ:aa)(ds:List D)(G:DH)(d:D)(h:gB ds=some d):au Φ mR noE (env0 ds 0) G (ends λd' G'=>G'=G/\d'=d):=by
 unfold gB at h;split at h
 ·rename_i name many s r;cases h;simp_arith[mR];cases he:(((r.length+1:Nat):Int)==many+1) with
  |false=>simp_arith[e7]
  |true=>simp_arith[eS]
 ·cases h
theorem adJ{name s:List Nat}{m:Int}{r:List D}{G:DH}{k:D->DH->Prop}{E:EK}(h:s≠name)(hk:k (.bl false) G):(aD gB).t [.str name,.int m,.tup (.str s::r)] G k E:=
 bM (by unfold gB;dsimp only;rw[df.mpr h,e8]) hk
theorem adK{name:List Nat}{m:Int}{r:List D}{G:DH}{k:D->DH->Prop}{E:EK}(h:(r.length:Int)=m)(hk:k (.bl true) G):(aD gB).t [.str name,.int m,.tup (.str name::r)] G k E:=
 bM (by unfold gB;dsimp only;rw[BEq.rfl,cf,av.mpr (by omega)]) hk
def oI:Option Int->D
 |some i=>.int i
 |none=>.non
inductive T where
 |lf (r:List (Option Int))
 |sp (i:Int) (z o:T)
noncomputable def T.d(name:List Nat):T->D
 |.lf r=>.tup (.str name::r.map oI)
 |.sp i z o=>.tup [.str kJ,.int i,z.d name,o.d name]
def T.dep:T->Nat
 |.lf _=>0
 |.sp _ z o=>max z.dep o.dep+1
def jt(b:List Nat)(i:Int):Bool:=decide (0<=i)&&b[i.toNat]?==some 42
noncomputable def T.lvs:T->List Nat->Option (List (List Nat×List (Option Int)))
 |.lf r,b=>some [(b,r)]
 |.sp i z o,b=>match jt b i with
  |true=>(match z.lvs (b.set i.toNat 48),o.lvs (b.set i.toNat 49) with |some l,some m=>some (l++m) |_,_=>none)
  |false=>none
def nO(name:List Nat)(x:List Nat×List (Option Int)):D:=.tup [.str x.1,.tup (.str name::x.2.map oI)]
noncomputable def eV(name:List Nat):Option (List (List Nat×List (Option Int)))->D
 |none=>.non
 |some l=>.lst (l.map (nO name))
theorem T.lvs_len:∀(t:T){b:List Nat}{l:List (List Nat×List (Option Int))},t.lvs b=some l->l.length<=2 ^ t.dep
 |.lf r,b,l,h=>by cases h;exact Nat.one_le_two_pow
 |.sp i z o,b,l,h=>by
  rw[T.lvs]at h;split at h
  ·split at h
   ·rename_i l1 l2 h1 h2;cases h;have e1:=z.lvs_len h1;have e2:=o.lvs_len h2;have e3:=Nat.pow_le_pow_right (show 0 < 2 by decide) (Nat.le_max_left z.dep o.dep);have e4:=Nat.pow_le_pow_right (show 0 < 2 by decide) (Nat.le_max_right z.dep o.dep);rw[bq,T.dep,Nat.pow_succ];omega
   ·cases h
  ·cases h
theorem T.lvs_len'{n:Nat}{t:T}{b:List Nat}{l:List (List Nat×List (Option Int))}(h:t.lvs b=some l)(hn:t.dep < n)(hn':n<=12):l.length<=4096:=by
 have h1:=t.lvs_len h;have h3:=Nat.pow_le_pow_right (show 0 < 2 by decide) (show t.dep<=12 by omega);have h4:2 ^ 12=4096:=by decide
 omega
structure TA where
 name:List Nat
 b:List Nat
 t:T
def Ob(n:Nat)(a:TA):Prop:=a.name≠kJ/\a.b.length<=12/\a.t.dep < n/\n<=12
def eX(n:Nat):RF.Spec:=cI (λa:TA=>[.str a.b,a.t.d a.name]) (Ob n) (λa=>eV a.name (a.t.lvs a.b))
theorem zq{n:Nat}{name b:List Nat}{t:T}{G:DH}{k:D->DH->Prop}{E:EK}(h1:name≠kJ)(h2:b.length<=12)(h3:t.dep < n)(h4:n<=12)(hk:k (eV name (t.lvs b)) G):(eX n).t [.str b,t.d name] G k E:=dD ⟨name,b,t⟩ rfl ⟨h1,h2,h3,h4⟩ hk
theorem adL(ds:List D)(G:DH)(a:(eX 0).A):¬(eX 0).pre ds G a:=λ⟨_,_,_,_,h,_⟩=>by omega
theorem adM{b:List Nat}{i:Int}(h:jt b i=true):0<=i/\∃n:Nat,i=n/\n < b.length/\b[n]?=some 42:=by
 unfold jt at h;rw[ae]at h;have h1:=dQ h.1;have h2:b[i.toNat]?=some 42:=by simpa using h.2
 exact ⟨h1,i.toNat,by omega,(am.mp h2).1,h2⟩
theorem adN (Φ:aa) (n:Nat) (h0:Φ "leaves"=eX n) (h1:Φ "is_named"=aD gB) (h2:Φ "is_place"=aD eU) (h3:Φ "with_sign"=aD gA) (a:TA) (G:DH) (h:Ob (n+1) a):au Φ je noE (env0 [.str a.b,a.t.d a.name] 3) G (ends λd G'=>G'=G/\d=eV a.name (a.t.lvs a.b)):=by
 obtain ⟨name,b,t⟩:=a;obtain ⟨hne,hbl,hd,hn⟩:=h;dsimp only at hne hbl hd ⊢;cases t with
 |lf r=>
  simp_all_arith[je];refine seq λM hM=>?_;simp_arith[h1,T.d];refine adJ hne ?_;simp_arith[T.lvs,eV,ce,eP,nO];exact ⟨by decide,by decide⟩
 |sp i z o=>
  rw[T.dep]at hd;simp_all_arith[je];refine seq λM hM=>?_;simp_arith[h1,T.d];refine adK rfl ?_;simp_arith[ends];refine hM _ _ (seq λM hM=>?_);simp_arith[ends];refine hM _ _ (seq λM hM=>?_);simp_arith[h2];refine bM (d:=.bl (isPlace b.length (.int i))) rfl ?_;cases hst:jt b i with
  |false=>
   rw[T.lvs,hst];cases hp:isPlace b.length (.int i) with
   |false=>simp_arith[eV]
   |true=>
    unfold isPlace at hp;rw[ae]at hp;have p1:=dQ hp.1;have p2:=dQ hp.2;obtain ⟨m,rfl⟩:∃m:Nat,i=m:=⟨i.toNat,by omega⟩;have hm:m < b.length:=by omega
    have hc:b[m]?=some b[m]:=bS hm;have hne42:((b[m]==42):Bool)=false:=by unfold jt at hst;rw[aT (by omega),eS,dk,hc]at hst;simpa using hst
    simp_arith[ends];refine bN (a:=b[m]) (b8 hc) ?_;simp_arith[il,hne42,eV]
  |true=>
   obtain ⟨_,m,rfl,hm,hc⟩:=adM hst;have hp:isPlace b.length (.int (m:Int))=true:=by show (decide (0<=(m:Int))&&decide ((m:Int) < b.length))=true;rw[aT (by omega),aT (by omega)];rfl
   have hl:(T.sp (m:Int) z o).lvs b=match z.lvs (b.set m 48),o.lvs (b.set m 49) with |some l,some m=>some (l++m) |_,_=>none:=by rw[T.lvs,hst,dk]
   rw[hp];simp_arith[ends];refine bN (a:=42) (b8 hc) ?_;simp_arith[BEq.rfl];refine hM _ _ (seq λM hM=>?_);simp_arith[h0,h3];refine nJ hm (by omega) (zq hne (by rw[cm];exact hbl) (by omega) (by omega) (hM _ _ (seq λM hM=>?_)));simp_arith[h0,h3];refine nJ hm (by omega) (zq hne (by rw[cm];exact hbl) (by omega) (by omega) (hM _ _ (seq λM hM=>?_)));cases e1:z.lvs (b.set m 48) with
   |none=>
    rw[e1]at hl;simp_arith[hl,eV]
   |some l1=>
    cases e2:o.lvs (b.set m 49) with
    |none=>
     rw[e1,e2]at hl;simp_arith[hl,eV]
    |some l2=>
     rw[e1,e2]at hl;have q1:=T.lvs_len' e1 (n:=n) (by omega) (by omega);have q2:=T.lvs_len' e2 (n:=n) (by omega) (by omega);simp_arith[eV];refine hM _ _ (last ?_);simp_arith[al,cS,hl,eV];have hsz:sz=1000000:=rfl;omega
theorem adO(o:Option Nat):aV o=oI (o.map λn=>(n:Int)):=by cases o <;> rfl
def kW(rss:List (List Row))(c:List Nat):List (Option Int):=rss.map λrs=>(bI rs c).map λn=>(n:Int)
theorem Oc{rss:List (List Row)}{c:List Nat}:(kW rss c).map oI=rss.map λrs=>aV (bI rs c):=by unfold kW;rw[gd];exact List.map_congr_left λrs _=>(adO _).symm
theorem Lv.tree{name:List Nat}{rss:List (List Row)}{b:List Nat}{d:D}{bs:List (List Nat)}(h:Lv name rss b d bs):∃t:T,d=t.d name/\t.dep<=stc b/\t.lvs b=some (bs.map λc=>(c,kW rss c)):=by
 induction h with
 |leaf b h=>exact ⟨.lf (kW rss b),by rw[T.d,Oc];rfl,d3 _,rfl⟩
 |node b n z o l m h _ _ hz ho=>
  obtain ⟨tz,rfl,d1,e1⟩:=hz;obtain ⟨tO,rfl,d2,e2⟩:=ho;have s1:=kO h (show 48≠42 by decide);have s2:=kO h (show 49≠42 by decide);refine ⟨.sp n tz tO,rfl,?_,?_⟩
  ·rw[T.dep];have:=Nat.max_le.mpr ⟨show tz.dep<=stc (b.set n 48) from d1,show tO.dep<=stc (b.set n 48) by omega⟩;omega
  ·have hs:jt b (n:Int)=true:=by unfold jt;rw[aT (by omega),dk,h];rfl
   rw[T.lvs,hs,dk,e1,e2];simp
theorem adP{name:List Nat}{rss:List (List Row)}{c:List Nat}:nO name (c,kW rss c)=nM name rss c:=by unfold nO nM uT;rw[Oc]
theorem adQ{n:Nat}{name:List Nat}{rss:List (List Row)}{b:List Nat}{d:D}{bs:List (List Nat)}{G:DH}{k:D->DH->Prop}{E:EK}(h:Lv name rss b d bs)(h1:name≠kJ)(h2:b.length<=12)(h3:stc b < n)(hk:k (.lst (bs.map (nM name rss))) G)(h4:n<=12:=by decide):(eX n).t [.str b,d] G k E:=by
 obtain ⟨t,rfl,e1,e2⟩:=h.tree;refine zq h1 h2 (by omega) h4 ?_;rw[e2,eV,gd];have:(nO name∘λc=>(c,kW rss c))=nM name rss:=by funext c;exact adP
 rw[this];exact hk
noncomputable def kY:List D->Option D
 |[.str f,.str g]=>if decide (g.length<=100000) then some (.bl (cZ g f)) else none
 |_=>none
theorem adR (Φ:aa) (h1:Φ "fits"=aD nF) (ds:List D) (G:DH) (d:D) (h:kY ds=some d):au Φ mD noE (env0 ds 0) G (ends λd' G'=>G'=G/\d'=d):=by
 unfold kY at h;split at h
 ·rename_i f g;split at h
  ·rename_i hl;cases h;simp_arith[mD,h1];exact bM (d:=.bl (cZ g f)) (if_pos hl) ⟨rfl,rfl⟩
  ·cases h
 ·cases h
theorem Od{f g:List Nat}{G:DH}{k:D->DH->Prop}{E:EK}(h:g.length<=1000)(hk:k (.bl (cZ g f)) G):(aD kY).t [.str f,.str g] G k E:=bM (if_pos (aT (by omega))) hk
def gC:List Nat->List (List Nat)
 |[]=>[[]]
 |c::f=>(alt c).flatMap λs=>(gC f).map (s::·)
theorem Oe:∀(f:List Nat)(acc:List (List Nat)),f.foldl step1 acc=acc.flatMap λt=>(gC f).map (t ++ ·)
 |[],acc=>by simp[gC]
 |c::f,acc=>by
  rw[List.foldl_cons,Oe f,step1,List.flatMap_assoc];congr 1;funext t;rw[gC,List.flatMap_map,List.map_flatMap];congr 1;funext s;rw[gd];congr 1;funext x;simp
theorem adS(f:List Nat):ie f=gC f:=by unfold ie;rw[Oe];simp
theorem adT{w:Nat}{G:DH}{k:D->DH->Prop}{E:EK}(h:w<=1000)(hk:k (.str (List.replicate w 42)) G):(aD jr).t [.int w] G k E:=
 bM (d:=.str (List.replicate w 42)) (by unfold jr;dsimp only;rw[if_pos (by simp only[ae,bp];omega),dk]) hk
def cG(l:List Nat):List Nat:=l.map λa=>if a=42 then 48 else a
noncomputable def kZ:List D->Option D
 |[.str l]=>if decide (l.length<=1000) then some (.str (cG l)) else none
 |_=>none
theorem adU{l:List Nat}{G:DH}{k:D->DH->Prop}{E:EK}(h:l.length<=1000)(hk:k (.str (cG l)) G):(aD kZ).t [.str l] G k E:=bM (if_pos (aT h)) hk
theorem adV{b l:List Nat}{n:Nat}(h:Fits b l)(hn:b[n]?=some 42):Fits (b.set n 48) l\/Fits (b.set n 49) l:=by
 obtain ⟨hl,he⟩:=am.mp hn;have hnl:n < l.length:=by rw[<-h.1];exact hl
 have hs:=h.2 n 42 l[n] hn (bS hnl);have put:∀c,l[n]=c->c≠42->Fits (b.set n c) l:=by
  intro c hc hc42;refine ⟨by rw[cm];exact h.1,λi x y hx hy=>?_⟩;rw[List.getElem?_set]at hx;by_cases hi:n=i
  ·subst hi;rw[if_pos rfl,if_pos hl]at hx;rw[bS hnl]at hy;cases hx;cases hy;unfold alt;rw[if_neg hc42,hc];simp
  ·rw[if_neg hi]at hx;exact h.2 i x y hx hy
 unfold alt at hs;rw[if_pos rfl]at hs;have:l[n]=48\/l[n]=49:=by simpa using hs
 rcases this with e |e
 ·exact .inl (put 48 e (by decide))
 ·exact .inr (put 49 e (by decide))
theorem Og{b l:List Nat}{n c:Nat}(h:Fits (b.set n c) l)(hn:b[n]?=some 42)(hc:c=48\/c=49):Fits b l:=by
 have hl:=(am.mp hn).1;refine ⟨by have:=h.1;rwa [cm]at this,λi x y hx hy=>?_⟩;by_cases hi:n=i
 ·subst hi;rw[hn]at hx;cases hx;have:=h.2 n c y (by rw[List.getElem?_set,if_pos rfl,if_pos hl]) hy;unfold alt at this ⊢;rw[if_neg (by omega)]at this;rw[if_pos rfl];have e:y=c:=by simpa using this
  rw[e];simpa using hc
 ·exact h.2 i x y (by rw[List.getElem?_set,if_neg hi];exact hx) hy
theorem Lv.cover{name:List Nat}{rss:List (List Row)}{b:List Nat}{d:D}{bs:List (List Nat)}(h:Lv name rss b d bs):∀l,Fits b l->∃c∈bs,Fits c l:=by
 induction h with
 |leaf b h=>exact λl hl=>⟨b,by simp,hl⟩
 |node b n z o l m h _ _ hz ho=>
  intro w hw;rcases adV hw h with e |e
  ·obtain ⟨c,hc,hf⟩:=hz w e;exact ⟨c,bn.mpr (.inl hc),hf⟩
  ·obtain ⟨c,hc,hf⟩:=ho w e;exact ⟨c,bn.mpr (.inr hc),hf⟩
theorem Lv.within{name:List Nat}{rss:List (List Row)}{b:List Nat}{d:D}{bs:List (List Nat)}(h:Lv name rss b d bs):∀c∈bs,∀l,Fits c l->Fits b l:=by
 induction h with
 |leaf b h=>intro c hc l hl;rw[bg.mp hc]at hl;exact hl
 |node b n z o l m h _ _ hz ho=>
  intro c hc w hw;rcases bn.mp hc with hc |hc
  ·exact Og (hz c hc w hw) h (.inl rfl)
  ·exact Og (ho c hc w hw) h (.inr rfl)
theorem adW{a s:Nat}{f l:List Nat}(h:Fits (a::f) (s::l)):s∈alt a/\Fits f l:=
 ⟨h.2 0 a s rfl rfl,by have:=h.1;simpa using this,λi c t h1 h2=>h.2 (i+1) c t (by simpa using h1) (by simpa using h2)⟩
theorem adX{a s:Nat}{f l:List Nat}(h1:s∈alt a)(h2:Fits f l):Fits (a::f) (s::l):=⟨by simp[h2.1],λi c t hc ht=>by
 cases i with
 |zero=>simp at hc ht;rw[<-hc,<-ht];exact h1
 |succ i=>exact h2.2 i c t (by simpa using hc) (by simpa using ht)⟩
theorem zr:∀c:List Nat,Fits c (cG c)
 |[]=>⟨rfl,λi c s h=>by simp at h⟩
 |a::c=>by
  show Fits (a::c) ((if a=42 then 48 else a)::cG c);refine adX ?_ (zr c);unfold alt;split <;> simp
theorem Oh:∀{c l:List Nat},Fits c l->¬l < cG c
 |[],l,h=>by
  have:l=[]:=cy.mp h.1.symm;subst this;exact List.lt_irrefl _
 |a::c,[],h=>by have:=h.1;simp at this
 |a::c,s::l,h=>by
  obtain ⟨h1,h2⟩:=adW h;show ¬(s::l) < ((if a=42 then 48 else a)::cG c);rw[gl];have ih:=Oh h2;unfold alt at h1;split at h1
  ·rename_i e;rw[if_pos e];have:s=48\/s=49:=by simpa using h1
   rintro (q |q)
   ·omega
   ·exact ih q.2
  ·rename_i e;rw[if_neg e];have:s=a:=by simpa using h1
   rintro (q |q)
   ·omega
   ·exact ih q.2
theorem Oi:∀{x m a:List Nat},x < m->¬a < m->x < a
 |x,[],a,h,_=>absurd h (by simp)
 |x,b::m,[],_,h=>absurd (by simp) h
 |[],b::m,y::a,_,_=>by simp
 |c::x,b::m,y::a,h,g=>by
  rw[gl]at h g ⊢;have g1:¬y < b:=λe=>g (.inl e);rcases h with h |⟨h1,h2⟩
  ·exact .inl (by omega)
  ·by_cases e:y=b
   ·exact .inr ⟨by omega,Oi h2 λz=>g (.inr ⟨e,z⟩)⟩
   ·exact .inl (by omega)
theorem Oj:∀f:List Nat,(gC f).Pairwise (· < ·)
 |[]=>by simp[gC]
 |c::f=>by
  have ih:=Oj f;have one:∀s:Nat,((gC f).map (s::·)).Pairwise (· < ·):=λs=>List.pairwise_map.mpr (ih.imp λh=>gl.mpr (.inr ⟨rfl,h⟩));rw[gC];unfold alt;split
  ·rw[List.flatMap_cons,List.flatMap_cons,List.flatMap_nil,d4,List.pairwise_append];refine ⟨one 48,one 49,λa ha b hb=>?_⟩;obtain ⟨x,_,rfl⟩:=cr.mp ha;obtain ⟨y,_,rfl⟩:=cr.mp hb;exact gl.mpr (.inl (by decide))
  ·rw[List.flatMap_cons,List.flatMap_nil,d4];exact one c
theorem adY{u:List (List Nat)}{m:List Nat}(h:u.Pairwise (· < ·))(hm:m∈u)(hl:∀x∈u,¬x < m):u.head?=some m:=by
 cases u with
 |nil=>cases hm
 |cons a u=>
  rcases bo.mp hm with e |hm
  ·rw[e];rfl
  ·exact absurd ((List.pairwise_cons.mp h).1 m hm) (hl a br)
theorem adZ{ds:List D}{ls:List (List Nat)}{k:D->Prop}(h0:cu ds=none)(h:bw ds=some ls)(hk:∀m,m∈ls->(∀a,a∈ls->¬a < m)->k (.str m)):opB .min [.lst ds] k:=by show lE [.lst ds] k;unfold lE;dsimp only;rw[h0,h];exact hk
def ad0:RF.Spec:=cI (λa:Nat×List Row×Nat=>[ao a.1 a.2.1,.int a.2.2]) (λa=>okB a.1 a.2.1/\a.2.2 < a.2.1.length) (λ_=>.non)
def dh(rs:List Row)(y:D):Prop:=nr y=true/\isPlace (rs.length:Int) y=false
def ju (ds:List D) (C:String):Prop:=(C="NoBook"/\∃x y,ds=[x,y]/\gw x)\/(C="NoRow"/\∃w rs y,ds=[ao w rs,y]/\okB w rs/\dh rs y)
def lg:RF.Spec:=orX ad0 ju
theorem Ol{ds:List D}{C:String}(h:ju ds C):∃a b,ds=[a,b]:=by
 rcases h with ⟨_,x,y,e,_⟩ |⟨_,w,rs,y,e,_⟩
 ·exact ⟨_,_,e⟩
 ·exact ⟨_,_,e⟩
theorem nP{w n:Nat}{rs:List Row}{G:DH}{k:D->DH->Prop}{E:EK}(h:okB w rs)(hn:n < rs.length)(hk:k .non G):lg.t [ao w rs,.int n] G k E:=jm (dD (w,rs,n) rfl ⟨h,hn⟩ hk)
theorem ad1 (Φ:aa) (h1:Φ "need_book"=dH) (h2:Φ "is_place"=aD eU) (a:Nat×List Row×Nat) (G:DH) (h:okB a.1 a.2.1/\a.2.2 < a.2.1.length):au Φ gZ noE (env0 [ao a.1 a.2.1,.int a.2.2] 0) G (ends λd G'=>G'=G/\d=.non):=by obtain ⟨w,rs,n⟩:=a;obtain ⟨hb,hn⟩:=h;dsimp only at hb hn ⊢;simp_all_arith[gZ];refine seq λM hM=>?_;simp_arith[h1];refine jq hb (hM _ _ (last ?_));simp_arith[ao,h2,al];refine zp hn ?_;simp_arith[fT]
theorem ad2 (Φ:aa) (h1:Φ "need_book"=dH) (h2:Φ "is_place"=aD eU) (ds:List D) (G:DH) (C:String) (h:ju ds C):au Φ gZ (λx G'=>x=⟨C,.non⟩/\G'=G) (env0 ds 0) G (ends λ_ _=>False):=by
 rcases h with ⟨rfl,x,y,rfl,hx⟩ |⟨rfl,w,rs,y,rfl,hb,hy,hn⟩
 ·simp_all_arith[gZ];refine seq λM hM=>?_;simp_arith[h1];exact uO hx ⟨rfl,rfl⟩
 ·have hlen:=hb.len;simp_all_arith[gZ];refine seq λM hM=>?_;simp_arith[h1];refine jq hb (hM _ _ (last ?_));simp_arith[ao,h2,al];refine bM (d:=.bl false) (by rw[<-hn];exact if_pos hy) ?_;simp_arith[ao,al,fT,ff];unfold qR;rw[ae];exact ⟨aT (by omega),aT (by omega)⟩
def zu:List Nat:=[115,97,109,101]
def zx:List Nat:=[112,97,114,116,101,100]
def zy:List Nat:=[97,108,105,107,101]
def uU:RF.Spec:=cI (λa:Nat×List Row×List Row=>[ao a.1 a.2.1,ao a.1 a.2.2]) (λa=>okB a.1 a.2.1/\okB a.1 a.2.2) (λ_=>.non)
theorem ad3{w:Nat}{rs ss:List Row}{G:DH}{k:D->DH->Prop}{E:EK}(h:okB w rs)(h':okB w ss)(hk:k .non G):uU.t [ao w rs,ao w ss] G k E:=dD (w,rs,ss) rfl ⟨h,h'⟩ hk
theorem ad4 (Φ:aa) (h1:Φ "need_book"=dH) (a:Nat×List Row×List Row) (G:DH) (h:okB a.1 a.2.1/\okB a.1 a.2.2):au Φ mU noE (env0 [ao a.1 a.2.1,ao a.1 a.2.2] 0) G (ends λd G'=>G'=G/\d=.non):=by obtain ⟨w,rs,ss⟩:=a;obtain ⟨hb,hc⟩:=h;dsimp only at hb hc ⊢;simp_all_arith[mU];refine seq λM hM=>?_;simp_arith[h1];refine jq hb (hM _ _ (seq λM hM=>?_));simp_arith[h1];refine jq hc (hM _ _ (last ?_));simp_arith[ao,BEq.rfl,fT]
def b7(rs:List Row)(o:Option Nat):Option (List Nat):=o.bind λn=>rs[n]?.map (·.2)
theorem Om{rs:List Row}{o:Option Nat}:kI rs o=bA (b7 rs o):=by
 cases o with
 |none=>rfl
 |some n=>
  unfold kI b7;dsimp only[Option.bind];cases rs[n]? <;> rfl
structure SD where
 w:Nat
 rs:List Row
 ss:List Row
 name:List Nat
 o:Option Nat
 p:Option Nat
def sSD:RF.Spec:=cI (λa:SD=>[ao a.w a.rs,ao a.w a.ss,.tup [.str a.name,aV a.o,aV a.p]]) (λa=>(∀n,a.o=some n->n < a.rs.length)/\∀n,a.p=some n->n < a.ss.length) (λa=>.bl (b7 a.rs a.o==b7 a.ss a.p))
theorem ad5{w:Nat}{rs ss:List Row}{name:List Nat}{o p:Option Nat}{G:DH}{k:D->DH->Prop}{E:EK}(h1:∀n,o=some n->n < rs.length)(h2:∀n,p=some n->n < ss.length)(hk:k (.bl (b7 rs o==b7 ss p)) G):sSD.t [ao w rs,ao w ss,.tup [.str name,aV o,aV p]] G k E:=dD ⟨w,rs,ss,name,o,p⟩ rfl ⟨h1,h2⟩ hk
theorem ad6 (Φ:aa) (h1:Φ "deed_of"=uP) (a:SD) (G:DH) (h:(∀n,a.o=some n->n < a.rs.length)/\∀n,a.p=some n->n < a.ss.length):au Φ mV noE (env0 [ao a.w a.rs,ao a.w a.ss,.tup [.str a.name,aV a.o,aV a.p]] 0) G (ends λd G'=>G'=G/\d=.bl (b7 a.rs a.o==b7 a.ss a.p)):=by obtain ⟨w,rs,ss,name,o,p⟩:=a;obtain ⟨ho,hp⟩:=h;dsimp only at ho hp ⊢;simp_arith[mV,h1];refine Nz ho (Nz hp ?_);rw[Om,Om];cases b7 rs o <;> cases b7 ss p <;> simp_arith[bA] <;> first |done | (simp;done) | (refine ⟨by decide,?_⟩;simp;done)
noncomputable def bJ(w:Nat)(rs ss:List Row):List (List Nat):=(ie (List.replicate w 42)).filter λl=>!(b7 rs (ir rs l)==b7 ss (ir ss l))
def dX(rs ss:List Row)(c:List Nat):Bool:=b7 rs (bI rs c)==b7 ss (bI ss c)
def zA(w:Nat)(rs ss:List Row)(d:D):Prop:=
 (∃m,(bJ w rs ss).head?=some m/\d=.tup [.str zx,.str m])\/(bJ w rs ss=[]/\∃t bs,d=.tup [.str zy,t]/\Lv zu [rs,ss] (List.replicate w 42) t bs/\∀c∈bs,dX rs ss c=true)
def nQ:RF.Spec:=ghS (A:=Nat×List Row×List Row) (λa ds _=>ds=[ao a.1 a.2.1,ao a.1 a.2.2]/\okB a.1 a.2.1/\okB a.1 a.2.2) (λa G d G'=>G'=G/\zA a.1 a.2.1 a.2.2 d)
theorem Oo{w:Nat}{rs ss:List Row}{G:DH}{k:D->DH->Prop}{E:EK}(h:okB w rs)(h':okB w ss)(hk:∀d,zA w rs ss d->k d G):nQ.t [ao w rs,ao w ss] G k E:=
 j6 (w,rs,ss) ⟨rfl,h,h'⟩ λd G' hx=>by
  obtain ⟨e,q⟩:=hx;subst e;exact hk d q
theorem ad7 (Φ:aa) (h1:Φ "need_two_books"=uU) (h2:Φ "grown"=fK 9) (h3:Φ "leaves"=eX 9) (h4:Φ "least"=aD kZ) (h5:Φ "stars"=aD jr) (h6:Φ "same_deeds"=sSD) (a:Nat×List Row×List Row) (ds:List D) (G:DH) (h:ds=[ao a.1 a.2.1,ao a.1 a.2.2]/\okB a.1 a.2.1/\okB a.1 a.2.2):
  au Φ mX noE (env0 ds 3) G (ends λd G'=>G'=G/\zA a.1 a.2.1 a.2.2 d):=by
 obtain ⟨w,rs,ss⟩:=a;obtain ⟨rfl,hb,hb'⟩:=h;dsimp only at hb hb' ⊢;have hw6:=hb.w6;have hst:=adE w;have hrl:∀r∈rs,r.1.length=w:=λr hr=>(hb.form r hr).1;have hsl:∀r∈ss,r.1.length=w:=λr hr=>(hb'.form r hr).1;have e0:∀xs:List Row,D.tup [.int w,.tup (xs.map aG)]=ao w xs:=λ_=>rfl;simp_all_arith[mX];refine seq λM hM=>?_;simp_arith[h1];refine ad3 hb hb' (hM _ _ (seq λM hM=>?_));simp_arith[ao,h5];refine adT (by omega) (hM _ _ (seq λM hM=>?_));simp_arith[h2];have er:[D.tup (rs.map aG),.tup (ss.map aG)]=eQ [rs,ss]:=rfl;rw[er];refine ⟨by decide,zm (name:=zu) ⟨by simp,by decide,λxs hxs r hr=>?_,by omega⟩ dn (by omega) λt ht=>hM _ _ (seq λM hM=>?_)⟩
 ·rcases bo.mp hxs with e |hxs
  ·rw[e]at hr;exact hrl r hr
  ·rw[bg.mp hxs]at hr;exact hsl r hr
 obtain ⟨bs,hL⟩:=ht.lv;have hlen:=hL.len' (by rw[dn];omega);simp_arith[h3];refine adQ hL (by decide) (by rw[dn];omega) (by omega) ?_;simp_arith[ends];refine CompG.inv (P:=λi acc ρ G'=>(∃o1 o2,ρ=[o1,o2,some (.tup [.int w,.tup (rs.map aG)]),some (.tup [.int w,.tup (ss.map aG)])])/\G'=G/\acc=((bs.take i).filter λc=>!dX rs ss c).map λc=>D.str (cG c)) ⟨⟨_,_,rfl⟩,rfl,rfl⟩ (λ_ _ _ _ _=>trivial) (by rw[al];have hsz:sz=1000000:=rfl;omega) ?_ ?_
 ·rintro i d acc ρ G' hd ⟨⟨o1,o2,rfl⟩,rfl,rfl⟩ kk hk;rw[a8]at hd;obtain ⟨c,hcb,rfl⟩:=aE.mp hd;have hcl:=(hL.box c (b6 hcb)).1;rw[dn]at hcl;have htk:bs.take (i+1)=bs.take i++[c]:=by rw[fk,hcb];rfl
  simp_arith[nM,uT,ce,eP,h6];rw[e0,e0];refine ad5 (λn hn=>uR hn) (λn hn=>uR hn) ?_;have es:(b7 rs (bI rs c)==b7 ss (bI ss c))=dX rs ss c:=rfl;rw[es];cases hsb:dX rs ss c with
  |true=>
   simp_arith[ends];exact hk _ _ _ ⟨⟨_,_,rfl⟩,rfl,by rw[htk,List.filter_append];simp[hsb]⟩
  |false=>
   simp_arith[h4];refine adU (by omega) (hk _ _ _ ⟨⟨_,_,rfl⟩,rfl,by rw[htk,List.filter_append];simp[hsb]⟩)
 ·rintro acc ρ G' ⟨_,rfl,rfl⟩;rw[al,eW];refine hM _ _ (seq λM hM=>?_);have meet:∀xs∈[rs,ss],∀c∈bs,∀l,Fits c l->ir xs l=bI xs c:=by
   intro xs hxs c hc l hl;obtain ⟨e1,e2⟩:=hL.box c hc;rw[dn]at e1;have okc:=hL.okf (adf w) c hc;refine adF (λr hr=>?_) (e2 _ hxs) (adG okc hl) hl;rcases bo.mp hxs with e |hxs
   ·rw[e]at hr;rw[hrl r hr,e1]
   ·rw[bg.mp hxs]at hr;rw[hsl r hr,e1]
  have both:∀c∈bs,∀l,Fits c l->(b7 rs (ir rs l)==b7 ss (ir ss l))=dX rs ss c:=by intro c hc l hl;rw[meet rs (by simp) c hc l hl,meet ss (by simp) c hc l hl];rfl
  cases hfr:bs.filter λc=>!dX rs ss c with
  |nil=>
   have hall:∀c∈bs,dX rs ss c=true:=by
    intro c hc;have:=List.filter_eq_nil_iff.mp hfr c hc;cases h:dX rs ss c with
    |false=>rw[h]at this;exact absurd rfl this
    |true=>rfl
   simp_arith[eP];refine hM _ _ (last ?_);simp_arith[ends];refine ⟨by decide,.inr ⟨?_,t,bs,rfl,hL,hall⟩⟩;unfold bJ;rw[List.filter_eq_nil_iff];intro l hl;obtain ⟨c,hc',hfc⟩:=hL.cover l (zb.mp hl);rw[both c hc' l hfc,hall c hc'];simp
  |cons c0 cs=>
   have hne:(!(List.isEmpty (D.str (cG c0)::cs.map λc=>D.str (cG c))))=true:=rfl;simp_arith[ce,hne];rw[<-ce (f:=λc=>D.str (cG c)),<-hfr];have es:bw ((bs.filter λc=>!dX rs ss c).map λc=>D.str (cG c))=some ((bs.filter λc=>!dX rs ss c).map cG):=strs_map _ _;have ei:cu ((bs.filter λc=>!dX rs ss c).map λc=>D.str (cG c))=none:=by rw[hfr];rfl
   refine adZ ei es λm hm hlow=>?_;obtain ⟨c,hcm,rfl⟩:=cr.mp hm;obtain ⟨hcb,hcn⟩:=fE.mp hcm;refine ⟨by decide,.inl ⟨cG c,?_,rfl⟩⟩;refine adY ?_ ?_ ?_
   ·unfold bJ;rw[adS];exact (Oj _).filter _
   ·unfold bJ;rw[fE];refine ⟨zb.mpr (hL.within c hcb _ (zr c)),?_⟩;rw[both c hcb _ (zr c)];exact hcn
   ·intro x hx hlt;unfold bJ at hx;obtain ⟨hx1,hx2⟩:=fE.mp hx;obtain ⟨c',hc',hfc⟩:=hL.cover x (zb.mp hx1);rw[both c' hc' x hfc]at hx2;have hlow':=hlow (cG c') (cr.mpr ⟨c',fE.mpr ⟨hc',hx2⟩,rfl⟩);exact Oh hfc (Oi hlt hlow')
def wo(rs:List Row)(n:Nat):List Row:=rs.take n++rs.drop (n+1)
theorem uV{rs:List Row}{n:Nat}(hn:n < rs.length):(wo rs n).length+1=rs.length:=by unfold wo;rw[bq,dE,de];omega
theorem zB{w n:Nat}{rs:List Row}(hb:okB w rs)(hn:n < rs.length):okB w (wo rs n):=hb.sub (by have:=uV hn;omega) λr hr=>by
 rcases bn.mp hr with h |h
 ·exact List.mem_of_mem_take h
 ·exact List.mem_of_mem_drop h
def ad8:RF.Spec:=cI (λa:Nat×List Row×Nat=>[ao a.1 a.2.1,.int a.2.2]) (λa=>okB a.1 a.2.1/\a.2.2 < a.2.1.length) (λa=>ao a.1 (wo a.2.1 a.2.2))
def sWo:RF.Spec:=orX ad8 ju
theorem uW{w n:Nat}{rs:List Row}{G:DH}{k:D->DH->Prop}{E:EK}(h:okB w rs)(hn:n < rs.length)(hk:k (ao w (wo rs n)) G):sWo.t [ao w rs,.int n] G k E:=jm (dD (w,rs,n) rfl ⟨h,hn⟩ hk)
theorem Oq{α β:Type}(f:α->β)(l:List α)(n:Nat):cut (l.map f) (some ((n:Int)+1)) none=(l.drop (n+1)).map f:=adc f l (n+1)
theorem ad9 (Φ:aa) (h1:Φ "need_row"=lg) (a:Nat×List Row×Nat) (G:DH) (h:okB a.1 a.2.1/\a.2.2 < a.2.1.length):au Φ jd noE (env0 [ao a.1 a.2.1,.int a.2.2] 2) G (ends λd G'=>G'=G/\d=ao a.1 (wo a.2.1 a.2.2)):=by obtain ⟨w,rs,n⟩:=a;obtain ⟨hb,hn⟩:=h;dsimp only at hb hn ⊢;have hlen:=hb.len;simp_all_arith[jd];refine seq λM hM=>?_;simp_arith[h1];refine nP hb hn (hM _ _ (seq λM hM=>?_));simp_arith[ao];refine hM _ _ (last ?_);simp_arith[NB,Oq,al,dE,de];refine ⟨by have hsz:sz=1000000:=rfl;omega,by decide,?_⟩;unfold wo ao;rw[cS]
theorem aea (Φ:aa) (h1:Φ "need_row"=lg) (ds:List D) (G:DH) (C:String) (h:ju ds C):au Φ jd (λx G'=>x=⟨C,.non⟩/\G'=G) (env0 ds 2) G (ends λ_ _=>False):=by obtain ⟨a,b,rfl⟩:=Ol h;simp_all_arith[jd];refine seq λM hM=>?_;simp_arith[h1];exact gr h ⟨rfl,rfl⟩
def ndT:List Nat:=[110,101,101,100,108,101,115,115]
def Ot:List Nat:=[110,101,101,100,101,100]
def ndQ(w n:Nat)(rs:List Row)(d:D):Prop:=
 (∃m,(bJ w rs (wo rs n)).head?=some m/\d=.tup [.str Ot,.str m])\/(bJ w rs (wo rs n)=[]/\∃t bs,d=.tup [.str ndT,t]/\Lv zu [rs,wo rs n] (List.replicate w 42) t bs/\∀c∈bs,dX rs (wo rs n) c=true)
def aeb:RF.Spec:=ghS (A:=Nat×List Row×Nat) (λa ds _=>ds=[ao a.1 a.2.1,.int a.2.2]/\okB a.1 a.2.1/\a.2.2 < a.2.1.length) (λa G d G'=>G'=G/\ndQ a.1 a.2.2 a.2.1 d)
def uX:RF.Spec:=orX aeb ju
theorem aec{w n:Nat}{rs:List Row}{G:DH}{k:D->DH->Prop}{E:EK}(h:okB w rs)(hn:n < rs.length)(hk:∀d,ndQ w n rs d->k d G):uX.t [ao w rs,.int n] G k E:=
 jm (j6 (w,rs,n) ⟨rfl,h,hn⟩ λd G' hx=>by
  obtain ⟨e,q⟩:=hx;subst e;exact hk d q)
theorem aed (Φ:aa) (h1:Φ "alike"=nQ) (h2:Φ "without"=sWo) (a:Nat×List Row×Nat) (ds:List D) (G:DH) (h:ds=[ao a.1 a.2.1,.int a.2.2]/\okB a.1 a.2.1/\a.2.2 < a.2.1.length):au Φ jh noE (env0 ds 2) G (ends λd G'=>G'=G/\ndQ a.1 a.2.2 a.2.1 d):=by
 obtain ⟨w,rs,n⟩:=a;obtain ⟨rfl,hb,hn⟩:=h;dsimp only at hb hn ⊢;simp_all_arith[jh];refine seq λM hM=>?_;simp_arith[h1,h2];refine uW hb hn (Oo hb (zB hb hn) λd hq=>?_);rcases hq with ⟨m,hm,rfl⟩ |⟨hnil,t,bs,rfl,hL,hall⟩
 ·have eb:(([112,97,114,116,101,100]==[97,108,105,107,101]):Bool)=false:=by decide
  simp_arith[zx];refine hM _ _ (last ?_);simp_arith[eb];exact ⟨by decide,.inl ⟨m,hm,rfl⟩⟩
 ·simp_arith[zy];refine hM _ _ (last ?_);simp_arith[BEq.rfl];exact ⟨by decide,.inr ⟨hnil,t,bs,rfl,hL,hall⟩⟩
theorem aee (Φ:aa) (h2:Φ "without"=sWo) (ds:List D) (G:DH) (C:String) (h:ju ds C):au Φ jh (λx G'=>x=⟨C,.non⟩/\G'=G) (env0 ds 2) G (ends λ_ _=>False):=by obtain ⟨a,b,rfl⟩:=Ol h;simp_all_arith[jh];refine seq λM hM=>?_;simp_arith[h2];exact gr h ⟨rfl,rfl⟩
def lnS(w:Nat)(rs:List Row)(n:Nat):List Row:=if (bJ w rs (wo rs n)).isEmpty then wo rs n else rs
def lnR(w:Nat):Nat->List Row->List Row
 |0,rs=>rs
 |k+1,rs=>lnR w k (lnS w rs k)
theorem Ou{w n:Nat}{rs:List Row}(hb:okB w rs)(hn:n < rs.length):okB w (lnS w rs n)/\n<=(lnS w rs n).length:=by
 unfold lnS;split
 ·exact ⟨zB hb hn,by have:=uV hn;omega⟩
 ·exact ⟨hb,by omega⟩
theorem Ov{w:Nat}:∀(k:Nat){rs:List Row},okB w rs->k<=rs.length->okB w (lnR w k rs)
 |0,rs,hb,_=>hb
 |k+1,rs,hb,hk=>by
  obtain ⟨h1,h2⟩:=Ou hb (show k < rs.length by omega);exact Ov k h1 h2
def aef:RF.Spec:=cI (λa:Nat×List Row=>[ao a.1 a.2]) (λa=>okB a.1 a.2) (λa=>ao a.1 (lnR a.1 a.2.length a.2))
def uY:RF.Spec:=orX aef ik
theorem Ow{w:Nat}{rs:List Row}{G:DH}{k:D->DH->Prop}{E:EK}(h:okB w rs)(hk:k (ao w (lnR w rs.length rs)) G):uY.t [ao w rs] G k E:=jm (dD (w,rs) rfl h hk)
theorem aeg (Φ:aa) (h1:Φ "need_book"=dH) (h2:Φ "needless"=uX) (h3:Φ "without"=sWo) (a:Nat×List Row) (G:DH) (h:okB a.1 a.2):au Φ ji noE (env0 [ao a.1 a.2] 2) G (ends λd G'=>G'=G/\d=ao a.1 (lnR a.1 a.2.length a.2)):=by
 obtain ⟨w,rs⟩:=a;dsimp only at h ⊢;have hlen:=h.len;have e0:∀xs:List Row,D.tup [.int w,.tup (xs.map aG)]=ao w xs:=λ_=>rfl;simp_all_arith[ji];refine seq λM hM=>?_;simp_arith[h1];refine jq h (hM _ _ (seq λM hM=>?_));simp_arith[ends];refine hM _ _ (seq λM hM=>?_);have ed:ao w rs=.tup [.int w,.tup (rs.map aG)]:=rfl;simp_arith![ed,al,dk];refine ⟨by omega,ForG.inv (P:=λi ρ G'=>∃(xs:List Row)(o2:Option D),ρ=[some (.tup [.int w,.tup (rs.map aG)]),some (.tup [.int w,.tup (xs.map aG)]),o2]/\G'=G/\okB w xs/\rs.length - i<=xs.length/\lnR w (rs.length - i) xs=lnR w rs.length rs) ⟨rs,_,rfl,rfl,h,aw _,rfl⟩ (λ_ _ _ _=>trivial) ?_ ?_⟩
 ·rintro i d ρ G' hd ⟨xs,o2,rfl,rfl,hb,hl,hr⟩ kk hk;have hi:i < rs.length:=by
   have:=(am.mp hd).1;simpa [dq] using this
  obtain ⟨m,hm⟩:∃m:Nat,rs.length - i=m+1:=⟨rs.length - i - 1,by omega⟩;have hdi:d=.int (m:Int):=by
   unfold dq at hd;rw[a8,fw hi]at hd;have:D.int ((rs.length:Int) - 1 - (i:Int))=d:=by simpa using hd
   rw[<-this];congr 1;omega
  subst hdi;rw[hm]at hl hr;rw[lnR]at hr;have hmx:m < xs.length:=by omega
  obtain ⟨k1,k2⟩:=Ou hb hmx;have em:rs.length - (i+1)=m:=by omega
  simp_arith![ends];refine last ?_;simp_arith[h2];rw[e0];refine aec hb hmx λd hq=>?_;rcases hq with ⟨l,hl',rfl⟩ |⟨hnil,t,bs,rfl,_,_⟩
  ·have eb:(([110,101,101,100,101,100]==[110,101,101,100,108,101,115,115]):Bool)=false:=by decide
   have es:lnS w xs m=xs:=by
    unfold lnS;cases hp:bJ w xs (wo xs m) with
    |nil=>rw[hp]at hl';cases hl'
    |cons _ _=>rfl
   rw[es]at hr;simp_arith[Ot,eb];exact hk _ _ ⟨xs,_,rfl,rfl,hb,by omega,by rw[em];exact hr⟩
  ·have es:lnS w xs m=wo xs m:=by unfold lnS;rw[hnil];rfl
   rw[es]at hr k1 k2;simp_arith[ndT,BEq.rfl,h3];refine uW hb hmx ?_;exact hk _ _ ⟨wo xs m,_,rfl,rfl,k1,by omega,by rw[em];exact hr⟩
 ·rintro ρ G' ⟨xs,o2,rfl,rfl,hb,hl,hr⟩;have e1:rs.length - (dq ((rs.length:Int) - 1) rs.length).length=0:=by simp[dq]
  rw[e1]at hr;refine hM _ _ (last ?_);simp_arith[ends];rw[e0,<-hr];rfl
theorem aeh (Φ:aa) (h1:Φ "need_book"=dH) (ds:List D) (G:DH) (C:String) (h:ik ds C):au Φ ji (λx G'=>x=⟨C,.non⟩/\G'=G) (env0 ds 2) G (ends λ_ _=>False):=by obtain ⟨rfl,x,rfl,hx⟩:=h;simp_all_arith[ji];refine seq λM hM=>?_;simp_arith[h1];exact uO hx ⟨rfl,rfl⟩
def nR:RF.Spec:=cI (λa:Nat×List Row×List Row=>[ao a.1 a.2.1,ao a.1 a.2.2]) (λa=>okB a.1 a.2.1/\okB a.1 a.2.2) (λa=>bA (bJ a.1 a.2.1 a.2.2).head?)
theorem Oz{w:Nat}{rs ss:List Row}{G:DH}{k:D->DH->Prop}{E:EK}(h:okB w rs)(h':okB w ss)(hk:k (bA (bJ w rs ss).head?) G):nR.t [ao w rs,ao w ss] G k E:=dD (w,rs,ss) rfl ⟨h,h'⟩ hk
theorem aei (Φ:aa) (h1:Φ "alike"=nQ) (a:Nat×List Row×List Row) (G:DH) (h:okB a.1 a.2.1/\okB a.1 a.2.2):au Φ mY noE (env0 [ao a.1 a.2.1,ao a.1 a.2.2] 2) G (ends λd G'=>G'=G/\d=bA (bJ a.1 a.2.1 a.2.2).head?):=by
 obtain ⟨w,rs,ss⟩:=a;obtain ⟨hb,hb'⟩:=h;dsimp only at hb hb' ⊢;have eb:(([97,108,105,107,101]==[112,97,114,116,101,100]):Bool)=false:=by decide
 simp_all_arith[mY];refine seq λM hM=>?_;simp_arith[h1];refine Oo hb hb' λd hq=>?_;rcases hq with ⟨m,hm,rfl⟩ |⟨hnil,t,bs,rfl,_,_⟩
 ·simp_arith[zx];refine hM _ _ (last ?_);simp_arith[BEq.rfl,hm,bA,fT]
 ·simp_arith[zy];refine hM _ _ (last ?_);simp_arith[eb,hnil,List.head?_nil,bA,fT]
def unl(f g:List Nat)(n:Nat):List Nat:=(List.range n).filter λi=>f[i]? != g[i]?
noncomputable def dI(f g:List Nat):Option (List Nat):=if cZ g f=true then some g else if cZ f g=true then some f else match unl f g f.length with |[i]=>some (f.set i 42) |_=>none
noncomputable def lq:List D->Option D
 |[.str f,.str g]=>if decide (f.length=g.length)&&decide (f.length<=1000) then some (bA (dI f g)) else none
 |_=>none
theorem aej{f g:List Nat}{G:DH}{k:D->DH->Prop}{E:EK}(hl:f.length=g.length)(h:f.length<=1000)(hk:k (bA (dI f g)) G):(aD lq).t [.str f,.str g] G k E:=bM (if_pos (by rw[aT hl,aT h];rfl)) hk
theorem aek{f g:List Nat}{n:Nat}:unl f g (n+1)=unl f g n++(if (f[n]? != g[n]?)=true then [n] else []):=by unfold unl;rw[List.range_succ,List.filter_append];congr 1;rw[List.filter_cons,List.filter_nil]
theorem ael{f g:List Nat}{n:Nat}:(unl f g n).length<=n:=by unfold unl;exact cb (List.length_filter_le _ _) (by simp)
theorem aem{f g:List Nat}{i:Nat}(hl:f.length=g.length)(h:unl f g f.length=[i]):i < f.length/\f[i]?≠g[i]?/\∀j,j≠i->f[j]?=g[j]?:=by
 have hm:∀j,j∈unl f g f.length↔j < f.length/\f[j]?≠g[j]?:=λj=>by unfold unl;simp
 have h1:=(hm i).mp (by rw[h];simp);refine ⟨h1.1,h1.2,λj hj=>?_⟩;by_cases hlt:j < f.length
 ·apply Classical.byContradiction;intro hne;have:=(hm j).mpr ⟨hlt,hne⟩;rw[h]at this;exact hj (bg.mp this)
 ·rw[List.getElem?_eq_none (by omega),List.getElem?_eq_none (by omega)]
theorem aen (Φ:aa) (h1:Φ "lies_in"=aD kY) (h2:Φ "with_sign"=aD gA) (ds:List D) (G:DH) (d:D) (h:lq ds=some d):au Φ mG noE (env0 ds 1) G (ends λd' G'=>G'=G/\d'=d):=by
 unfold lq at h;split at h
 ·rename_i f g;split at h
  ·rename_i hh;rw[ae,bp,bp]at hh;obtain ⟨hl,hz⟩:=hh;cases h;simp_all_arith[mG];refine seq λM hM=>?_;simp_arith[h1];refine Od (by omega) ?_;cases q1:cZ g f with
   |true=>
    have ej:dI f g=some g:=by unfold dI;rw[if_pos q1]
    simp_arith[ej,bA]
   |false=>
    simp_arith[ends];refine hM _ _ (seq λM hM=>?_);simp_arith[h1];refine Od (by omega) ?_;cases q2:cZ f g with
    |true=>
     have ej:dI f g=some f:=by unfold dI;rw[if_neg (by rw[q1];decide),if_pos q2]
     simp_arith[ej,bA]
    |false=>
     have ej:dI f g=match unl f g f.length with |[i]=>some (f.set i 42) |_=>none:=by unfold dI;rw[if_neg (by rw[q1];decide),if_neg (by rw[q2];decide)]
     simp_arith[ends];refine hM _ _ (seq λM hM=>?_);simp_arith[ends];refine CompG.inv (P:=λi acc ρ G'=>(∃o0 o1,ρ=[o0,o1,some (.str g)])/\G'=G/\acc=(unl f g i).map λj:Nat=>D.int (j:Int)) ⟨⟨_,_,rfl⟩,rfl,rfl⟩ (λ_ _ _ _ _=>trivial) (by rw[iY,al];have hsz:sz=1000000:=rfl;omega) ?_ ?_
     ·rintro i d acc ρ G' hd ⟨⟨o0,o1,rfl⟩,rfl,rfl⟩ kk hk;rw[jX]at hd;obtain ⟨d',hd',rfl⟩:=aE.mp hd;rw[a8]at hd';obtain ⟨x,hx,rfl⟩:=aE.mp hd';have hi:=(am.mp hx).1;have hy:g[i]?=some (g[i]'(by omega)):=by simp[show i < g.length by omega]
      generalize (g[i]'(by omega))=y at hy;have us:=@aek f g i;simp_arith![ends];refine bN (a:=y) (by rw[Nat.zero_add];exact b8 hy) ?_;simp_arith[il];cases hxy:(x==y) with
      |true=>
       have e:x=y:=by simpa using hxy
       simp_arith[ends];refine hk none _ _ ⟨⟨some (.int ((0+i:Nat):Int)),some (.str [x]),rfl⟩,rfl,?_⟩;rw[us,hx,hy,e];simp
      |false=>
       have e:x≠y:=by simpa using hxy
       simp_arith[ends];refine hk (some (.int ((0+i:Nat):Int))) _ _ ⟨⟨some (.int ((0+i:Nat):Int)),some (.str [x]),rfl⟩,rfl,?_⟩;rw[us,hx,hy];simp[e]
     ·rintro acc ρ G' ⟨_,rfl,rfl⟩;rw[iY,al];have ul:=@ael f g f.length;refine hM _ _ (seq λM hM=>?_);cases hu:unl f g f.length with
      |nil=>
       rw[hu]at ej;simp_arith[ends];refine hM _ _ ?_;simp_arith[ej,bA]
      |cons i r=>
       cases r with
       |nil=>
        rw[hu]at ej;have:=(aem hl hu).1;simp_arith[h2];exact nJ this hz ⟨rfl,by rw[ej];rfl⟩
       |cons j r=>
        have e:((((List.map (λj:Nat=>D.int (j:Int)) (i::j::r)).length:Nat):Int)==1)=false:=by rw[df,al,eA,eA];omega
        rw[hu]at ej;simp_arith![e];refine hM _ _ ?_;simp_arith[ej,bA]
  ·cases h
 ·cases h
theorem OD{w:Nat}{f g h:List Nat}(hf:okF w f)(hg:okF w g)(e:dI f g=some h):okF w h:=by
 unfold dI at e;split at e
 ·cases e;exact hg
 ·split at e
  ·cases e;exact hf
  ·split at e
   ·cases e;exact zj hf (.inr (.inr rfl))
   ·cases e
def rw0(rs:List Row)(i:Nat):Row:=rs.getD i ([],[])
noncomputable def jbR(rs:List Row)(i j a:Nat):Option (List Row):=
 match dI (rw0 rs i).1 (rw0 rs j).1 with
 |none=>none
 |some f=>if (rw0 rs i).2=(rw0 rs j).2 then some (wo (rs.set a (f,(rw0 rs a).2)) (if a=i then j else i)) else none
def di(w:Nat):Option (List Row)->D
 |none=>.non
 |some rs=>ao w rs
structure JB where
 w:Nat
 rs:List Row
 i:Nat
 j:Nat
 a:Nat
def uZ(a:JB):Prop:=okB a.w a.rs/\a.i < a.j/\a.j < a.rs.length/\(a.a=a.i\/a.a=a.j)
def sJB:RF.Spec:=cI (λa:JB=>[ao a.w a.rs,.int (a.i:Nat),.int (a.j:Nat),.int (a.a:Nat)]) uZ (λa=>di a.w (jbR a.rs a.i a.j a.a))
theorem OJ{rs:List Row}{i:Nat}(h:i < rs.length):rs[i]?=some (rw0 rs i):=by unfold rw0;rw[fq,bS h];rfl
theorem nT{rs:List Row}{i:Nat}(h:i < rs.length):rw0 rs i∈rs:=b6 (OJ h)
theorem nU{rs:List Row}{i:Nat}(h:i < rs.length):atI (rs.map aG) (i:Int)=some (aG (rw0 rs i)):=b8 (by rw[a8,OJ h];rfl)
theorem O1{w p:Nat}{rs:List Row}{f:List Nat}(hb:okB w rs)(hp:p < rs.length)(hf:okF w f):okB w (rs.set p (f,(rw0 rs p).2)):=by
 have hm:∀x∈rs.set p (f,(rw0 rs p).2),x∈rs\/x=(f,(rw0 rs p).2):=λx hx=>List.mem_or_eq_of_mem_set hx;refine ⟨hb.w1,hb.w6,by rw[cm];exact hb.len,λr hr=>?_,λr hr=>?_⟩
 ·rcases hm r hr with h |rfl
  ·exact hb.form r h
  ·exact hf
 ·rcases hm r hr with h |rfl
  ·exact hb.deed r h
  ·exact show okD (rw0 rs p).2 from hb.deed _ (nT hp)
theorem O2{a:JB}(h:uZ a){ss:List Row}(e:jbR a.rs a.i a.j a.a=some ss):okB a.w ss/\ss.length+1=a.rs.length:=by
 obtain ⟨w,rs,i,j,p⟩:=a;obtain ⟨hb,h1,h2,h3⟩:=h;dsimp only at hb h1 h2 h3 e ⊢;unfold jbR at e;cases hj:dI (rw0 rs i).1 (rw0 rs j).1 with
 |none=>rw[hj]at e;cases e
 |some f=>
  rw[hj]at e;dsimp only at e;split at e
  ·cases e;have hf:=OD (hb.form _ (nT (show i < rs.length by omega))) (hb.form _ (nT h2)) hj;have hp:p < rs.length:=by omega
   have hs:okB w (rs.set p (f,(rw0 rs p).2)):=O1 hb hp hf;have hk:(if p=i then j else i) < (rs.set p (f,(rw0 rs p).2)).length:=by rw[cm];split <;> omega
   refine ⟨zB hs hk,?_⟩;have:=uV hk;rw[cm]at this hk;omega
  ·cases e
theorem aeo{α:Type}{l:List α}{n:Nat}{x:α}(h:n < l.length):l.take n++[x]++l.drop (n+1)=l.set n x:=by rw[fR,if_pos h,gg];rfl
theorem aep (Φ:aa) (h1:Φ "joined"=aD lq) (h2:Φ "without"=sWo) (a:JB) (G:DH) (h:uZ a):au Φ mK noE (env0 [ao a.w a.rs,.int (a.i:Nat),.int (a.j:Nat),.int (a.a:Nat)] 4) G (ends λd G'=>G'=G/\d=di a.w (jbR a.rs a.i a.j a.a)):=by
 have hall:=h;obtain ⟨w,rs,i,j,p⟩:=a;obtain ⟨hb,hij,hj,hp⟩:=h;dsimp only at hb hij hj hp ⊢;have hw6:=hb.w6;have hlen:=hb.len;have hi:i < rs.length:=by omega
 have hpl:p < rs.length:=by omega
 have fi:=hb.form _ (nT hi);have fj:=hb.form _ (nT hj);have fi1:=fi.1;have fj1:=fj.1;simp_all_arith[mK,ao];refine seq λM hM=>?_;simp_arith[ends];refine hM _ _ (seq λM hM=>?_);simp_arith[h1];refine bN (nU hi) ?_;simp_arith[aG];refine bN (nU hj) ?_;simp_arith[aG];refine aej (by omega) (by omega) (hM _ _ (seq λM hM=>?_));cases hjn:dI (rw0 rs i).1 (rw0 rs j).1 with
 |none=>
  have e:jbR rs i j p=none:=by unfold jbR;rw[hjn]
  simp_arith[bA,e,di]
 |some f=>
  have hf:=OD fi fj hjn;have hfl:=hf.1;simp_arith[bA];refine bN (nU hi) ?_;simp_arith[aG];refine bN (nU hj) ?_;simp_arith[aG];by_cases hd:(rw0 rs i).2=(rw0 rs j).2
  ·have e:jbR rs i j p=some (wo (rs.set p (f,(rw0 rs p).2)) (if p=i then j else i)):=by unfold jbR;rw[hjn];exact if_pos hd
   have hsb:=(O2 hall e).1;rw[hd];simp_arith[BEq.rfl];refine hM _ _ (seq λM hM=>?_);simp_arith[NB,Oq,al,dE,de];refine bN (nU hpl) ?_;simp_arith[aG];have em:(rs.take p).map aG++[D.tup [.str f,.str (rw0 rs p).2]]++(rs.drop (p+1)).map aG=(rs.set p (f,(rw0 rs p).2)).map aG:=by rw[<-aeo hpl,cS,cS];rfl
   refine ⟨by decide,by decide,by have hsz:sz=1000000:=rfl;omega,by rw[bq,al,dE,List.length_singleton];have hsz:sz=1000000:=rfl;omega,by decide,hM _ _ (last ?_)⟩;have hsl:(rs.set p (f,(rw0 rs p).2)).length=rs.length:=cm;have e0:D.tup [.int w,.tup ((rs.set p (f,(rw0 rs p).2)).map aG)]=ao w (rs.set p (f,(rw0 rs p).2)):=rfl;rw[em,e0];have hset:okB w (rs.set p (f,(rw0 rs p).2)):=O1 hb hpl hf;by_cases hpi:p=i
   ·subst hpi;rw[if_pos rfl]at e;simp_arith[BEq.rfl,h2];refine uW hset (by omega) ⟨rfl,?_⟩;rw[e];rfl
   ·have hne:((p:Int)==(i:Int))=false:=by simpa using (λh=>hpi (by omega))
    rw[if_neg hpi]at e;simp_arith[hne,h2];refine uW hset (by omega) ⟨rfl,?_⟩;rw[e];rfl
  ·have e:jbR rs i j p=none:=by unfold jbR;rw[hjn];exact if_neg hd
   have hne:((rw0 rs i).2==(rw0 rs j).2)=false:=by simpa using hd
   simp_arith[hne,e,di]
theorem zE{step:D->List D->aj->DH->(List D->aj->DH->Prop)->Prop}{g:Hld}{k:List D->aj->DH->Prop}:∀{items:List D}{acc:List D}{ρ:aj}{G:DH}(P:Nat->List D->aj->DH->Prop)(_:P 0 acc ρ G)(_:∀i a ρ G,P i a ρ G->held g G)
  (_:∀i d a ρ G,items[i]?=some d->P i a ρ G->∀kk:List D->aj->DH->Prop,(∀a' ρ' G',P (i+1) a' ρ' G'->kk a' ρ' G')->step d a ρ G kk) (_:∀a ρ G,P items.length a ρ G->k a ρ G),dm step g items acc ρ G k
 |[],acc,ρ,G,P,h0,hh,_,he=>⟨hh _ _ _ _ h0,he _ _ _ h0⟩
 |d::ds,acc,ρ,G,P,h0,hh,hs,he=>⟨hh _ _ _ _ h0,hs 0 d acc ρ G rfl h0 _ λa' ρ' G' p=>zE (λi=>P (i+1)) p (λi=>hh (i+1)) (λi d a ρ G e=>hs (i+1) d a ρ G (by rw[gx];exact e)) he⟩
def nW(i j:Nat):List (Nat×Nat×Nat):=[(i,j,i),(i,j,j)]
def jw(n i:Nat):List (Nat×Nat×Nat):=(List.range (n - (i+1))).flatMap λj=>nW i (i+1+j)
def fL(n:Nat):List (Nat×Nat×Nat):=(List.range n).flatMap (jw n)
def dT3(t:Nat×Nat×Nat):D:=.tup [.int (t.1:Nat),.int (t.2.1:Nat),.int (t.2.2:Nat)]
theorem zF{α:Type}(f:Nat->List α)(i:Nat):(List.range (i+1)).flatMap f=(List.range i).flatMap f++f i:=by rw[List.range_succ,List.flatMap_append,List.flatMap_cons,List.flatMap_nil,d4]
theorem nY{α:Type}(f:Nat->List α)(m:Nat):∀i:Nat,(∀j,j < i->(f j).length<=m)->((List.range i).flatMap f).length<=i * m
 |0,_=>Nat.le_of_eq (by simp)
 |i+1,h=>by
  rw[zF,bq,Nat.succ_mul];exact Nat.add_le_add (nY f m i λj hj=>h j (by omega)) (h i (by omega))
theorem O3{n i:Nat}(hn:n<=12):(jw n i).length<=24:=cb (nY _ 2 _ λ_ _=>aw _) (by omega)
theorem zG{n:Nat}(hn:n<=12):(fL n).length<=288:=cb (nY _ 24 _ λ_ _=>O3 hn) (by omega)
theorem O4{n i j a:Nat}(h:(i,j,a)∈fL n):i < j/\j < n/\(a=i\/a=j):=by unfold fL at h;obtain ⟨x,hx,h⟩:=List.mem_flatMap.mp h;unfold jw at h;obtain ⟨y,hy,h⟩:=List.mem_flatMap.mp h;rw[List.mem_range]at hx hy;simp only[nW,bo,List.not_mem_nil,or_false,Prod.mk.injEq]at h;omega
theorem aeq{Φ:aa}{n:Nat}{b:D}{o2 o3:Option D}{G:DH}{k:D->DH->Prop}(hn:n<=12)(hk:k (.lst ((fL n).map dT3)) G):
  wpE Φ (.cm3 (.tup (.cons (.var 0) (.cons (.var 1) (.cons (.var 2) .nil)))) (.nm 0) (.rng (.var 1)) (.nm 1) (.rng2 (.bin .Add true (.var 0) (.cst (.int 1))) (.var 3)) (.nm 2) (.seq (.tup (.cons (.var 0) (.cons (.var 1) .nil)))) ["one","other","at","many"] [none,none,none,some 1]) noE [some b,some (.int (n:Int)),o2,o3] G k:=by
 rw[w5];simp_arith[ends];refine ⟨by omega,zE (P:=λi acc ρ G'=>(∃o0 o1 o2,ρ=[o0,o1,o2,some (.int (n:Int))])/\G'=G/\i<=n/\acc=((List.range i).flatMap (jw n)).map dT3) ⟨⟨_,_,_,rfl⟩,rfl,d3 _,rfl⟩ (λ_ _ _ _ _=>trivial) ?_ ?_⟩
 ·rintro i d acc ρ G' hd ⟨⟨o0,o1,o2,rfl⟩,rfl,hin,rfl⟩ kk hkk;have hi:i < n:=by
   have:=(am.mp hd).1;simpa [aR] using this
  have hdi:d=.int (i:Int):=by unfold aR at hd;rw[a8,fw (by simpa using hi)]at hd;simpa using hd.symm
  subst hdi;simp_arith[ends];refine ⟨by omega,zE (P:=λj acc ρ G''=>(∃o1 o2,ρ=[some (.int (i:Int)),o1,o2,some (.int (n:Int))])/\G''=G'/\j<=n - (i+1)/\acc=(((List.range i).flatMap (jw n))++(List.range j).flatMap λj=>nW i (i+1+j)).map dT3) ⟨⟨_,_,rfl⟩,rfl,d3 _,by simp⟩ (λ_ _ _ _ _=>trivial) ?_ ?_⟩
  ·rintro j d acc ρ G'' hd ⟨⟨o1,o2,rfl⟩,rfl,hjn,rfl⟩ kk2 hkk2;have hj:j < n - (i+1):=by
    have:=(am.mp hd).1;unfold aR at this;rw[al,List.length_range]at this;omega
   have hdj:d=.int ((i+1+j:Nat):Int):=by unfold aR at hd;rw[a8,fw (by omega)]at hd;rw[<-dy hd];congr 1
   subst hdj;have l1:=nY (jw n) 24 i λ_ _=>O3 hn;have l2:=nY (λj=>nW i (i+1+j)) 2 j λ_ _=>aw _;have hl:((((List.range i).flatMap (jw n))++(List.range j).flatMap λj=>nW i (i+1+j)).map dT3).length<=400:=by rw[al,bq];omega
   simp_arith[ends];refine ⟨by decide,trivial,by have hsz:sz=1000000:=rfl;omega,by decide,trivial,?_⟩;refine ⟨by rw[bq,List.length_singleton];have hsz:sz=1000000:=rfl;omega,?_⟩;simp_arith[ends];refine ⟨by decide,trivial,hkk2 _ _ _ ⟨⟨_,_,rfl⟩,rfl,by omega,?_⟩⟩;rw[zF,<-gg,cS (l₁:=_++_),gg];rfl
  ·rintro acc ρ G'' ⟨⟨o1,o2,rfl⟩,rfl,_,rfl⟩;refine hkk _ _ _ ⟨⟨_,_,_,rfl⟩,rfl,hi,?_⟩;have el:(aR ((i:Int)+1) ((n:Int) - ((i:Int)+1)).toNat).length=n - (i+1):=by unfold aR;rw[al,List.length_range];omega
   rw[el,zF];rfl
 ·rintro acc ρ G' ⟨_,rfl,_,rfl⟩;have el:(aR 0 (n:Int).toNat).length=n:=by simp[aR]
  rw[el];have:=zG hn;exact ⟨by rw[al];unfold fL at this;have hsz:sz=1000000:=rfl;omega,hk⟩
noncomputable def eY(rs:List Row)(t:Nat×Nat×Nat):Option ((Nat×Nat×Nat)×List Row):=(jbR rs t.1 t.2.1 t.2.2).map λss=>(t,ss)
def cnd(rs:List Row):List ((Nat×Nat×Nat)×List Row):=(fL rs.length).filterMap (eY rs)
noncomputable def dC(w:Nat)(c:(Nat×Nat×Nat)×List Row):D:=.tup [.int (c.1.1:Nat),.int (c.1.2.1:Nat),.int (c.1.2.2:Nat),ao w c.2]
noncomputable def mk3(w:Nat)(rs:List Row)(t:Nat×Nat×Nat):D:=.tup [.int (t.1:Nat),.int (t.2.1:Nat),.int (t.2.2:Nat),di w (jbR rs t.1 t.2.1 t.2.2)]
theorem zH{w:Nat}{rs:List Row}(hb:okB w rs){c:(Nat×Nat×Nat)×List Row}(h:c∈cnd rs):okB w c.2/\c.2.length+1=rs.length:=by obtain ⟨t,ht,e⟩:=List.mem_filterMap.mp h;unfold eY at e;obtain ⟨ss,hs,rfl⟩:=aE.mp e;obtain ⟨h1,h2,h3⟩:=O4 (i:=t.1) (j:=t.2.1) (a:=t.2.2) ht;exact O2 (a:=⟨w,rs,t.1,t.2.1,t.2.2⟩) ⟨hb,h1,h2,h3⟩ hs
theorem aer{rs:List Row}(h:rs.length<=12):(cnd rs).length<=288:=cb (List.length_filterMap_le _ _) (zG h)
def nZ:RF.Spec:=cI (λa:Nat×List Row=>[ao a.1 a.2]) (λa=>okB a.1 a.2) (λa=>.lst ((cnd a.2).map (dC a.1)))
theorem O5{w:Nat}{rs:List Row}{G:DH}{k:D->DH->Prop}{E:EK}(h:okB w rs)(hk:k (.lst ((cnd rs).map (dC w))) G):nZ.t [ao w rs] G k E:=dD (w,rs) rfl h hk
theorem aes{w i j a:Nat}{rs:List Row}{G:DH}{k:D->DH->Prop}{E:EK}(h:uZ ⟨w,rs,i,j,a⟩)(hk:k (di w (jbR rs i j a)) G):sJB.t [ao w rs,.int (i:Int),.int (j:Int),.int (a:Int)] G k E:=dD (⟨w,rs,i,j,a⟩:JB) rfl h hk
theorem aet (Φ:aa) (h1:Φ "joined_book"=sJB) (a:Nat×List Row) (G:DH) (h:okB a.1 a.2):au Φ mZ noE (env0 [ao a.1 a.2] 3) G (ends λd G'=>G'=G/\d=.lst ((cnd a.2).map (dC a.1))):=by
 obtain ⟨w,rs⟩:=a;have hb:okB w rs:=h;dsimp only;have hlen:=hb.len;have htl:=zG hlen;have e0:ao w rs=.tup [.int w,.tup (rs.map aG)]:=rfl;simp_all_arith[mZ];refine seq λM hM=>?_;conv=>enter [4,1,1];rw[e0]
 simp_arith[al];refine hM _ _ (seq λM hM=>?_);rw[gQ];refine aeq hlen ?_;simp_arith[ends];refine hM _ _ (seq λM hM=>?_);simp_arith[ends];refine CompG.inv (P:=λi acc ρ G'=>(∃o0 o1 o2,ρ=[o0,o1,o2,some (ao w rs)])/\G'=G/\acc=((fL rs.length).take i).map (mk3 w rs)) ⟨⟨_,_,_,rfl⟩,rfl,rfl⟩ (λ_ _ _ _ _=>trivial) (by rw[al];have hsz:sz=1000000:=rfl;omega) ?_ ?_
 ·rintro i d acc ρ G' hd ⟨⟨o0,o1,o2,rfl⟩,rfl,rfl⟩ kk hk;rw[a8]at hd;obtain ⟨⟨x,y,z⟩,ht,rfl⟩:=aE.mp hd;obtain ⟨m1,m2,m3⟩:=O4 (b6 ht);simp_arith[dT3,h1];refine aes ⟨hb,m1,m2,m3⟩ ⟨by decide,hk _ _ _ ⟨⟨_,_,_,rfl⟩,rfl,?_⟩⟩;rw[fk,ht,cS];rfl
 ·rintro acc ρ G' ⟨_,rfl,rfl⟩;rw[al,eW];refine hM _ _ (last ?_);simp_arith[ends];refine CompG.inv (P:=λi acc ρ G''=>(∃o0,ρ=[o0])/\G''=G'/\acc=(((fL rs.length).take i).filterMap (eY rs)).map (dC w)) ⟨⟨_,rfl⟩,rfl,rfl⟩ (λ_ _ _ _ _=>trivial) (by rw[al];have hsz:sz=1000000:=rfl;omega) ?_ ?_
  ·rintro i d acc ρ G'' hd ⟨⟨o0,rfl⟩,rfl,rfl⟩ kk hk;rw[a8]at hd;obtain ⟨⟨x,y,z⟩,ht,rfl⟩:=aE.mp hd;have et:((fL rs.length).take (i+1)).filterMap (eY rs)=((fL rs.length).take i).filterMap (eY rs)++(eY rs (x,y,z)).toList:=by
    rw[fk,ht,List.filterMap_append];cases hc:eY rs (x,y,z) with
    |none=>rw[Option.toList_some,List.filterMap_cons_none hc];rfl
    |some c=>rw[Option.toList_some,List.filterMap_cons_some hc];rfl
   cases hj:jbR rs x y z with
   |none=>
    have hc:eY rs (x,y,z)=none:=by unfold eY;rw[hj];rfl
    simp_arith[mk3,hj,di,fW];refine hk none _ _ ⟨⟨_,rfl⟩,rfl,?_⟩;rw[et,hc,cS];rfl
   |some ss=>
    have hc:eY rs (x,y,z)=some ((x,y,z),ss):=by unfold eY;rw[hj];rfl
    simp_arith[mk3,hj,di,ao,fW];refine hk (some _) _ _ ⟨⟨_,rfl⟩,rfl,?_⟩;rw[et,hc,cS];rfl
  ·rintro acc ρ G'' ⟨_,rfl,rfl⟩;rw[al,eW];exact ⟨rfl,rfl⟩
def jns(w:Nat)(rs:List Row):List ((Nat×Nat×Nat)×List Row):=(cnd rs).filter λc=>(bJ w rs c.2).isEmpty
def aeu:RF.Spec:=cI (λa:Nat×List Row=>[ao a.1 a.2]) (λa=>okB a.1 a.2) (λa=>.lst ((jns a.1 a.2).map λc=>dT3 c.1))
def zJ:RF.Spec:=orX aeu ik
theorem zK{α:Type}(l:List α):l.isEmpty=l.head?.isNone:=by cases l <;> rfl
theorem aev (Φ:aa) (h1:Φ "need_book"=dH) (h2:Φ "candidates"=nZ) (h3:Φ "parting_word"=nR) (a:Nat×List Row) (G:DH) (h:okB a.1 a.2):au Φ jg noE (env0 [ao a.1 a.2] 0) G (ends λd G'=>G'=G/\d=.lst ((jns a.1 a.2).map λc=>dT3 c.1)):=by
 obtain ⟨w,rs⟩:=a;have hb:okB w rs:=h;dsimp only;have hcl:=aer hb.len;simp_all_arith[jg];refine seq λM hM=>?_;simp_arith[h1];refine jq hb (hM _ _ (last ?_));simp_arith[h2];refine O5 hb ?_;simp_arith[ends];refine CompG.inv (P:=λi acc ρ G'=>(∃o0 o1 o2 o3,ρ=[o0,o1,o2,o3,some (ao w rs)])/\G'=G/\acc=(((cnd rs).take i).filter λc=>(bJ w rs c.2).isEmpty).map λc=>dT3 c.1) ⟨⟨_,_,_,_,rfl⟩,rfl,rfl⟩ (λ_ _ _ _ _=>trivial) (by rw[al];have hsz:sz=1000000:=rfl;omega) ?_ ?_
 ·rintro i d acc ρ G' hd ⟨⟨o0,o1,o2,o3,rfl⟩,rfl,rfl⟩ kk hk;rw[a8]at hd;obtain ⟨⟨⟨x,y,z⟩,ss⟩,ht,rfl⟩:=aE.mp hd;have hs:=(zH hb (b6 ht)).1;have et:=take_succ_filter (λc:(Nat×Nat×Nat)×List Row=>(bJ w rs c.2).isEmpty) (cnd rs) i _ ht;simp_arith[dC,h3];refine Oz hb hs ?_;dsimp only at et;rw[zK]at et;cases hh:(bJ w rs ss).head? with
  |none=>
   rw[hh]at et;simp_arith[bA];refine ⟨by decide,hk (some _) _ _ ⟨⟨_,_,_,_,rfl⟩,rfl,?_⟩⟩;rw[et,cS];rfl
  |some m=>
   rw[hh]at et;simp_arith[bA];refine hk none _ _ ⟨⟨_,_,_,_,rfl⟩,rfl,?_⟩;rw[et,cS];rfl
 ·rintro acc ρ G' ⟨_,rfl,rfl⟩;rw[al,eW];exact ⟨rfl,rfl⟩
theorem aew (Φ:aa) (h1:Φ "need_book"=dH) (ds:List D) (G:DH) (C:String) (h:ik ds C):au Φ jg (λx G'=>x=⟨C,.non⟩/\G'=G) (env0 ds 0) G (ends λ_ _=>False):=by obtain ⟨rfl,x,rfl,hn⟩:=h;simp_all_arith[jg];refine seq λM hM=>?_;simp_arith[h1];exact uO hn ⟨rfl,rfl⟩
def fjO(w:Nat)(rs:List Row):Option (List Row):=((cnd rs).find? λc=>(bJ w rs c.2).isEmpty).map (·.2)
def sFJ:RF.Spec:=cI (λa:Nat×List Row=>[ao a.1 a.2]) (λa=>okB a.1 a.2) (λa=>di a.1 (fjO a.1 a.2))
theorem O6{w:Nat}{rs:List Row}{G:DH}{k:D->DH->Prop}{E:EK}(h:okB w rs)(hk:k (di w (fjO w rs)) G):sFJ.t [ao w rs] G k E:=dD (w,rs) rfl h hk
theorem O7{w:Nat}{rs ss:List Row}(hb:okB w rs)(h:fjO w rs=some ss):okB w ss/\ss.length+1=rs.length/\bJ w rs ss=[]:=by unfold fjO at h;obtain ⟨c,hc,rfl⟩:=aE.mp h;obtain ⟨h1,h2⟩:=zH hb (List.mem_of_find?_eq_some hc);exact ⟨h1,h2,e6.mp (List.find?_some (p:=λc:(Nat×Nat×Nat)×List Row=>(bJ w rs c.2).isEmpty) hc)⟩
theorem aex (Φ:aa) (h2:Φ "candidates"=nZ) (h3:Φ "parting_word"=nR) (a:Nat×List Row) (G:DH) (h:okB a.1 a.2):au Φ m5 noE (env0 [ao a.1 a.2] 4) G (ends λd G'=>G'=G/\d=di a.1 (fjO a.1 a.2)):=by
 obtain ⟨w,rs⟩:=a;have hb:okB w rs:=h;dsimp only;simp_all_arith[m5];refine seq λM hM=>?_;simp_arith![h2];refine O5 hb ?_;simp_arith![ends];refine ForG.inv (P:=λi ρ G'=>(∃o1 o2 o3 o4,ρ=[some (ao w rs),o1,o2,o3,o4])/\G'=G/\fjO w rs=(((cnd rs).drop i).find? λc=>(bJ w rs c.2).isEmpty).map (·.2)) ⟨⟨_,_,_,_,rfl⟩,rfl,rfl⟩ (λ_ _ _ _=>trivial) ?_ ?_
 ·rintro i d ρ G' hd ⟨⟨o1,o2,o3,o4,rfl⟩,rfl,hf⟩ kk hk;rw[a8]at hd;obtain ⟨⟨⟨x,y,z⟩,ss⟩,ht,rfl⟩:=aE.mp hd;have hs:=(zH hb (b6 ht)).1;have hlt:=(am.mp ht).1;have hdr:(cnd rs).drop i=((x,y,z),ss)::(cnd rs).drop (i+1):=by
   rw[bP hlt,(am.mp ht).2]
  rw[hdr]at hf;simp_arith![dC];refine last ?_;simp_arith[h3];refine Oz hb hs ?_;cases hh:(bJ w rs ss).head? with
  |none=>
   rw[List.find?_cons_of_pos (by rw[zK,hh];rfl)]at hf;simp_arith[bA,hf];rfl
  |some m=>
   rw[List.find?_cons_of_neg (by rw[zK,hh];exact bi)]at hf;simp_arith[bA];exact hk _ _ ⟨⟨_,_,_,_,rfl⟩,rfl,hf⟩
 ·rintro ρ G' ⟨⟨o1,o2,o3,o4,rfl⟩,rfl,hf⟩;rw[al,ez]at hf;refine hM _ _ (last ?_);simp_arith[hf];rfl
noncomputable def ajR(w:Nat):Nat->List Row->List Row
 |0,rs=>rs
 |n+1,rs=>match fjO w rs with |none=>rs |some ss=>ajR w n ss
theorem O8{w:Nat}{rs:List Row}(h:fjO w rs=none)(n:Nat):ajR w n rs=rs:=by
 cases n with
 |zero=>rfl
 |succ n=>rw[ajR,h]
theorem O9{w n:Nat}{rs ss:List Row}(h:fjO w rs=some ss):ajR w (n+1) rs=ajR w n ss:=by rw[ajR,h]
theorem u5{w:Nat}:∀(n:Nat){rs:List Row},okB w rs->okB w (ajR w n rs)/\(ajR w n rs=rs\/(ajR w n rs).length < rs.length)
 |0,rs,hb=>⟨hb,.inl rfl⟩
 |n+1,rs,hb=>by
  cases hf:fjO w rs with
  |none=>rw[O8 hf];exact ⟨hb,.inl rfl⟩
  |some ss=>
   rw[O9 hf];obtain ⟨h1,h2,_⟩:=O7 hb hf;obtain ⟨q1,q2⟩:=u5 n h1;refine ⟨q1,.inr ?_⟩;rcases q2 with e |e
   ·rw[e];omega
   ·omega
def sAJ:RF.Spec:=cI (λa:Nat×List Row=>[ao a.1 a.2]) (λa=>okB a.1 a.2) (λa=>ao a.1 (ajR a.1 a.2.length a.2))
theorem Pa{w:Nat}{rs:List Row}{G:DH}{k:D->DH->Prop}{E:EK}(h:okB w rs)(hk:k (ao w (ajR w rs.length rs)) G):sAJ.t [ao w rs] G k E:=dD (w,rs) rfl h hk
theorem aey (Φ:aa) (h1:Φ "first_joined"=sFJ) (a:Nat×List Row) (G:DH) (h:okB a.1 a.2):au Φ m6 noE (env0 [ao a.1 a.2] 2) G (ends λd G'=>G'=G/\d=ao a.1 (ajR a.1 a.2.length a.2)):=by
 obtain ⟨w,rs⟩:=a;have hb:okB w rs:=h;dsimp only;simp_all_arith[m6];refine seq λM hM=>?_;simp_arith[ends];refine hM _ _ (seq λM hM=>?_);simp_arith[h1];refine O6 hb (hM _ _ (seq λM hM=>?_));simp_arith![ends];refine ⟨rs.length+1,WhlG.inv (P:=λn ρ G'=>∃cur,ρ=[some (ao w rs),some (ao w cur),some (di w (fjO w cur))]/\G'=G/\okB w cur/\cur.length=n/\ajR w cur.length cur=ajR w rs.length rs) ?_ rs.length _ _ ⟨rs,rfl,rfl,hb,rfl,rfl⟩⟩;rintro n ρ G' ⟨cur,rfl,rfl,hc,rfl,he⟩;cases hf:fjO w cur with
 |none=>
  rw[O8 hf]at he;simp_arith[di,fW];refine hM _ _ (last ?_);simp_arith[he]
 |some ss=>
  obtain ⟨q1,q2,_⟩:=O7 hc hf;rw[<-q2,O9 hf]at he;simp_arith![di,ao,fW];intro kk hk;refine seq λM hM=>?_;simp_arith[ends];refine hM _ _ (last ?_);simp_arith[h1];exact O6 q1 (hk ss.length _ _ (by omega) ⟨ss,rfl,rfl,q1,rfl,he⟩)
def prS(w:Nat)(rs:List Row):List Row:=lnR w (ajR w rs.length rs).length (ajR w rs.length rs)
theorem Pb{w:Nat}:∀(k:Nat){rs:List Row},k<=rs.length->lnR w k rs=rs\/(lnR w k rs).length < rs.length:=by
 intro k;induction k with
 |zero=>exact λ{_} _=>.inl rfl
 |succ k ih=>
  intro rs hk;rw[lnR];by_cases h:(bJ w rs (wo rs k)).isEmpty=true
  ·have hl:=uV (show k < rs.length by omega);have e:lnS w rs k=wo rs k:=if_pos h;rw[e];rcases ih (rs:=wo rs k) (by omega) with q |q
   ·rw[q];exact .inr (by omega)
   ·exact .inr (by omega)
  ·have e:lnS w rs k=rs:=if_neg h;rw[e];exact ih (by omega)
theorem aez{w:Nat}{rs:List Row}(hb:okB w rs):okB w (prS w rs)/\(prS w rs=rs\/(prS w rs).length < rs.length):=by
 obtain ⟨h1,h2⟩:=u5 rs.length hb;refine ⟨Ov _ h1 (aw _),?_⟩;unfold prS;rcases h2 with e |e
 ·rw[e];exact Pb _ (aw _)
 ·rcases Pb (w:=w) (ajR w rs.length rs).length (aw (ajR w rs.length rs).length) with q |q
  ·rw[q];exact .inr e
  ·exact .inr (by omega)
def bkE(w:Nat)(rs ss:List Row):Bool:=deq (ao w rs) (ao w ss)
noncomputable def prR(w:Nat):Nat->List Row->List Row
 |0,rs=>prS w rs
 |n+1,rs=>if bkE w (prS w rs) rs=true then prS w rs else prR w n (prS w rs)
def aeA:RF.Spec:=cI (λa:Nat×List Row=>[ao a.1 a.2]) (λa=>okB a.1 a.2) (λa=>ao a.1 (prR a.1 (a.2.length+1) a.2))
def zL:RF.Spec:=orX aeA ik
theorem aeB{w:Nat}{rs ss:List Row}:nr (ao w rs)=true/\nr (ao w ss)=true/\min (dpt (ao w rs)) (dpt (ao w ss))<=60:=by
 have h:∀l:List Row,aW (l.map aG)<=1:=λl=>Hs λd hd=>by obtain ⟨_,_,rfl⟩:=cr.mp hd;exact aw _
 refine ⟨nA w rs,nA w ss,cb (Nat.min_le_left _ _) ?_⟩;have:=h rs;unfold ao;simp only[dpt,aW];omega
theorem aeC (Φ:aa) (h1:Φ "need_book"=dH) (h2:Φ "all_joined"=sAJ) (h3:Φ "lean"=uY) (a:Nat×List Row) (G:DH) (h:okB a.1 a.2):au Φ jj noE (env0 [ao a.1 a.2] 2) G (ends λd G'=>G'=G/\d=ao a.1 (prR a.1 (a.2.length+1) a.2)):=by
 obtain ⟨w,rs⟩:=a;have hb:okB w rs:=h;dsimp only;simp_all_arith[jj];refine seq λM hM=>?_;simp_arith[h1];refine jq hb (hM _ _ (seq λM hM=>?_));simp_arith[ends];refine hM _ _ (seq λM hM=>?_);simp_arith[h2,h3];refine Pa hb (Ow (u5 _ hb).1 (hM _ _ (seq λM hM=>?_)));rw[yt];refine ⟨rs.length+1,WhlG.inv (P:=λn ρ G'=>∃cur f,ρ=[some (ao w rs),some (ao w cur),some (ao w (prS w cur))]/\G'=G/\okB w cur/\cur.length=n/\cur.length < f/\prR w f cur=prR w (rs.length+1) rs) ?_ rs.length _ _ ⟨rs,rs.length+1,rfl,rfl,hb,rfl,gs _,rfl⟩⟩;rintro n ρ G' ⟨cur,f,rfl,rfl,hc,rfl,hf,he⟩;obtain ⟨f,rfl⟩:∃f',f=f'+1:=⟨f - 1,by omega⟩;obtain ⟨q1,q2⟩:=aez hc;rw[prR]at he;simp_arith![acE (nA _ _)];refine ⟨aeB,?_⟩;cases hd:deq (ao w (prS w cur)) (ao w cur) with
 |true=>
  rw[if_pos (show bkE w (prS w cur) cur=true from hd)]at he;refine hM _ _ (last ?_);simp_arith[he]
 |false=>
  rw[if_neg (by unfold bkE;rw[hd];exact bi)]at he;have hlt:(prS w cur).length < cur.length:=by
   rcases q2 with e |e
   ·rw[e,tM (nA _ _)]at hd;cases hd
   ·exact e
  intro kk hk;refine seq λM hM=>?_;simp_arith[ends];refine hM _ _ (last ?_);simp_arith[h2,h3];exact Pa q1 (Ow (u5 _ q1).1 (hk (prS w cur).length _ _ hlt ⟨prS w cur,f,rfl,rfl,q1,rfl,by omega,he⟩))
theorem aeD (Φ:aa) (h1:Φ "need_book"=dH) (ds:List D) (G:DH) (C:String) (h:ik ds C):au Φ jj (λx G'=>x=⟨C,.non⟩/\G'=G) (env0 ds 2) G (ends λ_ _=>False):=by obtain ⟨rfl,x,rfl,hn⟩:=h;simp_all_arith[jj];refine seq λM hM=>?_;simp_arith[h1];exact uO hn ⟨rfl,rfl⟩
theorem u6{Φ:aa}{ss:Sxs}{E:EK}{ρ:aj}{G:DH}{q:Addr}{L:List D}{Dn:En}(hq:G q=none)(h:∀G1,G1 q=some (.lst L)->Sa G G1->au Φ ss E ρ G1 Dn):au Φ ss E ρ (aQ G q (.lst L)) Dn:=h _ bO (Sa.new hq)
theorem aeE{Φ:aa}{ss:Sxs}{E:EK}{ρ:aj}{G0 G:DH}{q:Addr}{L:List D}{Dn:En}(hq:G0 q=none)(s:Sa G0 G)(h:∀G1,G1 q=some (.lst L)->Sa G0 G1->au Φ ss E ρ G1 Dn):au Φ ss E ρ (aQ G q (.lst L)) Dn:=h _ bO (s.then hq Sb.upd)
theorem aeF{p:Addr}{G:DH}{ds:List D}{k:D->DH->Prop}(e:G p=some (.lst ds)):opM .count (.ref p) [.bl true] G k=aZ (bools ds) (λbs=>k (.int (bs.count true:Nat)) G):=by unfold opM;dsimp only;rw[cO e];exact yq
theorem aeG{p:Addr}{G:DH}{ds:List D}{k:D->DH->Prop}(e:G p=some (.lst ds)):opM .index (.ref p) [.bl true] G k=aZ (bools ds) (λbs=>true∈bs/\k (.int (bs.idxOf true:Nat)) G):=by unfold opM;dsimp only;rw[cO e];exact yr
theorem aeH{p:Addr}{G:DH}{ds:List D}(e:G p=some (.lst ds)):recv .count (.ref p) G=True:=by unfold recv;dsimp only;rw[cO e];rfl
theorem aeI{p:Addr}{G:DH}{ds:List D}(e:G p=some (.lst ds)):recv .index (.ref p) G=True:=by unfold recv;dsimp only;rw[cO e];rfl
noncomputable def gD (C:String):List Nat:=if C=="NoBook" then [98,111,111,107] else if C=="NoRow" then [114,111,119] else [106,111,105,110]
def lr (C:String):Prop:=C="NoBook"\/C="NoRow"\/C="NoJoin"
noncomputable def n6 (C:String):List Bool:=[bB C "Full",bB C "NoBook",bB C "NoForm",bB C "NoJoin",bB C "NoLine",bB C "NoMatch",bB C "NoOrder",bB C "NoRow",bB C "NoText",bB C "NoWord",bB C "Nothing",bB C "TooMany",bB C "Turned"]
noncomputable def aeJ:List (List Nat):=[[102,117,108,108],[98,111,111,107],[102,111,114,109],[106,111,105,110],[108,105,110,101],[109,97,116,99,104],[111,114,100,101,114],[114,111,119],[116,101,120,116],[119,111,114,100],[110,111,116,104,105,110,103],[109,97,110,121],[116,117,114,110,101,100]]
theorem Pg {C:String} (h:lr C):["NoBook","NoMatch","NoRow","NoJoin"].contains C=true/\bB C "SieveError"=true/\bB C "ValueError"=true/\(n6 C).count true=1/\true∈n6 C/\atI (aeJ.map D.str) ((n6 C).idxOf true:Nat)=some (.str (gD C)):=by rcases h with rfl |rfl |rfl;all_goals exact ⟨by decide,by decide,by decide,by decide,by decide,rfl⟩
def zM:RF.Spec:=ghS (A:=String) (λC ds _=>ds=[.exn C]/\lr C) (λC G d G'=>Sa G G'/\d=.str (gD C))
theorem aeK(Φ:aa)(C:String)(ds:List D)(G:DH)(h:ds=[.exn C]/\lr C):au Φ yL noE (env0 ds 2) G (ends λd G'=>Sa G G'/\d=.str (gD C)):=by
 obtain ⟨rfl,hC⟩:=h;obtain ⟨c1,c2,c3,c4,c5,c6⟩:=Pg hC;simp_all_arith[yL];refine seq λM hM=>?_;simp_arith[c1];repeat refine ⟨by first |trivial |decide,?_⟩
 intro q1 hq1;refine hM _ _ (u6 hq1 λG1 g1 s1=>seq λM hM=>?_);simp_arith[c1,cO g1];repeat refine ⟨by first |trivial |decide,?_⟩
 intro q2 hq2;refine hM _ _ (u6 hq2 λG2 g2 s2=>seq λM hM=>?_);simp_arith[c1,cO g2];repeat refine ⟨by first |trivial |decide,?_⟩
 intro q3 hq3;refine hM _ _ (u6 hq3 λG3 g3 s3=>seq λM hM=>?_);simp_arith[c1,cO g3];repeat refine ⟨by first |trivial |decide,?_⟩
 intro q4 hq4;refine hM _ _ (u6 hq4 λG4 g4 s4=>seq λM hM=>?_);simp_arith[c1,dW g4];repeat refine ⟨by first |trivial |decide,?_⟩
 refine hM _ _ (aeE hq4 s4 λG5 g5 s5=>seq λM hM=>?_);have sa:Sa G G5:=s1.trans (s2.trans (s3.trans s5));simp_arith[aeH g5,aeF g5,c1];refine bN (a:=n6 C) rfl ?_;simp_arith[c4,c2,c3];refine hM _ _ (seq λM hM=>?_);simp_arith[ends];refine ⟨by decide,hM _ _ (last ?_)⟩;simp_arith[aeI g5,aeG g5];refine ⟨by decide,by decide,bN (a:=n6 C) rfl ⟨c5,?_⟩⟩;exact bN c6 ⟨sa,rfl⟩
def n8(ds:List D)(C:String):Prop:=
 (C="NoBook"/\∃b x y z,ds=[b,x,y,z]/\gw b)\/
 (C="NoRow"/\∃w rs x y z,ds=[ao w rs,x,y,z]/\okB w rs/\(dh rs x\/(∃i:Nat,x=.int (i:Int)/\i < rs.length/\(dh rs y\/(∃j:Nat,y=.int (j:Int)/\j < rs.length/\(dh rs z\/∃a:Nat,z=.int (a:Int)/\a < rs.length/\a≠i/\a≠j))))))\/
 (C="NoJoin"/\∃w rs,∃i:Nat,ds=[ao w rs,.int (i:Int),.int (i:Int),.int (i:Int)]/\okB w rs/\i < rs.length)
theorem aeL{ds:List D}{C:String}(h:n8 ds C):lr C:=by
 rcases h with ⟨h,_⟩ |⟨h,_⟩ |⟨h,_⟩
 ·exact .inl h
 ·exact .inr (.inl h)
 ·exact .inr (.inr h)
def zN:RF.Spec:=orX (bx (λ_ _=>False) λ_ _ _ _=>True) n8
theorem aeM{n:Int}{x:D}{b:Bool}(h:nr x=true)(hb:isPlace n x=b):eU [.int n,x]=some (.bl b):=by rw[<-hb];exact if_pos h
theorem aeN (Φ:aa) (h1:Φ "need_row"=lg) (h2:Φ "is_place"=aD eU) (ds:List D) (G:DH) (C:String) (h:n8 ds C):au Φ jf (λx G'=>x=⟨C,.non⟩/\G'=G) (env0 ds 2) G (ends λ_ _=>False):=by
 rcases h with ⟨rfl,b,x,y,z,rfl,hn⟩ |⟨rfl,w,rs,x,y,z,rfl,hb,h⟩ |⟨rfl,w,rs,i,rfl,hb,hi⟩
 ·simp_all_arith[jf];refine seq λM hM=>?_;simp_arith[h1];exact gr (.inl ⟨rfl,b,x,rfl,hn⟩) ⟨rfl,rfl⟩
 ·have e0:ao w rs=.tup [.int w,.tup (rs.map aG)]:=rfl;simp_all_arith[jf];refine seq λM hM=>?_;simp_arith[h1];rcases h with hx |⟨i,rfl,hi,h⟩
  ·exact gr (.inr ⟨rfl,w,rs,x,rfl,hb,hx⟩) ⟨rfl,rfl⟩
  refine nP hb hi (hM _ _ (seq λM hM=>?_));simp_arith[h1];rcases h with hy |⟨j,rfl,hj,h⟩
  ·exact gr (.inr ⟨rfl,w,rs,y,rfl,hb,hy⟩) ⟨rfl,rfl⟩
  refine nP hb hj (hM _ _ (seq λM hM=>?_));conv=>enter [4,1,1];rw[e0]
  simp_arith[h2,al];rcases h with hz |⟨a,rfl,ha,hai,haj⟩
  ·refine bM (aeM hz.1 hz.2) ?_;simp_arith[fT,ff]
  ·have hin:isIn (.int (a:Int)) [.int (i:Int),.int (j:Int)]=false:=by
    have p1:((i:Int)==(a:Int))=false:=by simpa using (λh=>hai (by omega))
    have p2:((j:Int)==(a:Int))=false:=by simpa using (λh=>haj (by omega))
    simp only[isIn,List.any_cons,List.any_nil,deq,p1,p2,Bool.or_false]
   refine zp ha ?_;simp_arith[hin];exact ⟨by decide,rfl,by decide⟩
 ·have e0:ao w rs=.tup [.int w,.tup (rs.map aG)]:=rfl;simp_all_arith[jf];refine seq λM hM=>?_;simp_arith[h1];refine nP hb hi (hM _ _ (seq λM hM=>?_));simp_arith[h1];refine nP hb hi (hM _ _ (seq λM hM=>?_));conv=>enter [4,1,1];rw[e0]
  simp_arith[h2,al];have hin:isIn (.int (i:Int)) [.int (i:Int),.int (i:Int)]=true:=by simp only[isIn,List.any_cons,List.any_nil,deq,BEq.rfl,Bool.true_or]
  refine zp hi ?_;simp_arith[hin];refine ⟨by decide,⟨rfl,by decide⟩,hM _ _ (seq λM hM=>?_)⟩;simp_arith[Int.lt_irrefl,decide_false];refine hM _ _ (seq λM hM=>?_);simp_arith[fT]
structure T42 where
 k:Int
 b:D
 x:D
 y:D
 z:D
 r:List Nat
def zO(a:T42):Prop:=
 (a.k=0/\∃C,n8 [a.b,a.x,a.y,a.z] C/\a.r=gD C)\/((a.k=1\/a.k=2)/\gw a.b/\a.r=[98,111,111,107])\/((a.k=1\/a.k=2)/\∃w rs,a.b=ao w rs/\okB w rs/\a.r=[116,111,108,100])
def dj:RF.Spec:=ghS (A:=T42) (λa ds _=>ds=[.int a.k,a.b,a.x,a.y,a.z]/\zO a) (λa G d G'=>Sa G G'/\d=.str a.r)
theorem u9{a:T42}{G:DH}{q:D->DH->Prop}{E:EK}(h:zO a)(hq:∀G',Sa G G'->q (.str a.r) G'):dj.t [.int a.k,a.b,a.x,a.y,a.z] G q E:=j6 a ⟨rfl,h⟩ λd G' hx=>by
 obtain ⟨s,rfl⟩:=hx;exact hq G' s
theorem aeO (Φ:aa) (h1:Φ "join"=zN) (h2:Φ "joins"=zJ) (h3:Φ "press"=zL) (h4:Φ "_law_refusal"=zM) (a:T42) (ds:List D) (G:DH) (h:ds=[.int a.k,a.b,a.x,a.y,a.z]/\zO a):
  au Φ yM noE (env0 ds 2) G (ends λd G'=>Sa G G'/\d=.str a.r):=by
 obtain ⟨k,b,x,y,z,r⟩:=a;obtain ⟨rfl,h⟩:=h;dsimp only at h ⊢;simp_all_arith[yM];refine seq λM hM=>?_;simp_arith[ends];refine hM _ _ (seq λM hM=>?_);have fin:∀C,lr C->r=gD C->∀o6,M [some (.int k),some b,some x,some y,some z,some (.exn C),o6] G:=by intro C hC e o6;subst e;refine hM _ _ (seq λM hM=>?_);simp_arith[fW];refine hM _ _ (last ?_);simp_arith[h4];refine j6 C ⟨rfl,hC⟩ λd G' hx=>?_;obtain ⟨s,rfl⟩:=hx;exact ⟨s,rfl⟩
 rcases h with ⟨rfl,C,hp,e⟩ |⟨hk,hn,e⟩ |⟨hk,w,rs,rfl,hb,rfl⟩
 ·have hC:=aeL hp;obtain ⟨c1,c2,_⟩:=Pg hC;simp_arith[h1];refine gr hp ⟨rfl,c1,c2,?_⟩;simp only[caught];exact fin C hC e _
 ·have hC:lr "NoBook":=.inl rfl;have e':r=gD "NoBook":=e.trans (by ac_rfl);rcases hk with rfl |rfl
  ·simp_arith[h2];refine gr (C:="NoBook") ⟨rfl,b,rfl,hn⟩ ⟨rfl,by decide,by decide,?_⟩;simp only[caught];exact fin _ hC e' _
  ·simp_arith[h3];refine gr (C:="NoBook") ⟨rfl,b,rfl,hn⟩ ⟨rfl,by decide,by decide,?_⟩;simp only[caught];exact fin _ hC e' _
 ·rcases hk with rfl |rfl
  ·simp_arith[h2];refine jm (dD (w,rs) rfl hb (hM _ _ (seq λM hM=>?_)));simp_arith[ends];exact Sa.refl _
  ·simp_arith[h3];refine jm (dD (w,rs) rfl hb (hM _ _ (seq λM hM=>?_)));simp_arith[ends];exact Sa.refl _
section
variable {w:Nat} {rs:List Row} {G:DH} {q:D->DH->Prop} {E:EK} {x y z:D}
theorem aeP:gD "NoRow"=[114,111,119]:=by ac_rfl
theorem aeQ:gD "NoJoin"=[106,111,105,110]:=by ac_rfl
theorem aeR:gD "NoBook"=[98,111,111,107]:=by ac_rfl
theorem zP (h:n8 [ao w rs,x,y,z] "NoRow") (hq:∀G',Sa G G'->q (.str [114,111,119]) G'):dj.t [.int 0,ao w rs,x,y,z] G q E:=
 u9 (a:=⟨0,ao w rs,x,y,z,[114,111,119]⟩) (.inl ⟨rfl,"NoRow",h,aeP.symm⟩) hq
theorem vd(hb:okB w rs)(h:dh rs x)(hq:∀G',Sa G G'->q (.str [114,111,119]) G'):dj.t [.int 0,ao w rs,x,y,z] G q E:=zP (.inr (.inl ⟨rfl,w,rs,x,y,z,rfl,hb,.inl h⟩)) hq
theorem aeS(hb:okB w rs){i:Nat}(hi:i < rs.length)(h:dh rs y)(hq:∀G',Sa G G'->q (.str [114,111,119]) G'):dj.t [.int 0,ao w rs,.int (i:Int),y,z] G q E:=zP (.inr (.inl ⟨rfl,w,rs,_,y,z,rfl,hb,.inr ⟨i,rfl,hi,.inl h⟩⟩)) hq
theorem vf(hb:okB w rs){i j:Nat}(hi:i < rs.length)(hj:j < rs.length)(h:dh rs z\/∃a:Nat,z=.int (a:Int)/\a < rs.length/\a≠i/\a≠j)(hq:∀G',Sa G G'->q (.str [114,111,119]) G'):dj.t [.int 0,ao w rs,.int (i:Int),.int (j:Int),z] G q E:=zP (.inr (.inl ⟨rfl,w,rs,_,_,z,rfl,hb,.inr ⟨i,rfl,hi,.inr ⟨j,rfl,hj,h⟩⟩⟩)) hq
theorem aeT(hb:okB w rs){i:Nat}(hi:i < rs.length)(hq:∀G',Sa G G'->q (.str [106,111,105,110]) G'):dj.t [.int 0,ao w rs,.int (i:Int),.int (i:Int),.int (i:Int)] G q E:=
 u9 (a:=⟨0,ao w rs,_,_,_,[106,111,105,110]⟩) (.inl ⟨rfl,"NoJoin",.inr (.inr ⟨rfl,w,rs,i,rfl,hb,hi⟩),aeQ.symm⟩) hq
theorem Ph{k:Int}{b:D}(hk:k=0\/k=1\/k=2)(h:gw b)(hq:∀G',Sa G G'->q (.str [98,111,111,107]) G'):dj.t [.int k,b,x,y,z] G q E:=by
 refine u9 (a:=⟨k,b,x,y,z,[98,111,111,107]⟩) ?_ hq;rcases hk with rfl |hk
 ·exact .inl ⟨rfl,"NoBook",.inl ⟨rfl,b,x,y,z,rfl,h⟩,aeR.symm⟩
 ·exact .inr (.inl ⟨hk,h,rfl⟩)
theorem Pj{k:Int}(hk:k=1\/k=2)(hb:okB w rs)(hq:∀G',Sa G G'->q (.str [116,111,108,100]) G'):dj.t [.int k,ao w rs,x,y,z] G q E:=
 u9 (a:=⟨k,ao w rs,x,y,z,[116,111,108,100]⟩) (.inr (.inr ⟨hk,w,rs,rfl,hb,rfl⟩)) hq
end
def sNR:RF.Spec:=ghS (A:=Addr×Nat×List Row) (λa ds G=>ds=[.ref a.1,ao a.2.1 a.2.2]/\Pen G a.1/\okB a.2.1 a.2.2) (λa G d G'=>d=.bl true/\Pen G' a.1/\Sb a.1 G G')
theorem aeU{p:Addr}{w:Nat}{rs:List Row}{G:DH}{k:D->DH->Prop}{E:EK}(hp:Pen G p)(hb:okB w rs)(hk:∀G',Pen G' p->Sb p G G'->k (.bl true) G'):sNR.t [.ref p,ao w rs] G k E:=j6 (p,w,rs) ⟨rfl,hp,hb⟩ λd G' hx=>by
 obtain ⟨rfl,h1,h2⟩:=hx;exact hk G' h1 h2
theorem Pk{rs:List Row}{d:D}(h:dh rs d):dh rs (.int 0)\/(0 < rs.length/\dh rs d):=by
 by_cases hr:rs.length=0
 ·exact .inl ⟨rfl,by show (decide (0<=(0:Int))&&decide ((0:Int) < (rs.length:Int)))=false;rw[hr];rfl⟩
 ·exact .inr ⟨by omega,h⟩
theorem aeV{w:Nat}{rs:List Row}{G:DH}{q:D->DH->Prop}{E:EK}{y z:D}(hb:okB w rs)(h:dh rs y)(hq:∀G',Sa G G'->q (.str [114,111,119]) G'):dj.t [.int 0,ao w rs,.int 0,y,z] G q E:=by
 rcases Pk h with e |⟨e,_⟩
 ·exact vd hb e hq
 ·exact aeS (i:=0) hb e h hq
theorem aeW{w:Nat}{rs:List Row}{G:DH}{q:D->DH->Prop}{E:EK}{z:D}(hb:okB w rs)(h:dh rs z)(hq:∀G',Sa G G'->q (.str [114,111,119]) G'):dj.t [.int 0,ao w rs,.int 0,.int 0,z] G q E:=by
 rcases Pk h with e |⟨e,_⟩
 ·exact vd hb e hq
 ·exact vf (i:=0) (j:=0) hb e e (.inl h) hq
theorem aeX (Φ:aa) (h1:Φ "_law_take"=eN) (h2:Φ "_law_told"=dj) (a:Addr×Nat×List Row) (ds:List D) (G:DH) (h:ds=[.ref a.1,ao a.2.1 a.2.2]/\Pen G a.1/\okB a.2.1 a.2.2):
  au Φ yN noE (env0 ds 5) G (ends λd G'=>d=.bl true/\Pen G' a.1/\Sb a.1 G G'):=by
 obtain ⟨p,w,rs⟩:=a;obtain ⟨rfl,hp,hb⟩:=h;dsimp only at hp hb ⊢;have hlen:=hb.len;have e0:ao w rs=.tup [.int w,.tup (rs.map aG)]:=rfl;simp_all_arith[yN];refine seq λM hM=>?_;conv=>enter [4,2,1,1];rw[e0]
 simp_arith[al];refine hM _ _ (seq λM hM=>?_);simp_arith[h1];have h17:(10:Int) ^ Int.toNat 17=100000000000000000:=by decide
 rw[h17];refine ⟨yR (by decide),cP hp (by decide) (by decide) λfar G1 hfar hp1 sb1=>hM _ _ (seq λM hM=>?_)⟩;simp_arith![ends];rw[<-e0];refine ⟨by decide,by decide,ForG.inv (P:=λi ρ G'=>(∃o4 o5 o6,ρ=[some (.ref p),some (ao w rs),some (.int (rs.length:Int)),some (.int (far:Int)),o4,o5,o6])/\Sa G1 G') ⟨⟨_,_,_,rfl⟩,Sa.refl _⟩ (λ_ _ _ _=>trivial) ?_ ?_⟩
 ·rintro i d ρ G2 hd ⟨⟨o4,o5,o6,rfl⟩,sa⟩ kk hk;have hnr:dh rs d:=by
   have hm:=b6 hd;simp only[bo,List.not_mem_nil,or_false]at hm;have hint:∀i:Int,(i < 0\/(rs.length:Int)<=i)->dh rs (.int i):=λi h=>by
    refine ⟨rfl,?_⟩;show (decide (0<=i)&&decide (i < (rs.length:Int)))=false;rw[Bool.and_eq_false_iff,decide_eq_false_iff_not,decide_eq_false_iff_not];omega
   rcases hm with rfl |rfl |rfl |rfl |rfl |rfl |rfl |rfl |rfl
   ·exact hint _ (.inl (by decide))
   ·exact hint _ (.inr (by omega))
   ·exact hint _ (.inr (by omega))
   ·exact hint _ (.inl (by omega))
   all_goals exact ⟨rfl,rfl⟩
  simp_arith![ends];refine seq λM hM=>?_;simp_arith[h2];refine vd hb hnr λG3 s3=>?_;simp_arith[BEq.rfl];refine aeV hb hnr λG4 s4=>?_;simp_arith[BEq.rfl];refine hM _ _ (last ?_);simp_arith[h2];refine aeW hb hnr λG5 s5=>?_;simp_arith[BEq.rfl];refine vd hb hnr λG6 s6=>?_;simp_arith[BEq.rfl];exact hk _ _ ⟨⟨_,_,_,rfl⟩,sa.trans (s3.trans (s4.trans (s5.trans s6)))⟩
 rintro ρ G2 ⟨⟨o4,o5,o6,rfl⟩,sa2⟩;refine hM _ _ (seq λM hM=>?_);simp_arith![ends];have rng:∀{i:Nat}{d:D},(aR 0 (rs.length:Int).toNat)[i]?=some d->i < rs.length/\d=.int (i:Int):=λ{i d} hd=>by
  have hi:i < rs.length:=by have:=(am.mp hd).1;simpa [aR] using this
  refine ⟨hi,?_⟩;unfold aR at hd;rw[a8,fw (by simpa using hi)]at hd;simpa using hd.symm
 refine ⟨by omega,ForG.inv (P:=λi ρ G'=>(∃o5 o6,ρ=[some (.ref p),some (ao w rs),some (.int (rs.length:Int)),some (.int (far:Int)),o4,o5,o6])/\Sa G1 G') ⟨⟨_,_,rfl⟩,sa2⟩ (λ_ _ _ _=>trivial) ?_ ?_⟩
 ·rintro i d ρ G3 hd ⟨⟨o5,o6,rfl⟩,sa3⟩ kk hk;obtain ⟨hi,rfl⟩:=rng hd;simp_arith![ends];refine seq λM hM=>?_;simp_arith![ends];refine ⟨by omega,ForG.inv (P:=λ_ ρ G'=>(∃o6,ρ=[some (.ref p),some (ao w rs),some (.int (rs.length:Int)),some (.int (far:Int)),o4,some (.int (i:Int)),o6])/\Sa G1 G') ⟨⟨_,rfl⟩,sa3⟩ (λ_ _ _ _=>trivial) ?_ ?_⟩
  ·rintro j d ρ G4 hd ⟨⟨o6,rfl⟩,sa4⟩ kk2 hk2;obtain ⟨hj,rfl⟩:=rng hd;simp_arith![ends];refine last ?_;by_cases hji:j=i
   ·subst hji;simp_arith[BEq.rfl];exact hk2 _ _ ⟨⟨_,rfl⟩,sa4⟩
   ·have hne:((j:Int)==(i:Int))=false:=by simpa using (λh=>hji (by omega))
    simp_arith[hne,h2];refine vf hb hi hi (.inr ⟨j,rfl,hj,hji,hji⟩) λG5 s5=>?_;simp_arith[BEq.rfl];exact hk2 _ _ ⟨⟨_,rfl⟩,sa4.trans s5⟩
  ·rintro ρ G4 ⟨⟨o6,rfl⟩,sa4⟩;refine hM _ _ (last ?_);simp_arith[h2];refine aeT hb hi λG5 s5=>?_;simp_arith[BEq.rfl];exact hk _ _ ⟨⟨_,_,rfl⟩,sa4.trans s5⟩
 rintro ρ G3 ⟨⟨o5,o6,rfl⟩,sa3⟩;refine hM _ _ (last ?_);have fin:∀{G':DH},Sa G1 G'->Pen G' p/\Sb p G G':=λs=>⟨hp1.sa s,sb1.trans s.sb⟩;by_cases h3:rs.length < 3
 ·simp_arith[aT (show (rs.length:Int) < 3 by omega)];exact fin sa3
 ·simp_arith[bX (show ¬(rs.length:Int) < 3 by omega),h2];refine vf (i:=0) (j:=2) hb (by omega) (by omega) (.inr ⟨1,rfl,by omega,by decide,by decide⟩) λG4 s4=>?_;simp_arith[BEq.rfl];refine vf (i:=2) (j:=0) hb (by omega) (by omega) (.inr ⟨1,rfl,by omega,by decide,by decide⟩) λG5 s5=>?_;simp_arith[BEq.rfl];exact fin (sa3.trans (s4.trans s5))
theorem Pn:∀{a b:List D},bG a=true->bG b=true->bG (a++b)=true
 |[],_,_,hb=>hb
 |x::a,b,ha,hb=>by
  rw[bG,ae]at ha;rw[List.cons_append,bG,ha.1,Pn ha.2 hb];rfl
theorem aeY{a b:List D}(ha:nrs a=true)(hb:nrs b=true):nrs (a++b)=true:=yp λd hd=>by
 rcases bn.mp hd with h |h
 ·exact uK ha h
 ·exact uK hb h
theorem Pq{w:Nat}{rs:List Row}(h:okB w rs):bG (rs.map aG)=true/\(rs.map aG).length<=100000:=by have:=Nu h;unfold ao at this;simp only[szA,bG,cf,eS,ae,bp]at this;exact ⟨this.2.2,this.2.1⟩
theorem aeZ{w:Nat}{l:List D}(h1:nrs l=true)(h2:bG l=true)(h3:l.length<=100000){d:D}(hd:d∈l)(hr:cY (w:Int) d=false):gw (.tup [.int w,.tup l]):=by
 refine ⟨by simp only[nr,nrs,h1,cf],by simp only[szA,bG,h2,aT h3,cf];rfl,?_⟩;show (decide (1<=(w:Int))&&decide ((w:Int)<=6)&&decide (l.length<=12)&&l.all (cY w))=false;have:l.all (cY (w:Int))=false:=by rw[<-Bool.not_eq_true,bv];intro z;rw[z d hd]at hr;cases hr
 rw[this,e8]
theorem ae0{w:Nat}{rs:List Row}(hb:okB w rs){d:D}(h1:nr d=true)(h2:szA d=true)(hr:cY (w:Int) d=false):gw (.tup [.int w,.tup (rs.map aG++[d])]):=
 aeZ (aeY (zc rs) (by simp only[nrs,h1,cf])) (Pn (Pq hb).1 (by simp only[bG,h2,cf])) (by have:=hb.len;simp;omega) (ax _ (bg.mpr rfl)) hr
noncomputable def Pr(w:Nat)(rs:List Row):List D:=[.tup [.int w,.lst (rs.map aG)],.lst [.int w,.tup (rs.map aG)],.non,.tup (rs.map aG),.tup [.int 7,.tup (rs.map aG)],.tup [.int w,.tup (rs.map aG++[.tup []])],.tup [.bl true,.tup []]]
theorem ae1{w:Nat}{rs:List Row}(hb:okB w rs):∀x∈Pr w rs,gw x:=by
 have hw6:=hb.w6;obtain ⟨z1,z2⟩:=Pq hb;have z0:=zc rs;intro x hx;simp only[Pr,bo,List.not_mem_nil,or_false]at hx;rcases hx with rfl |rfl |rfl |rfl |rfl |rfl |rfl
 ·exact ⟨by simp only[nr,nrs,z0,cf],by simp only[szA,bG,z1,aT z2,cf];rfl,rfl⟩
 ·exact ⟨by simp only[nr,nrs,z0,cf],by simp only[szA,bG,z1,aT z2,cf];rfl,rfl⟩
 ·exact ⟨rfl,rfl,rfl⟩
 ·refine ⟨by simp only[nr,z0],by simp only[szA,z1,aT z2,cf],?_⟩;match rs with
  |[]=>rfl
  |[_]=>rfl
  |[_,_]=>rfl
  |_::_::_::_=>rfl
 ·exact ⟨by simp only[nr,nrs,z0,cf],by simp only[szA,bG,z1,aT z2,cf];rfl,rfl⟩
 ·exact ae0 hb rfl rfl rfl
 ·exact ⟨rfl,rfl,rfl⟩
structure F42(Φ:aa):Prop where
 opn:Φ "_law_open"=yU
 anew:Φ "_law_anew"=uI
 book:Φ "_law_book"=uN
 told:Φ "_law_told"=dj
 num:Φ "_law_numbers_right"=sNR
theorem ae2(Φ:aa)(F:F42 Φ)(ds:List D)(G:DH)(h:∃ns:List Int,ds=[.scr ns]/\ns.length<=63):au Φ yP noE (env0 ds 6) G (ends λd _=>d=.bl true):=by
 obtain ⟨ns,rfl,hl⟩:=h;simp_all_arith[yP];refine seq λM hM=>?_;simp_arith[F.opn];refine bU ⟨ns,rfl,hl⟩ λd' G1 hx=>?_;obtain ⟨p,e1,_,hp,_⟩:=hx;subst e1;refine hM _ _ (seq λM hM=>?_);simp_arith![ends];refine ⟨by decide,ForG.inv (P:=λi ρ G'=>(∃o2 o3 o4 o5 o6,ρ=[some (.scr ns),some (.ref p),o2,o3,o4,o5,o6])/\Pen G' p) ⟨⟨_,_,_,_,_,rfl⟩,hp⟩ (λ_ _ _ _=>trivial) ?_ ?_⟩
 ·rintro i d ρ G2 hd ⟨⟨o2,o3,o4,o5,o6,rfl⟩,hp2⟩ kk hk;simp_arith![ends];refine seq λM hM=>?_;simp_arith[F.anew,F.book];refine adg hp2 λG3 hp3 _=>?_;refine acR hp3 (by decide) (by decide) (by decide) λw rs G4 hb _ _ hp4 _=>?_;have e0:ao w rs=.tup [.int w,.tup (rs.map aG)]:=rfl;have hlen:=hb.len;simp_arith[e0];refine hM _ _ (seq λM hM=>?_);simp_arith![al];repeat refine af (by first |decide |omega |have hsz:sz=1000000:=rfl;omega) ?_
  refine ForG.inv (P:=λi ρ G'=>(∃o5 o6,ρ=[some (.scr ns),some (.ref p),some d,some (.int (w:Int)),some (.tup (rs.map aG)),o5,o6])/\Sa G4 G') ⟨⟨_,_,rfl⟩,Sa.refl _⟩ (λ_ _ _ _=>trivial) ?_ ?_
  ·rintro i5 x ρ G5 hx5 ⟨⟨o5,o6,rfl⟩,sa5⟩ kk5 hk5;have hx:=ae1 hb x (b6 hx5);simp_arith![ends];refine last ?_;simp_arith![ends];refine ⟨by decide,ForG.inv (P:=λi ρ G'=>(∃o6,ρ=[some (.scr ns),some (.ref p),some d,some (.int (w:Int)),some (.tup (rs.map aG)),some x,o6])/\Sa G4 G') ⟨⟨_,rfl⟩,sa5⟩ (λ_ _ _ _=>trivial) ?_ ?_⟩
   ·rintro k d6 ρ G6 hd6 ⟨⟨o6,rfl⟩,sa6⟩ kk6 hk6;have hki:k < 3:=by
     have:=(am.mp hd6).1;simpa [aR] using this
    have hdk:d6=.int (k:Int):=by unfold aR at hd6;rw[a8,fw (by simpa using hki)]at hd6;simpa using hd6.symm
    subst hdk;have hk3:(k:Int)=0\/(k:Int)=1\/(k:Int)=2:=by omega
    simp_arith![ends];refine last ?_;simp_arith[F.told];refine Ph hk3 hx λG7 s7=>?_;simp_arith[BEq.rfl];refine Ph hk3 hx λG8 s8=>?_;simp_arith[BEq.rfl];exact hk6 _ _ ⟨⟨_,rfl⟩,sa6.trans (s7.trans s8)⟩
   ·rintro ρ G6 ⟨⟨o6,rfl⟩,sa6⟩;exact hk5 _ _ ⟨⟨_,_,rfl⟩,sa6⟩
  rintro ρ G5 ⟨⟨o5,o6,rfl⟩,sa5⟩;refine hM _ _ (seq λM hM=>?_);simp_arith[F.num];rw[<-e0];refine ⟨by decide,aeU (hp4.sa sa5) hb λG6 hp6 _=>?_⟩;simp_arith[ends];refine hM _ _ (last ?_);simp_arith[F.told];rw[<-e0];refine ⟨by decide,Pj (.inl rfl) hb λG7 s7=>?_⟩;simp_arith[BEq.rfl];refine ⟨by decide,Pj (.inr rfl) hb λG8 s8=>?_⟩;simp_arith[BEq.rfl];exact hk _ _ ⟨⟨_,_,_,_,_,rfl⟩,hp6.sa (s7.trans s8)⟩
 ·rintro ρ G2 ⟨_,hp2⟩;refine hM _ _ (last ?_);simp_arith[ends]
end RF
namespace HD
open PySem PySem.W
def sv(x:Str)(t:Nat):Value:=.str x t
def ri(n:Nat):Value:=.int n 0
def iu (l:List Value):Obj:=⟨.type "tuple",none,.seq ⟨l⟩ 0,⟨[]⟩⟩
def fM(c:Value)(l:List Value):Obj:=⟨c,none,.fields ⟨l⟩,⟨[]⟩⟩
def oh:Str:="/claim/cut.py"
noncomputable def zQ(n q:Str)(ln ac fl a b:Nat)(isf:Bool)(l1 l2 tm:Value)(t t2:Nat):Obj:=
 fM (.type "code") [sv n t,sv q (t+1),sv oh (t+2),ri ln,ri ac,ri 0,ri 0,ri fl,.ref a,.bool isf,ri 181,.ref b,.none,l1,l2,tm,ri t2,ri ln,sv oh (t2+1)]
def toks(t:Nat):List Str->List Value
 |[]=>[]
 |x::r=>sv x t::toks (t+1) r
def fdO(n q:Str)(p:Arguments)(b:List Stmt)(sc:Scope)(g:Nat)(md cd:Value):Data:=
 .func { name:=n,qualname:=q,params:=p,body:=.stmts b,scope:=sc,globals:=g,closure:=[],defaults:=.none,kwdefaults:=.none,pyModule:=md,code:=cd }
def enO(P:Params)(k:Str)(t:Nat)(v:Value):DictEntry:={ hash:=PyData.keyHash P k,key:=sv k t,val:=v }
def ou (l:List DictEntry) (e:Nat):Obj:=⟨.type "dict",none,.dict ⟨l⟩ e,⟨[]⟩⟩
noncomputable def frO (c l:Nat) (md:Value):Obj:=⟨.type "frame",none,.plain,⟨[some (.ref c),some (.ref 3),some (.ref l),none,some md,none,some (.ref 0)]⟩⟩
def bfO (s:String) (v:Value):Obj:=fM (.type "builtin_function_or_method") [.builtin s,v]
def veM:List Value:=[.type "ValueError",.type "Exception",.type "BaseException",.type "object"]
def vg (b:Expr):Bool:=match b with |.Name n _=>n==("ValueError":Str) |_=>false
noncomputable def fnO(q:Str)(a t:Nat)(md:Value)(n:Str)(p:Arguments)(b:List Stmt)(sc:Scope)(ln:Nat):List Obj:=match localNames p sc (.stmts b) with
 |some l=>[iu [],fM .none [],iu (toks (t+3) l.1),iu [],⟨.none,none,fdO n q p b sc 0 .none .none,⟨[]⟩⟩,
   zQ n q ln p.args.length 3 a (a+1) true (.ref (a+2)) (.ref (a+3)) (.ref (a+4)) t (t+3+l.1.length),⟨.type "function",none,fdO n q p b sc 3 md (.ref (a+5)),⟨[]⟩⟩]
 |none=>[iu [],fM .none [],⟨.none,none,fdO n q p b sc 0 .none .none,⟨[]⟩⟩,
   zQ n q ln p.args.length 3 a (a+1) true .none .none (.ref (a+2)) t (t+3),⟨.type "function",none,fdO n q p b sc 3 md (.ref (a+3)),⟨[]⟩⟩]
noncomputable def fnA(p:Arguments)(b:List Stmt)(sc:Scope):Nat:=match localNames p sc (.stmts b) with |some _=>7 |none=>5
noncomputable def fnT(p:Arguments)(b:List Stmt)(sc:Scope):Nat:=match localNames p sc (.stmts b) with |some l=>l.1.length+5 |none=>5
def dot:Str:="."
structure MO where
 os:List Obj
 es:List DictEntry
 cs:List Value
 a:Nat
 t:Nat
noncomputable def vh(P:Params)(c:Str)(md:Value):List Stmt->Nat->Nat->MO
 |.FunctionDef n p b _ _ _ sc _ _ pos::r,a,t=>
  let m:=vh P c md r (a+fnA p b sc) (t+fnT p b sc+1)
  ⟨fnO (c++dot++n) a t md n p b sc pos.line++m.os,enO P n (t+fnT p b sc) (.ref (a+fnA p b sc - 1))::m.es,ri pos.line::ri pos.col::.ref (a+fnA p b sc - 2)::m.cs,m.a,m.t⟩
 |_::r,a,t=>vh P c md r a t
 |[],a,t=>⟨[],[],[],a,t⟩
def clA(P:Params)(a:Nat)(b:List Stmt):Nat:=(vh P dot .none b (a+7) 0).a+2
noncomputable def stO(P:Params)(r:Nat)(sub:List Value)(a t:Nat)(md:Value)(s:Stmt):List Obj:=match s with
 |.FunctionDef n p b _ _ _ sc _ _ pos=>fnO n a t md n p b sc pos.line
 |.ClassDef n bs _ body _ _ _ _ _ st pos=>
  let m:=vh P n md body (a+7) (t+12)
  let c:=m.a+2
  let u:=m.t+st.length
  let d1:=[enO P "__module__" (t+7) md]
  let d2:=enO P "__firstlineno__" (t+11) (.int pos.line (t+10))::m.es++[enO P "__static_attributes__" u (.ref m.a)]
  let b:List Value:=match bs with |b::_=>(match vg b with |true=>[.type "ValueError"] |false=>[.ref r]) |[]=>[]
  let own:Bool:=match bs with |[]=>true |_=>false
  let ve:Bool:=match bs with |b::_=>vg b |[]=>false
  let wr (v:Nat):Obj:=fM (.type "getset_descriptor") [sv "__weakref__" v,.ref c,.builtin "ExceptionGroup.__weakref__",.none]
  let typ (mro:List Value) (sub:List Value) (nw:String):Obj:=
   ⟨.type "type",none,.cls { name:=n,bases:=(match own with |true=>[.type "object"] |false=>b),mro:=.ref c::mro,ns:=m.a+1,qualname:=n,subclasses:=sub },
    ⟨[(match own with |true=>none |false=>some (.ref a)),none,some (sv n t),some (sv n (t+8)),some (.builtin nw),some (.bool true)]⟩⟩
  [iu b,bfO "type.__prepare__" (.type "type"),ou (d1++enO P "__qualname__" (t+9) (sv n (t+8))::d2) (4+m.es.length),iu [],fM .none m.cs,
   zQ n n pos.line 0 0 (a+3) (a+4) false .none .none .none (t+2) (t+5),frO (a+5) (a+2) md]++m.os++[iu (toks m.t st)] ++
  (match own with
  |true=>[ou (d1++d2++[enO P "__dict__" (u+2) (.ref (c+1)),enO P "__weakref__" (u+4) (.ref (c+2)),enO P "__doc__" (u+5) .none]) 4,typ [.type "object"] [] "object.__new__",
    fM (.type "getset_descriptor") [sv "__dict__" (u+1),.ref c,.builtin "function.__dict__",.builtin "function.__dict__#set"],wr (u+3)]
  |false=>(match ve with
   |true=>[ou (d1++d2++[enO P "__weakref__" (u+2) (.ref (c+1)),enO P "__doc__" (u+3) .none]) 3,typ veM sub "ValueError.__new__",wr (u+1)]
   |false=>[ou (d1++d2++[enO P "__doc__" (u+1) .none]) 2,typ (.ref r::veM) [] "ValueError.__new__"])) ++
  [fM (.type "super") [.ref c,.ref c,.ref c],bfO "object.__init_subclass__" (.ref c)]
 |_=>[]
noncomputable def mdO(t:Nat)(md:Value)(s:Stmt):Value:=match s with
 |.Assign [.Name n _] (.Constant (.str x) _ _) _=>(match n==("__name__":Str) with |true=>sv x t |false=>md)
 |_=>md
noncomputable def enS(P:Params)(lk:Str->Value)(t u a a':Nat)(s:Stmt):List DictEntry:=match s with
 |.Assign [.Name n _] (.Name y _) _=>[enO P n t (lk y)]
 |.FunctionDef n _ _ _ _ _ _ _ _ _=>[enO P n (u-1) (.ref (a'-1))]
 |.ClassDef n _ _ b _ _ _ _ _ _ _=>[enO P n (u-1) (.ref (clA P a b))]
 |.Assign [.Name n _] (.Constant c _ _) _=>(match n==("__name__":Str) with
  |true=>[]
  |false=>[enO P n (t+1) (match c with |.int i=>.int i t |.str x=>sv x t |_=>.none)])
 |_=>[]
noncomputable def fnS(a':Nat)(s:Stmt):List (Str×Value):=match s with
 |.FunctionDef n _ _ _ _ _ _ _ _ _=>[(n,.ref (a'-1))]
 |_=>[]
noncomputable def cdS(a a':Nat)(s:Stmt):List Value:=match s with
 |.FunctionDef _ _ _ _ _ _ _ _ _ pos=>[ri pos.line,ri pos.col,.ref (a'-2)]
 |.ClassDef _ _ _ _ _ _ _ _ _ _ pos=>[ri pos.line,ri pos.col,.ref (a+5)]
 |_=>[]
noncomputable def sbS(P:Params)(a:Nat)(s:Stmt):List Value:=match s with
 |.ClassDef _ bs _ b0 _ _ _ _ _ _ _=>(match bs with |b::_=>(match vg b with |true=>[] |false=>[.ref (clA P a b0)]) |[]=>[])
 |_=>[]
noncomputable def ae3(P:Params)(a:Nat)(s:Stmt):List Nat:=match s with
 |.ClassDef _ bs _ b0 _ _ _ _ _ _ _=>(match bs with |b::_=>(match vg b with |true=>[clA P a b0] |false=>[]) |[]=>[])
 |_=>[]
noncomputable def fold{α:Type}(f:Nat->Nat->Nat->Nat->Value->Stmt->List α):List (Nat×Nat)->Value->List Stmt->List α
 | (a,t)::(a',u)::r,md,s::ss=>f a a' t u md s++fold f ((a',u)::r) (mdO t md s) ss
 |_,_,_=>[]
def Pu:List (Nat×Nat)->Value->List Stmt->Value
 | (_,t)::r,md,s::ss=>Pu r (mdO t md s) ss
 |_,md,_=>md
def iw:Value:=sv "__main__" 164
noncomputable def ae4(P:Params)(v:Value):List DictEntry:=
 [enO P "__name__" 165 v,enO P "__doc__" 166 .none,enO P "__package__" 167 .none,enO P "__loader__" 168 (.builtin "__main__.__loader__#opaque"),enO P "__spec__" 169 .none,
  enO P "__annotations__" 170 (.ref 6),enO P "__builtins__" 171 (.ref 4),enO P "__file__" 173 (sv oh 172),enO P "__cached__" 174 .none]
noncomputable def ents(N:List (Nat×Nat))(b:List Stmt)(P:Params):List DictEntry:=ae4 P (Pu N iw b)++fold (λa a' t u _ s=>enS P (λy=>((fold (λ_ a' _ _ _ s=>fnS a' s) N iw b).lookup y).getD .none) t u a a' s) N iw b
def put{α:Type}:Nat->α->List α->List α
 |_,_,[]=>[]
 |0,x,_::r=>x::r
 |n+1,x,y::r=>y::put n x r
noncomputable def Px(cs:List Value):List Obj:=[iu [],fM .none cs,
 fM (.type "code") [sv "<module>" 182,sv "<module>" 183,sv oh 184,ri 1,ri 0,ri 0,ri 0,ri 0,.ref 11,.bool false,ri 181,.ref 12,.none,.none,.none,.none,ri 185,ri 1,sv oh 186],frO 13 3 iw]
def ae5(B:List Obj):List Obj:=B++Px []
noncomputable def objs(B:List Obj)(N:List (Nat×Nat))(b:List Stmt)(P:Params):List Obj:=
 let es:=ents N b P
 put 3 (ou es es.length) (B++Px (fold (λa a' _ _ _ s=>cdS a a' s) N iw b) ++
  fold (λa _ t _ md s=>stO P ((fold (λa _ _ _ _ s=>ae3 P a s) N iw b).headD 0) (fold (λa _ _ _ _ s=>sbS P a s) N iw b) a t md s) N iw b)
def evs{α:Type}:List α->List α
 |[]=>[]
 |[x]=>[x]
 |x::_::r=>x::evs r
noncomputable def bt:Nat->List Obj->BT
 |0,_=>.nil
 |_,[]=>.nil
 |n+1,x::r=>.node x (bt n (evs r)) (bt n (evs r.tail))
def nameless(s:Stmt):Bool:=match s with
 |.Assign [.Name n _] _ _=>!(n==("__name__":Str))
 |_=>true
noncomputable def pick:Nat->List Nat->List Obj->Frag
 |i,a::r,o::os=>(match Nat.beq a i with |true=>(a,o)::pick (i+1) r os |false=>pick (i+1) (a::r) os)
 |_,_,_=>[]
end HD
def PySem.W.Fast.tw7585711510124824673:PySem.Program:=PySem.Challenge.pw_starsieve_k42_joins_refused
theorem PySem.W.Fast.te7585711510124824673:PySem.Challenge.pw_starsieve_k42_joins_refused=PySem.W.Fast.tw7585711510124824673:=rfl
namespace HK
open PySem PySem.W PySem.W.Fast
def pw:Program:=PySem.Challenge.pw_starsieve_k42_joins_refused
def rl:OpenLaw:=PySem.Challenge.rw_starsieve_k42_joins_refused
noncomputable def NN:List (Nat×Nat):=[(15,187),(15,189),(28,207),(47,232),(66,257),(78,273),(90,289),(102,305),(114,321),(126,337),(138,353),(150,369),(162,385),(174,401),(186,417),(198,433),(198,435),(198,437),(205,444),(212,451),(219,459),(224,465),(231,473),(236,479),(243,487),(250,496),(257,507),(262,513),(269,520),(269,522),(269,524),(269,526),(269,528),(274,534),(281,542),(286,548),(293,555),(300,563),(307,571),(314,579),(314,581),(321,588),(328,597),(335,608),(342,618),(349,629),(354,635),(354,637),(361,646),(366,652),(373,662),(373,664),(380,674),(387,684),(394,693),(394,695),(401,709),(406,715),(411,721),(418,733),(425,744),(432,753),(439,762),(439,764),(446,775),(453,785),(460,792),(467,803),(472,809),(479,817),(486,827),(493,837),(500,849),(505,855),(512,869),(519,878),(526,891),(533,904),(540,917)]
def L1(P:Params):List Obj:=HD.objs (boot_heap P).objs.toList NN pw.main.body P
def H1(P:Params):Heap:=⟨⟨L1 P⟩,{}⟩
def T1(P:Params):BT:=HD.bt 12 (L1 P)
def LA(P:Params):List Obj:=HD.ae5 (boot_heap P).objs.toList
def HA(P:Params):Heap:=⟨⟨LA P⟩,{}⟩
def T0(P:Params):BT:=HD.bt 5 (LA P)
def env:Env:={ scope:=pw.main.scope,locals:=mainNs,globals:=mainNs,cells:=[],code:=.ref 13,frame:=some 14 }
def bE:List Stmt:=behindTheImports pw
def cE:Code:=.body bE env
def p0:Pos:=⟨0,0,0,0⟩
def B:List Frame:=[topFrame p0]
def ann:Option Value:=some (.ref 6)
def qv:Program:={ pw with main:={ pw.main with body:=pw.main.body.filter HD.nameless } }
noncomputable def as:List Nat:=[3,23,24,43,44,62,63,74,75,86,87,98,99,110,111,122,123,134,135,146,147,158,159,170,171,182,183,194,195,203,204,210,211,217,218,222,223,229,230,234,235,241,242,248,249,255,256,260,261,267,268,272,273,279,280,284,285,291,292,298,299,305,306,312,313,319,320,326,327,333,334,340,341,347,348,352,353,359,360,364,365,371,372,378,379,385,386,392,393,399,400,404,405,409,410,416,417,423,424,430,431,437,438,444,445,451,452,458,459,465,466,470,471,477,478,484,485,491,492,498,499,503,504,510,511,517,518,524,525,531,532,538,539]
def K(P:Params):Frag:=HD.pick 0 as (L1 P)
def Xt(s:Shared):Bool:=xlAt qv [] s&&recOk (RowW.records rl.row.toRowW) s
def see{α:Type}(_:α):Bool:=true
theorem primed:(see T1&&see T0&&see H1&&see HA&&see cE&&see B&&see env&&see bE&&see qv&&see K&&see Xt)=true:=by k_qdec
theorem pre(w:World)(os:OsState):topGo treeTable pw w 11 ann 12 ⟨boot_heap w.params,⟨[]⟩,boot_drawn,boot_toks,os⟩ (topStub pw)=some (⟨HA w.params,⟨[]⟩,{},187,os⟩,⟨denote treeTable cE,cE,p0,B⟩):=by have _:=primed;rw[PySem.W.Fast.te15667345088766844465,PySem.W.Fast.te14364793385576792824,PySem.W.Fast.te1032975242618825031,PySem.W.Fast.te8093259214132618727,PySem.W.Fast.te1718297227530528222,PySem.W.Fast.te11892475500146522536];rfl'
theorem block(w:World)(os:OsState):segRun treeTable pw w 11 ann 1 2 ⟨HA w.params,⟨[]⟩,{},187,os⟩ (blockOf bE env cE p0 B)=some (.next,SharedT.abs ⟨T0 w.params,15,{},⟨[]⟩,{},187,os⟩,cE,p0):=by rw[PySem.W.Fast.te14374325043358763698,PySem.W.Fast.te14364793385576792824,PySem.W.Fast.te1032975242618825031,PySem.W.Fast.te8093259214132618727,PySem.W.Fast.te1718297227530528222,PySem.W.Fast.te14938417808399470215,PySem.W.Fast.te16330338443398637341,PySem.W.Fast.te10239294469119128424];rfl'
theorem piece(w:World)(os:OsState):segRunT treeTable pw w 11 ann 1 9000 ⟨T0 w.params,15,{},⟨[]⟩,{},187,os⟩ (piecesOf bE env cE p0 B)=some (.next,⟨T1 w.params,540,{},⟨[]⟩,{},917,os⟩,cE,⟨344,0,356,15⟩):=by rw[PySem.W.Fast.te10110043849684766642,PySem.W.Fast.te14364793385576792824,PySem.W.Fast.te1032975242618825031,PySem.W.Fast.te13069687644243786066,PySem.W.Fast.te14938417808399470215,PySem.W.Fast.te1718297227530528222,PySem.W.Fast.te16330338443398637341,PySem.W.Fast.te10239294469119128424];rfl'
theorem fin(w:World)(os:OsState):topRun treeTable pw w 11 ann 3 (SharedT.abs ⟨T1 w.params,540,{},⟨[]⟩,{},917,os⟩) ⟨doneF .next,cE,⟨344,0,356,15⟩,B⟩=some ⟨H1 w.params,⟨[]⟩,{},917,os⟩:=by rw[PySem.W.Fast.te14082659384304107361,PySem.W.Fast.te14364793385576792824,PySem.W.Fast.te1032975242618825031,PySem.W.Fast.te13069687644243786066,PySem.W.Fast.te1718297227530528222,PySem.W.Fast.te14158929756966004236];rfl'
theorem run(w:World)(os:OsState):topRun treeTable pw w 11 ann (12+(2+(9000+3))) ⟨boot_heap w.params,⟨[]⟩,boot_drawn,boot_toks,os⟩ (topStub pw)=some ⟨H1 w.params,⟨[]⟩,{},917,os⟩:=by refine go_top (pre w os) (piece_block (block w os) ?_);have h:=piece_app (rest:=[]) (segRun_of (piece w os)) (piece_nil (fin w os));rw[List.append_nil]at h;exact h
theorem size (w:World):((boot_heap w.params).isNs mainGlobals&&(Array.mk []:Array GenState).size==0,(boot_heap w.params).objs.size,(boot_heap w.params).nsMap mainGlobals "__annotations__")=(true,11,ann):=by rfl'
theorem ae6(w:World)(os:OsState):(staticsOk (importedModules pw.main.body) (boot_heap w.params) (H1 w.params)&&namesBound pw (H1 w.params)&&gensDone ⟨H1 w.params,⟨[]⟩,{},917,os⟩&&laidKept (boot_heap w.params) (H1 w.params))=true:=by rw[PySem.W.Fast.te1032975242618825031,PySem.W.Fast.te14158929756966004236,PySem.W.Fast.te5923862056798008813];rfl'
theorem ae7(w:World)(os:OsState):openSeen qv [] (importedModules pw.main.body) Xt true ⟨H1 w.params,⟨[]⟩,{},917,os⟩=openGood qv []:=by rw[PySem.W.Fast.te1032975242618825031,PySem.W.Fast.te14158929756966004236,PySem.W.Fast.te5923862056798008813,PySem.W.Fast.te3994408356199485718,PySem.W.Fast.te3154452736318265832,PySem.W.Fast.te4187177175401517315];rfl'
theorem ae8(w:World):as.map (H1 w.params).get?=(K w.params).map (λp=>some p.2):=by rw[PySem.W.Fast.te14158929756966004236,PySem.W.Fast.te538113369711794958];rfl'
theorem eAs(P:Params):as=(K P).map (·.1):=by rw[PySem.W.Fast.te538113369711794958];rfl'
def hook:Hook:=kHook K as eAs
theorem left:LeftO pw qv [] Xt hook.obs hook.val 12000:=by refine LeftO.of_pieces (boot_open (by rfl') (by decide) (λs=>by rfl')) size run (by decide) λw=>funext λos=>?_;exact Prod.ext (ae6 w os) (Prod.ext (ae7 w os) (ae8 w))
end HK
namespace Lk42
open PySem PySem.Spec PyProof.Rows L2 RF
open PySem.W (mg_of mg_none_of)
def Φ:aa:=λf=>if f="_law_anew" then uI else if f="_law_spread" then uH else if f="_law_take" then eN else if f="_law_signs" then m7 else if f="_law_deeds_of" then uM else if f="_law_form" then yS else if f="_law_wider" then jl else if f="_law_within" then jl else if f="_law_form_like" then uL else if f="_law_book" then uN else if f="_law_refusal" then zM else if f="is_whole" then aD g8 else if f="is_place" then aD eU else if f="fits" then aD nF else if f="lies_in" then aD kY else if f="with_sign" then aD gA else if f="joined" then aD lq else if f="is_deed" then aD nq else if f="is_text_of" then aD fText else if f="is_form" then aD ni else if f="is_row" then aD nu else if f="is_width" then aD m9 else if f="is_book" then aD km else if f="need_book" then dH else if f="need_row" then lg else if f="without" then sWo else if f="joined_book" then sJB else if f="both" then aD nG else if f="first_touching" then nH else if f="splitting_place" then uQ else if f="grown" then fK 9 else if f="least" then aD kZ else if f="is_named" then aD gB else if f="leaves" then eX 9 else if f="need_two_books" then uU else if f="deed_of" then uP else if f="same_deeds" then sSD else if f="stars" then aD jr else if f="alike" then nQ else if f="parting_word" then nR else if f="join" then zN else if f="candidates" then nZ else if f="joins" then zJ else if f="first_joined" then sFJ else if f="all_joined" then sAJ else if f="needless" then uX else if f="lean" then uY else if f="press" then zL else if f="_law_told" then dj else if f="_law_numbers_right" then sNR else if f="_law_open" then yU else if f="law" then m8 else bx (λ_ _=>False) (λ_ _ _ _=>False)
def Py:Φ "_law_anew"=uI:=by rfl'
def Pz:Φ "_law_spread"=uH:=by rfl'
def gF:Φ "_law_take"=eN:=by rfl'
def zR:Φ "_law_signs"=m7:=by rfl'
def PK:Φ "_law_deeds_of"=uM:=by rfl'
def PL:Φ "_law_form"=yS:=by rfl'
def PN:Φ "_law_wider"=jl:=by rfl'
def PP:Φ "_law_within"=jl:=by rfl'
def PQ:Φ "_law_form_like"=uL:=by rfl'
def P0:Φ "_law_book"=uN:=by rfl'
def Qa:Φ "_law_refusal"=zM:=by rfl'
def zT:Φ "is_whole"=aD g8:=by rfl'
def oA:Φ "is_place"=aD eU:=by rfl'
def Qc:Φ "fits"=aD nF:=by rfl'
def Qd:Φ "lies_in"=aD kY:=by rfl'
def vm:Φ "with_sign"=aD gA:=by rfl'
def Qe:Φ "joined"=aD lq:=by rfl'
def Qf:Φ "is_deed"=aD nq:=by rfl'
def Qg:Φ "is_text_of"=aD fText:=by rfl'
def Qh:Φ "is_form"=aD ni:=by rfl'
def Qi:Φ "is_row"=aD nu:=by rfl'
def Qj:Φ "is_width"=aD m9:=by rfl'
def zU:Φ "is_book"=aD km:=by rfl'
def fO:Φ "need_book"=dH:=by rfl'
def vo:Φ "need_row"=lg:=by rfl'
def oE:Φ "without"=sWo:=by rfl'
def Qk:Φ "joined_book"=sJB:=by rfl'
def Ql:Φ "both"=aD nG:=by rfl'
def zV:Φ "first_touching"=nH:=by rfl'
def Qm:Φ "splitting_place"=uQ:=by rfl'
def Qn:Φ "grown"=fK 9:=by rfl'
def Qo:Φ "least"=aD kZ:=by rfl'
def Qp:Φ "is_named"=aD gB:=by rfl'
def Qq:Φ "leaves"=eX 9:=by rfl'
def Qs:Φ "need_two_books"=uU:=by rfl'
def Qt:Φ "deed_of"=uP:=by rfl'
def Qu:Φ "same_deeds"=sSD:=by rfl'
def Qv:Φ "stars"=aD jr:=by rfl'
def zW:Φ "alike"=nQ:=by rfl'
def zX:Φ "parting_word"=nR:=by rfl'
def Qw:Φ "join"=zN:=by rfl'
def zY:Φ "candidates"=nZ:=by rfl'
def Qx:Φ "joins"=zJ:=by rfl'
def Qy:Φ "first_joined"=sFJ:=by rfl'
def Qz:Φ "all_joined"=sAJ:=by rfl'
def QB:Φ "needless"=uX:=by rfl'
def QC:Φ "lean"=uY:=by rfl'
def QD:Φ "press"=zL:=by rfl'
def zZ:Φ "_law_told"=dj:=by rfl'
def QF:Φ "_law_numbers_right"=sNR:=by rfl'
def QG:Φ "_law_open"=yU:=by rfl'
noncomputable def bt:List String:=["all","bool","enumerate","int","isinstance","len","list","min","range","reversed","str","tuple","zip"]
noncomputable def cn:List (String×D):=[("LETTERS",(.str [97,98,99,100,101,102,103,104,105,106,107,108,109,110,111,112,113,114,115,116,117,118,119,120,121,122])),("LONGEST_DEED",(.int 8)),("MOST_ROWS",(.int 12)),("WIDEST",(.int 6))]
noncomputable def xs:List (String×Bool):=[("NoBook",true),("NoMatch",true),("NoRow",true),("NoJoin",true),("Full",false),("NoBook",false),("NoForm",false),("NoJoin",false),("NoLine",false),("NoMatch",false),("NoOrder",false),("NoRow",false),("NoText",false),("NoWord",false),("Nothing",false),("SieveError",false),("TooMany",false),("Turned",false),("ValueError",false)]
abbrev CK:=λN s f o b=>aB (aH N (aq s) f bt cn xs o) b (aF s)=true
abbrev BB:=λ(l:PySem.W.OpenLaw) (w:World) (mg:Str->Option Value) (base:Heap) k f o=>Bse Φ l.prog w (HK.K w.params) mg base (CX1 l.prog w) k f bt cn xs o
abbrev NQ:=λP (s:Str) (n:Nat)=>PySem.W.nsIn (HK.K P) mainGlobals s=some (some (.ref n))
abbrev BQ:=λP fd ps=>Binds (HK.K P) fd ps []
abbrev LN:Str:="law_starsieve_k42_joins_refused"
def f0:List (String×Nat):=[]
def f1:=("_law_anew",1)::f0
def f2:=("_law_spread",2)::f1
def f3:=("_law_take",2)::f2
def f4:=("_law_signs",3)::f3
def f5:=("_law_deeds_of",2)::f4
def f6:=("_law_form",2)::f5
def f7:=("_law_wider",2)::f6
def f8:=("_law_within",2)::f7
def f9:=("_law_form_like",3)::f8
def f10:=("_law_book",3)::f9
def f11:=("_law_refusal",1)::f10
def f12:=("is_whole",1)::f11
def f13:=("is_place",2)::f12
def f14:=("fits",2)::f13
def f15:=("lies_in",2)::f14
def f16:=("with_sign",3)::f15
def f17:=("joined",2)::f16
def f18:=("is_deed",1)::f17
def f19:=("is_text_of",3)::f18
def f20:=("is_form",2)::f19
def f21:=("is_row",2)::f20
def f22:=("is_width",1)::f21
def f23:=("is_book",1)::f22
def f24:=("need_book",1)::f23
def f25:=("need_row",2)::f24
def f26:=("without",2)::f25
def f27:=("joined_book",4)::f26
def f28:=("both",2)::f27
def f29:=("first_touching",2)::f28
def f30:=("splitting_place",2)::f29
def f31:=("grown",3)::f30
def f32:=("least",1)::f31
def f33:=("is_named",3)::f32
def f34:=("leaves",2)::f33
def f35:=("need_two_books",2)::f34
def f36:=("deed_of",2)::f35
def f37:=("same_deeds",3)::f36
def f38:=("stars",1)::f37
def f39:=("alike",2)::f38
def f40:=("parting_word",2)::f39
def f41:=("join",4)::f40
def f42:=("candidates",1)::f41
def f43:=("joins",1)::f42
def f44:=("first_joined",1)::f43
def f45:=("all_joined",1)::f44
def f46:=("needless",2)::f45
def f47:=("lean",1)::f46
def f48:=("press",1)::f47
def f49:=("_law_told",5)::f48
def f50:=("_law_numbers_right",2)::f49
def f51:=("_law_open",1)::f50
def S(i:Nat):Stmt:=HK.pw.main.body.getD i (.Pass ⟨0,0,0,0⟩)
def oF:Stmt:=S 65
theorem ae9:fnB ["pen"] ["pen"] (aq oF)=true:=by ac_rfl
theorem afa:CK ["pen"] oF f0 {} yz:=by ac_rfl
def oG:Stmt:=S 63
theorem afb:fnB ["cell","at","one","two","three"] ["cell","at"] (aq oG)=true:=by ac_rfl
theorem afc:CK ["cell","at","one","two","three"] oG f1 {} yC:=by ac_rfl
def oH:Stmt:=S 66
theorem afd:fnB ["pen","many","at","cell","found"] ["pen","many"] (aq oH)=true:=by ac_rfl
theorem afe:CK ["pen","many","at","cell","found"] oH f2 {} yD:=by ac_rfl
def oJ:Stmt:=S 67
theorem afg:fnB ["pen","width","signs"] ["pen","width","signs"] (aq oJ)=true:=by ac_rfl
theorem afh:CK ["pen","width","signs"] oJ f3 {} yE:=by ac_rfl
def oK:Stmt:=S 72
theorem afi:fnB ["pen","most","some","turn","found","letters"] ["pen","most"] (aq oK)=true:=by ac_rfl
theorem afj:CK ["pen","most","some","turn","found","letters"] oK f4 {} yF:=by ac_rfl
def oM:Stmt:=S 68
theorem afk:fnB ["pen","width"] ["pen","width"] (aq oM)=true:=by ac_rfl
theorem afl:CK ["pen","width"] oM f5 {} yG:=by ac_rfl
def oN:Stmt:=S 70
theorem afm:fnB ["pen","form","found","sign"] ["pen","form"] (aq oN)=true:=by ac_rfl
theorem afn:CK ["pen","form","found","sign"] oN f6 {} yH:=by ac_rfl
def oO:Stmt:=S 69
theorem afo:fnB ["pen","form","found","sign"] ["pen","form"] (aq oO)=true:=by ac_rfl
theorem afp:CK ["pen","form","found","sign"] oO f7 {} yI:=by ac_rfl
def oR:Stmt:=S 71
theorem afq:fnB ["pen","width","forms","kind","form","at"] ["pen","width","forms"] (aq oR)=true:=by ac_rfl
theorem afr:CK ["pen","width","forms","kind","form","at"] oR f8 {} yJ:=by ac_rfl
def oU:Stmt:=S 73
theorem afs:fnB ["pen","widest","most","width","deeds","forms","rows","k"] ["pen","widest","most"] (aq oU)=true:=by ac_rfl
theorem aft:CK ["pen","widest","most","width","deeds","forms","rows","k"] oU f9 {} yK:=by ac_rfl
def oV:Stmt:=S 74
theorem afu:fnB ["caught","some","names"] ["caught"] (aq oV)=true:=by ac_rfl
theorem afv:CK ["caught","some","names"] oV f10 {} yL:=by ac_rfl
def oW:Stmt:=S 17
theorem afw:fnB ["thing"] ["thing"] (aq oW)=true:=by ac_rfl
theorem afx:CK ["thing"] oW f11 {} my:=by ac_rfl
def oX:Stmt:=S 19
theorem afy:fnB ["many","thing"] ["many","thing"] (aq oX)=true:=by ac_rfl
theorem afz:CK ["many","thing"] oX f12 {} mz:=by ac_rfl
def oY:Stmt:=S 22
theorem afA:fnB ["form","word"] ["form","word"] (aq oY)=true:=by ac_rfl
theorem afB:CK ["form","word"] oY f13 {} mC:=by ac_rfl
def oZ:Stmt:=S 23
theorem afC:fnB ["form","other"] ["form","other"] (aq oZ)=true:=by ac_rfl
theorem afD:CK ["form","other"] oZ f14 {} mD:=by ac_rfl
def o7:Stmt:=S 24
theorem afE:fnB ["form","at","sign"] ["form","at","sign"] (aq o7)=true:=by ac_rfl
theorem afF:CK ["form","at","sign"] o7 f15 {} mF:=by ac_rfl
def o8:Stmt:=S 26
theorem afG:fnB ["form","other","unlike"] ["form","other"] (aq o8)=true:=by ac_rfl
theorem afH:CK ["form","other","unlike"] o8 f16 {} mG:=by ac_rfl
def o9:Stmt:=S 32
theorem afI:fnB ["thing"] ["thing"] (aq o9)=true:=by ac_rfl
theorem afJ:CK ["thing"] o9 f17 {} j8:=by ac_rfl
def ph:Stmt:=S 20
theorem afK:fnB ["signs","width","thing"] ["signs","width","thing"] (aq ph)=true:=by ac_rfl
theorem afL:CK ["signs","width","thing"] ph f18 {} j9:=by ac_rfl
def pq:Stmt:=S 21
theorem afM:fnB ["width","thing"] ["width","thing"] (aq pq)=true:=by ac_rfl
theorem afN:CK ["width","thing"] pq f19 {} mH:=by ac_rfl
def pA:Stmt:=S 33
theorem afO:fnB ["width","thing"] ["width","thing"] (aq pA)=true:=by ac_rfl
theorem afP:CK ["width","thing"] pA f20 {} gn:=by ac_rfl
def pB:Stmt:=S 18
theorem afQ:fnB ["thing"] ["thing"] (aq pB)=true:=by ac_rfl
theorem afR:CK ["thing"] pB f21 {} mJ:=by ac_rfl
def pC:Stmt:=S 34
theorem afS:fnB ["thing","width","rows"] ["thing"] (aq pC)=true:=by ac_rfl
theorem afT:CK ["thing","width","rows"] pC f22 {} gq:=by ac_rfl
def pF:Stmt:=S 35
theorem afU:fnB ["book"] ["book"] (aq pF)=true:=by ac_rfl
theorem afV:CK ["book"] pF f23 {} jc:=by ac_rfl
def pG:Stmt:=S 37
theorem afW:fnB ["book","number"] ["book","number"] (aq pG)=true:=by ac_rfl
theorem afX:CK ["book","number"] pG f24 {} gZ:=by ac_rfl
def pH:Stmt:=S 51
theorem afY:fnB ["book","number","width","rows"] ["book","number"] (aq pH)=true:=by ac_rfl
theorem afZ:CK ["book","number","width","rows"] pH f25 {} jd:=by ac_rfl
def pI:Stmt:=S 55
theorem af0:fnB ["book","one","other","at","width","rows","form","grown"] ["book","one","other","at"] (aq pI)=true:=by ac_rfl
theorem af1:CK ["book","one","other","at","width","rows","form","grown"] pI f26 {} mK:=by ac_rfl
def pJ:Stmt:=S 25
theorem af2:fnB ["form","other","shared","one","two"] ["form","other"] (aq pJ)=true:=by ac_rfl
theorem af3:CK ["form","other","shared","one","two"] pJ f27 {} mL:=by ac_rfl
def pK:Stmt:=S 43
theorem af4:fnB ["rows","box","number","row"] ["rows","box"] (aq pK)=true:=by ac_rfl
theorem af5:CK ["rows","box","number","row"] pK f28 {} mO:=by ac_rfl
def pL:Stmt:=S 44
theorem af6:fnB ["rows","box","number","at","sign"] ["rows","box"] (aq pL)=true:=by ac_rfl
theorem af7:CK ["rows","box","number","at","sign"] pL f29 {} mQ:=by ac_rfl
def pM:Stmt:=S 45
theorem af8:fnB ["name","many_rows","box","rows","at","zero","one"] ["name","many_rows","box"] (aq pM)=true:=by ac_rfl
theorem af9:CK ["name","many_rows","box","rows","at","zero","one"] pM f31 {} kh:=by ac_rfl
def pN:Stmt:=S 27
def pO:Stmt:=S 41
theorem aga:fnB ["name","many","thing"] ["name","many","thing"] (aq pO)=true:=by ac_rfl
theorem agb:CK ["name","many","thing"] pO f32 {} mR:=by ac_rfl
def pP:Stmt:=S 42
theorem agc:fnB ["box","tree","at","zero","one"] ["box","tree"] (aq pP)=true:=by ac_rfl
theorem agd:CK ["box","tree","at","zero","one"] pP f34 {} je:=by ac_rfl
def pQ:Stmt:=S 36
theorem age:fnB ["one","other"] ["one","other"] (aq pQ)=true:=by ac_rfl
theorem agf:CK ["one","other"] pQ f34 {} mU:=by ac_rfl
def pR:Stmt:=S 38
theorem agg:fnB ["book","number"] ["book","number"] (aq pR)=true:=by ac_rfl
theorem agh:CK ["book","number"] pR f35 {} kj:=by ac_rfl
def pU:Stmt:=S 47
theorem agi:fnB ["one","other","leaf"] ["one","other","leaf"] (aq pU)=true:=by ac_rfl
theorem agj:CK ["one","other","leaf"] pU f36 {} mV:=by ac_rfl
def pW:Stmt:=S 40
theorem agk:fnB ["width"] ["width"] (aq pW)=true:=by ac_rfl
theorem agl:CK ["width"] pW f37 {} mW:=by ac_rfl
def pX:Stmt:=S 48
theorem agm:fnB ["one","other","box","tree","parting"] ["one","other"] (aq pX)=true:=by ac_rfl
theorem agn:CK ["one","other","box","tree","parting"] pX f38 {} mX:=by ac_rfl
def pY:Stmt:=S 49
theorem ago:fnB ["one","other","name","shown"] ["one","other"] (aq pY)=true:=by ac_rfl
theorem agp:CK ["one","other","name","shown"] pY f39 {} mY:=by ac_rfl
def pZ:Stmt:=S 58
theorem agq:fnB ["book","one","other","at","made","word"] ["book","one","other","at"] (aq pZ)=true:=by ac_rfl
theorem agr:CK ["book","one","other","at","made","word"] pZ f40 {} jf:=by ac_rfl
def p6:Stmt:=S 56
theorem ags:fnB ["book","many","numbers","made"] ["book"] (aq p6)=true:=by ac_rfl
theorem agt:CK ["book","many","numbers","made"] p6 f41 {} mZ:=by ac_rfl
def p7:Stmt:=S 57
theorem agu:fnB ["book"] ["book"] (aq p7)=true:=by ac_rfl
theorem agv:CK ["book"] p7 f42 {} jg:=by ac_rfl
def p8:Stmt:=S 59
theorem agw:fnB ["book","one","other","at","made"] ["book"] (aq p8)=true:=by ac_rfl
theorem agx:CK ["book","one","other","at","made"] p8 f43 {} m5:=by ac_rfl
def qb:Stmt:=S 60
theorem agy:fnB ["book","left","made"] ["book"] (aq qb)=true:=by ac_rfl
theorem agz:CK ["book","left","made"] qb f44 {} m6:=by ac_rfl
def qd:Stmt:=S 52
theorem agA:fnB ["book","number","name","shown"] ["book","number"] (aq qd)=true:=by ac_rfl
theorem agB:CK ["book","number","name","shown"] qd f45 {} jh:=by ac_rfl
def qe:Stmt:=S 53
theorem agC:fnB ["book","left","number"] ["book"] (aq qe)=true:=by ac_rfl
theorem agD:CK ["book","left","number"] qe f46 {} ji:=by ac_rfl
def qg:Stmt:=S 61
theorem agE:fnB ["book","left","pressed"] ["book"] (aq qg)=true:=by ac_rfl
theorem agF:CK ["book","left","pressed"] qg f47 {} jj:=by ac_rfl
def qi:Stmt:=S 75
theorem agG:fnB ["kind","book","one","other","at","caught","e"] ["kind","book","one","other","at"] (aq qi)=true:=by ac_rfl
theorem agH:CK ["kind","book","one","other","at","caught","e"] qi f48 {} yM:=by ac_rfl
def qj:Stmt:=S 76
theorem agI:fnB ["pen","book","many","far","number","one","at"] ["pen","book"] (aq qj)=true:=by ac_rfl
theorem agJ:CK ["pen","book","many","far","number","one","at"] qj f49 {} yN:=by ac_rfl
def ql:Stmt:=S 64
theorem agK:fnB ["script","cells","k","cell"] ["script"] (aq ql)=true:=by ac_rfl
theorem agL:CK ["script","cells","k","cell"] ql f50 {} yO:=by ac_rfl
def qm:Stmt:=S 77
theorem agM:fnB ["script","pen","turn","width","rows","thing","kind"] ["script"] (aq qm)=true:=by ac_rfl
theorem agN:CK ["script","pen","turn","width","rows","thing","kind"] qm f51 {} yP:=by ac_rfl
theorem QH:(Str.ofString "0":Str)=tx [48]:=by ac_rfl
theorem agO:(Str.ofString "*":Str)=tx [42]:=by ac_rfl
theorem agP:FnScope ["form"] ["form"] (aq pN):=⟨rfl,rfl,rfl,by ac_rfl,rfl,by ac_rfl,by ac_rfl⟩
def agQ:Sp:=λvs H Q _=>∃l:List Nat,vs=[.str (tx l)]/\l.length<=1000/\Q (.str (tx (cG l))) H
theorem agR {P:Program} {w:World} {K:PF} {mg:Str->Option Value} {base:Heap} {f:Addr} {fd:FuncData} (F:Fun K "least" "least" pN f fd):FnOk P w K mg base CX0 1 f fd ["form"] agQ:=by
 refine F.ok1 agP rfl (by ac_rfl) (λ_=>rfl) (λvs H Q E h=>?_) (λcdv A outer s H vs Q E hr h=>?_)
 ·obtain ⟨l,rfl,_⟩:=h;rfl
 ·obtain ⟨l,rfl,hl,q⟩:=h;refine ⟨_,Xh (Xj (pv 0) (by ac_rfl)),?_⟩;refine ⟨_,rfl,_,rfl,?_,?_⟩
  ·rw[QH,bQ,bQ];simp;omega
  ·rw[agO,QH,Xi];exact q
theorem agS {P:Program} {w:World} {K:PF} {mg:Str->Option Value} {base:Heap} {f:Addr} {fd:FuncData} (F:Fun K "least" "least" pN f fd):FnOk P w K mg base CX0 1 f fd ["form"] (lift K 1 (aD kZ)):=by
 refine (agR F).imp λvs H Q E h=>?_;obtain ⟨e0,Fz,G,ds,r,t,⟨ds',G'⟩,⟨e1,e2⟩,e3,e4⟩:=h;cases e1;obtain ⟨d,hd⟩:=Option.isSome_iff_exists.mp e2;have hd2:=hd;unfold kZ at hd;split at hd
 ·rename_i l;split at hd
  ·rename_i hl;cases hd;obtain ⟨v,rfl,rv⟩:=bC t;obtain ⟨rfl,_⟩:=rv;have hl':l.length<=1000:=of_decide_eq_true hl;exact ⟨l,rfl,hl',(e3 _ _ ⟨rfl,hd2⟩).now r ⟨rfl,by unfold cG;rw[List.length_map];exact Nat.le_trans hl' (by decide)⟩⟩
  ·cases hd
 ·cases hd
noncomputable def fdM(n:Str)(st:Stmt)(m:Str)(t c:Nat):FuncData:=PySem.W.fnOf n n (lA st) (aF st) (aq st) .none .none .none (.str m t) none (.ref c) .none
theorem mkF {K:PF} {n m:Str} {st:Stmt} {a t c:Nat}(l:K.lookup a=some ⟨.type "function",none,.func (fdM n st m t c),⟨[]⟩⟩:=by rfl')(h1:PySem.W.codeIn K (.ref c) n=true:=by eq_refl)(h2:PySem.W.keepIn K (.ref a)=true:=by eq_refl):Fun K n n st a (fdM n st m t c):=W8 l h1 h2
theorem tK:type_of% @PySem.W.Fast.te538113369711794958:=PySem.W.Fast.te538113369711794958
local macro_rules|`(tactic|ac_nf)=>`(tactic|(intro _ _ _ _ _ _ us hl;first|(obtain ⟨_,h⟩:=cC hl;subst h;rfl)|(obtain ⟨_,_,h⟩:=bz hl;subst h;rfl)|(obtain ⟨_,_,_,h⟩:=gm hl;subst h;rfl)|(obtain ⟨_,_,_,_,h⟩:=yu hl;subst h;rfl)|(obtain ⟨_,_,_,_,_,h⟩:=acj hl;subst h;rfl)))
local macro_rules|`(tactic|eq_refl)=>`(tactic|(first|rw[tK]|(unfold NQ;rw[tK]));rfl')
section
variable {P:Params}
def QJ:FuncData:=fdM "_law_anew" oF LN 762 458
theorem QK:Fun (HK.K P) "_law_anew" "_law_anew" oF 459 QJ:=mkF
theorem agT:NQ P "_law_anew" 459:=by eq_refl
theorem agU:BQ P QJ ["pen"]:=QK.binds (by ac_nf)
def QL:FuncData:=fdM "_law_spread" oG LN 762 444
theorem QM:Fun (HK.K P) "_law_spread" "_law_spread" oG 445 QL:=mkF
theorem agV:NQ P "_law_spread" 445:=by eq_refl
theorem agW:BQ P QL ["cell","at"]:=QM.binds (by ac_nf)
def QQ:FuncData:=fdM "_law_take" oH LN 762 465
theorem QR:Fun (HK.K P) "_law_take" "_law_take" oH 466 QQ:=mkF
theorem agX:NQ P "_law_take" 466:=by eq_refl
theorem agY:BQ P QQ ["pen","many"]:=QR.binds (by ac_nf)
def QS:FuncData:=fdM "_law_signs" oJ LN 762 470
theorem QT:Fun (HK.K P) "_law_signs" "_law_signs" oJ 471 QS:=mkF
theorem agZ:NQ P "_law_signs" 471:=by eq_refl
theorem ag0:BQ P QS ["pen","width","signs"]:=QT.binds (by ac_nf)
def QV:FuncData:=fdM "_law_deeds_of" oK LN 762 503
theorem QW:Fun (HK.K P) "_law_deeds_of" "_law_deeds_of" oK 504 QV:=mkF
theorem ag1:NQ P "_law_deeds_of" 504:=by eq_refl
theorem ag2:BQ P QV ["pen","most"]:=QW.binds (by ac_nf)
def QX:FuncData:=fdM "_law_form" oM LN 762 477
theorem QZ:Fun (HK.K P) "_law_form" "_law_form" oM 478 QX:=mkF
theorem ag3:NQ P "_law_form" 478:=by eq_refl
theorem ag4:BQ P QX ["pen","width"]:=QZ.binds (by ac_nf)
def Q0:FuncData:=fdM "_law_wider" oN LN 762 491
theorem Q3:Fun (HK.K P) "_law_wider" "_law_wider" oN 492 Q0:=mkF
theorem ag5:NQ P "_law_wider" 492:=by eq_refl
theorem ag6:BQ P Q0 ["pen","form"]:=Q3.binds (by ac_nf)
def Q4:FuncData:=fdM "_law_within" oO LN 762 484
theorem Q5:Fun (HK.K P) "_law_within" "_law_within" oO 485 Q4:=mkF
theorem ag7:NQ P "_law_within" 485:=by eq_refl
theorem ag8:BQ P Q4 ["pen","form"]:=Q5.binds (by ac_nf)
def Q6:FuncData:=fdM "_law_form_like" oR LN 762 498
theorem Q7:Fun (HK.K P) "_law_form_like" "_law_form_like" oR 499 Q6:=mkF
theorem ag9:NQ P "_law_form_like" 499:=by eq_refl
theorem aha:BQ P Q6 ["pen","width","forms"]:=Q7.binds (by ac_nf)
def Q8:FuncData:=fdM "_law_book" oU LN 762 510
theorem Q9:Fun (HK.K P) "_law_book" "_law_book" oU 511 Q8:=mkF
theorem ahb:NQ P "_law_book" 511:=by eq_refl
theorem ahc:BQ P Q8 ["pen","widest","most"]:=Q9.binds (by ac_nf)
def Ra:FuncData:=fdM "_law_refusal" oV LN 762 517
theorem Rb:Fun (HK.K P) "_law_refusal" "_law_refusal" oV 518 Ra:=mkF
theorem ahd:NQ P "_law_refusal" 518:=by eq_refl
theorem ahe:BQ P Ra ["caught"]:=Rb.binds (by ac_nf)
def Rc:FuncData:=fdM "is_whole" oW "starsieve.forms" 433 203
theorem Rf:Fun (HK.K P) "is_whole" "is_whole" oW 204 Rc:=mkF
theorem ahf:NQ P "is_whole" 204:=by eq_refl
theorem my:BQ P Rc ["thing"]:=Rf.binds (by ac_nf)
def Rg:FuncData:=fdM "is_place" oX "starsieve.forms" 433 217
theorem Rh:Fun (HK.K P) "is_place" "is_place" oX 218 Rg:=mkF
theorem ahg:NQ P "is_place" 218:=by eq_refl
theorem mz:BQ P Rg ["many","thing"]:=Rh.binds (by ac_nf)
def Ri:FuncData:=fdM "fits" oY "starsieve.forms" 433 234
theorem Rj:Fun (HK.K P) "fits" "fits" oY 235 Ri:=mkF
theorem ahh:NQ P "fits" 235:=by eq_refl
theorem mC:BQ P Ri ["form","word"]:=Rj.binds (by ac_nf)
def Rk:FuncData:=fdM "lies_in" oZ "starsieve.forms" 433 241
theorem Rm:Fun (HK.K P) "lies_in" "lies_in" oZ 242 Rk:=mkF
theorem ahi:NQ P "lies_in" 242:=by eq_refl
theorem mD:BQ P Rk ["form","other"]:=Rm.binds (by ac_nf)
def Rn:FuncData:=fdM "with_sign" o7 "starsieve.forms" 433 248
theorem Ro:Fun (HK.K P) "with_sign" "with_sign" o7 249 Rn:=mkF
theorem ahj:NQ P "with_sign" 249:=by eq_refl
theorem mF:BQ P Rn ["form","at","sign"]:=Ro.binds (by ac_nf)
def Rp:FuncData:=fdM "joined" o8 "starsieve.forms" 433 260
theorem Rq:Fun (HK.K P) "joined" "joined" o8 261 Rp:=mkF
theorem ahk:NQ P "joined" 261:=by eq_refl
theorem mG:BQ P Rp ["form","other"]:=Rq.binds (by ac_nf)
def Rt:FuncData:=fdM "is_deed" o9 "starsieve.books" 520 272
theorem Ru:Fun (HK.K P) "is_deed" "is_deed" o9 273 Rt:=mkF
theorem ahl:NQ P "is_deed" 273:=by eq_refl
theorem j8:BQ P Rt ["thing"]:=Ru.binds (by ac_nf)
def Rv:FuncData:=fdM "is_text_of" ph "starsieve.forms" 433 222
theorem Rw:Fun (HK.K P) "is_text_of" "is_text_of" ph 223 Rv:=mkF
theorem ahm:NQ P "is_text_of" 223:=by eq_refl
theorem j9:BQ P Rv ["signs","width","thing"]:=Rw.binds (by ac_nf)
def Rx:FuncData:=fdM "is_form" pq "starsieve.forms" 433 229
theorem Ry:Fun (HK.K P) "is_form" "is_form" pq 230 Rx:=mkF
theorem ahn:NQ P "is_form" 230:=by eq_refl
theorem mH:BQ P Rx ["width","thing"]:=Ry.binds (by ac_nf)
def Rz:FuncData:=fdM "is_row" pA "starsieve.books" 520 279
theorem RB:Fun (HK.K P) "is_row" "is_row" pA 280 Rz:=mkF
theorem aho:NQ P "is_row" 280:=by eq_refl
theorem gn:BQ P Rz ["width","thing"]:=RB.binds (by ac_nf)
def RC:FuncData:=fdM "is_width" pB "starsieve.forms" 433 210
theorem RD:Fun (HK.K P) "is_width" "is_width" pB 211 RC:=mkF
theorem ahp:NQ P "is_width" 211:=by eq_refl
theorem mJ:BQ P RC ["thing"]:=RD.binds (by ac_nf)
def RG:FuncData:=fdM "is_book" pC "starsieve.books" 520 284
theorem RJ:Fun (HK.K P) "is_book" "is_book" pC 285 RG:=mkF
theorem ahq:NQ P "is_book" 285:=by eq_refl
theorem gq:BQ P RG ["thing"]:=RJ.binds (by ac_nf)
def RK:FuncData:=fdM "need_book" pF "starsieve.books" 520 291
theorem RL:Fun (HK.K P) "need_book" "need_book" pF 292 RK:=mkF
theorem ahr:NQ P "need_book" 292:=by eq_refl
theorem jc:BQ P RK ["book"]:=RL.binds (by ac_nf)
def RM:FuncData:=fdM "need_row" pG "starsieve.books" 520 305
theorem RN:Fun (HK.K P) "need_row" "need_row" pG 306 RM:=mkF
theorem ahs:NQ P "need_row" 306:=by eq_refl
theorem gZ:BQ P RM ["book","number"]:=RN.binds (by ac_nf)
def RP:FuncData:=fdM "without" pH "starsieve.lean" 662 378
theorem RQ:Fun (HK.K P) "without" "without" pH 379 RP:=mkF
theorem aht:NQ P "without" 379:=by eq_refl
theorem jd:BQ P RP ["book","number"]:=RQ.binds (by ac_nf)
def RT:FuncData:=fdM "joined_book" pI "starsieve.joins" 693 399
theorem RV:Fun (HK.K P) "joined_book" "joined_book" pI 400 RT:=mkF
theorem ahu:NQ P "joined_book" 400:=by eq_refl
theorem mK:BQ P RT ["book","one","other","at"]:=RV.binds (by ac_nf)
def RW:FuncData:=fdM "both" pJ "starsieve.forms" 433 255
theorem RX:Fun (HK.K P) "both" "both" pJ 256 RW:=mkF
theorem ahv:NQ P "both" 256:=by eq_refl
theorem mL:BQ P RW ["form","other"]:=RX.binds (by ac_nf)
def RZ:FuncData:=fdM "first_touching" pK "starsieve.laid" 579 340
theorem R0:Fun (HK.K P) "first_touching" "first_touching" pK 341 RZ:=mkF
theorem ahw:NQ P "first_touching" 341:=by eq_refl
theorem mO:BQ P RZ ["rows","box"]:=R0.binds (by ac_nf)
def R1:FuncData:=fdM "splitting_place" pL "starsieve.laid" 579 347
theorem R3:Fun (HK.K P) "splitting_place" "splitting_place" pL 348 R1:=mkF
theorem ahx:NQ P "splitting_place" 348:=by eq_refl
theorem mQ:BQ P R1 ["rows","box"]:=R3.binds (by ac_nf)
def z6:FuncData:=fdM "grown" pM "starsieve.laid" 579 352
theorem vp:Fun (HK.K P) "grown" "grown" pM 353 z6:=mkF
theorem R4:NQ P "grown" 353:=by eq_refl
theorem kh:BQ P z6 ["name","many_rows","box"]:=vp.binds (by ac_nf)
def R5:FuncData:=fdM "least" pN "starsieve.forms" 433 267
theorem z7:Fun (HK.K P) "least" "least" pN 268 R5:=mkF
theorem ahy:NQ P "least" 268:=by eq_refl
theorem ahz:BQ P R5 ["form"]:=z7.binds (by ac_nf)
def R6:FuncData:=fdM "is_named" pO "starsieve.laid" 579 326
theorem R7:Fun (HK.K P) "is_named" "is_named" pO 327 R6:=mkF
theorem ahA:NQ P "is_named" 327:=by eq_refl
theorem mR:BQ P R6 ["name","many","thing"]:=R7.binds (by ac_nf)
def z8:FuncData:=fdM "leaves" pP "starsieve.laid" 579 333
theorem vq:Fun (HK.K P) "leaves" "leaves" pP 334 z8:=mkF
theorem R8:NQ P "leaves" 334:=by eq_refl
theorem je:BQ P z8 ["box","tree"]:=vq.binds (by ac_nf)
def R9:FuncData:=fdM "need_two_books" pQ "starsieve.books" 520 298
theorem Sd:Fun (HK.K P) "need_two_books" "need_two_books" pQ 299 R9:=mkF
theorem ahB:NQ P "need_two_books" 299:=by eq_refl
theorem mU:BQ P R9 ["one","other"]:=Sd.binds (by ac_nf)
def Sg:FuncData:=fdM "deed_of" pR "starsieve.books" 520 312
theorem Sh:Fun (HK.K P) "deed_of" "deed_of" pR 313 Sg:=mkF
theorem ahC:NQ P "deed_of" 313:=by eq_refl
theorem kj:BQ P Sg ["book","number"]:=Sh.binds (by ac_nf)
def Sq:FuncData:=fdM "same_deeds" pU "starsieve.alike" 635 359
theorem Ss:Fun (HK.K P) "same_deeds" "same_deeds" pU 360 Sq:=mkF
theorem ahD:NQ P "same_deeds" 360:=by eq_refl
theorem mV:BQ P Sq ["one","other","leaf"]:=Ss.binds (by ac_nf)
def Su:FuncData:=fdM "stars" pW "starsieve.laid" 579 319
theorem Sv:Fun (HK.K P) "stars" "stars" pW 320 Su:=mkF
theorem ahE:NQ P "stars" 320:=by eq_refl
theorem mW:BQ P Su ["width"]:=Sv.binds (by ac_nf)
def Sw:FuncData:=fdM "alike" pX "starsieve.alike" 635 364
theorem Sy:Fun (HK.K P) "alike" "alike" pX 365 Sw:=mkF
theorem ahF:NQ P "alike" 365:=by eq_refl
theorem mX:BQ P Sw ["one","other"]:=Sy.binds (by ac_nf)
def SJ:FuncData:=fdM "parting_word" pY "starsieve.alike" 635 371
theorem SM:Fun (HK.K P) "parting_word" "parting_word" pY 372 SJ:=mkF
theorem ahG:NQ P "parting_word" 372:=by eq_refl
theorem mY:BQ P SJ ["one","other"]:=SM.binds (by ac_nf)
def SN:FuncData:=fdM "join" pZ "starsieve.joins" 693 416
theorem SQ:Fun (HK.K P) "join" "join" pZ 417 SN:=mkF
theorem ahH:NQ P "join" 417:=by eq_refl
theorem jf:BQ P SN ["book","one","other","at"]:=SQ.binds (by ac_nf)
def SX:FuncData:=fdM "candidates" p6 "starsieve.joins" 693 404
theorem S5:Fun (HK.K P) "candidates" "candidates" p6 405 SX:=mkF
theorem ahI:NQ P "candidates" 405:=by eq_refl
theorem mZ:BQ P SX ["book"]:=S5.binds (by ac_nf)
def S6:FuncData:=fdM "joins" p7 "starsieve.joins" 693 409
theorem S7:Fun (HK.K P) "joins" "joins" p7 410 S6:=mkF
theorem ahJ:NQ P "joins" 410:=by eq_refl
theorem jg:BQ P S6 ["book"]:=S7.binds (by ac_nf)
def S8:FuncData:=fdM "first_joined" p8 "starsieve.joins" 693 423
theorem S9:Fun (HK.K P) "first_joined" "first_joined" p8 424 S8:=mkF
theorem ahK:NQ P "first_joined" 424:=by eq_refl
theorem m5:BQ P S8 ["book"]:=S9.binds (by ac_nf)
def Tc:FuncData:=fdM "all_joined" qb "starsieve.joins" 693 430
theorem Td:Fun (HK.K P) "all_joined" "all_joined" qb 431 Tc:=mkF
theorem ahL:NQ P "all_joined" 431:=by eq_refl
theorem m6:BQ P Tc ["book"]:=Td.binds (by ac_nf)
def Te:FuncData:=fdM "needless" qd "starsieve.lean" 662 385
theorem Tf:Fun (HK.K P) "needless" "needless" qd 386 Te:=mkF
theorem ahM:NQ P "needless" 386:=by eq_refl
theorem jh:BQ P Te ["book","number"]:=Tf.binds (by ac_nf)
def Th:FuncData:=fdM "lean" qe "starsieve.lean" 662 392
theorem Ti:Fun (HK.K P) "lean" "lean" qe 393 Th:=mkF
theorem ahN:NQ P "lean" 393:=by eq_refl
theorem ji:BQ P Th ["book"]:=Ti.binds (by ac_nf)
def Tj:FuncData:=fdM "press" qg "starsieve.joins" 693 437
theorem Tn:Fun (HK.K P) "press" "press" qg 438 Tj:=mkF
theorem ahO:NQ P "press" 438:=by eq_refl
theorem jj:BQ P Tj ["book"]:=Tn.binds (by ac_nf)
def Tp:FuncData:=fdM "_law_told" qi LN 762 524
theorem Tq:Fun (HK.K P) "_law_told" "_law_told" qi 525 Tp:=mkF
theorem ahP:NQ P "_law_told" 525:=by eq_refl
theorem ahQ:BQ P Tp ["kind","book","one","other","at"]:=Tq.binds (by ac_nf)
def Tt:FuncData:=fdM "_law_numbers_right" qj LN 762 531
theorem Tu:Fun (HK.K P) "_law_numbers_right" "_law_numbers_right" qj 532 Tt:=mkF
theorem ahR:NQ P "_law_numbers_right" 532:=by eq_refl
theorem ahS:BQ P Tt ["pen","book"]:=Tu.binds (by ac_nf)
def Tv:FuncData:=fdM "_law_open" ql LN 762 451
theorem Tw:Fun (HK.K P) "_law_open" "_law_open" ql 452 Tv:=mkF
theorem ahT:NQ P "_law_open" 452:=by eq_refl
theorem ahU:BQ P Tv ["script"]:=Tw.binds (by ac_nf)
def z9:FuncData:=fdM "law" qm LN 762 538
theorem ahV:Fun (HK.K P) "law" "law" qm 539 z9:=mkF
theorem ahW:NQ P "law" 539:=by eq_refl
theorem ahX:PySem.W.nsIn (HK.K P) mainGlobals "all"=some none:=by eq_refl
theorem ahY:PySem.W.nsIn (HK.K P) mainGlobals "bool"=some none:=by eq_refl
theorem ahZ:PySem.W.nsIn (HK.K P) mainGlobals "enumerate"=some none:=by eq_refl
theorem ah0:PySem.W.nsIn (HK.K P) mainGlobals "int"=some none:=by eq_refl
theorem ah1:PySem.W.nsIn (HK.K P) mainGlobals "isinstance"=some none:=by eq_refl
theorem ah2:PySem.W.nsIn (HK.K P) mainGlobals "len"=some none:=by eq_refl
theorem ah3:PySem.W.nsIn (HK.K P) mainGlobals "list"=some none:=by eq_refl
theorem ah4:PySem.W.nsIn (HK.K P) mainGlobals "min"=some none:=by eq_refl
theorem ah5:PySem.W.nsIn (HK.K P) mainGlobals "range"=some none:=by eq_refl
theorem ah6:PySem.W.nsIn (HK.K P) mainGlobals "reversed"=some none:=by eq_refl
theorem ah7:PySem.W.nsIn (HK.K P) mainGlobals "str"=some none:=by eq_refl
theorem ah8:PySem.W.nsIn (HK.K P) mainGlobals "tuple"=some none:=by eq_refl
theorem ah9:PySem.W.nsIn (HK.K P) mainGlobals "zip"=some none:=by eq_refl
theorem aia:PySem.W.nsIn (HK.K P) mainGlobals "LETTERS"=some (some (.str "abcdefghijklmnopqrstuvwxyz" 526)):=by eq_refl
theorem aib:PySem.W.nsIn (HK.K P) mainGlobals "LONGEST_DEED"=some (some (.int 8 524)):=by eq_refl
theorem aic:PySem.W.nsIn (HK.K P) mainGlobals "MOST_ROWS"=some (some (.int 12 522)):=by eq_refl
theorem aid:PySem.W.nsIn (HK.K P) mainGlobals "WIDEST"=some (some (.int 6 435)):=by eq_refl
theorem x_s:xsB (HK.K P) xs=true:=by eq_refl
end
section
variable {l:PySem.W.OpenLaw} {w:World} {h:Heap} {mg:Str->Option Value} {base:Heap} (X:(HK.K w.params).In h) (G:h.Ns mainGlobals mg)
include X G
theorem B0:BB l w mg base 0 f0 {}:=bse trivial ⟨mg_none_of X G ahX,mg_none_of X G ahY,mg_none_of X G ahZ,mg_none_of X G ah0,mg_none_of X G ah1,mg_none_of X G ah2,mg_none_of X G ah3,mg_none_of X G ah4,mg_none_of X G ah5,mg_none_of X G ah6,mg_none_of X G ah7,mg_none_of X G ah8,mg_none_of X G ah9,trivial⟩ ⟨acn (mg_of X G aia) (by ac_rfl) (by decide),yx (mg_of X G aib),yx (mg_of X G aic),yx (mg_of X G aid),trivial⟩ X G x_s
theorem B1:BB l w mg base 1 f1 {}:=(B0 X G).step QK agU (mg_of X G agT) Py 0 ae9 afa rfl rfl (bV (λds G h=>acs Φ  ds G h))
theorem B2:BB l w mg base 2 f2 {}:=(B1 X G).step QM agW (mg_of X G agV) Pz 3 afb afc rfl rfl (bV (λds G h=>acr Φ  ds G h))
theorem B3:BB l w mg base 3 f3 {}:=(B2 X G).step QR agY (mg_of X G agX) gF 3 afd afe rfl rfl (bV (λds G h=>acu Φ Pz ds G h))
theorem B4:BB l w mg base 4 f4 {}:=(B3 X G).step QT ag0 (mg_of X G agZ) zR 0 afg afh rfl rfl (bV (λds G h=>acx Φ gF ds G h))
theorem B5:BB l w mg base 5 f5 {}:=(B4 X G).step QW ag2 (mg_of X G ag1) PK 4 afi afj rfl rfl (bV (λds G h=>acQ Φ gF zR ds G h))
theorem B6:BB l w mg base 6 f6 {}:=(B5 X G).step QZ ag4 (mg_of X G ag3) PL 0 afk afl rfl rfl (bV (λds G h=>acy Φ gF zR ds G h))
theorem B7:BB l w mg base 7 f7 {}:=(B6 X G).step Q3 ag6 (mg_of X G ag5) PN 2 afm afn rfl rfl (bV (λds G h=>acI Φ gF ds G h))
theorem B8:BB l w mg base 8 f8 {}:=(B7 X G).step Q5 ag8 (mg_of X G ag7) PP 2 afo afp rfl rfl (bV (λds G h=>acH Φ gF ds G h))
theorem B9:BB l w mg base 9 f9 {}:=(B8 X G).step Q7 aha (mg_of X G ag9) PQ 3 afq afr rfl rfl (bV (λds G h=>acN Φ gF PL PP PN ds G h))
theorem B10:BB l w mg base 10 f10 {}:=(B9 X G).step Q9 ahc (mg_of X G ahb) P0 5 afs aft rfl rfl (bV (λds G h=>acT Φ gF PK PQ ds G h))
theorem B11:BB l w mg base 11 f11 {}:=(B10 X G).step Rb ahe (mg_of X G ahd) Qa 2 afu afv rfl rfl (j7 (λa ds G h=>aeK Φ  a ds G h))
theorem B12:BB l w mg base 12 f12 {}:=(B11 X G).step Rf my (mg_of X G ahf) zT 0 afw afx rfl rfl (cN (λds G d h=>acA Φ  ds G d h))
theorem B13:BB l w mg base 13 f13 {}:=(B12 X G).step Rh mz (mg_of X G ahg) oA 0 afy afz rfl rfl (cN (λds G d h=>adH Φ zT ds G d h))
theorem B14:BB l w mg base 14 f14 {}:=(B13 X G).step Rj mC (mg_of X G ahh) Qc 0 afA afB rfl rfl (cN (λds G d h=>ac9 Φ  ds G d h))
theorem B15:BB l w mg base 15 f15 {}:=(B14 X G).step Rm mD (mg_of X G ahi) Qd 0 afC afD rfl rfl (cN (λds G d h=>adR Φ Qc ds G d h))
theorem B16:BB l w mg base 16 f16 {}:=(B15 X G).step Ro mF (mg_of X G ahj) vm 0 afE afF rfl rfl (cN (λds G d h=>adm Φ  ds G d h))
theorem B17:BB l w mg base 17 f17 {}:=(B16 X G).step Rq mG (mg_of X G ahk) Qe 1 afG afH rfl rfl (cN (λds G d h=>aen Φ Qd vm ds G d h))
theorem B18:BB l w mg base 18 f18 {}:=(B17 X G).step Ru j8 (mg_of X G ahl) Qf 0 afI afJ rfl rfl (cN (λds G d h=>acY Φ  ds G d h))
theorem B19:BB l w mg base 19 f19 {}:=(B18 X G).step Rw j9 (mg_of X G ahm) Qg 0 afK afL rfl rfl (cN (λds G d h=>acC Φ  ds G d h))
theorem B20:BB l w mg base 20 f20 {}:=(B19 X G).step Ry mH (mg_of X G ahn) Qh 0 afM afN rfl rfl (cN (λds G d h=>acD Φ Qg ds G d h))
theorem B21:BB l w mg base 21 f21 {}:=(B20 X G).step RB gn (mg_of X G aho) Qi 0 afO afP rfl rfl (cN (λds G d h=>acZ Φ Qh Qf ds G d h))
theorem B22:BB l w mg base 22 f22 {}:=(B21 X G).step RD mJ (mg_of X G ahp) Qj 0 afQ afR rfl rfl (cN (λds G d h=>acB Φ zT ds G d h))
theorem B23:BB l w mg base 23 f23 {}:=(B22 X G).step RJ gq (mg_of X G ahq) zU 2 afS afT rfl rfl (cN (λds G d h=>ac0 Φ Qj Qi ds G d h))
theorem B24:BB l w mg base 24 f24 {}:=(B23 X G).stepX RL jc (mg_of X G ahr) fO 0 afU afV rfl rfl (ig rfl (bV (λds G h=>ac6 Φ zU ds G h)) (λds G C h=>ac7 Φ zU ds G C h))
theorem B25:BB l w mg base 25 f25 {}:=(B24 X G).stepX RN gZ (mg_of X G ahs) vo 0 afW afX rfl rfl (ig rfl (dF (λa G h=>ad1 Φ fO oA a G h)) (λds G C h=>ad2 Φ fO oA ds G C h))
theorem B26:BB l w mg base 26 f26 {}:=(B25 X G).stepX RQ jd (mg_of X G aht) oE 2 afY afZ rfl rfl (ig rfl (dF (λa G h=>ad9 Φ vo a G h)) (λds G C h=>aea Φ vo ds G C h))
theorem B27:BB l w mg base 27 f27 {}:=(B26 X G).step RV mK (mg_of X G ahu) Qk 4 af0 af1 rfl rfl (dF (λa G h=>aep Φ Qe oE a G h))
theorem B28:BB l w mg base 28 f28 {}:=(B27 X G).step RX mL (mg_of X G ahv) Ql 3 af2 af3 rfl rfl (cN (λds G d h=>adk Φ  ds G d h))
theorem B29:BB l w mg base 29 f29 {}:=(B28 X G).step R0 mO (mg_of X G ahw) zV 2 af4 af5 rfl rfl (bV (λds G h=>adt Φ Ql ds G h))
theorem B30:BB l w mg base 30 f30 {}:=(B29 X G).step R3 mQ (mg_of X G ahx) Qm 3 af6 af7 rfl rfl (bV (λds G h=>adw Φ zV ds G h))
theorem Tz:∀n:Nat,FnOk l.prog w (HK.K w.params) mg base (CX1 l.prog w) (30+n) 353 z6 ["name","many_rows","box"] (lift (HK.K w.params) 3 (fK n))
 |0=>M8 adD
 |n+1=>uG (fs:=f31) vp ((B30 X G).self (by ac_rfl) (Tz n) vp.kp kh (mg_of X G R4)) (fK (n+1)) 3 4 af8 af9 rfl rfl (bV (λds G h=>adC (jb Φ "grown" (fK n)) n (if_pos rfl) (j5 zV rfl) (j5 Qm rfl) (j5 vm rfl) ds G h))
theorem B31:BB l w mg base 39 f31 {}:=(B30 X G).add (j:=9) Qn (Tz X G 9) vp.kp kh (mg_of X G R4)
theorem B32:BB l w mg base 40 f32 {}:=(B31 X G).add (j:=1) Qo ((agS z7).cx.mono (by decide)) z7.kp ahz (mg_of X G ahy)
theorem B33:BB l w mg base 41 f33 {}:=(B32 X G).step R7 mR (mg_of X G ahA) Qp 0 aga agb rfl rfl (cN (λds G d h=>adI Φ  ds G d h))
theorem TF:∀n:Nat,FnOk l.prog w (HK.K w.params) mg base (CX1 l.prog w) (41+n) 334 z8 ["box","tree"] (lift (HK.K w.params) 2 (eX n))
 |0=>M8 adL
 |n+1=>uG (fs:=f34) vq ((B33 X G).self (by ac_rfl) (TF n) vq.kp je (mg_of X G R8)) (eX (n+1)) 2 3 agc agd rfl rfl (dF (λa G h=>adN (jb Φ "leaves" (eX n)) n (if_pos rfl) (j5 Qp rfl) (j5 oA rfl) (j5 vm rfl) a G h))
theorem B34:BB l w mg base 50 f34 {}:=(B33 X G).add (j:=9) Qq (TF X G 9) vq.kp je (mg_of X G R8)
theorem B35:BB l w mg base 51 f35 {}:=(B34 X G).step Sd mU (mg_of X G ahB) Qs 0 age agf rfl rfl (dF (λa G h=>ad4 Φ fO a G h))
theorem B36:BB l w mg base 52 f36 {}:=(B35 X G).step Sh kj (mg_of X G ahC) Qt 0 agg agh rfl rfl (bV (λds G h=>adb Φ  ds G h))
theorem B37:BB l w mg base 53 f37 {}:=(B36 X G).step Ss mV (mg_of X G ahD) Qu 0 agi agj rfl rfl (dF (λa G h=>ad6 Φ Qt a G h))
theorem B38:BB l w mg base 54 f38 {}:=(B37 X G).step Sv mW (mg_of X G ahE) Qv 0 agk agl rfl rfl (cN (λds G d h=>adn Φ  ds G d h))
theorem B39:BB l w mg base 55 f39 {}:=(B38 X G).step Sy mX (mg_of X G ahF) zW 3 agm agn rfl rfl (j7 (λa ds G h=>ad7 Φ Qs Qn Qq Qo Qv Qu a ds G h))
theorem B40:BB l w mg base 56 f40 {}:=(B39 X G).step SM mY (mg_of X G ahG) zX 2 ago agp rfl rfl (dF (λa G h=>aei Φ zW a G h))
theorem B41:BB l w mg base 57 f41 {}:=(B40 X G).stepX SQ jf (mg_of X G ahH) Qw 2 agq agr rfl rfl (ig rfl (bV (λds G h=>h.elim)) (λds G C h=>aeN Φ vo oA ds G C h))
theorem B42:BB l w mg base 58 f42 {}:=(B41 X G).step S5 mZ (mg_of X G ahI) zY 3 ags agt rfl rfl (dF (λa G h=>aet Φ Qk a G h))
theorem B43:BB l w mg base 59 f43 {}:=(B42 X G).stepX S7 jg (mg_of X G ahJ) Qx 0 agu agv rfl rfl (ig rfl (dF (λa G h=>aev Φ fO zY zX a G h)) (λds G C h=>aew Φ fO ds G C h))
theorem B44:BB l w mg base 60 f44 {}:=(B43 X G).step S9 m5 (mg_of X G ahK) Qy 4 agw agx rfl rfl (dF (λa G h=>aex Φ zY zX a G h))
theorem B45:BB l w mg base 61 f45 {}:=(B44 X G).step Td m6 (mg_of X G ahL) Qz 2 agy agz rfl rfl (dF (λa G h=>aey Φ Qy a G h))
theorem B46:BB l w mg base 62 f46 {}:=(B45 X G).stepX Tf jh (mg_of X G ahM) QB 2 agA agB rfl rfl (ig rfl (j7 (λa ds G h=>aed Φ zW oE a ds G h)) (λds G C h=>aee Φ oE ds G C h))
theorem B47:BB l w mg base 63 f47 {}:=(B46 X G).stepX Ti ji (mg_of X G ahN) QC 2 agC agD rfl rfl (ig rfl (dF (λa G h=>aeg Φ fO QB oE a G h)) (λds G C h=>aeh Φ fO ds G C h))
theorem B48:BB l w mg base 64 f48 {}:=(B47 X G).stepX Tn jj (mg_of X G ahO) QD 2 agE agF rfl rfl (ig rfl (dF (λa G h=>aeC Φ fO Qz QC a G h)) (λds G C h=>aeD Φ fO ds G C h))
theorem B49:BB l w mg base 65 f49 {}:=(B48 X G).step Tq ahQ (mg_of X G ahP) zZ 2 agG agH rfl rfl (j7 (λa ds G h=>aeO Φ Qw Qx QD Qa a ds G h))
theorem B50:BB l w mg base 66 f50 {}:=(B49 X G).step Tu ahS (mg_of X G ahR) QF 5 agI agJ rfl rfl (j7 (λa ds G h=>aeX Φ gF zZ a ds G h))
theorem B51:BB l w mg base 67 f51 {}:=(B50 X G).step Tw ahU (mg_of X G ahT) QG 3 agK agL rfl rfl (bV (λds G h=>acz Φ  ds G h))
theorem aie:FnOk l.prog w (HK.K w.params) mg base (CX1 l.prog w) 68 539 z9 ["script"] (lift (HK.K w.params) 1 (m8)):=uG ahV (B51 X G) (m8) 1 6 agM agN rfl rfl (bV (λds G h=>ae2 Φ ⟨QG,Py,P0,zZ,QF⟩ ds G h))
omit X G in
theorem all (fa:Addr) (X:(HK.K w.params).In h) (G:h.Ns mainGlobals mg) (hfa:mg "law"=some (.ref fa)):∃fd:FuncData,(∀(s:Shared) (v:Value),BindsTo s fd ⟨[v],[]⟩ [("script",v)])/\∀base:Heap,(HK.K w.params).In base->base.Ns mainGlobals mg->FnOk l.prog w (HK.K w.params) mg base (CX1 l.prog w) 68 fa fd ["script"] (lift (HK.K w.params) 1 (m8)):=by have e:=hfa.symm.trans (PySem.W.mg_of X G ahW);cases e;exact ⟨z9,λs v=>.of_eq rfl,λbase _ _=>aie X G⟩
end
theorem walk {l:PySem.W.OpenLaw} {q:Program} {loose:List Str} {XP:(Str->Option Value)->Heap->Prop} {d:DefRec} (hn:l.most=some 63) (hdf:d.params.defaults=[]) (hdn:d.name="law"):
  PySem.W.WalkO q loose XP HK.hook.says l.row.toRowW d [] (λf vs=>PySem.call f vs):=
 L2.W7 (n:=63) (k:=68) (x:="script") (K:=HK.K) (CX:=λw=>CX1 l.prog w) (sp:=λw=>lift (HK.K w.params) 1 (m8)) hn (by decide) hdf ⟨rfl,by decide,by decide⟩ (λ_ _ Y=>Y) (λw mg fa h X G hmg=>all fa X G (hdn ▸ hmg)) (λw H a ns hl hO hS=>aco (acp λns _ hl=>⟨ns,rfl,hl⟩) (HK.K w.params) H a ns hl hO hS) λ_ _ _ _ _ z=>ab9 z
end Lk42
open PySem PySem.W PyProof.Rows
set_option maxHeartbeats 0 in
theorem PySem.Challenge.cw_starsieve_k42_joins_refused_holds : PySem.Challenge.rw_starsieve_k42_joins_refused.Holds := by
 have said:PySem.Challenge.rw_starsieve_k42_joins_refused.row.wellSaid=true:=by ac_rfl
 refine ⟨by ac_rfl,?_⟩;refine PySem.W.holds_open (q:=HK.qv) (loose:=[]) (Xt:=HK.Xt) (XP:=XL HK.qv []) (Yf:=HK.hook.obs) (Ya:=HK.hook.val) (YP:=HK.hook.says) (N:=12000) HK.left HK.hook.of HK.hook.keeps
  (λs e=>xl_of s (Bool.and_eq_true_iff.mp e).1) XL.keeps (by rfl) (by rfl) (by rfl) (λs e=>recFacts_of (Bool.and_eq_true_iff.mp e).2) (by rfl) (by assumption) (by ac_rfl) ⟨rfl,rfl,rfl,rfl,rfl,by ac_rfl⟩ ?hw ?hc
 case hw=>exact ⟨[.list []],by ac_rfl,by ac_rfl⟩
 exact Lk42.walk rfl rfl rfl
