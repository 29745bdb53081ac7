import PyProof.Rows.All
import Wide.All
import OpenK.AllK
import Wide.FinOn
import Lean
import PyProof.EqAt
import PyProof.EqKinds
import PyProof.TupleCall
import PyProof.NeKinds
import PyProof.FactsAll.range_2
import PyProof.FactsAll.tuple_2
import PyProof.FactsAll.tuple
import PyProof.ListRange
import PySem.Challenge.RW_starsieve_k63_two_sieves_by_turns
set_option compiler.extract_closed false
set_option bootstrap.genMatcherCode false
set_option genSizeOf false
set_option Elab.async false
set_option maxRecDepth 100000
noncomputable section
local macro_rules|`(tactic|rfl')=>`(tactic|kernel_rfl)
local macro_rules|`(tactic|ac_rfl)=>`(tactic|decide +kernel)
abbrev PF:=PySem.W.Frag
set_option linter.all false
namespace L2
open PySem PySem.Spec PyProof.Rows
noncomputable def ae:=@Bool.and_eq_true
noncomputable def af:=@And.intro
noncomputable def ag:=@PySem.wpAny_bind
noncomputable def ah:=@List.length_map
noncomputable def am:=@PySem.Heap.get?_push_of_some
noncomputable def ar:=@List.size_toArray
noncomputable def av:=@List.getElem?_eq_some_iff
noncomputable def aw:=@List.length_append
noncomputable def ax:=@Nat.le_refl
noncomputable def ay:=@List.mem_append_right
noncomputable def aE:=@beq_iff_eq
noncomputable def aI:=@PySem.Heap.lt_size
noncomputable def aS:=@List.mem_cons
noncomputable def aT:=@Option.some.injEq
noncomputable def a7:=@List.mem_singleton
noncomputable def a8:=@List.mem_append
noncomputable def a9:=@List.mem_cons_of_mem
noncomputable def ba:=@List.getElem?_eq_getElem
noncomputable def bb:=@List.contains_iff_mem
noncomputable def bd:=@PySem.Heap.get?_push_size
noncomputable def bg:=@PySem.wpAny_pure
noncomputable def bi:=@Option.map_eq_some_iff
noncomputable def bn:=@Nat.lt_of_lt_of_le
noncomputable def bo:=@List.length_take
noncomputable def bp:=@List.drop_eq_getElem_cons
noncomputable def bq:=@List.map_cons
noncomputable def br:=@List.mem_cons_self
noncomputable def bv:=@Nat.le_trans
theorem bP:type_of% @List.length_singleton:=@List.length_singleton
noncomputable def bS:=@List.getElem?_map
noncomputable def bX:=@List.map_append
noncomputable def b6:=@Bool.false_ne_true
theorem b9:type_of% @List.replicate_succ:=@List.replicate_succ
noncomputable def ca:=@List.mem_map
noncomputable def cb:=@decide_eq_true
noncomputable def ce:=@List.length_drop
noncomputable def cf:=@List.all_eq_true
noncomputable def ci:=@decide_eq_true_iff
noncomputable def ck:=@Nat.le_add_right
noncomputable def cm:=@Nat.ne_of_lt
noncomputable def cp:=@Option.isSome_iff_exists
noncomputable def cq:=@decide_eq_false
noncomputable def cr:=@Int.eq_ofNat_of_zero_le
noncomputable def cw:=@PySem.wpAny_mono
noncomputable def cy:=@List.mem_of_getElem?
noncomputable def cK:=@Bool.or_eq_true
noncomputable def cS:=@beq_eq_false_iff_ne
theorem c5:type_of% @List.length_cons:=@List.length_cons
noncomputable def c6:=@List.length_eq_zero_iff
noncomputable def c8:=@List.cons.injEq
noncomputable def c9:=@List.getElem_mem
noncomputable def dc:=@of_decide_eq_true
noncomputable def de:=@List.length_replicate
noncomputable def df:=@PySem.W.kia_one
noncomputable def dk:=@Option.some.inj
noncomputable def dn:=@List.map_nil
noncomputable def dr:=@List.dropLast_concat_getLast
noncomputable def dv:=@PySem.wpAny_field
noncomputable def dy:=@PySem.F.plainAttrs_list
noncomputable def dA:=@List.mem_append_left
noncomputable def dE:=@PySem.Heap.size_push
theorem dL:type_of% @Array.length_toList:=@Array.length_toList
theorem dP:type_of% @Int.toNat_natCast:=@Int.toNat_natCast
noncomputable def dQ:=@PySem.mem_of_lookup
noncomputable def dS:=@List.mem_filter
noncomputable def d4:=@List.length_set
noncomputable def d5:=@List.nodup_cons
noncomputable def d6:=@List.take_of_length_le
noncomputable def ed:=@PySem.wpAny_truthy_bool
noncomputable def ee:=@Nat.lt_irrefl
noncomputable def eg:=@List.drop_length
noncomputable def eh:=@List.getD_eq_getElem?_getD
noncomputable def ej:=@PySem.wpAny_holding
noncomputable def ek:=@List.getElem?_append_left
noncomputable def et:=@PySem.wpAny_setField_rec
noncomputable def ey:=@PySem.wpAny_seqItems
noncomputable def ez:=@and_true
noncomputable def eI:=@Nat.zero_le
theorem eJ:type_of% @List.flatten_cons:=@List.flatten_cons
noncomputable def eK:=@PyProof.Rows.slot_tuple_getitem
noncomputable def eL:=@Nat.min_le_right
noncomputable def eM:=@List.not_mem_nil
noncomputable def eP:=@Int.emod_lt_of_pos
noncomputable def eS:=@PySem.wpAny_callSpecial?_slot
noncomputable def eT:=@congrArg
noncomputable def eW:=@List.append_nil
noncomputable def fb:=@Int.emod_nonneg
noncomputable def fe:=@Array.getElem?_toList
noncomputable def ff:=@PyProof.Rows.callWith_type1
noncomputable def fg:=@List.take_add_one
noncomputable def fh:=@Bool.not_eq_true'
noncomputable def fi:=@PySem.call_meets
noncomputable def fk:=@Nat.le_succ
noncomputable def fm:=@List.take_length
noncomputable def fo:=@List.isEmpty_iff
theorem fq:type_of% @List.filterMap_cons:=@List.filterMap_cons
noncomputable def ft:=@Option.isNone_iff_eq_none
noncomputable def fv:=@List.length_pos_iff
noncomputable def fw:=@PySem.F.slot_tuple_iterator_next
noncomputable def fy:=@List.filter_append
noncomputable def fA:=@List.findIdx?_eq_some_iff_getElem
noncomputable def fE:=@Nat.ne_of_gt
noncomputable def fF:=@List.filter_eq_nil_iff
noncomputable def fI:=@PySem.sizeLine_eq
noncomputable def fN:=@List.cons_lt_cons_iff
noncomputable def fR:=@PySem.wpAny_call_entry
noncomputable def fS:=@PySem.wpAny_standAt
noncomputable abbrev Key:=Sum Int Str
noncomputable def Ak:Key->Value->Bool
 |.inl k,v=>Value.isInt k v
 |.inr x,v=>Value.isStrOf x v
noncomputable def Ud(w:World):Key->Int
 |.inl k=>hashInt k
 |.inr x=>hashStr w x
theorem fM:∀{k:Key}{v:Value},Ak k v=true->(∃i t,k=Sum.inl i/\v=Value.int i t)\/(∃x t,k=Sum.inr x/\v=Value.str x t)
 |.inl i,v,h=>by
  obtain ⟨t,e⟩:=Value.isInt_shape (k:=i) (v:=v) h;exact .inl ⟨i,t,rfl,e⟩
 |.inr x,v,h=>by
  obtain ⟨t,e⟩:=Value.isStrOf_shape (x:=x) (v:=v) h;exact .inr ⟨x,t,rfl,e⟩
theorem Ue(a b:Int):decide ((Sum.inl a:Key)=Sum.inl b)=(a==b):=by
 by_cases e:a=b
 ·subst e;simp
 ·have h:¬(Sum.inl a:Key)=Sum.inl b:=λq=>e (Sum.inl.inj q);rw[cq h];exact (cS.mpr e).symm
theorem Ug(a b:Str):decide ((Sum.inr a:Key)=Sum.inr b)=decide (a=b):=by
 by_cases e:a=b
 ·subst e;simp
 ·have h:¬(Sum.inr a:Key)=Sum.inr b:=λq=>e (Sum.inr.inj q);rw[cq h,cq e]
theorem Uh(a:Int)(b:Str):decide ((Sum.inl a:Key)=Sum.inr b)=false:=cq (λq=>nomatch q)
theorem Ui(a:Str)(b:Int):decide ((Sum.inr a:Key)=Sum.inl b)=false:=cq (λq=>nomatch q)
noncomputable def u5(prog:Program)(w:World):PySem.KeyKind prog w Key where
 is:=Ak
 hash:=Ud w
 inj:=λv a b ha hb=>by
  rcases fM ha with ⟨i,t,rfl,rfl⟩ |⟨x,t,rfl,rfl⟩
  ·rcases fM hb with ⟨j,u,rfl,e⟩ |⟨y,u,rfl,e⟩
   ·injection e with e1 _;rw[e1]
   ·exact nomatch e
  ·rcases fM hb with ⟨j,u,rfl,e⟩ |⟨y,u,rfl,e⟩
   ·exact nomatch e
   ·injection e with e1 _;rw[e1]
 byValue:=λk v h=>by
  rcases fM h with ⟨i,t,rfl,rfl⟩ |⟨x,t,rfl,rfl⟩ <;> rfl
 pyHash:=λhv h=>by
  rcases fM hv with ⟨i,t,rfl,rfl⟩ |⟨x,t,rfl,rfl⟩
  ·exact wpAny_pyHash_int h
  ·exact wpAny_pyHash_str h
 eqBool:=λhu hv h=>by
  rcases fM hu with ⟨i,t,rfl,rfl⟩ |⟨x,t,rfl,rfl⟩
  ·rcases fM hv with ⟨j,u,rfl,rfl⟩ |⟨y,u,rfl,rfl⟩
   ·rw[Ue]at h;exact wpAny_eqBool_int h
   ·rw[Uh]at h;exact SeqAt.EqAt.int_str i t y u _ _ _ _ h
  ·rcases fM hv with ⟨j,u,rfl,rfl⟩ |⟨y,u,rfl,rfl⟩
   ·rw[Ui]at h;exact SeqAt.EqAt.str_int x t j u _ _ _ _ h
   ·rw[Ug]at h;exact wpAny_eqBool_str h
 «strs»:=λk x t v h=>by
  rcases fM h with ⟨i,u,rfl,e⟩ |⟨y,u,rfl,e⟩
  ·exact nomatch e
  ·injection e with e1 _;subst e1;cases v <;> rfl
inductive V where
 |non |bl (b:Bool) |int (i:Int) |str (x:Str) |byt (b:Array UInt8) |flt (b:UInt64) |ref (a:Addr) |ty (n:String)
 deriving DecidableEq
noncomputable def RelV:V->Value->Prop
 |.non,u=>u=Value.none
 |.bl b,u=>u=Value.bool b
 |.int i,u=>∃t,u=Value.int i t
 |.str x,u=>∃t,u=Value.str x t
 |.byt b,u=>∃t,u=Value.bytes b t
 |.flt b,u=>∃t,u=Value.float b t
 |.ref a,u=>u=Value.ref a
 |.ty n,u=>u=Value.type n
noncomputable abbrev Vals:List V->List Value->Prop:=Paired RelV
theorem Vals.length{xs:List V}{us:List Value}(r:Vals xs us):xs.length=us.length:=Paired.length r
theorem Vals.get:∀{xs:List V}{us:List Value}{i:Nat}{x:V},Vals xs us->xs[i]?=some x->∃u,us[i]?=some u/\RelV x u
 |_,_,_,_,.nil,e=>by simp at e
 |_,_,0,_,.cons r _,e=>by simp at e;subst e;exact ⟨_,rfl,r⟩
 |_,_,i+1,x,.cons _ t,e=>by
  obtain ⟨u,h1,h2⟩:=Vals.get (i:=i) (x:=x) t (by simpa using e);exact ⟨u,by simpa using h1,h2⟩
theorem Vals.set{x:V}{u:Value}(r:RelV x u):∀{xs:List V}{us:List Value}(i:Nat),Vals xs us->Vals (xs.set i x) (us.set i u)
 |_,_,_,.nil=>.nil
 |_,_,0,.cons _ t=>.cons r t
 |_,_,i+1,.cons q t=>.cons q (Vals.set r i t)
theorem Vals.append:∀{xs ys:List V}{us ws:List Value},Vals xs us->Vals ys ws->Vals (xs++ys) (us++ws)
 |_,_,_,_,.nil,s=>s
 |_,_,_,_,.cons r t,s=>.cons r (Vals.append t s)
theorem Vals.take:∀{xs:List V}{us:List Value}(n:Nat),Vals xs us->Vals (xs.take n) (us.take n)
 |_,_,0,_=>.nil
 |_,_,_+1,.nil=>.nil
 |_,_,n+1,.cons r t=>.cons r (Vals.take n t)
theorem Vals.drop:∀{xs:List V}{us:List Value}(n:Nat),Vals xs us->Vals (xs.drop n) (us.drop n)
 |_,_,0,r=>r
 |_,_,_+1,.nil=>.nil
 |_,_,n+1,.cons _ t=>Vals.drop n t
noncomputable def RelO:Option V->Option Value->Prop
 |some v,some u=>RelV v u
 |none,none=>True
 |_,_=>False
noncomputable def KV{κ:Type}:List (κ×V)->List (κ×Value)->Prop:=Paired λ(p:κ×V) (q:κ×Value)=>p.1=q.1/\RelV p.2 q.2
noncomputable def kV:Key->V
 |.inl i=>.int i
 |.inr x=>.str x
inductive HO where
 |lst (xs:List V)
 |tup (xs:List V)
 |dK (kvs:List (Key×V)) |dT (kvs:List (List Key×V))
 |set (S:Int->Bool) (n:Nat)
 |ins (C dx:Addr) (fs:List (Str×V))
 |own (x:Addr)
 |xd (fs:List (Str×V))
 |met (f x:Addr)
 |rng (lo hi:Int)
 |frz (o:Obj) (u:HO)
 |tbl (ps:Array Value)
 |ext (φ:Heap->Prop)
noncomputable abbrev Hp:=Addr->Option HO
noncomputable def upd(H:Hp)(a:Addr)(o:HO):Hp:=λb=>if b=a then some o else H b
theorem cL{H:Hp}{a:Addr}{o:HO}:upd H a o a=some o:=by unfold upd;rw[if_pos rfl]
theorem aJ{H:Hp}{a b:Addr}{o:HO}(h:b≠a):upd H a o b=H b:=by unfold upd;rw[if_neg h]
theorem Al{H:Hp}{a b:Addr}{o u:HO}(h:H a=some o)(h':H b=some u)(d:o≠u):a≠b:=by intro e;subst e;rw[h]at h';exact d (dk h')
theorem bf{H:Hp}{a b:Addr}{o:HO}(h:H a=some o)(h':H b=none):a≠b:=by intro e;subst e;rw[h]at h';cases h'
section
variable (P:Program) (w:World)
noncomputable def ObjOk(H:Hp)(h:Heap)(a:Addr):HO->Prop
 |.lst xs=>xs.length<=sizeLine/\∃(its:List Value) (n:Nat),Vals xs its/\h.get? a=some { cls:=.type "list",data:=.seq its.toArray n }
 |.tup xs=>xs.length<=sizeLine/\∃its:List Value,Vals xs its/\IsTup h a its.toArray
 |.dK kvs=>kvs.length<=sizeLine/\(a==sysModules)=false/\∃vs,KV kvs vs/\h.DictOf (u5 P w) a vs
 |.dT kvs=>kvs.length<=sizeLine/\(a==sysModules)=false/\∃xs:List (List Key×Addr×Value),
   Paired (λ(p:List Key×V) (q:List Key×Addr×Value)=>p.1=q.1/\H q.2.1=some (.tup (p.1.map kV))/\RelV p.2 q.2.2) kvs xs/\
   ∃o es ep,h.get? a=some o/\o.ExactDict/\o.data=.dict es ep/\es.toList=xs.map (entryOfKey (tupleKind (u5 P w)))/\(xs.map (·.1)).Nodup
 |.set S n=>h.SetOf (intKind P w) a S n
 |.ins C dx fs=>H dx=some (.own a)/\fs.length<=1000/\dx≠a/\h.get? a=some (PySem.W.instObj C dx)/\
   ∃mA,h.Ns1 dx mA/\(∀f,RelO (fs.lookup f) (mA f))/\PySem.Within mA (fs.map (·.1))
 |.own _=>∃o,h.get? a=some o
 |.xd fs=>∃mA,h.Ns1 a mA/\∀f,RelO (fs.lookup f) (mA f)
 |.rng lo hi=>∃t u v,h.get? a=some { cls:=.type "range",data:=.fields #[.int lo t,.int hi u,.int 1 v] }
 |.frz o u=>h.get? a=some o/\ObjOk H h a u
 |.tbl ps=>h.get? a=some { cls:=.none,data:=.fields ps }
 |.met f x=>h.get? a=some (PySem.W.methodObj (.ref f) (.ref x))
 |.ext φ=>φ h/\(∃o,h.get? a=some o)/\∀h1 h2:Heap,φ h1->(∀o,h1.get? a=some o->h2.get? a=some o)->φ h2
noncomputable def HOk(H:Hp)(h:Heap):Prop:=∀a o,H a=some o->ObjOk P w H h a o
end
section
variable {P:Program} {w:World} {H H':Hp} {h h':Heap} {a:Addr} {o:HO}
theorem ObjOk.lt(x:ObjOk P w H h a o):a < h.objs.size:=by
 cases o with
 |lst xs=>obtain ⟨_,_,_,_,e⟩:=x;exact aI e
 |tup xs=>obtain ⟨_,_,_,p⟩:=x;exact p.lt
 |dK kvs=>obtain ⟨_,_,_,_,o,_,_,e,_⟩:=x;exact aI e
 |dT kvs=>obtain ⟨_,_,_,_,o,_,_,e,_⟩:=x;exact aI e
 |set S n=>obtain ⟨o,_,_,_,e,_⟩:=x;exact aI e
 |ins C dx fs=>obtain ⟨_,_,_,e,_⟩:=x;exact aI e
 |own y=>obtain ⟨_,e⟩:=x;exact aI e
 |xd fs=>obtain ⟨_,⟨_,_,_,e,_⟩,_⟩:=x;exact aI e
 |rng lo hi=>obtain ⟨_,_,_,e⟩:=x;exact aI e
 |frz ob u=>obtain ⟨e,_⟩:=x;exact aI e
 |tbl ps=>exact aI (show h.get? a=some _ from x)
 |met f y=>exact aI (show h.get? a=some _ from x)
 |ext φ=>obtain ⟨_,⟨_,e⟩,_⟩:=x;exact aI e
theorem Paired.mapP{α β:Type}{F G:α->β->Prop}:∀{l₁:List α}{l₂:List β},Paired F l₁ l₂->(∀a b,F a b->G a b)->Paired G l₁ l₂
 |_,_,.nil,_=>.nil
 |_,_,.cons r t,f=>.cons (f _ _ r) (Paired.mapP t f)
theorem ObjOk.stay(x:ObjOk P w H h a o)(k:∀b u,(b=a\/H b=some (.own a))->h.get? b=some u->h'.get? b=some u)
  (ho:∀b,H b=some (.own a)->H' b=some (.own a)) (ht:∀b xs,H b=some (.tup xs)->H' b=some (.tup xs)):ObjOk P w H' h' a o:=by
 induction o with
 |lst xs=>obtain ⟨z,its,n,r,e⟩:=x;exact ⟨z,its,n,r,k _ _ (.inl rfl) e⟩
 |tup xs=>obtain ⟨z,its,r,ob,e,c⟩:=x;exact ⟨z,its,r,ob,k _ _ (.inl rfl) e,c⟩
 |dK kvs=>obtain ⟨z,y,vs,r,ob,es,ep,e,c⟩:=x;exact ⟨z,y,vs,r,ob,es,ep,k _ _ (.inl rfl) e,c⟩
 |dT kvs=>
  obtain ⟨z,y,xs,r,ob,es,ep,e,c⟩:=x;exact ⟨z,y,xs,Paired.mapP r λp q z=>⟨z.1,ht _ _ z.2.1,z.2.2⟩,ob,es,ep,k _ _ (.inl rfl) e,c⟩
 |set S n=>obtain ⟨ob,es,ep,t,e,c⟩:=x;exact ⟨ob,es,ep,t,k _ _ (.inl rfl) e,c⟩
 |ins C dx fs=>
  obtain ⟨d,z,ne,e,mA,⟨od,es,ep,e2,c⟩,r⟩:=x;exact ⟨ho _ d,z,ne,k _ _ (.inl rfl) e,mA,⟨od,es,ep,k _ _ (.inr d) e2,c⟩,r⟩
 |own y=>obtain ⟨ob,e⟩:=x;exact ⟨ob,k _ _ (.inl rfl) e⟩
 |xd fs=>obtain ⟨mA,⟨od,es,ep,e,c⟩,r⟩:=x;exact ⟨mA,⟨od,es,ep,k _ _ (.inl rfl) e,c⟩,r⟩
 |rng lo hi=>obtain ⟨t,u,v,e⟩:=x;exact ⟨t,u,v,k _ _ (.inl rfl) e⟩
 |frz ob u ih=>obtain ⟨e,q⟩:=x;exact ⟨k _ _ (.inl rfl) e,ih q⟩
 |tbl ps=>
  have e:h.get? a=some { cls:=.none,data:=.fields ps }:=x;show h'.get? a=some { cls:=.none,data:=.fields ps };exact k a _ (.inl rfl) e
 |met f y=>
  have e:h.get? a=some (PySem.W.methodObj (.ref f) (.ref y)):=x;show h'.get? a=some (PySem.W.methodObj (.ref f) (.ref y));exact k a _ (.inl rfl) e
 |ext φ=>obtain ⟨p,⟨o,e⟩,st⟩:=x;exact ⟨st _ _ p λo q=>k _ _ (.inl rfl) q,⟨o,k _ _ (.inl rfl) e⟩,st⟩
theorem HOk.lt(x:HOk P w H h)(e:H a=some o):a < h.objs.size:=(x a o e).lt
theorem HOk.fresh(x:HOk P w H h)(e:h.objs.size<=a):H a=none:=by
 cases q:H a with
 |none=>rfl
 |some u=>exact absurd (bn (x.lt q) e) (ee _)
theorem HOk.kept(x:HOk P w H h)(k:∀b u,h.get? b=some u->h'.get? b=some u):HOk P w H h':=λa o e=>
 (x a o e).stay (λb u _ q=>k b u q) (λ_ q=>q) λ_ _ q=>q
theorem HOk.laid(x:HOk P w H h)(k:∀b u,h.get? b=some u->h'.get? b=some u)(hp:h.objs.size<=a)(new:ObjOk P w (upd H a o) h' a o):HOk P w (upd H a o) h':=λb u e=>by
 have hn:=x.fresh hp;by_cases hb:b=a
 ·subst hb;rw[cL]at e;cases e;exact new
 ·rw[aJ hb]at e;exact (x b u e).stay (λc v _ q=>k c v q) (λc q=>by rw[aJ (bf q hn)];exact q) λc xs q=>by rw[aJ (bf q hn)];exact q
end
noncomputable def Rd(H:Hp)(a:Addr)(u:HO):Prop:=H a=some u\/∃o,H a=some (.frz o u)
theorem Rd.ok{P:Program}{w:World}{H:Hp}{h:Heap}{a:Addr}{u:HO}(r:Rd H a u)(x:HOk P w H h):ObjOk P w H h a u:=by
 rcases r with r |⟨o,r⟩
 ·exact x a u r
 ·obtain ⟨_,q⟩:=x a _ r;exact q
noncomputable def Mut:Option HO->Prop
 |some (.lst _)=>True
 |some (.dK _)=>True
 |some (.dT _)=>True
 |some (.set _ _)=>True
 |some (.ins _ _ _)=>True
 |some (.ext _)=>True
 |_=>False
section
variable {P:Program} {w:World} {H:Hp} {h h':Heap} {x e:Addr} {o':HO}
theorem HOk.write(ok:HOk P w H h)(mu:Mut (H x))(he:e=x\/H e=some (.own x))(k:∀b u,b≠e->h.get? b=some u->h'.get? b=some u)(heo:∃u,h'.get? e=some u)
  (new:ObjOk P w (upd H x o') h' x o'):HOk P w (upd H x o') h':=λb u q=>by
 have nown:∀c y,H c=some (.own y)->c≠x:=λc y r z=>by subst z;rw[r]at mu;exact mu
 have ntup:∀c xs,H c=some (.tup xs)->c≠x:=λc xs r z=>by subst z;rw[r]at mu;exact mu
 by_cases hb:b=x
 ·subst hb;rw[cL]at q;cases q;exact new
 ·rw[aJ hb]at q;by_cases hbe:b=e
  ·have q':H b=some (.own x):=by
    rcases he with z |z
    ·exact absurd (hbe.trans z) hb
    ·rw[hbe];exact z
   rw[q]at q';cases q';obtain ⟨v,hv⟩:=heo;exact ⟨v,by rw[hbe];exact hv⟩
  ·refine (ok b u q).stay (λc v hc r=>k c v ?_ r) (λc r=>by rw[aJ (nown c b r)];exact r) λc xs r=>by rw[aJ (ntup c xs r)];exact r
   rcases hc with rfl |hc
   ·exact hbe
   ·rintro rfl;rcases he with z |z
    ·exact nown c b hc z
    ·rw[hc]at z;cases z;exact hb rfl
end
structure Un(fs ex:List Addr)(H H':Hp)(h h':Heap):Prop where
 keep:∀b o,h.get? b=some o->H b=none->b∉fs->b∉ex->h'.get? b=some o
 slot:∀b o,h.get? b=some o->H b=none->b∈fs->b∉ex->∃sl,h'.get? b=some { o with slots:=sl }
 free:∀b o,h.get? b=some o->H b=none->b∉ex->H' b=none
 there:∀b o,h.get? b=some o->b∉ex->∃o',h'.get? b=some o'
 tups:∀b xs,H b=some (.tup xs)->H' b=some (.tup xs)
 frzs:∀b o u,H b=some (.frz o u)->H' b=some (.frz o u)
 tbls:∀b ps,H b=some (.tbl ps)->∃more,H' b=some (.tbl (ps++more))
section
variable {fs fs' ex ex':List Addr} {H H1 H2:Hp} {h h1 h2 h':Heap} {a x e:Addr} {o:HO}
theorem Un.any(u:Un fs ex H H1 h h1){b:Addr}{ob:Obj}(q:h.get? b=some ob)(n:H b=none)(hx:b∉ex):∃sl,h1.get? b=some { ob with slots:=sl }:=by
 by_cases hb:b∈fs
 ·exact u.slot b ob q n hb hx
 ·exact ⟨ob.slots,u.keep b ob q n hb hx⟩
theorem Un.kept(k:∀b u,h.get? b=some u->h'.get? b=some u):Un fs ex H H h h':=
 ⟨λb ob q _ _ _=>k b ob q,λb ob q _ _ _=>⟨ob.slots,k b ob q⟩,λ_ _ _ n _=>n,λb ob q _=>⟨ob,k b ob q⟩,λ_ _ q=>q,λ_ _ _ q=>q,λ_ ps q=>⟨#[],by rw[q];simp⟩⟩
theorem Un.refl:Un fs ex H H h h:=Un.kept λ_ _ q=>q
theorem Un.laid(k:∀b u,h.get? b=some u->h'.get? b=some u)(hp:h.objs.size<=a)(hn:H a=none):Un fs ex H (upd H a o) h h' where
 keep:=λb u q _ _ _=>k b u q
 slot:=λb u q _ _ _=>⟨u.slots,k b u q⟩
 free:=λb u q n _=>by rw[aJ (cm (bn (aI q) hp))];exact n
 there:=λb u q _=>⟨u,k b u q⟩
 tups:=λb xs q=>by rw[aJ (bf q hn)];exact q
 frzs:=λb u xs q=>by rw[aJ (bf q hn)];exact q
 tbls:=λb ps q=>⟨#[],by rw[aJ (bf q hn),q];simp⟩
theorem Un.write(mu:Mut (H x))(he:e=x\/H e=some (.own x))(k:∀b u,b≠e->h.get? b=some u->h'.get? b=some u)(heo:∃u,h'.get? e=some u):Un fs ex H (upd H x o) h h':=by
 have hx:∀b,H b=none->b≠x:=λb n z=>by subst z;rw[n]at mu;exact mu
 have hb:∀b,H b=none->b≠e:=λb n z=>by
  subst z;rcases he with r |r
  ·exact hx b n r
  ·rw[n]at r;cases r
 have hm:∀b u,H b=some u->¬Mut (some u)->b≠x:=λb u q nm z=>by subst z;rw[q]at mu;exact nm mu
 refine ⟨λb u q n _ _=>k b u (hb b n) q,λb u q n _ _=>⟨u.slots,k b u (hb b n) q⟩,λb u q n _=>by rw[aJ (hx b n)];exact n,λb u q _=>?_,
  λb xs q=>by rw[aJ (hm b _ q λz=>z)];exact q,λb u xs q=>by rw[aJ (hm b _ q λz=>z)];exact q,λb ps q=>⟨#[],by rw[aJ (hm b _ q λz=>z),q];simp⟩⟩
 by_cases hbe:b=e
 ·subst hbe;exact heo
 ·exact ⟨u,k b u hbe q⟩
end
noncomputable def trk(h:Heap)(H:Hp):List Addr:=(List.range h.objs.size).filter λa=>(H a).isSome
noncomputable def du(h:Heap)(H:Hp):Heap:=PySem.W.hideAll h (trk h H)
theorem Uj(h:Heap)(H:Hp):(du h H).objs.size=h.objs.size:=PySem.W.hideAll_size _ _
theorem Uk{h:Heap}{H:Hp}{b:Addr}{o:Obj}(e:h.get? b=some o)(n:H b=none):(du h H).get? b=some o:=
 PySem.W.hideAll_get _ e λhm=>by
  have q:(H b).isSome=true:=(dS.mp hm).2;rw[n]at q;simp at q
theorem Ul{h:Heap}{H:Hp}{b:Addr}{o:Obj}(e:(du h H).get? b=some o):h.get? b=some o/\H b=none:=by
 have e':h.get? b=some o:=PySem.W.of_hideAll (trk h H) e;refine ⟨e',?_⟩;cases q:H b with
 |none=>rfl
 |some x=>
  have hm:b∈trk h H:=dS.mpr ⟨List.mem_range.mpr (aI e'),by simp[q]⟩;have z:(du h H).get? b=none:=PySem.W.hideAll_none (trk h H) hm;rw[z]at e;cases e
noncomputable def Um(g h:Heap)(L:Addr):List (Addr×Obj):=(List.range h.objs.size).filterMap λa=>if a=L\/(g.get? a).isSome=true then none else (h.get? a).map λo=>(a,o)
noncomputable def rest(g h:Heap)(L d:Addr):List (Addr×Obj):=(Um g h L).filter λp=>decide (p.1≠d)
structure Mod(K:PF)(mg:Str->Option Value)(base:Heap):Prop where
 kin:K.In base
 glob:base.Ns mainGlobals mg
 blt:∃mb,base.Ns builtinsNs mb/\∀x:Str,x≠"__name__"->mb x=bootBuiltins x
 nolimit:base.NoLimit
structure Cx where
 prog:Program
 w:World
 K:PF
 mg:Str->Option Value
 base:Heap
 A:Around
 N:List Str
 s₀:Shared
 H₀:Hp
 env:Env
 outer:List Env
 stack:List Env
 ex:List Addr
 fn:Str->Bool
 calm:Bool
 pn:List (Addr×Obj)
 xe:Value->Shared->Prop
noncomputable def frs(l:List Env):List Addr:=l.filterMap (·.frame)
noncomputable abbrev Cx.fs(X:Cx):List Addr:=frs X.outer
noncomputable def Vis(sc:Scope)(x:Str):Prop:=sc.names.lookup x=some .local\/sc.names.lookup x=some .cell\/sc.names.lookup x=some .free
noncomputable def Loc(sc:Scope)(x:Str):Prop:=sc.names.lookup x=some .local\/sc.names.lookup x=some .cell
noncomputable def Look(env:Env)(h:Heap)(m:Str->Option Value)(x:Str)(u:Value):Prop:=
 (env.kindOf x=some .local/\m x=some u)\/((env.kindOf x=some .cell\/env.kindOf x=some .free)/\∃c,env.cells.lookup x=some c/\h.IsCell c (some u))
structure Cx.Ok(X:Cx):Prop where
 mod:Mod X.K X.mg X.base
 kind:X.env.scope.kind=.function
 glob:X.env.globals=mainGlobals
 blt:X.env.builtins=builtinsNs
 above:X.s₀.heap.objs.size<=X.env.locals
 inj:∀x y c,X.env.cells.lookup x=some c->X.env.cells.lookup y=some c->x=y
 has:∀x,(X.env.kindOf x=some .cell\/X.env.kindOf x=some .free)->∃c,X.env.cells.lookup x=some c
 cab:∀x c,X.fn x=true->X.env.cells.lookup x=some c->X.s₀.heap.objs.size<=c
 hd:X.calm=true->X.A.handled=none
 frames:X.A.frames=some X.stack
 stk:X.stack=X.outer\/(X.stack=X.env::X.outer/\X.env.frame=some X.env.locals)
 exf:∀b∈X.ex,b≠X.env.locals/\∀x c,X.env.cells.lookup x=some c->c≠b
 bs:∀b o,X.base.get? b=some o->X.s₀.heap.get? b=some o/\X.H₀ b=none
 bsz:X.base.objs.size<=X.s₀.heap.objs.size
 noex:∀b o,X.base.get? b=some o->b∉X.ex
 exfs:∀b∈X.ex,b∉X.fs
 funs:X.s₀.heap.FunFrames X.base X.outer
 frf:∀b∈X.fs,X.H₀ b=none
structure Inv(X:Cx)(pins:List (Addr×Obj))(σ:List (Option V))(H:Hp)(s:Shared):Prop where
 ok:X.Ok
 os:s.os=X.s₀.os
 bare:AllBare s.gens
 base:Un X.fs X.ex X.H₀ H X.s₀.heap s.heap
 loc:∃m,s.heap.Ns X.env.locals m/\∀(i:Nat)(x:Str)(v:V),X.N[i]?=some x->σ[i]?=some (some v)->Vis X.env.scope x->∃u,RelV v u/\Look X.env s.heap m x u
 cell:∀x c,X.env.cells.lookup x=some c->∃v,s.heap.IsCell c v
 free:H X.env.locals=none
 freeC:∀x c,X.env.cells.lookup x=some c->H c=none
 pin:∀p∈X.pn++pins,s.heap.get? p.1=some p.2/\H p.1=none/\p.1≠X.env.locals/\p.1∉X.fs/\∀v,p.2.data≠.cell v
 hok:HOk X.prog X.w H s.heap
 len:σ.length=X.N.length
section
variable {X:Cx} {pins:List (Addr×Obj)} {σ:List (Option V)} {H H':Hp} {s:Shared} {h':Heap}
theorem Cx.Ok.nofr(ok:X.Ok){b:Addr}{o:Obj}(e:X.base.get? b=some o):b∉X.fs:=λhb=>by
 have:=(ok.funs.mem hb).1;rw[e]at this;cases this
theorem Inv.bs(I:Inv X pins σ H s):∀b o,X.base.get? b=some o->s.heap.get? b=some o/\H b=none:=λb o e=>
 ⟨I.base.keep b o (I.ok.bs b o e).1 (I.ok.bs b o e).2 (I.ok.nofr e) (I.ok.noex b o e),I.base.free b o (I.ok.bs b o e).1 (I.ok.bs b o e).2 (I.ok.noex b o e)⟩
theorem Inv.bk(I:Inv X pins σ H s):∀b o,X.base.get? b=some o->s.heap.get? b=some o:=λb o e=>(I.bs b o e).1
theorem Inv.mod(I:Inv X pins σ H s):Mod X.K X.mg X.base:=I.ok.mod
theorem Inv.kIn(I:Inv X pins σ H s):X.K.In s.heap:=I.ok.mod.kin.keeps I.bk
theorem Inv.lt(I:Inv X pins σ H s):X.env.locals < s.heap.objs.size:=let ⟨_,hn,_⟩:=I.loc;hn.lt
theorem Inv.sz(I:Inv X pins σ H s):X.s₀.heap.objs.size<=s.heap.objs.size:=bv I.ok.above (Nat.le_of_lt I.lt)
theorem Inv.nofs(I:Inv X pins σ H s){a:Addr}(h:s.heap.objs.size<=a):a∉X.fs:=λhb=>by
 obtain ⟨_,o,ho,_⟩:=I.ok.funs.mem hb;exact absurd (bn (aI ho) (bv I.sz h)) (ee _)
theorem Inv.cne(I:Inv X pins σ H s):∀x c,X.env.cells.lookup x=some c->c≠X.env.locals:=λx c e z=>by
 obtain ⟨v,o,ho,hd⟩:=I.cell x c e;obtain ⟨m,⟨o',es,ep,ho',hd',_⟩,_⟩:=I.loc;rw[z,ho']at ho;cases ho;rw[hd']at hd;cases hd
theorem Inv.funs(I:Inv X pins σ H s):s.heap.FunFrames X.base X.outer:=by
 have all:∀(l:List Env),(∀b∈frs l,b∈X.fs)->X.s₀.heap.FunFrames X.base l->s.heap.FunFrames X.base l:=by
  intro l;induction l with
  |nil=>intro _ _;trivial
  |cons env r ih=>
   intro hs hl;obtain ⟨hk,⟨L,o,hf,hn,ho,hd⟩,hr⟩:=hl;have hL:L∈X.fs:=hs L (by unfold frs;rw[fq,hf];exact br);obtain ⟨sl,e⟩:=I.base.slot L o ho (I.ok.frf L hL) hL λz=>I.ok.exfs L z hL;exact ⟨hk,⟨L,_,hf,hn,e,hd⟩,ih (λb hb=>hs b (by unfold frs;rw[fq,hf];exact a9 _ hb)) hr⟩
 exact all X.outer (λ_ hb=>hb) I.ok.funs
theorem Inv.stack(I:Inv X pins σ H s):s.heap.FunFrames X.base X.stack:=by
 rcases I.ok.stk with e |⟨e,hf⟩
 ·rw[e];exact I.funs
 ·rw[e];obtain ⟨m,hn,_⟩:=I.loc;refine .cons (by rw[I.ok.kind];decide) hf hn ?_ I.funs;exact Heap.get?_none_of_le (bv I.ok.bsz I.ok.above)
theorem Inv.stkSub(I:Inv X pins σ H s):∀b∈frs X.stack,b∈X.env.locals::X.fs:=λb hb=>by
 rcases I.ok.stk with e |⟨e,hf⟩
 ·rw[e]at hb;exact a9 _ hb
 ·rw[e]at hb;unfold frs at hb;rw[fq,hf]at hb;exact hb
theorem Inv.stkFree(I:Inv X pins σ H s):∀b∈frs X.stack,H b=none:=λb hb=>by
 rcases aS.mp (I.stkSub b hb) with e |hb
 ·rw[e];exact I.free
 ·obtain ⟨_,o,ho,_⟩:=I.ok.funs.mem hb;exact I.base.free b o ho (I.ok.frf b hb) λz=>I.ok.exfs b z hb
theorem Inv.step{g':Array GenState}{t':Nat}{d':Drawn}{ch:List Addr}(I:Inv X pins σ H s)
  (hch:∀b∈ch,(b∈X.ex\/X.s₀.heap.objs.size<=b)/\b≠X.env.locals/\(∀x c,X.env.cells.lookup x=some c->c≠b)/\∀p∈X.pn++pins,p.1≠b)
  (keep:∀b o,b≠X.env.locals->b∉X.fs->b∉ch->s.heap.get? b=some o->H b=none->h'.get? b=some o)
  (slot:∀b o,b≠X.env.locals->b∈X.fs->b∉ch->s.heap.get? b=some o->H b=none->∃sl,h'.get? b=some { o with slots:=sl }) (free:∀b o,b∉ch->s.heap.get? b=some o->H b=none->H' b=none)
  (there:∀b o,b∉ch->s.heap.get? b=some o->∃o',h'.get? b=some o')
  (tups:∀b xs,H b=some (.tup xs)->H' b=some (.tup xs)) (frzs:∀b o u,H b=some (.frz o u)->H' b=some (.frz o u)) (tbls:∀b ps,H b=some (.tbl ps)->∃more,H' b=some (.tbl (ps++more)))
  (ns:∀m,s.heap.Ns X.env.locals m->h'.Ns X.env.locals m) (hok:HOk X.prog X.w H' h') (hg:AllBare g'):
  Inv X pins σ H' { s with heap:=h',gens:=g',drawn:=d',toks:=t' }:=by
 have neL:∀b o,X.s₀.heap.get? b=some o->b≠X.env.locals:=λb o e=>cm (bn (aI e) I.ok.above);have neC:∀b o,X.s₀.heap.get? b=some o->b∉X.ex->b∉ch:=λb o e hx hb=>by
  rcases (hch b hb).1 with z |z
  ·exact hx z
  ·exact absurd (bn (aI e) z) (ee _)
 have cellK:∀x c,X.env.cells.lookup x=some c->∀v,s.heap.IsCell c v->h'.IsCell c v:=λx c e v ⟨o,ho,hd⟩=>by
  have nch:c∉ch:=λz=>(hch c z).2.2.1 x c e rfl;by_cases hc:c∈X.fs
  ·obtain ⟨sl,q⟩:=slot c o (I.cne x c e) hc nch ho (I.freeC x c e);exact ⟨_,q,hd⟩
  ·exact ⟨o,keep c o (I.cne x c e) hc nch ho (I.freeC x c e),hd⟩
 refine ⟨I.ok,I.os,hg,⟨λb o e n hb hx=>?_,λb o e n hb hx=>?_,λb o e n hx=>?_,λb o e hx=>?_,λb xs e=>tups b xs (I.base.tups b xs e),λb o xs e=>frzs b o xs (I.base.frzs b o xs e),λb ps e=>?_⟩,?_,λx c e=>?_,?_,λx c e=>?_,λp hp=>?_,hok,I.len⟩
 ·exact keep b o (neL b o e) hb (neC b o e hx) (I.base.keep b o e n hb hx) (I.base.free b o e n hx)
 ·obtain ⟨sl,e1⟩:=I.base.slot b o e n hb hx;obtain ⟨sl',e2⟩:=slot b _ (neL b o e) hb (neC b o e hx) e1 (I.base.free b o e n hx);exact ⟨sl',e2⟩
 ·obtain ⟨o',e1⟩:=I.base.there b o e hx;exact free b o' (neC b o e hx) e1 (I.base.free b o e n hx)
 ·obtain ⟨o',e1⟩:=I.base.there b o e hx;exact there b o' (neC b o e hx) e1
 ·obtain ⟨m1,e1⟩:=I.base.tbls b ps e;obtain ⟨m2,e2⟩:=tbls b _ e1;exact ⟨m1++m2,by rw[e2,Array.append_assoc]⟩
 ·obtain ⟨m,hn,hl⟩:=I.loc;refine ⟨m,ns m hn,λi x v e1 e2 e3=>?_⟩;obtain ⟨u,r,l⟩:=hl i x v e1 e2 e3;refine ⟨u,r,?_⟩;rcases l with l |⟨k,c,e,z⟩
  ·exact .inl l
  ·exact .inr ⟨k,c,e,cellK x c e _ z⟩
 ·obtain ⟨v,z⟩:=I.cell x c e;exact ⟨v,cellK x c e v z⟩
 ·obtain ⟨m,⟨o,_,_,ho,_⟩,_⟩:=I.loc;exact free _ o (λz=>(hch _ z).2.1 rfl) ho I.free
 ·obtain ⟨v,o,ho,hd⟩:=I.cell x c e;exact free c o (λz=>(hch c z).2.2.1 x c e rfl) ho (I.freeC x c e)
 ·obtain ⟨e,n,ne,nf,d⟩:=I.pin p hp;have nch:p.1∉ch:=λz=>(hch p.1 z).2.2.2 p hp rfl;exact ⟨keep p.1 p.2 ne nf nch e n,free p.1 p.2 nch e n,ne,nf,d⟩
theorem Inv.un{t':Nat}(I:Inv X pins σ H s)(u:Un X.fs [] H H' s.heap h')(hok:HOk X.prog X.w H' h'):Inv X pins σ H' { s with heap:=h',toks:=t' }:=by
 obtain ⟨m,⟨o,es,ep,ho,r⟩,_⟩:=id I.loc;obtain ⟨sl,hL⟩:=u.any ho I.free (by simp);exact I.step (g':=s.gens) (d':=s.drawn) (ch:=[]) (λ_ z=>nomatch z) (λb o _ hb _ e n=>u.keep b o e n hb (by simp)) (λb o _ hb _ e n=>u.slot b o e n hb (by simp)) (λb o _ e n=>u.free b o e n (by simp)) (λb o _ e=>u.there b o e (by simp)) u.tups u.frzs u.tbls (λm' hm=>by
  obtain ⟨o',es',ep',ho',r'⟩:=hm;rw[ho]at ho';cases ho';exact ⟨_,es',ep',hL,r'⟩) hok I.bare
theorem Inv.call{g':Array GenState}{t':Nat}{d':Drawn}{ch:List Addr}(I:Inv X pins σ H s)(u:Un (frs X.stack) ch H H' s.heap h')(hok:HOk X.prog X.w H' h')(hg:AllBare g')
  (hch:∀b∈ch,(b∈X.ex\/X.s₀.heap.objs.size<=b)/\b≠X.env.locals/\(∀x c,X.env.cells.lookup x=some c->c≠b)/\∀p∈X.pn++pins,p.1≠b):
  Inv X pins σ H' { s with heap:=h',gens:=g',drawn:=d',toks:=t' }:=by
 obtain ⟨m,⟨o,es,ep,ho,r⟩,_⟩:=id I.loc;obtain ⟨sl,hL⟩:=u.any ho I.free λz=>(hch _ z).2.1 rfl;exact I.step (ch:=ch) hch (λb o hL hb hc e n=>u.keep b o e n (λz=>(aS.mp (I.stkSub b z)).elim hL hb) hc) (λb o _ _ hc e n=>u.any e n hc) (λb o hc e n=>u.free b o e n hc) (λb o hc e=>u.there b o e hc) u.tups u.frzs u.tbls (λm' hm=>by
  obtain ⟨o',es',ep',ho',r'⟩:=hm;rw[ho]at ho';cases ho';exact ⟨_,es',ep',hL,r'⟩) hok hg
theorem Inv.turned{t':Nat}{it:Addr}(I:Inv X pins σ H s)(k:∀b o,b≠it->s.heap.get? b=some o->h'.get? b=some o)(hn:H it=none)(hL:it≠X.env.locals)
  (h1:it∈X.ex\/X.s₀.heap.objs.size<=it) (h2:∀x c,X.env.cells.lookup x=some c->c≠it) (h3:∀p∈X.pn++pins,p.1≠it):Inv X pins σ H { s with heap:=h',toks:=t' }:=by
 have nit:∀b u,H b=some u->b≠it:=λb u e z=>by rw[z,hn]at e;cases e
 refine I.step (g':=s.gens) (d':=s.drawn) (ch:=[it]) (λb hb=>?_) (λb o _ _ hc e _=>k b o (λz=>hc (by simp[z])) e) (λb o _ _ hc e _=>⟨o.slots,k b o (λz=>hc (by simp[z])) e⟩) (λ_ _ _ _ n=>n)
  (λb o hc e=>⟨o,k b o (λz=>hc (by simp[z])) e⟩) (λ_ _ e=>e) (λ_ _ _ e=>e) (λb ps e=>⟨#[],by rw[e];simp⟩) (λm hm=>?_) (λb u e=>?_) I.bare
 ·have e:b=it:=by simpa using hb
  subst e;exact ⟨h1,hL,h2,h3⟩
 ·obtain ⟨o,es,ep,ho,r⟩:=hm;exact ⟨o,es,ep,k _ o (Ne.symm hL) ho,r⟩
 ·refine (I.hok b u e).stay (λc v hc q=>k c v ?_ q) (λ_ q=>q) λ_ _ q=>q;rcases hc with z |z
  ·rw[z];exact nit b u e
  ·exact nit c _ z
theorem Inv.tok(I:Inv X pins σ H s)(t:Nat):Inv X pins σ H { s with toks:=t }:=I.un (h':=s.heap) (t':=t) Un.refl I.hok
theorem Inv.kept{t':Nat}(I:Inv X pins σ H s)(k:∀b u,s.heap.get? b=some u->h'.get? b=some u):Inv X pins σ H { s with heap:=h',toks:=t' }:=I.un (Un.kept k) (I.hok.kept k)
theorem Inv.laid{a:Addr}{o:HO}{t':Nat}(I:Inv X pins σ H s)(k:∀b u,s.heap.get? b=some u->h'.get? b=some u)(hp:s.heap.objs.size<=a)(new:ObjOk X.prog X.w (upd H a o) h' a o):
  Inv X pins σ (upd H a o) { s with heap:=h',toks:=t' }:=I.un (Un.laid k hp (I.hok.fresh hp)) (I.hok.laid k hp new)
theorem Inv.write{x e:Addr}{o:HO}{t':Nat}(I:Inv X pins σ H s)(mu:Mut (H x))(he:e=x\/H e=some (.own x))(k:∀b u,b≠e->s.heap.get? b=some u->h'.get? b=some u)(heo:∃u,h'.get? e=some u)
  (new:ObjOk X.prog X.w (upd H x o) h' x o):Inv X pins σ (upd H x o) { s with heap:=h',toks:=t' }:=I.un (Un.write mu he k heo) (I.hok.write mu he k heo new)
theorem Inv.pins_of{pins':List (Addr×Obj)}(I:Inv X pins σ H s)(h:∀p∈pins',s.heap.get? p.1=some p.2/\H p.1=none/\p.1≠X.env.locals/\p.1∉X.fs/\∀v,p.2.data≠.cell v):Inv X pins' σ H s:=
 ⟨I.ok,I.os,I.bare,I.base,I.loc,I.cell,I.free,I.freeC,λp hp=>(a8.mp hp).elim (λz=>I.pin p (dA _ z)) (h p),I.hok,I.len⟩
theorem Am{N:List Str}(hN:N.Nodup){i j:Nat}{x:Str}(a:N[i]?=some x)(b:N[j]?=some x):i=j:=by obtain ⟨h1,e1⟩:=av.mp a;obtain ⟨h2,e2⟩:=av.mp b;exact (List.getElem_inj hN).mp (e1.trans e2.symm)
theorem Uo{M:Model}{A:Around}{E:Value->Shared->Prop}{i:Nat}{x:Str}{v:V}{u:Value}{Q:Unit->Shared->Prop}(I:Inv X pins σ H s)(hN:X.N.Nodup)(hi:X.N[i]?=some x)(hx:Loc X.env.scope x)(r:RelV v u)
  (h:∀s',Inv X pins (σ.set i (some v)) H s'->(∃a,Heap.SameBut a s.heap s'.heap/\(a=X.env.locals\/X.env.cells.lookup x=some a))->Q () s') (hf:X.fn x=true\/X.env.scope.names.lookup x=some .local:=by first |exact .inl rfl |exact .inr rfl |assumption):wpAny M A (storeName X.env x u) Q E s:=by
 obtain ⟨m,hn,hl⟩:=id I.loc;have hcls:(X.env.scope.kind==.class||(X.env.scope.kind==.module&&X.env.locals != X.env.globals))=false:=by rw[I.ok.kind];rfl
 have hiσ:i < σ.length:=by rw[I.len];exact (av.mp hi).1
 have cne:=I.cne;have tracked:∀{a:Addr}{h':Heap},(∃o,s.heap.get? a=some o/\H a=none)->Heap.SameBut a s.heap h'->HOk X.prog X.w H h':=λ{a h'} ha hs b ob e=>by
  obtain ⟨_,_,hfree⟩:=ha;refine (I.hok b ob e).stay (λc w' hc q=>(hs.2 c ?_).trans q) (λ_ q=>q) λ_ _ q=>q;rintro rfl;rcases hc with rfl |hc
  ·rw[hfree]at e;cases e
  ·rw[hfree]at hc;cases hc
 rcases hx with hk |hk
 ·refine wpAny_storeName_local hk hn (λh' hn' hs=>?_) hcls;obtain ⟨oL,_,_,hoL,_⟩:=id hn;refine h _ ⟨I.ok,I.os,I.bare,⟨λb o e n hb hx=>?_,λb o e n hb hx=>?_,I.base.free,λb o e hx=>?_,I.base.tups,I.base.frzs,I.base.tbls⟩,⟨_,hn',λj y v' e1 e2 e3=>?_⟩,λy c e=>?_,I.free,I.freeC,λp hp=>?_,tracked ⟨oL,hoL,I.free⟩ hs,by simpa using I.len⟩ ⟨_,hs,.inl rfl⟩
  ·exact (hs.2 b (cm (bn (aI e) I.ok.above))).trans (I.base.keep b o e n hb hx)
  ·obtain ⟨sl,e1⟩:=I.base.slot b o e n hb hx;exact ⟨sl,(hs.2 b (cm (bn (aI e) I.ok.above))).trans e1⟩
  ·obtain ⟨o',e1⟩:=I.base.there b o e hx;exact ⟨o',(hs.2 b (cm (bn (aI e) I.ok.above))).trans e1⟩
  ·by_cases hj:j=i
   ·subst hj;rw[hi]at e1;cases e1;rw[List.getElem?_set_self hiσ]at e2;cases e2;exact ⟨u,r,.inl ⟨hk,by simp⟩⟩
   ·rw[List.getElem?_set_ne (Ne.symm hj)]at e2;obtain ⟨u',r',q⟩:=hl j y v' e1 e2 e3;refine ⟨u',r',?_⟩;rcases q with ⟨k,e⟩ |⟨k,c,e,z⟩
    ·refine .inl ⟨k,?_⟩;have:y≠x:=λe=>hj (Am hN e1 (e ▸ hi));simp[this,e]
    ·exact .inr ⟨k,c,e,z.sameBut hs (cne y c e)⟩
  ·obtain ⟨w',z⟩:=I.cell y c e;exact ⟨w',z.sameBut hs (cne y c e)⟩
  ·obtain ⟨e,n,ne,nf,d⟩:=I.pin p hp;exact ⟨(hs.2 p.1 ne).trans e,n,ne,nf,d⟩
 ·have hfn:X.fn x=true:=by
   rcases hf with z |z
   ·exact z
   ·rw[z]at hk;cases hk
  obtain ⟨c,hc⟩:=I.ok.has x (.inl hk);obtain ⟨w',z⟩:=I.cell x c hc;refine wpAny_storeName_cell I.ok.kind hk hc z (λh' hc' hs=>?_);obtain ⟨oc,hoc,hocd⟩:=id z;refine h { s with heap:=h' } ⟨I.ok,I.os,I.bare,⟨λb o e n hb hx=>?_,λb o e n hb hx=>?_,I.base.free,λb o e hx=>?_,I.base.tups,I.base.frzs,I.base.tbls⟩,⟨m,hn.sameBut hs (Ne.symm (cne x c hc)),λj y v' e1 e2 e3=>?_⟩,λy c' e=>?_,I.free,I.freeC,λp hp=>?_,tracked ⟨oc,hoc,I.freeC x c hc⟩ hs,by simpa using I.len⟩ ⟨c,hs,.inr hc⟩
  ·exact (hs.2 b (cm (bn (aI e) (I.ok.cab x c hfn hc)))).trans (I.base.keep b o e n hb hx)
  ·obtain ⟨sl,e1⟩:=I.base.slot b o e n hb hx;exact ⟨sl,(hs.2 b (cm (bn (aI e) (I.ok.cab x c hfn hc)))).trans e1⟩
  ·obtain ⟨o',e1⟩:=I.base.there b o e hx;exact ⟨o',(hs.2 b (cm (bn (aI e) (I.ok.cab x c hfn hc)))).trans e1⟩
  ·by_cases hj:j=i
   ·subst hj;rw[hi]at e1;cases e1;rw[List.getElem?_set_self hiσ]at e2;cases e2;exact ⟨u,r,.inr ⟨.inl hk,c,hc,hc'⟩⟩
   ·rw[List.getElem?_set_ne (Ne.symm hj)]at e2;obtain ⟨u',r',q⟩:=hl j y v' e1 e2 e3;refine ⟨u',r',?_⟩;rcases q with q |⟨k,c',e,z'⟩
    ·exact .inl q
    ·refine .inr ⟨k,c',e,z'.sameBut hs ?_⟩;rintro rfl;exact hj (Am hN e1 (I.ok.inj _ _ _ e hc ▸ hi))
  ·by_cases hcc:c'=c
   ·subst hcc;exact ⟨_,hc'⟩
   ·obtain ⟨w2,z2⟩:=I.cell y c' e;exact ⟨w2,z2.sameBut hs hcc⟩
  ·obtain ⟨e,n,ne,nf,d⟩:=I.pin p hp;refine ⟨(hs.2 p.1 ?_).trans e,n,ne,nf,d⟩;intro q;rw[q,hoc]at e;have q':oc=p.2:=dk e;exact d w' (by rw[<-q'];exact hocd)
theorem pX{M:Model}{A:Around}{E:Value->Shared->Prop}{i:Nat}{x:Str}{v:V}{u:Value}{Q:Unit->Shared->Prop}(I:Inv X pins σ H s)(hN:X.N.Nodup)(hi:X.N[i]?=some x)(hx:Loc X.env.scope x)(r:RelV v u)
  (h:∀s',Inv X pins (σ.set i (some v)) H s'->Q () s') (hf:X.fn x=true\/X.env.scope.names.lookup x=some .local:=by first |exact .inl rfl |exact .inr rfl |assumption):wpAny M A (storeName X.env x u) Q E s:=
 Uo I hN hi hx r (λs' I' _=>h s' I') hf
theorem Inv.call'{s':Shared}{ch:List Addr}(I:Inv X pins σ H s)(ho:s'.os=s.os)(u:Un (frs X.stack) ch H H' s.heap s'.heap)(hok:HOk X.prog X.w H' s'.heap)(hg:AllBare s'.gens)
  (hch:∀b∈ch,(b∈X.ex\/X.s₀.heap.objs.size<=b)/\b≠X.env.locals/\(∀x c,X.env.cells.lookup x=some c->c≠b)/\∀p∈X.pn++pins,p.1≠b):Inv X pins σ H' s':=by
 obtain ⟨h',g',d',t',o'⟩:=s';have e:o'=s.os:=ho;subst e;exact I.call (g':=g') (t':=t') (d':=d') u hok hg hch
end
noncomputable abbrev XK:=Value->Option Addr->Hp->Prop
noncomputable abbrev St:=List (Option V)
noncomputable abbrev VK:=V->Hp->Prop
noncomputable abbrev TE:=St->Hp->VK->Prop
noncomputable abbrev TT:=St->Hp->(Bool->Hp->Prop)->Prop
noncomputable abbrev TA:=St->Hp->(List V->Hp->Prop)->Prop
structure Ends where
 nx:St->Hp->Prop
 rt:VK
 bk:St->Hp->Prop:=λ_ _=>False
 ct:St->Hp->Prop:=λ_ _=>False
noncomputable abbrev TS:=Ends->St->Hp->Prop
noncomputable def EP(X:Cx)(pins:List (Addr×Obj))(σ:St)(Q:VK)(u:Value)(s':Shared):Prop:=∃v H',Inv X pins σ H' s'/\RelV v u/\Q v H'
noncomputable def TP(X:Cx)(pins:List (Addr×Obj))(σ:St)(Q:Bool->Hp->Prop)(b:Bool)(s':Shared):Prop:=∃H',Inv X pins σ H' s'/\Q b H'
noncomputable def AP(X:Cx)(pins:List (Addr×Obj))(σ:St)(Q:List V->Hp->Prop)(us:List Value)(s':Shared):Prop:=∃vs H',Inv X pins σ H' s'/\Vals vs us/\Q vs H'
noncomputable def SP(X:Cx)(pins:List (Addr×Obj))(D:Ends)(f:Flow)(s':Shared):Prop:=
 match f with
 |.next=>∃σ' H',Inv X pins σ' H' s'/\D.nx σ' H'
 |.brk=>∃σ' H',Inv X pins σ' H' s'/\D.bk σ' H'
 |.cont=>∃σ' H',Inv X pins σ' H' s'/\D.ct σ' H'
 |.ret u=>∃v σ' H',Inv X pins σ' H' s'/\RelV v u/\D.rt v H'
noncomputable def PE(X:Cx)(e:Expr)(t:TE):Prop:=
 ∀(pins:List (Addr×Obj))(s:Shared)(σ:St)(H:Hp)(Q:VK),Inv X pins σ H s->t σ H Q->wpAny (model X.prog X.w) X.A (eval e X.env) (EP X pins σ Q) X.xe s
noncomputable def PT(X:Cx)(e:Expr)(t:TT):Prop:=
 ∀(pins:List (Addr×Obj))(s:Shared)(σ:St)(H:Hp)(Q:Bool->Hp->Prop),Inv X pins σ H s->t σ H Q->wpAny (model X.prog X.w) X.A (isTrue e X.env (eval e X.env)) (TP X pins σ Q) X.xe s
noncomputable def PW(X:Cx)(e:Expr)(t:TT):Prop:=
 ∀(whole:Sem Value)(pins:List (Addr×Obj))(s:Shared)(σ:St)(H:Hp)(Q:Bool->Hp->Prop),Inv X pins σ H s->t σ H Q->wpAny (model X.prog X.w) X.A (isTrue e X.env whole) (TP X pins σ Q) X.xe s
theorem PW.pt{X:Cx}{e:Expr}{t:TT}(h:PW X e t):PT X e t:=h _
noncomputable def PA(X:Cx)(es:List Expr)(t:TA):Prop:=
 ∀(pos:Pos)(pins:List (Addr×Obj))(s:Shared)(σ:St)(H:Hp)(Q:List V->Hp->Prop),Inv X pins σ H s->t σ H Q->wpAny (model X.prog X.w) X.A (spliced (backTo pos (starEach es X.env))) (AP X pins σ Q) X.xe s
noncomputable def PS(X:Cx)(st:Stmt)(t:TS):Prop:=
 ∀(pins:List (Addr×Obj))(s:Shared)(σ:St)(H:Hp)(D:Ends),Inv X pins σ H s->t D σ H->wpAny (model X.prog X.w) X.A (exec st X.env) (SP X pins D) X.xe s
noncomputable def PSs(X:Cx)(st:List Stmt)(t:TS):Prop:=
 ∀(pins:List (Addr×Obj))(s:Shared)(σ:St)(H:Hp)(D:Ends),Inv X pins σ H s->t D σ H->wpAny (model X.prog X.w) X.A (execs st X.env) (SP X pins D) X.xe s
theorem thn{α:Type}{t:Sem α}{Q Q':α->Shared->Prop}{M:Model}{A:Around}{E:Value->Shared->Prop}{s:Shared}(h:wpAny M A t Q E s)(hQ:∀a s,Q a s->Q' a s):wpAny M A t Q' E s:=cw h hQ λ_ _ x=>x
section
variable {X:Cx}
theorem bin{a b:Expr}{ta tb:TE}(ha:PE X a ta)(hb:PE X b tb){pins:List (Addr×Obj)}{s:Shared}{σ:St}{H:Hp}{R:V->V->Hp->Prop}(I:Inv X pins σ H s)(h:ta σ H λx H1=>tb σ H1 λy H2=>R x y H2)
  {α:Type} {Q:α->Shared->Prop} {f:Value->Value->Sem α}
  (hf:∀v u s2 x y H2,Inv X pins σ H2 s2->RelV x v->RelV y u->R x y H2->wpAny (model X.prog X.w) X.A (f v u) Q X.xe s2):
  wpAny (model X.prog X.w) X.A (eval a X.env) (λv s₁=>wpAny (model X.prog X.w) X.A (eval b X.env) (λu s₂=>wpAny (model X.prog X.w) X.A (f v u) Q X.xe s₂) X.xe s₁) X.xe s:=by
 refine thn (ha pins s σ H _ I h) λv s1 ⟨x,H1,I1,r1,q1⟩=>?_;refine thn (hb pins s1 σ H1 _ I1 q1) λu s2 ⟨y,H2,I2,r2,q2⟩=>?_;exact hf v u s2 x y H2 I2 r1 r2 q2
noncomputable def An(i:Nat):TE:=λσ H Q=>∃v,σ[i]?=some (some v)/\Q v H
noncomputable def tC(v:V):TE:=λ_ H Q=>Q v H
theorem Ao {i:Nat} {x:Str} {pos:Pos} (hN:X.N[i]?=some x) (hv:Vis X.env.scope x) (hd:(x==("__debug__":Str))=false:=by decide) (hcd:(x==("__classdict__":Str))=false:=by decide):PE X (.Name x pos) (An i):=by
 intro pins s σ H Q I h;obtain ⟨v,e,h⟩:=h;obtain ⟨m,hn,hl⟩:=I.loc;obtain ⟨u,r,l⟩:=hl i x v hN e hv;have fin:EP X pins σ Q u s:=⟨v,H,I,r,h⟩;rcases l with ⟨hk,hm⟩ |⟨hk,c,hc,hcell⟩
 ·exact wpAny_Name (wpAny_loadName_local I.ok.kind hk hn hm fin) hd
 ·rcases hk with hk |hk
  ·exact wpAny_Name (wpAny_loadName_cell I.ok.kind hk hc hcell fin) hd
  ·exact wpAny_Name (wpAny_loadName_free I.ok.kind hk hc hcell fin hcd) hd
theorem Up{i j pos}:PE X (.Constant (.int i) j pos) (tC (.int i)):=λ_ _ _ H _ I h=>wpAny_Constant_int ⟨.int i,H,I.tok _,⟨_,rfl⟩,h⟩
theorem Uq{b j pos}:PE X (.Constant (.bool b) j pos) (tC (.bl b)):=λ_ _ _ H _ I h=>Constant_bool ⟨.bl b,H,I,rfl,h⟩
theorem Ur{j pos}:PE X (.Constant .none j pos) (tC .non):=λ_ _ _ H _ I h=>Constant_none ⟨.non,H,I,rfl,h⟩
theorem Aq{x j pos}:PE X (.Constant (.str x) j pos) (tC (.str x)):=λ_ _ _ H _ I h=>Calls.Constant_str ⟨.str x,H,I.tok _,⟨_,rfl⟩,h⟩
noncomputable def Gl(X:Cx)(x:Str):Prop:=X.env.kindOf x=some .globalImplicit
theorem pY{E:Value->Shared->Prop}{pins:List (Addr×Obj)}{s:Shared}{σ:St}{H:Hp}{x:Str}{u:Value}{pos:Pos}{Q:Value->Shared->Prop}(I:Inv X pins σ H s)(hg:Gl X x)(hm:X.mg x=some u)(h:Q u s)
  (hd:(x==("__debug__":Str))=false:=by decide):wpAny (model X.prog X.w) X.A (eval (.Name x pos) X.env) Q E s:=
 Calls.Name_function_global I.ok.kind hg (Calls.loadGlobal_global (by rw[I.ok.glob];exact I.mod.glob.keeps I.bk) hm h) hd
theorem iU{E:Value->Shared->Prop}{pins:List (Addr×Obj)}{s:Shared}{σ:St}{H:Hp}{x:Str}{u:Value}{pos:Pos}{Q:Value->Shared->Prop}(I:Inv X pins σ H s)(hg:Gl X x)(hm:X.mg x=none)(hv:bootBuiltins x=some u)(h:Q u s)
  (hn:x≠"__name__":=by decide) (hd:(x==("__debug__":Str))=false:=by decide):wpAny (model X.prog X.w) X.A (eval (.Name x pos) X.env) Q E s:=by
 obtain ⟨mb,h1,h2⟩:=I.mod.blt;exact Calls.Name_function_global I.ok.kind hg (Calls.loadGlobal_builtin (by rw[I.ok.glob];exact I.mod.glob.keeps I.bk) hm (by rw[I.ok.blt];exact h1.keeps I.bk) ((h2 x hn).trans hv) h) hd
theorem Us {x:Str} {v:V} {u:Value} {pos:Pos} (hg:Gl X x) (hm:X.mg x=some u) (r:RelV v u) (hd:(x==("__debug__":Str))=false:=by decide):PE X (.Name x pos) (tC v):=
 λ_ _ _ H _ I h=>pY I hg hm ⟨v,H,I,r,h⟩ hd
theorem Ut {x:Str} {v:V} {u:Value} {pos:Pos} (hg:Gl X x) (hm:X.mg x=none) (hv:bootBuiltins x=some u) (r:RelV v u) (hn:x≠"__name__":=by decide) (hd:(x==("__debug__":Str))=false:=by decide):PE X (.Name x pos) (tC v):=
 λ_ _ _ H _ I h=>iU I hg hm hv ⟨v,H,I,r,h⟩ hn hd
variable {a b:Expr} {ta tb:TE} {pos:Pos}
variable {tA tB':TT} {rest:List Expr}
noncomputable def Uu(t u:TT):TT:=λσ H Q=>t σ H λc H1=>if c=true then u σ H1 Q else Q false H1
noncomputable def tOr(t u:TT):TT:=λσ H Q=>t σ H λc H1=>if c=true then Q true H1 else u σ H1 Q
noncomputable def Uv(t:TT):TT:=λσ H Q=>t σ H λc H1=>Q (!c) H1
theorem Uw(ha:PT X a tA):PW X (.BoolOp .And [a] pos) tA:=by
 intro wh pins s σ H Q I h;refine isTrue_and (thn (ha pins s σ H Q I h) λc s1 e=>?_);cases c with
 |true=>exact isTrue_and_nil e
 |false=>exact e
theorem Ux(ha:PT X a tA):PW X (.BoolOp .Or [a] pos) tA:=by
 intro wh pins s σ H Q I h;refine isTrue_or (thn (ha pins s σ H Q I h) λc s1 e=>?_);cases c with
 |false=>exact isTrue_or_nil e
 |true=>exact e
theorem Uy(ha:PT X a tA)(hb:PW X (.BoolOp .And (b::rest) pos) tB'):PW X (.BoolOp .And (a::b::rest) pos) (Uu tA tB'):=by
 intro wh pins s σ H Q I h;refine isTrue_and (thn (ha pins s σ H _ I h) λc s1 ⟨H1,I1,q1⟩=>?_);cases c with
 |true=>exact hb wh pins s1 σ H1 Q I1 q1
 |false=>exact ⟨H1,I1,q1⟩
theorem Uz(ha:PT X a tA)(hb:PW X (.BoolOp .Or (b::rest) pos) tB'):PW X (.BoolOp .Or (a::b::rest) pos) (tOr tA tB'):=by
 intro wh pins s σ H Q I h;refine isTrue_or (thn (ha pins s σ H _ I h) λc s1 ⟨H1,I1,q1⟩=>?_);cases c with
 |true=>exact ⟨H1,I1,q1⟩
 |false=>exact hb wh pins s1 σ H1 Q I1 q1
theorem UG(ha:PT X a tA):PT X (.UnaryOp .Not a pos) (Uv tA):=by intro pins s σ H Q I h;exact isTrue_not (ha pins s σ H (λc H1=>Q (!c) H1) I h)
noncomputable def UJ(ta tb:TE):TE:=λσ H Q=>ta σ H λx H1=>∃c,x=.bl c/\if c=true then tb σ H1 Q else Q (.bl false) H1
noncomputable def UL(ta tb:TE):TE:=λσ H Q=>ta σ H λx H1=>∃c,x=.bl c/\if c=true then Q (.bl true) H1 else tb σ H1 Q
theorem UT{op}{t:TE}(h:PE X a t):PE X (.BoolOp op [a] pos) t:=λpins s σ H Q I hw=>BoolOp_one (h pins s σ H Q I hw)
theorem UV(ha:PE X a ta)(hb:PE X (.BoolOp .And (b::rest) pos) tb):PE X (.BoolOp .And (a::b::rest) pos) (UJ ta tb):=by
 intro pins s σ H Q I h;refine BoolOp_and (thn (ha pins s σ H _ I h) λv s1 ⟨x,H1,I1,r1,q1⟩=>?_);obtain ⟨c,rfl,q1⟩:=q1;cases r1;refine ed ?_;cases c with
 |true=>exact hb pins s1 σ H1 Q I1 q1
 |false=>exact ⟨.bl false,H1,I1,rfl,q1⟩
theorem UW(ha:PE X a ta)(hb:PE X (.BoolOp .Or (b::rest) pos) tb):PE X (.BoolOp .Or (a::b::rest) pos) (UL ta tb):=by
 intro pins s σ H Q I h;refine BoolOp_or (thn (ha pins s σ H _ I h) λv s1 ⟨x,H1,I1,r1,q1⟩=>?_);obtain ⟨c,rfl,q1⟩:=q1;cases r1;refine ed ?_;cases c with
 |false=>exact hb pins s1 σ H1 Q I1 q1
 |true=>exact ⟨.bl true,H1,I1,rfl,q1⟩
noncomputable def tIf(t:TT)(ta tb:TE):TE:=λσ H Q=>t σ H λc H1=>if c=true then ta σ H1 Q else tb σ H1 Q
theorem U0{c:Expr}(hc:PT X c tA)(ha:PE X a ta)(hb:PE X b tb):PE X (.IfExp c a b pos) (tIf tA ta tb):=by
 intro pins s σ H Q I h;refine wpAny_IfExp (thn (hc pins s σ H _ I h) λd s1 ⟨H1,I1,q1⟩=>?_);cases d with
 |true=>exact ha pins s1 σ H1 Q I1 q1
 |false=>exact hb pins s1 σ H1 Q I1 q1
end
noncomputable def SqL(K:PF)(H:Hp)(a:Addr)(xs:List V):Prop:=
 Rd H a (.lst xs)\/
  ∃(o:Obj) (its:Array Value) (n:Nat),K.lookup a=some o/\o.cls=.type "list"/\o.dict=none/\o.data=.seq its n/\its.size<=sizeLine/\Vals xs its.toList
noncomputable def SqT(K:PF)(H:Hp)(a:Addr)(xs:List V):Prop:=
 Rd H a (.tup xs)\/
  ∃(o:Obj) (its:Array Value) (n:Nat),K.lookup a=some o/\o.cls=.type "tuple"/\o.data=.seq its n/\its.size<=sizeLine/\Vals xs its.toList
noncomputable def U3:Value->Option V
 |.none=>some .non
 |.bool b=>some (.bl b)
 |.int i _=>some (.int i)
 |.str x _=>some (.str x)
 |.bytes b _=>some (.byt b)
 |.float b _=>some (.flt b)
 |.ref a=>some (.ref a)
 |.type n=>some (.ty n)
 |_=>none
theorem RelV.abs{x:V}{u:Value}(r:RelV x u):U3 u=some x:=by
 cases x with
 |non=>cases r;rfl
 |bl _=>cases r;rfl
 |int _=>obtain ⟨t,rfl⟩:=r;rfl
 |str _=>obtain ⟨t,rfl⟩:=r;rfl
 |byt _=>obtain ⟨t,rfl⟩:=r;rfl
 |flt _=>obtain ⟨t,rfl⟩:=r;rfl
 |ref _=>cases r;rfl
 |ty _=>cases r;rfl
theorem RelV.inj{x y:V}{u:Value}(r:RelV x u)(q:RelV y u):x=y:=dk (r.abs.symm.trans q.abs)
theorem Vals.inj:∀{xs ys:List V}{us:List Value},Vals xs us->Vals ys us->xs=ys
 |_,_,_,.nil,.nil=>rfl
 |_,_,_,.cons r t,.cons r' t'=>by rw[r.inj r',Vals.inj t t']
section
variable {X:Cx} {pins:List (Addr×Obj)} {σ:St} {H:Hp} {s:Shared} {a:Addr} {xs ys:List V}
theorem SqL.of{K:PF}(h:H a=some (.lst xs)):SqL K H a xs:=.inl (.inl h)
theorem SqT.of{K:PF}(h:H a=some (.tup xs)):SqT K H a xs:=.inl (.inl h)
theorem Inv.list(I:Inv X pins σ H s)(h:SqL X.K H a xs):∃its:List Value,Vals xs its/\PlainL s.heap a its.toArray/\xs.length<=sizeLine:=by
 rcases h with h |⟨o,its,n,hk,hc,hd,hs,hz,r⟩
 ·obtain ⟨z,its,n,r,e⟩:=h.ok I.hok;exact ⟨its,r,⟨_,n,e,rfl,rfl,rfl⟩,z⟩
 ·refine ⟨its.toList,r,⟨o,n,I.kIn a o hk,hc,hd,by simpa using hs⟩,?_⟩;have e:=r.length;simp only[dL]at e;omega
theorem Inv.tuple(I:Inv X pins σ H s)(h:SqT X.K H a xs):∃its:List Value,Vals xs its/\IsTup s.heap a its.toArray/\xs.length<=sizeLine:=by
 rcases h with h |⟨o,its,n,hk,hc,hs,hz,r⟩
 ·obtain ⟨z,its,r,p⟩:=h.ok I.hok;exact ⟨its,r,p,z⟩
 ·refine ⟨its.toList,r,⟨o,I.kIn a o hk,hc,n,by simpa using hs⟩,?_⟩;have e:=r.length;simp only[dL]at e;omega
theorem Inv.list_inj(I:Inv X pins σ H s)(h:SqL X.K H a xs)(h':SqL X.K H a ys):xs=ys:=by
 obtain ⟨its,r,⟨o,n,e,_,_,d⟩,_⟩:=I.list h;obtain ⟨its',r',⟨o',n',e',_,_,d'⟩,_⟩:=I.list h';rw[e]at e';cases e';rw[d]at d';injection d' with d1 _;have:its=its':=by simpa using eT Array.toList d1
 subst this;exact r.inj r'
theorem Inv.tuple_inj(I:Inv X pins σ H s)(h:SqT X.K H a xs)(h':SqT X.K H a ys):xs=ys:=by
 obtain ⟨its,r,⟨o,e,_,n,d⟩,_⟩:=I.tuple h;obtain ⟨its',r',⟨o',e',_,n',d'⟩,_⟩:=I.tuple h';rw[e]at e';cases e';rw[d]at d';injection d' with d1 _;have:its=its':=by simpa using eT Array.toList d1
 subst this;exact r.inj r'
end
noncomputable abbrev Cx.wish(X:Cx)(E:Value->Shared->Prop):Cx:={ X with xe:=E }
noncomputable abbrev Cx.nox(X:Cx):Cx:=X.wish λ_ _=>False
theorem Cx.Ok.wish{X:Cx}(ok:X.Ok)(E:Value->Shared->Prop):(X.wish E).Ok:=
 ⟨ok.mod,ok.kind,ok.glob,ok.blt,ok.above,ok.inj,ok.has,ok.cab,ok.hd,ok.frames,ok.stk,ok.exf,ok.bs,ok.bsz,ok.noex,ok.exfs,ok.funs,ok.frf⟩
theorem Cx.Ok.unwish{X:Cx}{E:Value->Shared->Prop}(ok:(X.wish E).Ok):X.Ok:=
 ⟨ok.mod,ok.kind,ok.glob,ok.blt,ok.above,ok.inj,ok.has,ok.cab,ok.hd,ok.frames,ok.stk,ok.exf,ok.bs,ok.bsz,ok.noex,ok.exfs,ok.funs,ok.frf⟩
section
variable {X:Cx} {pins:List (Addr×Obj)} {σ:St} {H:Hp} {s:Shared} {E:Value->Shared->Prop}
theorem Inv.wish(I:Inv X pins σ H s)(E:Value->Shared->Prop):Inv (X.wish E) pins σ H s:=⟨I.ok.wish E,I.os,I.bare,I.base,I.loc,I.cell,I.free,I.freeC,I.pin,I.hok,I.len⟩
theorem Inv.unwish(I:Inv (X.wish E) pins σ H s):Inv X pins σ H s:=⟨I.ok.unwish,I.os,I.bare,I.base,I.loc,I.cell,I.free,I.freeC,I.pin,I.hok,I.len⟩
theorem SP.unwish{D:Ends}{f:Flow}{s':Shared}(h:SP (X.wish E) pins D f s'):SP X pins D f s':=by
 cases f with
 |next=>obtain ⟨σ',H',I,q⟩:=h;exact ⟨σ',H',I.unwish,q⟩
 |brk=>obtain ⟨σ',H',I,q⟩:=h;exact ⟨σ',H',I.unwish,q⟩
 |cont=>obtain ⟨σ',H',I,q⟩:=h;exact ⟨σ',H',I.unwish,q⟩
 |ret u=>obtain ⟨v,σ',H',I,r,q⟩:=h;exact ⟨v,σ',H',I.unwish,r,q⟩
theorem PSs.nox{st:List Stmt}{t:TS}(h:PSs X.nox st t):PSs X st t:=λpins s σ H D I hw=>
 cw (h pins s σ H D (I.wish _) hw) (λ_ _ q=>q.unwish) λ_ _ z=>False.elim z
end
section
variable {X:Cx} {st:Stmt} {rest:List Stmt} {t u:TS} {e:Expr} {te:TE} {pos:Pos}
noncomputable def Ar:TS:=λD σ H=>D.nx σ H
noncomputable def U4(t u:TS):TS:=λD σ H=>t { D with nx:=u D } σ H
theorem U5:PSs X [] Ar:=λ_ _ σ H _ I h=>wpAny_execs_nil ⟨σ,H,I,h⟩
theorem Av(h1:PS X st t)(h2:PSs X rest u):PSs X (st::rest) (U4 t u):=by
 intro pins s σ H D I h;refine wpAny_execs_cons (thn (h1 pins s σ H { D with nx:=u D } I h) λf s1 q=>?_);cases f with
 |next=>
  obtain ⟨σ',H',I',q⟩:=q;exact h2 pins s1 σ' H' D I' q
 |ret v=>exact q
 |brk=>exact q
 |cont=>exact q
theorem U6(h1:PS X st t):PSs X [st] t:=by
 intro pins s σ H D I h;refine wpAny_execs_cons (thn (h1 pins s σ H D I h) λf s1 q=>?_);cases f with
 |next=>exact wpAny_execs_nil q
 |ret v=>exact q
 |brk=>exact q
 |cont=>exact q
noncomputable def U7:TS:=λD σ H=>D.bk σ H
noncomputable def U8:TS:=λD σ H=>D.ct σ H
theorem U9:PS X (.Pass pos) Ar:=λ_ _ σ H _ I h=>wpAny_Pass ⟨σ,H,I,h⟩
theorem Va:PS X (.Break pos) U7:=λ_ _ σ H _ I h=>wpAny_Break ⟨σ,H,I,h⟩
theorem Vb:PS X (.Continue pos) U8:=λ_ _ σ H _ I h=>wpAny_Continue ⟨σ,H,I,h⟩
theorem Inv.quiet{pins:List (Addr×Obj)}{σ:St}{H:Hp}{s:Shared}(I:Inv X pins σ H s):interactive X.env=false:=by simp[interactive,I.ok.kind]
noncomputable def Vc(te:TE):TS:=λD σ H=>te σ H λ_ H1=>D.nx σ H1
theorem Vd(he:PE X e te)(hs:swapsWith e none pos.line X.env=pure false:=by rfl):PS X (.Expr e pos) (Vc te):=by intro pins s σ H D I h;exact wpAny_Expr_any (thn (he pins s σ H _ I h) λv s1 ⟨x,H1,I1,r1,q1⟩=>⟨σ,H1,I1,q1⟩) I.quiet hs
noncomputable def Aw(te:TE):TS:=λD σ H=>te σ H D.rt
theorem Ve(he:PE X e te):PS X (.Return (some e) pos) (Aw te):=by intro pins s σ H D I h;exact wpAny_Return_some (thn (he pins s σ H _ I h) λv s1 ⟨x,H1,I1,r1,q1⟩=>⟨x,σ,H1,I1,r1,q1⟩)
noncomputable def Vf:TS:=λD _ H=>D.rt .non H
theorem Vg:PS X (.Return none pos) Vf:=λ_ _ σ H _ I h=>wpAny_Return_none ⟨.non,σ,H,I,rfl,h⟩
noncomputable def Vh(c:TT)(t u:TS):TS:=λD σ H=>c σ H λb H1=>if b=true then t D σ H1 else u D σ H1
theorem Vi{c:Expr}{a b:List Stmt}{tc:TT}(hc:PT X c tc)(ha:PSs X a t)(hb:PSs X b u):PS X (.If c a b pos) (Vh tc t u):=by
 intro pins s σ H D I h;refine wpAny_If (thn (hc pins s σ H _ I h) λd s1 ⟨H1,I1,q1⟩=>?_);cases d with
 |true=>exact ha pins s1 σ H1 D I1 q1
 |false=>exact hb pins s1 σ H1 D I1 q1
noncomputable def Vj:TS:=λ_ _ _=>False
theorem Vk:PS X st Vj:=λ_ _ _ _ _ _ h=>h.elim
end
noncomputable abbrev TG:=V->St->Hp->(St->Hp->Prop)->Prop
noncomputable abbrev TGs:=List V->St->Hp->(St->Hp->Prop)->Prop
noncomputable def PG(X:Cx)(target:Expr)(t:TG):Prop:=
 ∀(pins:List (Addr×Obj))(s:Shared)(σ:St)(H:Hp)(v:V)(u:Value)(Q:St->Hp->Prop),Inv X pins σ H s->RelV v u->t v σ H Q->
  wpAny (model X.prog X.w) X.A (assign target X.env u) (λ_ s'=>∃σ' H',Inv X pins σ' H' s'/\Q σ' H') X.xe s
noncomputable def PGs(X:Cx)(ts:List Expr)(t:TGs):Prop:=
 ∀(pins:List (Addr×Obj))(s:Shared)(σ:St)(H:Hp)(vs:List V)(us:List Value)(Q:St->Hp->Prop),Inv X pins σ H s->Vals vs us->t vs σ H Q->
  wpAny (model X.prog X.w) X.A (assignInOrder ((assignEach ts X.env).map (·.2)) us) (λ_ s'=>∃σ' H',Inv X pins σ' H' s'/\Q σ' H') X.xe s
noncomputable abbrev u6:=V->V->V->Hp->(Hp->Prop)->Prop
noncomputable def u9(X:Cx)(t:u6):Prop:=
 ∀(pins:List (Addr×Obj))(s:Shared)(σ:St)(H:Hp)(o i v:V)(ov iv u:Value)(Q:Hp->Prop),Inv X pins σ H s->RelV o ov->RelV i iv->RelV v u->t o i v H Q->
  wpAny (model X.prog X.w) X.A (setItem ov iv u) (λ_ s'=>∃H',Inv X pins σ H' s'/\Q H') X.xe s
noncomputable abbrev TIp:=V->V->Hp->VK->Prop
noncomputable def PIp(X:Cx)(op:Operator)(t:TIp):Prop:=
 ∀(pins:List (Addr×Obj))(s:Shared)(σ:St)(H:Hp)(x y:V)(v u:Value)(Q:VK),Inv X pins σ H s->RelV x v->RelV y u->t x y H Q->
  wpAny (model X.prog X.w) X.A (inplaceOp op v u) (EP X pins σ Q) X.xe s
section
variable {X:Cx} {pos:Pos}
noncomputable def pZ(i:Nat):TG:=λv σ H Q=>Q (σ.set i (some v)) H
theorem Vl{i:Nat}{x:Str}(hN:X.N.Nodup)(hi:X.N[i]?=some x)(hx:Loc X.env.scope x)(hf:X.fn x=true\/X.env.scope.names.lookup x=some .local:=by first |exact .inl rfl |exact .inr rfl |assumption):PG X (.Name x pos) (pZ i):=by intro pins s σ H v u Q I r h;exact wpAny_assign_Name (pX I hN hi hx r (λs' I'=>⟨_,H,I',h⟩) hf)
noncomputable def Vm:TGs:=λvs σ H Q=>vs=[]/\Q σ H
noncomputable def Vn(t:TG)(u:TGs):TGs:=λvs σ H Q=>∃v r,vs=v::r/\t v σ H λσ' H'=>u r σ' H' Q
theorem Vo:PGs X [] Vm:=by intro pins s σ H vs us Q I r h;obtain ⟨e,h⟩:=h;subst e;cases r;exact assignInOrder_nil ⟨σ,H,I,h⟩
theorem Vp{e:Expr}{es:List Expr}{t:TG}{u:TGs}(h1:PG X e t)(h2:PGs X es u)
  (hs:(assignEach (e::es) X.env).map (·.2)=assign e X.env::(assignEach es X.env).map (·.2):=by rfl):PGs X (e::es) (Vn t u):=by
 intro pins s σ H vs us Q I r h;obtain ⟨v,vr,e1,h⟩:=h;subst e1;cases r with
 |cons r rr=>
  rw[hs];refine assignInOrder_cons (thn (h1 pins s σ H _ _ _ I r h) λ_ s1 ⟨σ1,H1,I1,q1⟩=>?_);exact h2 pins s1 σ1 H1 _ _ Q I1 rr q1
noncomputable def Vq(K:PF)(n:Nat)(t:TGs):TG:=λv σ H Q=>∃a xs,v=.ref a/\SqT K H a xs/\xs.length=n/\t xs σ H Q
theorem Vr{es:List Expr}{k:Nat}{t:TGs}{n:Nat}(hc:X.calm=true)(h:PGs X es t)
  (hn:(assignEach es X.env).length=n:=by rfl) (hst:(assignEach es X.env).findIdx? (·.1)=none:=by rfl):PG X (.Tuple es k pos) (Vq X.K n t):=by
 intro pins s σ H v u Q I r hw;obtain ⟨a,xs,e1,hq,hl,hw⟩:=hw;subst e1;cases r;obtain ⟨its,rv,ht,hz⟩:=I.tuple hq;refine assign_Tuple_tuple (I.ok.hd hc) ht (by simp[hn,<-hl,rv.length]) hst λh' hx=>?_;have I1:Inv X pins σ H { s with heap:=h' }:=I.kept (t':=s.toks) λb o e=>hx b o (cm (aI e)) e;exact h pins _ σ H xs _ Q I1 (by simpa using rv) hw
noncomputable def Vs(to ti:TE)(t:u6):TG:=λv σ H Q=>to σ H λo H1=>ti σ H1 λi H2=>t o i v H2 λH3=>Q σ H3
theorem Vt{o i:Expr}{to ti:TE}{t:u6}(ho:PE X o to)(hi:PE X i ti)(hs:u9 X t)
  (ha:∀v,assign (.Subscript o i pos) X.env v=(do
   let ov <-holding [v] (eval o X.env)
   let iv <-holding [v,ov] (eval i X.env)
   standAt pos
   holding [v,ov,iv] (setItem ov iv v)
   release [v,ov,iv] []):=by intro _;rfl):PG X (.Subscript o i pos) (Vs to ti t):=by
 intro pins s σ H v u Q I r h;rw[ha];refine ag (ej (thn (ho pins s σ H _ I h) λov s1 ⟨x,H1,I1,r1,q1⟩=>?_));refine ag (ej (thn (hi pins s1 σ H1 _ I1 q1) λiv s2 ⟨y,H2,I2,r2,q2⟩=>?_));refine ag (fS (ag (ej (thn (hs pins s2 σ H2 x y v ov iv u _ I2 r1 r2 r q2) λ_ s3 ⟨H3,I3,q3⟩=>?_))));exact wpAny_release ⟨σ,H3,I3,q3⟩
noncomputable def p7(te:TE)(g:TG):TS:=λD σ H=>te σ H λx H1=>g x σ H1 D.nx
theorem Ax{tg e:Expr}{te:TE}{g:TG}(he:PE X e te)(hg:PG X tg g)(hs:swapsWithSole [tg] e pos.line X.env=pure false:=by rfl)(hw:swappedStores [tg] e X.env=pure none:=by rfl)
  (h1:(assignEach [tg] X.env).map (·.2)=[assign tg X.env]:=by rfl):PS X (.Assign [tg] e pos) (p7 te g):=by
 intro pins s σ H D I h;refine wpAny_Assign_stores (thn (he pins s σ H _ I h) λv s1 ⟨x,H1,I1,r1,q1⟩=>?_) hs hw;rw[h1];exact thn (hg pins s1 σ H1 x v _ I1 r1 q1) λ_ s2 q=>q
theorem Ay{i:Nat}{x:Str}{e:Expr}{te:TE}{pos':Pos}(hN:X.N.Nodup)(hi:X.N[i]?=some x)(hx:Loc X.env.scope x)(he:PE X e te)(hs:swapsWith e (some (.Name x pos')) pos.line X.env=pure false:=by rfl)(hf:X.fn x=true\/X.env.scope.names.lookup x=some .local:=by first |exact .inl rfl |exact .inr rfl |assumption):
  PS X (.Assign [.Name x pos'] e pos) (p7 te (pZ i)):=by
 intro pins s σ H D I h;refine wpAny_Assign_Name (thn (he pins s σ H _ I h) λv s1 ⟨y,H1,I1,r1,q1⟩=>?_) hs;exact pX I1 hN hi hx r1 (λs2 I2=>⟨_,H1,I2,q1⟩) hf
noncomputable def Vu(i:Nat)(te:TE)(ti:TIp):TS:=λD σ H=>∃x,σ[i]?=some (some x)/\te σ H λy H1=>ti x y H1 λz H2=>D.nx (σ.set i (some z)) H2
theorem Vv{i:Nat}{x:Str}{e:Expr}{te:TE}{op:Operator}{ti:TIp}{pos':Pos}(hN:X.N.Nodup)(hi:X.N[i]?=some x)(hx:Loc X.env.scope x)(he:PE X e te)(ho:PIp X op ti)(hf:X.fn x=true\/X.env.scope.names.lookup x=some .local:=by first |exact .inl rfl |exact .inr rfl |assumption):
  PS X (.AugAssign (.Name x pos') op e pos) (Vu i te ti):=by
 intro pins s σ H D I h;obtain ⟨v,e1,h⟩:=h;obtain ⟨m,hn,hl⟩:=I.loc;have vis:Vis X.env.scope x:=by rcases hx with k |k;exact .inl k;exact .inr (.inl k)
 obtain ⟨u,r,l⟩:=hl i x v hi e1 vis;refine wpAny_AugAssign_Name ?_;have go:wpAny (model X.prog X.w) X.A (eval e X.env) (λw s₂=>wpAny (model X.prog X.w) X.A (inplaceOp op u w) (λr s₃=>wpAny (model X.prog X.w) X.A (storeName X.env x r) (λ_=>SP X pins D .next) X.xe s₃) X.xe s₂) X.xe s:=by refine thn (he pins s σ H _ I h) λw s1 ⟨y,H1,I1,r1,q1⟩=>?_;refine thn (ho pins s1 σ H1 v y u w _ I1 r r1 q1) λz s2 ⟨zv,H2,I2,r2,q2⟩=>?_;exact pX I2 hN hi hx r2 (λs3 I3=>⟨_,H2,I3,q2⟩) hf
 rcases l with ⟨hk,hm⟩ |⟨hk,c,hc,hcell⟩
 ·exact wpAny_loadName_local I.ok.kind hk hn hm go
 ·rcases hk with hk |hk
  ·exact wpAny_loadName_cell I.ok.kind hk hc hcell go
  ·rcases hx with k |k
   ·have:X.env.scope.names.lookup x=some .free:=hk;rw[k]at this;cases this
   ·have:X.env.scope.names.lookup x=some .free:=hk;rw[k]at this;cases this
end
structure It where
 go:Nat->Hp->Prop
 yld:Nat->Hp->V->Hp->Prop
 stop:Nat->Hp->Prop
noncomputable def dJ(X:Cx)(pins:List (Addr×Obj))(H:Hp)(b:Addr):Prop:=
 H b=none/\b≠X.env.locals/\b∉X.fs/\(b∈X.ex\/X.s₀.heap.objs.size<=b)/\(∀x c,X.env.cells.lookup x=some c->c≠b)/\∀p∈X.pn++pins,p.1≠b
theorem Inv.fpOk{X:Cx}{pins:List (Addr×Obj)}{σ:St}{H H':Hp}{s:Shared}{b:Addr}(I:Inv X pins σ H s)(hb:s.heap.objs.size<=b)(hn:H' b=none):dJ X pins H' b:=by
 refine ⟨hn,fE (bn I.lt hb),I.nofs hb,.inr (bv I.sz hb),λx c e z=>?_,λp hp z=>?_⟩
 ·obtain ⟨v,q⟩:=I.cell x c e;exact absurd (bn q.lt (by rw[z];exact hb)) (ee _)
 ·exact absurd (bn (aI (I.pin p hp).1) (by rw[z];exact hb)) (ee _)
structure Turn(P:Program)(w:World)(K:PF)(tg:Expr)(J:It)(fp:List Addr)(it:Addr)(tn:Nat->Heap->Prop):Prop where
 mem:it∈fp
 obj:∀i h,tn i h->∀b∈fp,∃o,h.get? b=some o/\∀v,o.data≠.cell v
 keep:∀i h h',tn i h->(∀b∈fp,∀o,h.get? b=some o->h'.get? b=some o)->tn i h'
 item:∀(X:Cx),X.prog=P->X.w=w->X.K=K->X.calm=true->∀(i:Nat)(pins:List (Addr×Obj))(s:Shared)(σ:St)(H:Hp)(E:Value->Shared->Prop),Inv X pins σ H s->(∀b∈fp,dJ X pins H b)->tn i s.heap->J.go i H->
  wpAny (model P w) X.A (pyNext (.ref it)) (λr s1=>∃u,r=some u/\
   wpAny (model P w) X.A (letOwnedTupleGo tg (.ref it) u) (λ_ s2=>∃x H',Inv X pins σ H' s2/\RelV x u/\J.yld i H x H'/\tn (i+1) s2.heap/\∀b∈fp,H' b=none) E s1) E s
 done:∀(X:Cx),X.prog=P->X.w=w->X.K=K->X.calm=true->∀(i:Nat)(pins:List (Addr×Obj))(s:Shared)(σ:St)(H:Hp)(E:Value->Shared->Prop),Inv X pins σ H s->(∀b∈fp,dJ X pins H b)->tn i s.heap->J.stop i H->
  wpAny (model P w) X.A (pyNext (.ref it)) (λr s1=>r=none/\Inv X pins σ H s1) E s
 self:∀(A:Around)(i:Nat)(s:Shared)(Q:Value->Shared->Prop)(E:Value->Shared->Prop),tn i s.heap->Q (.ref it) s->wpAny (model P w) A (pyIter (.ref it)) Q E s
noncomputable abbrev TI:=St->Hp->(It->Hp->Prop)->Prop
noncomputable def PIE(X:Cx)(pins:List (Addr×Obj))(σ:St)(tg:Expr)(R:It->Hp->Prop)(itv:Value)(s2:Shared):Prop:=
 ∃(it:Addr)(fp:List Addr)(tn:Nat->Heap->Prop)(J:It)(H':Hp),itv=.ref it/\Inv X pins σ H' s2/\Turn X.prog X.w X.K tg J fp it tn/\tn 0 s2.heap/\(∀b∈fp,dJ X pins H' b)/\R J H'
noncomputable def PI(X:Cx)(tg iter:Expr)(wi:TI):Prop:=
 ∀(pins:List (Addr×Obj))(s:Shared)(σ:St)(H:Hp)(R:It->Hp->Prop),Inv X pins σ H s->wi σ H R->
  wpAny (model X.prog X.w) X.A (eval iter X.env) (λv s1=>wpAny (model X.prog X.w) X.A (pyIter v) (PIE X pins σ tg R) X.xe s1) X.xe s
theorem p8{M:Model}{A:Around}{E:Value->Shared->Prop}{s:Shared}{tg:Expr}{it:Addr}{u:Value}{o:Obj}{n:String}{vs:Array Value}{Q:Unit->Shared->Prop}(ho:s.heap.get? it=some o)(hc:o.cls=.type n)(hd:o.data=.fields vs)
  (hn:["enumerate","zip","dict_itemiterator","dict_reverseitemiterator","odict_iterator","itertools.zip_longest","itertools.pairwise"].contains n=false) (hQ:Q () s):wpAny M A (letOwnedTupleGo tg (.ref it) u) Q E s:=by
 unfold letOwnedTupleGo;cases tg <;> first
  |exact bg hQ
  | (cases u <;> first
    |exact bg hQ
    | (refine ag (wpAny_load ho ?_)
       rw[hc,hd];show wpAny M A (if (["enumerate","zip","dict_itemiterator","dict_reverseitemiterator","odict_iterator","itertools.zip_longest","itertools.pairwise"].contains n&&vs[0]?==some (rawInt _))=true then _ else _) Q E s;rw[if_neg (by intro h;rw[hn,Bool.false_and]at h;cases h)];exact bg hQ))
noncomputable def Itl(K:PF)(a:Addr):It:=
 ⟨λi H=>∃xs x,SqL K H a xs/\xs[i]?=some x,λi H x H'=>H'=H/\∀xs,SqL K H a xs->xs[i]?=some x,λi H=>∃xs,SqL K H a xs/\xs.length<=i⟩
noncomputable def Itt(K:PF)(a:Addr):It:=
 ⟨λi H=>∃xs x,SqT K H a xs/\xs[i]?=some x,λi H x H'=>H'=H/\∀xs,SqT K H a xs->xs[i]?=some x,λi H=>∃xs,SqT K H a xs/\xs.length<=i⟩
noncomputable def Itr(lo:Int)(n:Nat):It:=⟨λi _=>i < n,λi H x H'=>H'=H/\x=.int (lo+i),λi _=>n<=i⟩
theorem Az{P:Program}{w:World}{K:PF}{tg:Expr}(a it:Addr):Turn P w K tg (Itl K a) [it] it (λi h=>h.IsListIter it a i) where
 mem:=by simp
 obj:=λi h st b hb=>by
  have e:b=it:=by simpa using hb
  subst e;obtain ⟨o,e,c,d⟩:=st;exact ⟨o,e,λv z=>by rw[d]at z;cases z⟩
 keep:=λi h h' st k=>st.at λo e=>k it (by simp) o e
 item:=by intro X hP hw hK hc i pins s σ H E I hf st hg;subst hP hw hK;obtain ⟨xs,x,hq,hx⟩:=hg;obtain ⟨its,rv,p,hz⟩:=I.list hq;obtain ⟨u,hu,ru⟩:=rv.get hx;obtain ⟨f0,f1,f2,f3,f4,f5⟩:=hf it (by simp);refine wpAny_pyNext_list_item st p.isList (x:=u) (by simpa using hu) λh' st' sb=>?_;have I1:Inv X pins σ H { s with heap:=h' }:=I.turned (t':=s.toks) (λb o hb e=>(sb.2 b hb).trans e) f0 f1 f3 f4 f5;obtain ⟨o,e,c,d⟩:=id st';exact ⟨u,rfl,p8 (s:={ s with heap:=h' }) e c d (by decide) ⟨x,H,I1,ru,⟨rfl,λys hy=>by rw[I.list_inj hy hq];exact hx⟩,st',λb hb=>(hf b hb).1⟩⟩
 done:=by intro X hP hw hK hc i pins s σ H E I hf st hg;subst hP hw hK;obtain ⟨xs,hq,hx⟩:=hg;obtain ⟨its,rv,p,hz⟩:=I.list hq;obtain ⟨f0,f1,f2,f3,f4,f5⟩:=hf it (by simp);have hl:=rv.length;exact wpAny_pyNext_list_end (I.ok.hd hc) st p.isList (by simp;omega) λh' eb=>⟨rfl,I.turned (t':=s.toks) (λb o hb e=>eb b o hb e) f0 f1 f3 f4 f5⟩
 self:=λ_ _ _ _ _ st h=>wpAny_pyIter_listiter st h
theorem Ba{P:Program}{w:World}{K:PF}{tg:Expr}(a it:Addr):Turn P w K tg (Itt K a) [it] it (λi h=>h.IsTupleIter it a i) where
 mem:=by simp
 obj:=λi h st b hb=>by
  have e:b=it:=by simpa using hb
  subst e;obtain ⟨o,e,c,d⟩:=st;exact ⟨o,e,λv z=>by rw[d]at z;cases z⟩
 keep:=λi h h' st k=>st.at λo e=>k it (by simp) o e
 item:=by intro X hP hw hK hc i pins s σ H E I hf st hg;subst hP hw hK;obtain ⟨xs,x,hq,hx⟩:=hg;obtain ⟨its,rv,p,hz⟩:=I.tuple hq;obtain ⟨u,hu,ru⟩:=rv.get hx;obtain ⟨f0,f1,f2,f3,f4,f5⟩:=hf it (by simp);refine wpAny_pyNext_tuple_item st (show s.heap.IsTuple a its.toArray from p) (x:=u) (by simpa using hu) λh' st' sb=>?_;have I1:Inv X pins σ H { s with heap:=h' }:=I.turned (t':=s.toks) (λb o hb e=>(sb.2 b hb).trans e) f0 f1 f3 f4 f5;obtain ⟨o,e,c,d⟩:=id st';exact ⟨u,rfl,p8 (s:={ s with heap:=h' }) e c d (by decide) ⟨x,H,I1,ru,⟨rfl,λys hy=>by rw[I.tuple_inj hy hq];exact hx⟩,st',λb hb=>(hf b hb).1⟩⟩
 done:=by intro X hP hw hK hc i pins s σ H E I hf st hg;subst hP hw hK;obtain ⟨xs,hq,hx⟩:=hg;obtain ⟨its,rv,p,hz⟩:=I.tuple hq;obtain ⟨f0,f1,f2,f3,f4,f5⟩:=hf it (by simp);have hl:=rv.length;exact wpAny_pyNext_tuple_end (I.ok.hd hc) st (show s.heap.IsTuple a its.toArray from p) (by simp;omega) λh' eb=>⟨rfl,I.turned (t':=s.toks) (λb o hb e=>eb b o hb e) f0 f1 f3 f4 f5⟩
 self:=λ_ _ _ _ _ st h=>wpAny_pyIter_tupleiter st h
theorem Vw{P:Program}{w:World}{K:PF}{tg:Expr}(it:Addr)(lo:Int)(n:Nat):Turn P w K tg (Itr lo n) [it] it (λi h=>IsRangeIter h it (lo+(i:Nat) * 1) ((n:Int) - (i:Nat)) 1) where
 mem:=by simp
 obj:=λi h st b hb=>by
  have e:b=it:=by simpa using hb
  subst e;exact ⟨_,st,λv z=>by
   have z':Data.fields _=Data.cell v:=z;cases z'⟩
 keep:=λi h h' st k=>k it (by simp) _ st
 item:=by intro X hP hw hK hc i pins s σ H E I hf st hg;subst hP hw hK;obtain ⟨f0,f1,f2,f3,f4,f5⟩:=hf it (by simp);have W:=Walks.range (prog:=X.prog) (w:=X.w) (I.ok.hd hc) it lo 1 n;refine W.item i s _ _ hg st λv h' tk hv st' kk=>?_;obtain ⟨t,rfl⟩:=hv;have I1:Inv X pins σ H { s with heap:=h',toks:=tk }:=I.turned (λb o hb e=>kk b o (by simpa using hb) e) f0 f1 f3 f4 f5;refine ⟨_,rfl,p8 (s:={ s with heap:=h',toks:=tk }) (n:="range_iterator") st' rfl rfl (by decide) ⟨.int (lo+i),H,I1,⟨t,?_⟩,⟨rfl,rfl⟩,st',λb hb=>(hf b hb).1⟩⟩;rw[Int.mul_one]
 done:=by intro X hP hw hK hc i pins s σ H E I hf st hg;subst hP hw hK;obtain ⟨f0,f1,f2,f3,f4,f5⟩:=hf it (by simp);exact wpAny_pyNext_range_end (I.ok.hd hc) st (by have:n<=i:=hg;omega) λh' eb=>⟨rfl,I.turned (t':=s.toks) (λb o hb e=>eb b o hb e) f0 f1 f3 f4 f5⟩
 self:=λ_ _ _ _ _ st h=>wpAny_pyIter_rangeiter st h
section
variable {X:Cx} {tg:Expr}
theorem Vx{pins:List (Addr×Obj)}{σ:St}{H:Hp}{s:Shared}{R:It->Hp->Prop}{E:Value->Shared->Prop}{lo hi:Int}{t u v:Tok}{tk:Nat}(I:Inv X pins σ H s)(h1:-(2 ^ 62)<=lo)(h2:lo < 2 ^ 62)(h3:-(2 ^ 62)<=hi)(h4:hi < 2 ^ 62)
  (q:R (Itr lo (hi - lo).toNat) H):wpAny (model X.prog X.w) X.A (pyIter (.ref s.heap.objs.size)) (PIE X pins σ tg R) E { s with heap:=s.heap.push { cls:=.type "range",data:=.fields #[.int lo t,.int hi u,.int 1 v] },toks:=tk }:=by
 refine wpAny_pyIter_range (IsRange.new ..) (small_one h1 h2 h3 h4) ?_;have I1:Inv X pins σ H { s with heap:=s.heap.push { cls:=.type "range",data:=.fields #[.int lo t,.int hi u,.int 1 v] },toks:=tk }:=I.kept λb o e=>am _ e;refine ⟨(s.heap.push { cls:=.type "range",data:=.fields #[.int lo t,.int hi u,.int 1 v] }).objs.size,[(s.heap.push { cls:=.type "range",data:=.fields #[.int lo t,.int hi u,.int 1 v] }).objs.size],_,_,H,rfl,
  I1.kept (t':=tk) λb o e=>am _ e,Vw _ lo (hi - lo).toNat,?_,λb hb=>?_,q⟩
 ·have e1:lo+((0:Nat):Int) * 1=lo:=by simp
  have e2:(((hi - lo).toNat:Nat):Int) - ((0:Nat):Int)=Builtin.Range.rangeSize lo hi 1:=by rw[rangeSize_one];split <;> omega
  show IsRangeIter _ _ (lo+((0:Nat):Int) * 1) ((((hi - lo).toNat:Nat):Int) - ((0:Nat):Int)) 1;rw[e1,e2];exact bd _ rfl
 ·have e:b=(s.heap.push { cls:=.type "range",data:=.fields #[.int lo t,.int hi u,.int 1 v] }).objs.size:=by simpa using hb
  subst e;exact I1.fpOk (ax _) (I1.hok.fresh (ax _))
noncomputable def Vy(ta:TA):TI:=λσ H R=>ta σ H λvs H1=>∃j:Int,vs=[.int j]/\-(2 ^ 62)<=j/\j < 2 ^ 62/\R (Itr 0 j.toNat) H1
theorem Vz {a:Expr} {ta:TA} {p pos:Pos} (hg:Gl X "range") (hm:X.mg "range"=none) (ha:PA X [a] ta) (hs:starEach [a] X.env=[(false,eval a X.env)]:=by rfl):PI X tg (.Call (.Name "range" p) [a] [] pos) (Vy ta):=by
 intro pins s σ H R I h;refine Call_ (iU I hg hm boot_range (ff (thn (ha pos pins s σ H _ I h) λus s1 ⟨vs,H1,I1,r1,q1⟩=>?_) hs rfl));obtain ⟨j,e,q1,q2,q⟩:=q1;subst e;cases r1 with
 |cons r rr=>
  cases rr;obtain ⟨t,rfl⟩:=r;exact call_range_1 (Vx I1 (by omega) (by omega) q1 q2 (by simpa using q))
noncomputable def VB(wi:TI)(g:TG)(tb:TS):TS:=λD σ H=>wi σ H λJ H1=>∃W:Nat->Nat->St->Hp->Prop,(∃m,W 0 m σ H1)/\∀i m σ H,W i m σ H->
 (J.stop i H/\D.nx σ H)\/(J.go i H/\∃N:St->Hp->Prop,(∀σ' H',N σ' H'->∃m',m' < m/\W (i+1) m' σ' H')/\∀x H',J.yld i H x H'->g x σ H' λσ2 H2=>tb { D with nx:=N,ct:=N,bk:=D.nx } σ2 H2)
noncomputable def iV(fp:List Addr)(h:Heap):List (Addr×Obj):=fp.filterMap λb=>(h.get? b).map λo=>(b,o)
theorem iW{fp:List Addr}{h:Heap}{b:Addr}{o:Obj}(hb:b∈fp)(e:h.get? b=some o):(b,o)∈iV fp h:=List.mem_filterMap.mpr ⟨b,hb,by rw[e];rfl⟩
theorem vd{fp:List Addr}{h:Heap}{p:Addr×Obj}(hp:p∈iV fp h):p.1∈fp/\h.get? p.1=some p.2:=by
 obtain ⟨b,hb,e⟩:=List.mem_filterMap.mp hp;cases q:h.get? b with
 |none=>rw[q]at e;cases e
 |some o=>
  rw[q]at e;have e':(b,o)=p:=dk e;subst e';exact ⟨hb,q⟩
theorem Inv.pinned{pins:List (Addr×Obj)}{σ:St}{H:Hp}{s:Shared}{fp:List Addr}(I:Inv X pins σ H s)(hf:∀b∈fp,dJ X pins H b)(ho:∀b∈fp,∃o,s.heap.get? b=some o/\∀v,o.data≠.cell v):Inv X (pins++iV fp s.heap) σ H s:=
 I.pins_of λp hp=>(a8.mp hp).elim (λz=>I.pin p (ay _ z)) λz=>by
  obtain ⟨hb,e⟩:=vd z;obtain ⟨f0,f1,f2,_⟩:=hf p.1 hb;obtain ⟨o,e',d⟩:=ho p.1 hb;rw[e]at e';cases e';exact ⟨e,f0,f1,f2,d⟩
theorem Inv.unpinned{pins pl:List (Addr×Obj)}{σ:St}{H:Hp}{s:Shared}(I:Inv X (pins++pl) σ H s):Inv X pins σ H s:=I.pins_of λp hp=>I.pin p (ay _ (dA _ hp))
theorem VD{iter:Expr}{body:List Stmt}{wi:TI}{g:TG}{tb:TS}{pos:Pos}(hp:PassesOwn (model X.prog X.w) X.A X.env X.xe)(hc:X.calm=true)(hi:PI X tg iter wi)(hg:PG X tg g)(hb:PSs X body tb)
  (hs:∀x,foldedSetIterable iter X.env x=pure x:=by intro _;rfl):PS X (.For tg iter body [] pos) (VB wi g tb):=by
 intro pins s σ H D I h;refine wpAny_For (thn (hi pins s σ H _ I h) λv s1 h1=>thn h1 λitv s2 h2=>?_) hs;obtain ⟨it,fp,tn,J,H2,e,I2,T,st2,f2,W,⟨m0,w0⟩,turn⟩:=h2;subst e
 -- what stays true of the iterator's objects through the loop
 have stat:∀{H':Hp},(∀b∈fp,H' b=none)->∀b∈fp,dJ X pins H' b:=λhn b hb=>⟨hn b hb,(f2 b hb).2⟩;refine codeAny_forLoop_any (λn s'=>∃i σ' H',Inv X pins σ' H' s'/\tn i s'.heap/\(∀b∈fp,H' b=none)/\W i n σ' H') ?_ m0 ⟨0,σ,H2,I2,st2,λb hb=>(f2 b hb).1,w0⟩;rintro n s3 ⟨i,σ3,H3,I3,st3,fr3,w3⟩;rcases turn i n σ3 H3 w3 with ⟨stop,qn⟩ |⟨go,N,hN,step⟩
 ·refine wpAny_passesOwn hp (thn (T.done X rfl rfl rfl hc i pins s3 σ3 H3 X.xe I3 (stat fr3) st3 stop) λr s4 ⟨hr,I4⟩=>?_);subst hr;exact wpAny_execs_nil ⟨σ3,H3,I4,qn⟩
 ·refine wpAny_passesOwn hp (thn (T.item X rfl rfl rfl hc i pins s3 σ3 H3 X.xe I3 (stat fr3) st3 go) λr s4 ⟨u,hr,h4⟩=>?_);subst hr;refine wpAny_passesOwn hp (thn h4 λ_ s5 ⟨x,H5,I5,r5,y5,st5,fr5⟩=>?_);have I5':=I5.pinned (stat fr5) (T.obj _ _ st5);refine wpAny_passesOwn hp (thn (hg _ s5 σ3 H5 x u _ I5' r5 (step x H5 y5)) λ_ s6 ⟨σ6,H6,I6,q6⟩=>?_);refine wpAny_passesOwn hp (thn (hb _ s6 σ6 H6 _ I6 q6) λf s7 q7=>?_);have again:∀{σ7:St}{H7:Hp},Inv X (pins++iV fp s5.heap) σ7 H7 s7->N σ7 H7->∃m,m < n/\∃i σ' H',Inv X pins σ' H' s7/\tn i s7.heap/\(∀b∈fp,H' b=none)/\W i m σ' H':=λ{σ7 H7} I7 n7=>by
   obtain ⟨m',hm,w7⟩:=hN σ7 H7 n7;refine ⟨m',hm,i+1,σ7,H7,I7.unpinned,T.keep _ _ _ st5 λb hb o e=>(I7.pin (b,o) (ay _ (ay _ (iW hb e)))).1,λb hb=>?_,w7⟩;obtain ⟨o,e,d⟩:=T.obj _ _ st5 b hb;exact (I7.pin (b,o) (ay _ (ay _ (iW hb e)))).2.1
  cases f with
  |next=>obtain ⟨σ7,H7,I7,n7⟩:=q7;exact again I7 n7
  |cont=>obtain ⟨σ7,H7,I7,n7⟩:=q7;exact again I7 n7
  |brk=>obtain ⟨σ7,H7,I7,q7⟩:=q7;exact ⟨σ7,H7,I7.unpinned,q7⟩
  |ret v=>obtain ⟨x7,σ7,H7,I7,r7,q7⟩:=q7;exact ⟨x7,σ7,H7,I7.unpinned,r7,q7⟩
end
noncomputable abbrev R2:=V->V->Hp->VK->Prop
noncomputable def OpR(X:Cx)(f:Value->Value->Sem Value)(r:R2):Prop:=
 ∀(pins:List (Addr×Obj))(s:Shared)(σ:St)(H:Hp)(x y:V)(v u:Value)(Q:VK),Inv X pins σ H s->RelV x v->RelV y u->r x y H Q->
  wpAny (model X.prog X.w) X.A (f v u) (EP X pins σ Q) X.xe s
noncomputable def UnR(X:Cx)(f:Value->Sem Value)(r:V->Hp->VK->Prop):Prop:=
 ∀(pins:List (Addr×Obj))(s:Shared)(σ:St)(H:Hp)(x:V)(v:Value)(Q:VK),Inv X pins σ H s->RelV x v->r x H Q->
  wpAny (model X.prog X.w) X.A (f v) (EP X pins σ Q) X.xe s
noncomputable def bC(X:Cx)(f:Value)(r:List V->Hp->VK->Prop):Prop:=
 ∀(pins:List (Addr×Obj))(s:Shared)(σ:St)(H:Hp)(xs:List V)(us:List Value)(Q:VK),Inv X pins σ H s->Vals xs us->r xs H Q->
  wpAny (model X.prog X.w) X.A (call f us) (EP X pins σ Q) X.xe s
noncomputable def VF(X:Cx)(r:V->Hp->(Bool->Hp->Prop)->Prop):Prop:=
 ∀(pins:List (Addr×Obj))(s:Shared)(σ:St)(H:Hp)(x:V)(v:Value)(Q:Bool->Hp->Prop),Inv X pins σ H s->RelV x v->r x H Q->
  wpAny (model X.prog X.w) X.A (truthy v) (TP X pins σ Q) X.xe s
noncomputable def tOp(r:R2)(ta tb:TE):TE:=λσ H Q=>ta σ H λx H1=>tb σ H1 λy H2=>r x y H2 Q
noncomputable def tUn(r:V->Hp->VK->Prop)(ta:TE):TE:=λσ H Q=>ta σ H λx H1=>r x H1 Q
noncomputable def rI(C:Int->Int->Prop)(g:Int->Int->V):R2:=λx y H Q=>∃i j,x=.int i/\y=.int j/\C i j/\Q (g i j) H
noncomputable def rI0(g:Int->Int->V):R2:=λx y H Q=>∃i j,x=.int i/\y=.int j/\Q (g i j) H
noncomputable def rU(g:Int->V):V->Hp->VK->Prop:=λx H Q=>∃i,x=.int i/\Q (g i) H
section
variable {X:Cx} {a b c:Expr} {ta tb tc:TE} {pos:Pos}
theorem vf(ha:PE X a ta)(hb:PE X b tb){pins:List (Addr×Obj)}{s:Shared}{σ:St}{H:Hp}{R:V->V->Hp->Prop}(I:Inv X pins σ H s)
  (h:ta σ H λx H1=>tb σ H1 λy H2=>R x y H2) {Q:Value->Shared->Prop} {f:Value->Value->Sem Value}
  (hf:∀v u s2 x y H2,Inv X pins σ H2 s2->RelV x v->RelV y u->R x y H2->wpAny (model X.prog X.w) X.A (f v u) Q X.xe s2):
  wpAny (model X.prog X.w) X.A (eval a X.env) (λv s₁=>wpAny (model X.prog X.w) X.A (eval b X.env) (λu s₂=>wpAny (model X.prog X.w) X.A (f v u) Q X.xe s₂) X.xe s₁) X.xe s:=by
 refine thn (ha pins s σ H _ I h) λv s1 ⟨x,H1,I1,r1,q1⟩=>?_;refine thn (hb pins s1 σ H1 _ I1 q1) λu s2 ⟨y,H2,I2,r2,q2⟩=>?_;exact hf v u s2 x y H2 I2 r1 r2 q2
theorem VG{op:Operator}{r:R2}(ho:OpR X (binaryOp op) r)(ha:PE X a ta)(hb:PE X b tb):PE X (.BinOp a op b pos) (tOp r ta tb):=by intro pins s σ H Q I h;exact wpAny_BinOp (vf ha hb I h λv u s2 x y H2 I2 rx ry q=>ho pins s2 σ H2 x y v u Q I2 rx ry q)
theorem VH{op:UnaryOp}{r:V->Hp->VK->Prop}(ho:UnR X (unaryOp op) r)(ha:PE X a ta):PE X (.UnaryOp op a pos) (tUn r ta):=by intro pins s σ H Q I h;exact UnaryOp_ (thn (ha pins s σ H _ I h) λv s1 ⟨x,H1,I1,r1,q1⟩=>ho pins s1 σ H1 x v Q I1 r1 q1)
theorem opI{f:Value->Value->Sem Value}{C:Int->Int->Prop}{g:Int->Int->Int}
  (rule:∀(i j:Int)(t u:Tok)(s:Shared)(Q:Value->Shared->Prop)(E:Value->Shared->Prop),C i j->Q (.int (g i j) s.toks) { s with toks:=s.toks+1 }->wpAny (model X.prog X.w) X.A (f (.int i t) (.int j u)) Q E s):
  OpR X f (rI C λi j=>.int (g i j)):=by
 intro pins s σ H x y v u Q I rx ry h;obtain ⟨i,j,rfl,rfl,hc,q⟩:=h;obtain ⟨t,rfl⟩:=rx;obtain ⟨t',rfl⟩:=ry;exact rule i j t t' s _ _ hc ⟨.int (g i j),H,I.tok _,⟨_,rfl⟩,q⟩
theorem qb{f:Value->Value->Sem Value}{g:Int->Int->Int}
  (rule:∀(i j:Int)(t u:Tok)(s:Shared)(Q:Value->Shared->Prop)(E:Value->Shared->Prop),Q (.int (g i j) s.toks) { s with toks:=s.toks+1 }->wpAny (model X.prog X.w) X.A (f (.int i t) (.int j u)) Q E s):
  OpR X f (rI0 λi j=>.int (g i j)):=by
 intro pins s σ H x y v u Q I rx ry h;obtain ⟨i,j,rfl,rfl,q⟩:=h;obtain ⟨t,rfl⟩:=rx;obtain ⟨t',rfl⟩:=ry;exact rule i j t t' s _ _ ⟨.int (g i j),H,I.tok _,⟨_,rfl⟩,q⟩
noncomputable def qd(i j:Int):Prop:=0<=j/\j<=1000000/\i.natAbs < 2 ^ 64
noncomputable def CMul(i j:Int):Prop:=(-(2 ^ 64) < i/\i < 2 ^ 64)\/(-(2 ^ 64) < j/\j < 2 ^ 64)
theorem CMul.ok{i j:Int}(h:CMul i j):IntMulOk i j:=by
 rcases h with ⟨h1,h2⟩ |⟨h1,h2⟩
 ·exact .of_left (intBits_le_64 h1 h2)
 ·exact .of_right (intBits_le_64 h1 h2)
theorem VJ:OpR X (binaryOp .Add) (rI0 λi j=>.int (i+j)):=qb λ_ _ _ _ _ _ _ q=>add_int q
theorem VL:OpR X (binaryOp .Sub) (rI0 λi j=>.int (i - j)):=qb λ_ _ _ _ _ _ _ q=>sub_int q
theorem VM:OpR X (binaryOp .Mult) (rI CMul λi j=>.int (i * j)):=opI λ_ _ _ _ _ _ _ hc q=>mul_int q hc.ok
theorem VN:OpR X (binaryOp .Mod) (rI (λ_ j=>0 < j) λi j=>.int (i % j)):=opI λi j _ _ _ _ _ hc q=>by
 have h1:(0:Int) < j:=hc;exact mod_int' (by omega) (by rw[Int.fmod_eq_emod_of_nonneg i (by omega)];exact q)
theorem VP:OpR X (binaryOp .Pow) (rI qd λi j=>.int (i ^ j.toNat)):=opI λ_ _ _ _ _ _ _ hc q=>pow_int_small hc.1 hc.2.1 hc.2.2 q
theorem VR:OpR X (inplaceOp .Add) (rI0 λi j=>.int (i+j)):=qb λ_ _ _ _ _ _ _ q=>iadd_int q
theorem VV:OpR X (inplaceOp .Sub) (rI0 λi j=>.int (i - j)):=qb λ_ _ _ _ _ _ _ q=>isub_int q
theorem unI{f:Value->Sem Value}{g:Int->Int}
  (rule:∀(i:Int)(t:Tok)(s:Shared)(Q:Value->Shared->Prop)(E:Value->Shared->Prop),Q (.int (g i) s.toks) { s with toks:=s.toks+1 }->wpAny (model X.prog X.w) X.A (f (.int i t)) Q E s):
  UnR X f (rU λi=>.int (g i)):=by
 intro pins s σ H x v Q I rx h;obtain ⟨i,rfl,q⟩:=h;obtain ⟨t,rfl⟩:=rx;exact rule i t s _ _ ⟨.int (g i),H,I.tok _,⟨_,rfl⟩,q⟩
theorem V0:UnR X (unaryOp .USub) (rU λi=>.int (-i)):=unI λ_ _ _ _ _ q=>neg_int q
end
section
variable {X:Cx} {a b c:Expr} {ta tb tc:TE} {pos:Pos}
theorem Bb{pins:List (Addr×Obj)}{σ:St}{H:Hp}{s:Shared}{Q:VK}{k k':Bool}(I:Inv X pins σ H s)(q:Q (.bl k) H)(e:k=k'):EP X pins σ Q (.bool k') s:=by subst e;exact ⟨.bl k,H,I,rfl,q⟩
theorem V1:OpR X (compareOp .Is) (λx y H Q=>y=.non/\Q (.bl (decide (x=.non))) H):=by
 intro pins s σ H x y v u Q I rx ry h;obtain ⟨rfl,q⟩:=h;cases ry;refine is_none_gen (Bb I q ?_);cases x <;> first
  | (cases rx;rfl)
  | (obtain ⟨t,rfl⟩:=rx;rfl)
theorem V2:OpR X (compareOp .IsNot) (λx y H Q=>y=.non/\Q (.bl (!decide (x=.non))) H):=by
 intro pins s σ H x y v u Q I rx ry h;obtain ⟨rfl,q⟩:=h;cases ry;refine isnot_none_gen (Bb I q ?_);cases x <;> first
  | (cases rx;rfl)
  | (obtain ⟨t,rfl⟩:=rx;rfl)
theorem V3{op:CmpOp}{r:R2}(ho:OpR X (compareOp op) r)(ha:PE X a ta)(hb:PE X b tb)(hm:behindInMarks op b=false):PE X (.Compare a [op] [b] pos) (tOp r ta tb):=by intro pins s σ H Q I h;exact wpAny_Compare1 (vf ha hb I h λv u s2 x y H2 I2 rx ry q=>ho pins s2 σ H2 x y v u Q I2 rx ry q) hm
noncomputable def Bc(t:TE):TT:=λσ H Q=>t σ H λx H'=>∃k,x=.bl k/\Q k H'
theorem V4{op:CmpOp}{r:R2}(ho:OpR X (compareOp op) r)(ha:PE X a ta)(hb:PE X b tb)(hm:behindInMarks op b=false):PT X (.Compare a [op] [b] pos) (Bc (tOp r ta tb)):=by
 intro pins s σ H Q I h;refine wpAny_isTrue_Compare1 (thn (ha pins s σ H _ I h) λv s1 ⟨x,H1,I1,r1,q1⟩=>thn (hb pins s1 σ H1 _ I1 q1) λu s2 ⟨y,H2,I2,r2,q2⟩=>
  thn (ho pins s2 σ H2 x y v u _ I2 r1 r2 q2) λc s3 ⟨z,H3,I3,r3,k,e,q3⟩=>?_) hm
 subst e;cases r3;exact ed ⟨H3,I3,q3⟩
noncomputable def vg(r r':R2)(ta tb tc:TE):TE:=λσ H Q=>ta σ H λx H1=>tb σ H1 λy H2=>r x y H2 λz H3=>∃k,z=.bl k/\
 (if k=true then tc σ H3 λw' H4=>r' y w' H4 Q else Q (.bl false) H3)
theorem V5{op op':CmpOp}{r r':R2}(ho:OpR X (compareOp op) r)(ho':OpR X (compareOp op') r')(ha:PE X a ta)(hb:PE X b tb)(hc:PE X c tc)
  (hm:lastMarks [op,op'] [b,c]=false:=by with_unfolding_all rfl):PE X (.Compare a [op,op'] [b,c] pos) (vg r r' ta tb tc):=by
 intro pins s σ H Q I h;refine Compare_chain (thn (ha pins s σ H _ I h) λv s1 ⟨x,H1,I1,r1,q1⟩=>chain_link (thn (hb pins s1 σ H1 _ I1 q1) λu s2 ⟨y,H2,I2,r2,q2⟩=>
  thn (ho pins s2 σ H2 x y v u _ I2 r1 r2 q2) λd s3 ⟨z,H3,I3,r3,k,e,q3⟩=>?_)) hm
 subst e;cases r3;refine ed ?_;cases k with
 |false=>exact ite_ff ⟨.bl false,H3,I3,rfl,q3⟩
 |true=>exact ite_tt (chain_last (thn (hc pins s3 σ H3 _ I3 q3) λw' s4 ⟨z',H4,I4,r4,q4⟩=>ho' pins s4 σ H4 y z' u w' Q I4 r2 r4 q4))
theorem V6{op op':CmpOp}{r r':R2}(ho:OpR X (compareOp op) r)(ho':OpR X (compareOp op') r')(ha:PE X a ta)(hb:PE X b tb)(hc:PE X c tc)
  (hm:lastMarks [op,op'] [b,c]=false:=by with_unfolding_all rfl):PT X (.Compare a [op,op'] [b,c] pos) (Bc (vg r r' ta tb tc)):=by
 intro pins s σ H Q I h;refine isTrue_chain (thn (ha pins s σ H _ I h) λv s1 ⟨x,H1,I1,r1,q1⟩=>test_link (thn (hb pins s1 σ H1 _ I1 q1) λu s2 ⟨y,H2,I2,r2,q2⟩=>
  thn (ho pins s2 σ H2 x y v u _ I2 r1 r2 q2) λd s3 ⟨z,H3,I3,r3,k,e,q3⟩=>?_)) hm
 subst e;cases r3;refine ed ?_;cases k with
 |false=>
  obtain ⟨k',e',q'⟩:=q3;cases e';exact ite_ff ⟨H3,I3,q'⟩
 |true=>
  refine ite_tt (test_last (thn (hc pins s3 σ H3 _ I3 q3) λw' s4 ⟨z',H4,I4,r4,q4⟩=>thn (ho' pins s4 σ H4 y z' u w' _ I4 r2 r4 q4) λd' s5 ⟨z2,H5,I5,r5,k2,e2,q5⟩=>?_));subst e2;cases r5;exact ed ⟨H5,I5,q5⟩
noncomputable def qe(K:PF)(x:V)(H:Hp)(k:Bool):Prop:=
 match x with
 |.non=>k=false
 |.bl b=>k=b
 |.int i=>k=(i != 0)
 |.str y=>y.length<=sizeLine/\k=((y.length:Int) != 0)
 |.byt y=>y.size<=sizeLine/\k=((y.size:Int) != 0)
 |.ref p=>(∃xs,SqL K H p xs/\k=!xs.isEmpty)\/(∃xs,SqT K H p xs/\k=!xs.isEmpty)\/∃kvs,H p=some (.dK kvs)/\k=!kvs.isEmpty
 |_=>False
theorem V7{κ:Type}{kvs:List (κ×V)}{vs:List (κ×Value)}(r:KV kvs vs):(!vs.isEmpty)=!kvs.isEmpty:=by cases r <;> rfl
theorem Bd{xs:List V}{its:List Value}(r:Vals xs its):(!its.toArray.isEmpty)=!xs.isEmpty:=by cases r <;> simp
theorem gW:(sizeLine:Nat) < 2 ^ 63:=by rw[fI];decide
theorem Be:VF X (λx H Q=>∃k,qe X.K x H k/\Q k H):=by
 intro pins s σ H x v Q I rx h;obtain ⟨k,e,q⟩:=h;have hl:=gW;have hs:sizeLine=16777216:=fI;cases x with
 |non=>
  cases rx;have e':k=false:=e;subst e';exact truthy_none ⟨H,I,q⟩
 |bl b=>
  cases rx;have e':k=b:=e;subst e';exact ed ⟨H,I,q⟩
 |int i=>
  obtain ⟨t,rfl⟩:=rx;have e':k=(i != 0):=e;subst e';exact PySem.P.truthy_int ⟨H,I,q⟩
 |str y=>
  obtain ⟨t,rfl⟩:=rx;obtain ⟨hy,e'⟩:y.length<=sizeLine/\k=((y.length:Int) != 0):=e;subst e';exact PySem.P.truthy_str (by omega) ⟨H,I.tok _,q⟩
 |byt y=>
  obtain ⟨t,rfl⟩:=rx;obtain ⟨hy,e'⟩:y.size<=sizeLine/\k=((y.size:Int) != 0):=e;subst e';exact PySem.W.truthy_bytes (by omega) ⟨H,I.tok _,q⟩
 |ref p=>
  cases rx;have e':(∃xs,SqL X.K H p xs/\k=!xs.isEmpty)\/(∃xs,SqT X.K H p xs/\k=!xs.isEmpty)\/∃kvs,H p=some (.dK kvs)/\k=!kvs.isEmpty:=e;rcases e' with ⟨xs,hx,e'⟩ |⟨xs,hx,e'⟩ |⟨kvs,hx,e'⟩
  ·subst e';obtain ⟨its,r,pl,hz⟩:=I.list hx;have hlen:=r.length;exact wpAny_truthy_list pl.isList (by simp only[ar];omega) ⟨H,I.tok _,by rw[Bd r];exact q⟩
  ·subst e';obtain ⟨its,r,pl,hz⟩:=I.tuple hx;have hlen:=r.length;exact truthy_tuple pl (by simp only[ar];omega) ⟨H,I.tok _,by rw[Bd r];exact q⟩
  ·subst e';obtain ⟨hz,hS,vs,r,m⟩:kvs.length<=sizeLine/\(p==sysModules)=false/\∃vs,KV kvs vs/\s.heap.DictOf (u5 X.prog X.w) p vs:=I.hok p _ hx;have hlen:kvs.length=vs.length:=Paired.length r;exact wpAny_truthy_dict hS m (by omega) ⟨H,I.tok _,by rw[V7 r];exact q⟩
 |_=>exact (show False from e).elim
theorem V8(ha:PE X a ta)(he:∀whole,isTrue a X.env whole=(do let v <-whole;standAt a.pos;holding [v] (truthy v))):
  PT X a (λσ H Q=>ta σ H λx H'=>∃k,qe X.K x H' k/\Q k H'):=by
 intro pins s σ H Q I h;exact isTrue_plain (thn (ha pins s σ H _ I h) λv s1 ⟨x,H1,I1,r1,q1⟩=>Be pins s1 σ H1 x v Q I1 r1 q1) (he _)
theorem V9:OpR X (binaryOp .Add) (λx y H Q=>∃i j,x=.str i/\y=.str j/\i.length+j.length<=sizeLine/\Q (.str (i++j)) H):=by intro pins s σ H x y v u Q I rx ry h;obtain ⟨i,j,rfl,rfl,hz,q⟩:=h;obtain ⟨t,rfl⟩:=rx;obtain ⟨t',rfl⟩:=ry;exact add_str (λt' tk=>⟨.str (i++j),H,I.tok _,⟨_,rfl⟩,q⟩) hz
theorem Wa:OpR X (inplaceOp .Add) (λx y H Q=>∃i j,x=.str i/\y=.str j/\i.length+j.length<=sizeLine/\Q (.str (i++j)) H):=by intro pins s σ H x y v u Q I rx ry h;obtain ⟨i,j,rfl,rfl,hz,q⟩:=h;obtain ⟨t,rfl⟩:=rx;obtain ⟨t',rfl⟩:=ry;exact iadd_str (λt' tk=>⟨.str (i++j),H,I.tok _,⟨_,rfl⟩,q⟩) hz
theorem vals1{x:V}{us:List Value}(r:Vals [x] us):∃u,us=[u]/\RelV x u:=by
 cases r with
 |cons r1 r2=>cases r2;exact ⟨_,rfl,r1⟩
theorem vals2{x y:V}{us:List Value}(r:Vals [x,y] us):∃u w',us=[u,w']/\RelV x u/\RelV y w':=by
 cases r with
 |cons r1 r2=>
  cases r2 with
  |cons r3 r4=>cases r4;exact ⟨_,_,rfl,r1,r3⟩
theorem Bg:bC X (.type "int") (λxs H Q=>(∃i,xs=[.int i]/\Q (.int i) H)\/∃k,xs=[.bl k]/\Q (.int (if k then 1 else 0)) H):=by
 intro pins s σ H xs us Q I r h;rcases h with ⟨i,rfl,q⟩ |⟨k,rfl,q⟩
 ·obtain ⟨u,rfl,t,rfl⟩:=vals1 r;exact call_int_int ⟨.int i,H,I,⟨_,rfl⟩,q⟩
 ·obtain ⟨u,rfl,r1⟩:=vals1 r;cases r1;exact call_int_bool ⟨.int (if k then 1 else 0),H,I.tok _,⟨_,rfl⟩,q⟩
end
structure ObjM(h:Heap)(x dx C:Addr)(mA:Str->Option Value):Prop where
 obj:h.get? x=some (PySem.W.instObj C dx)
 ns:h.Ns1 dx mA
 ne:dx≠x
theorem Wb{h:Heap}{dx:Addr}{mA:Str->Option Value}(n:h.Ns1 dx mA):∃od,h.get? dx=some od/\∀name,PySem.W.lookIn name od=some (mA name):=by
 obtain ⟨o,es,ep,ho,hd,hk,_,hm⟩:=n;refine ⟨o,ho,λname=>?_⟩;have e:=hm name;unfold nsFind findBy at e;rw[<-Array.find?_toList]at e;unfold PySem.W.lookIn;rw[hd];dsimp only;split
 ·rename_i y q;rw[q]at e;exact eT some e
 ·rename_i q;rw[q]at e;have a:es.toList.any (·.refKey)=false:=by
   rw[List.any_eq_false];intro y hy;obtain ⟨z,t,hkey⟩:=hk y (Array.mem_toList_iff.mp hy);simp[DictEntry.refKey,hkey]
  have a':¬es.toList.any (·.refKey)=true:=by rw[a];exact b6
  rw[if_neg a'];exact eT some e
theorem ObjM.look{h:Heap}{x dx C:Addr}{mA:Str->Option Value}(I:ObjM h x dx C mA):∃od,PySem.W.InstAt h x (PySem.W.instObj C dx) C (some od)/\∀name,PySem.W.lookIn name od=some (mA name):=
 let ⟨od,ho,hl⟩:=Wb I.ns
 ⟨od,⟨I.obj,rfl,rfl,ho⟩,hl⟩
section
variable {prog:Program} {w:World} {A:Around} {E:Value->Shared->Prop} {s:Shared} {K:PF} {x dx C f:Addr} {mA:Str->Option Value} {name:Str} {v:Value}
theorem Wc{expr:Bool}{Q:Value->Shared->Prop}(X:K.In s.heap)(I:ObjM s.heap x dx C mA)(hg:PySem.W.plainGet K C name=true)(hh:PySem.W.hasDictIn K C=true)
  (ha:PySem.W.findIn K (.ref C) name=some none) (hv:mA name=some v) (hv':PySem.W.handedIn v=true) (h:Q v { s with toks:=s.toks+1 }):
  wpAny (model prog w) A (getAttr (.ref x) name expr) Q E s:=by
 obtain ⟨od,J,hl⟩:=I.look;exact PySem.W.get_value X J (PySem.W.plainGet_of hg).1 (PySem.W.findObj_own hh ha rfl (by rw[hl,hv])) hv' h
theorem Wd{pl:Sem Bool}{Q:Value×List Value->Shared->Prop}(X:K.In s.heap)(I:ObjM s.heap x dx C mA)(hg:PySem.W.plainGet K C name=true)
  (hf:PySem.W.findIn K (.ref C) name=some (some (.ref f))) (ht:PySem.W.isFn K (.ref f)=true) (hv:mA name=none) (h:Q (.ref f,[.ref x]) s):
  wpAny (model prog w) A (getMethod (.ref x) name pl) Q E s:=by
 obtain ⟨od,J,hl⟩:=I.look;exact PySem.W.method_fn X J (PySem.W.plainGet_of hg).1 (PySem.W.plainGet_of hg).2 hf (aE.mp ht) (by show (PySem.W.lookIn name od).map (·.isSome)=some false;rw[hl,hv];rfl) h
theorem We{ns:List Str}{Q:Unit->Shared->Prop}(X:K.In s.heap)(I:ObjM s.heap x dx C mA)
  (hs:PySem.W.findIn K (.ref C) "__setattr__"=some (some (.builtin "object.__setattr__"))) (hp:PySem.W.plainOver K C=true) (ht:PySem.W.takerIn K C name=some none) (hh:PySem.W.hasDictIn K C=true)
  (hw:PySem.Within mA ns) (hsz:ns.length<=sizeLine)
  (h:∀h',ObjM h' x dx C (λy=>if y=name then some v else mA y)->Heap.SameBut dx s.heap h'->Q () { s with heap:=h',toks:=s.toks+2 }):
  wpAny (model prog w) A (setAttr (.ref x) name v) Q E s:=by
 obtain ⟨od,J,hl⟩:=I.look;refine PySem.W.set_plain X J hs (PySem.W.osa_open (s:={ s with toks:=s.toks+1 }) (r:=none) X J hp ht λb=>?_);obtain ⟨cd,hc,hd'⟩:=PySem.W.any_some hh;have hx:s.heap.get? x=some ⟨.ref C,some dx,.plain,#[]⟩:=I.obj;refine ag (bg (ag (ag (wpAny_loadPart hx (ag (PySem.W.Looks.here (s:={ s with toks:=s.toks+1 }) (PySem.W.looks_clsIn X hc) ?_))))));rw[hd'];refine bg (a:=some dx) (ag (bg (ag ?_)));refine wpAny_nsSet1 (s:={ s with toks:=s.toks+1 }) I.ns λh' hn2 hs2=>?_;obtain ⟨oD,esD,epD,hoD,hdD,hcD⟩:=hn2.count (PySem.Within.cons name v hw);refine ag (wpAny_lookBehind hoD (by rw[hdD];exact pastItsLine_dict (bv hcD (by rw[c5];omega))) ?_);exact bg (h _ ⟨(hs2.2 _ (Ne.symm I.ne)).trans I.obj,hn2,I.ne⟩ hs2)
theorem Wf{R:Result->Shared->Prop}{vs:List Value}{kw:List (Str×Value)}(X:K.In s.heap)(hm:PySem.W.makesIn K C=true)
  (hi:PySem.W.findIn K (.ref C) "__init__"=some (some (.ref f))) (hf:PySem.W.typeIn K (.ref f)=some (.type "function"))
  (h:codeAny (model prog w) (A.under (.builtin "type.__call__" ⟨.ref C::vs,kw⟩)) (.call (.ref f) ⟨.ref (s.heap.objs.size+1)::vs,kw⟩) (PySem.W.InitBack (s.heap.objs.size+1) R)
   { s with heap:=(s.heap.push PySem.W.emptyDict).push (PySem.W.instObj C s.heap.objs.size) }):
  codeAny (model prog w) A (.call (.ref C) ⟨vs,kw⟩) R s:=by
 obtain ⟨hh,g,d,t,os⟩:=s;exact PySem.W.make_core (PySem.W.makes_of X hm) (PySem.W.looks_findIn X hi) (λself=>PySem.W.bind_fn X self hf) (.inl rfl) h
end
noncomputable def cF(f:Str)(v:V):List (Str×V)->List (Str×V)
 |[]=>[(f,v)]
 | (g,x)::r=>if g=f then (g,v)::r else (g,x)::cF f v r
theorem Bh(f g:Str)(v:V):∀fs:List (Str×V),(cF f v fs).lookup g=if g=f then some v else fs.lookup g
 |[]=>by
  show List.lookup g [(f,v)]=_;by_cases h:g=f
  ·have hb:(g==f)=true:=aE.mpr h;simp only[List.lookup,hb,if_pos h]
  ·have hb:(g==f)=false:=cS.mpr h;simp only[List.lookup,hb,if_neg h]
 | (k,x)::r=>by
  have ih:=Bh f g v r;rw[show cF f v ((k,x)::r)=(if k=f then (k,v)::r else (k,x)::cF f v r) from rfl];by_cases hk:k=f
  ·rw[if_pos hk];by_cases h:g=k
   ·have hb:(g==k)=true:=aE.mpr h;simp only[List.lookup,hb,if_pos (h.trans hk)]
   ·have hb:(g==k)=false:=cS.mpr h;simp only[List.lookup,hb,if_neg (λe:g=f=>h (e.trans hk.symm))]
  ·rw[if_neg hk];by_cases h:g=k
   ·have hb:(g==k)=true:=aE.mpr h;simp only[List.lookup,hb,if_neg (λe:g=f=>hk (h.symm.trans e))]
   ·have hb:(g==k)=false:=cS.mpr h;simp only[List.lookup,hb];exact ih
theorem vh(f:Str)(v:V):∀fs:List (Str×V),f∈(cF f v fs).map (·.1)/\∀g,g∈fs.map (·.1)->g∈(cF f v fs).map (·.1)
 |[]=>⟨by simp[cF],λg h=>by simp at h⟩
 | (k,x)::r=>by
  obtain ⟨i1,i2⟩:=vh f v r;rw[show cF f v ((k,x)::r)=(if k=f then (k,v)::r else (k,x)::cF f v r) from rfl];by_cases hk:k=f
  ·rw[if_pos hk];subst hk;exact ⟨by simp,λg h=>by simpa using h⟩
  ·rw[if_neg hk];refine ⟨?_,λg h=>?_⟩
   ·rw[bq];exact a9 _ i1
   ·rw[bq]at h ⊢;rcases aS.mp h with e |e
    ·exact aS.mpr (.inl e)
    ·exact a9 _ (i2 g e)
theorem Bj(f:Str)(v:V):∀fs:List (Str×V),(cF f v fs).length<=fs.length+1
 |[]=>by simp[cF]
 | (k,x)::r=>by
  have ih:=Bj f v r;rw[show cF f v ((k,x)::r)=(if k=f then (k,v)::r else (k,x)::cF f v r) from rfl];by_cases hk:k=f
  ·rw[if_pos hk,c5,c5];omega
  ·rw[if_neg hk,c5,c5];omega
theorem RelO.some_of{v:V}{o:Option Value}(r:RelO (some v) o):∃u,o=some u/\RelV v u:=by
 cases o with
 |none=>exact (show False from r).elim
 |some u=>exact ⟨u,rfl,r⟩
theorem RelO.none_of{o:Option Value}(r:RelO none o):o=none:=by
 cases o with
 |none=>rfl
 |some u=>exact (show False from r).elim
theorem Wg{v:V}{u:Value}(r:RelV v u):PySem.W.handedIn u=true:=by
 cases v with
 |non=>cases (show u=Value.none from r);rfl
 |bl b=>cases (show u=Value.bool b from r);rfl
 |int i=>obtain ⟨t,e⟩:=(show ∃t,u=Value.int i t from r);cases e;rfl
 |str x=>obtain ⟨t,e⟩:=(show ∃t,u=Value.str x t from r);cases e;rfl
 |byt b=>obtain ⟨t,e⟩:=(show ∃t,u=Value.bytes b t from r);cases e;rfl
 |flt b=>obtain ⟨t,e⟩:=(show ∃t,u=Value.float b t from r);cases e;rfl
 |ref a=>cases (show u=Value.ref a from r);rfl
 |ty n=>cases (show u=Value.type n from r);rfl
section
variable {P:Program} {w:World} {H H':Hp} {h h':Heap} {a C dx:Addr} {fs fs':List (Str×V)}
theorem qg(hok:HOk P w H h)(e:H a=some (.ins C dx fs)):∃mA,ObjM h a dx C mA/\(∀f,RelO (fs.lookup f) (mA f))/\PySem.Within mA (fs.map (·.1))/\fs.length<=1000/\H dx=some (.own a):=by obtain ⟨d,z,ne,ob,mA,n,r,q⟩:=(show ObjOk P w H h a (.ins C dx fs) from hok a _ e);exact ⟨mA,⟨ob,n,ne⟩,r,q,z,d⟩
end
structure Cls(K:PF)(C:Addr):Prop where
 pg:PySem.W.plainGet K C Str.empty=true
 hd:PySem.W.hasDictIn K C=true
 po:PySem.W.plainOver K C=true
 sa:PySem.W.findIn K (.ref C) "__setattr__"=some (some (.builtin "object.__setattr__"))
theorem Cls.get{K:PF}{C:Addr}(c:Cls K C)(f:Str):PySem.W.plainGet K C f=true:=c.pg
noncomputable def NoAttr(K:PF)(C:Addr)(f:Str):Prop:=PySem.W.findIn K (.ref C) f=some none
theorem NoAttr.taker{K:PF}{C:Addr}{f:Str}(n:NoAttr K C f):PySem.W.takerIn K C f=some none:=by unfold PySem.W.takerIn;rw[show PySem.W.findIn K (.ref C) f=some none from n];rfl
structure Meth(K:PF)(C:Addr)(m:Str)(f:Addr):Prop where
 at_:PySem.W.findIn K (.ref C) m=some (some (.ref f))
 fn:PySem.W.isFn K (.ref f)=true
 kp:PySem.W.keepIn K (.ref f)=true
section
variable {X:Cx} {pins:List (Addr×Obj)} {σ:St} {H:Hp} {s:Shared} {a C dx:Addr} {fs:List (Str×V)} {f:Str} {v:V} {A:Around} {E:Value->Shared->Prop}
theorem Wh{b:Bool}{Q:Value->Shared->Prop}(I:Inv X pins σ H s)(e:H a=some (.ins C dx fs))(c:Cls X.K C)(n:NoAttr X.K C f)(l:fs.lookup f=some v)
  (h:∀u s',Inv X pins σ H s'->RelV v u->Q u s'):wpAny (model X.prog X.w) A (getAttr (.ref a) f b) Q E s:=by
 obtain ⟨mA,O,r,_,_,_⟩:=qg I.hok e;obtain ⟨u,hu,ru⟩:=RelO.some_of (v:=v) (o:=mA f) (by rw[<-l];exact r f);exact Wc I.kIn O (c.get f) c.hd n hu (Wg ru) (h u _ (I.tok _) ru)
theorem Bk{m:Str}{g:Addr}{pl:Sem Bool}{Q:Value×List Value->Shared->Prop}(I:Inv X pins σ H s)(e:H a=some (.ins C dx fs))(c:Cls X.K C)(k:Meth X.K C m g)(l:fs.lookup m=none)
  (h:Q (.ref g,[.ref a]) s):wpAny (model X.prog X.w) A (getMethod (.ref a) m pl) Q E s:=by
 obtain ⟨mA,O,r,_,_,_⟩:=qg I.hok e;have hn:mA m=none:=RelO.none_of (by rw[<-l];exact r m);exact Wd I.kIn O (c.get m) k.at_ k.fn hn h
theorem Wi{y:V}{u:Value}{Q:Unit->Shared->Prop}(I:Inv X pins σ H s)(e:H a=some (.ins C dx fs))(c:Cls X.K C)(n:NoAttr X.K C f)(hl:fs.length < 1000)(ry:RelV y u)
  (h:∀s',Inv X pins σ (upd H a (.ins C dx (cF f y fs))) s'->Q () s'):wpAny (model X.prog X.w) A (setAttr (.ref a) f u) Q E s:=by
 obtain ⟨mA,O,r,wi,_,ho⟩:=qg I.hok e;have hz:(fs.map (·.1)).length<=sizeLine:=by rw[ah,fI];omega
 refine We I.kIn O c.sa c.po n.taker c.hd wi hz λh' O' sb=>h _ ?_;have hd:∃o,h'.get? dx=some o:=let ⟨o,_,_,e',_⟩:=O'.ns;⟨o,e'⟩;refine I.write (x:=a) (e:=dx) (by rw[e];exact True.intro) (.inr ho) (λb q hb z=>(sb.2 b hb).trans z) hd ?_;refine ⟨by rw[aJ O.ne];exact ho,?_,O.ne,O'.obj,_,O'.ns,λg=>?_,λg hg=>?_⟩
 ·have:=Bj f y fs;omega
 ·show RelO ((cF f y fs).lookup g) (if g=f then some u else mA g);rw[Bh];by_cases q:g=f
  ·rw[if_pos q,if_pos q];exact ry
  ·rw[if_neg q,if_neg q];exact r g
 ·by_cases q:g=f
  ·rw[q];exact (vh f y fs).1
  ·refine (vh f y fs).2 g (wi g λz=>hg ?_);show (if g=f then some u else mA g)=none;rw[if_neg q];exact z
theorem Inv.made(I:Inv X pins σ H s):Inv X pins σ (upd (upd H s.heap.objs.size (.own (s.heap.objs.size+1))) (s.heap.objs.size+1) (.ins C s.heap.objs.size []))
  { s with heap:=(s.heap.push PySem.W.emptyDict).push (PySem.W.instObj C s.heap.objs.size) }:=by
 have e1:(s.heap.push PySem.W.emptyDict).get? s.heap.objs.size=some PySem.W.emptyDict:=bd s.heap rfl;have e2:((s.heap.push PySem.W.emptyDict).push (PySem.W.instObj C s.heap.objs.size)).get? (s.heap.objs.size+1)=some (PySem.W.instObj C s.heap.objs.size):=by have:=bd (s.heap.push PySem.W.emptyDict) (o:=PySem.W.instObj C s.heap.objs.size) rfl;rwa [dE]at this
 have e3:(s.heap.push PySem.W.emptyDict).Ns s.heap.objs.size (λ_=>none):=⟨PySem.W.emptyDict,#[],_,e1,rfl,(λe he=>absurd he (by simp)),λ_=>rfl⟩;have I1:=I.laid (a:=s.heap.objs.size) (o:=.own (s.heap.objs.size+1)) (h':=s.heap.push PySem.W.emptyDict) (t':=s.toks) (λb u q=>am _ q) (ax _) ⟨_,e1⟩;refine I1.laid (a:=s.heap.objs.size+1) (o:=.ins C s.heap.objs.size []) (t':=s.toks) (λb u q=>am _ q) (Nat.le_of_eq (dE _ _)) ?_;have ne:s.heap.objs.size≠s.heap.objs.size+1:=cm (Nat.lt_succ_self _);refine ⟨by rw[aJ ne,cL],eI _,ne,e2,λ_=>none,(Heap.Ns1.of_empty e3).at λo q=>am _ q,λ_=>True.intro,λy hy=>absurd rfl hy⟩
theorem Wj{prog:Program}{w:World}{env:Env}{e:Expr}{f:Str}{pos:Pos}{s:Shared}{Q:Value->Shared->Prop}(hb:attributeBase e f env (eval e env)=eval e env)
  (h:wpAny (model prog w) A (eval e env) (λo s₁=>wpAny (model prog w) A (getAttr o f true) Q E s₁) E s):wpAny (model prog w) A (eval (.Attribute e f pos) env) Q E s:=
 Attribute_any_ h (by rw[arm_eval_Attribute,hb])
end
noncomputable def Wl(K:PF)(ta:TE)(f:Str):TE:=λσ H Q=>ta σ H λx H1=>∃a C dx fs v,x=.ref a/\H1 a=some (.ins C dx fs)/\Cls K C/\NoAttr K C f/\fs.lookup f=some v/\Q v H1
noncomputable def Wm(K:PF)(ta tv:TE)(f:Str):TS:=λD σ H=>tv σ H λy H1=>ta σ H1 λx H2=>∃a C dx fs,x=.ref a/\H2 a=some (.ins C dx fs)/\Cls K C/\NoAttr K C f/\fs.length < 1000/\
 D.nx σ (upd H2 a (.ins C dx (cF f y fs)))
section
variable {X:Cx} {o e value:Expr} {f:Str} {pos pos' tpos:Pos} {ta tv:TE}
theorem Wn(he:PE X e ta)(hb:attributeBase e f X.env (eval e X.env)=eval e X.env):PE X (.Attribute e f pos) (Wl X.K ta f):=by intro pins s σ H Q I h;refine Wj hb (thn (he pins s σ H _ I h) λu s1 ⟨x,H1,I1,rx,a,C,dx,fs,v,ex,ea,c,n,l,q⟩=>?_);subst ex;obtain rfl:u=Value.ref a:=rx;exact Wh I1 ea c n l λu' s2 I2 ru=>⟨v,H1,I2,ru,q⟩
theorem Wo(ha:PE X o ta)(hv:PE X value tv)(hs:swapsWith value (some (.Attribute o f pos')) pos.line X.env=pure false):PS X (.Assign [.Attribute o f pos'] value pos) (Wm X.K ta tv f):=by intro pins s σ H D I h;refine plainObj_wpAny_Assign_Attribute (thn (hv pins s σ H _ I h) λu s1 ⟨y,H1,I1,ry,q⟩=>thn (ha pins s1 σ H1 _ I1 q) λov s2 ⟨x,H2,I2,rx,a,C,dx,fs,ex,ea,c,n,l,q2⟩=>?_) hs;subst ex;obtain rfl:ov=Value.ref a:=rx;exact Wi I2 ea c n l ry λs3 I3=>⟨σ,_,I3,q2⟩
end
section
variable {X:Cx} {pins:List (Addr×Obj)} {σ:St} {H:Hp} {s:Shared} {A:Around} {E:Value->Shared->Prop} {Q:Value->Shared->Prop} {c:Value} {b:Bool}
inductive TyOf (K:PF) (H:Hp):V->Value->Prop where
 |non:TyOf K H .non (.type "NoneType")
 |bl (x:Bool):TyOf K H (.bl x) (.type "bool")
 |int (i:Int):TyOf K H (.int i) (.type "int")
 |str (x:Str):TyOf K H (.str x) (.type "str")
 |flt (x:UInt64):TyOf K H (.flt x) (.type "float")
 |lst {a:Addr} {xs:List V} (e:H a=some (.lst xs)):TyOf K H (.ref a) (.type "list")
 |frz {a:Addr} {o:Obj} {xs:List V} (e:H a=some (.frz o (.lst xs))):TyOf K H (.ref a) (.type "list")
 |tup {a:Addr} {xs:List V} (e:H a=some (.tup xs)):TyOf K H (.ref a) (.type "tuple")
 |dK {a:Addr} {kvs:List (Key×V)} (e:H a=some (.dK kvs)):TyOf K H (.ref a) (.type "dict")
 |dT {a:Addr} {kvs:List (List Key×V)} (e:H a=some (.dT kvs)):TyOf K H (.ref a) (.type "dict")
 |ins {a C dx:Addr} {fs:List (Str×V)} (e:H a=some (.ins C dx fs)) (cl:Cls K C) (ha:PySem.W.findIn K (.ref C) "__class__"=some (some (.builtin "object.__class__")))
   (hn:PySem.W.specialIn K (.builtin "object.__class__") "__get__"=some (some (.builtin "getset_descriptor.__get__"))) (htk:PySem.W.takesIn K (.builtin "object.__class__")=some true)
   (hm:PySem.W.mroIn K C (.type "object")=some true):TyOf K H (.ref a) (.ref C)
theorem Wq{x:V}{u t:Value}(I:Inv X pins σ H s)(rx:RelV x u)(ty:TyOf X.K H x t)(e:PySem.W.kitOne X.K t c=some b)(h:∀tk,Q (.bool b) { s with toks:=tk }):
  wpAny (model X.prog X.w) A (call (.builtin "isinstance") [u,c]) Q E s:=by
 cases ty with
 |non=>cases (show u=Value.none from rx);exact df PySem.W.kitx_none I.kIn True.intro e (λz=>nomatch z) h
 |bl y=>cases (show u=Value.bool y from rx);exact df PySem.W.kitx_bool I.kIn True.intro e (λz=>nomatch z) h
 |int i=>obtain ⟨t,q⟩:=(show ∃t,u=Value.int i t from rx);cases q;exact df PySem.W.kitx_int I.kIn True.intro e (λz=>nomatch z) h
 |str y=>obtain ⟨t,q⟩:=(show ∃t,u=Value.str y t from rx);cases q;exact df PySem.W.kitx_str I.kIn True.intro e (λz=>nomatch z) h
 |flt y=>obtain ⟨t,q⟩:=(show ∃t,u=Value.float y t from rx);cases q;exact df PySem.W.kitx_float I.kIn True.intro e (λz=>nomatch z) h
 | @lst a xs ea=>
  cases (show u=Value.ref a from rx);obtain ⟨_,_,n,_,h1⟩:=(show ObjOk X.prog X.w H s.heap a (.lst xs) from I.hok a _ ea);exact df PySem.W.kitx_list I.kIn ⟨_,h1,rfl⟩ e (λz=>nomatch z) h
 | @frz a ob xs ea=>
  cases (show u=Value.ref a from rx);obtain ⟨_,_,_,n,_,h1⟩:=(show ObjOk X.prog X.w H s.heap a (.frz ob (.lst xs)) from I.hok a _ ea);exact df PySem.W.kitx_list I.kIn ⟨_,h1,rfl⟩ e (λz=>nomatch z) h
 | @tup a xs ea=>
  cases (show u=Value.ref a from rx);obtain ⟨_,_,_,p⟩:=(show ObjOk X.prog X.w H s.heap a (.tup xs) from I.hok a _ ea);obtain ⟨o,h1,h2,_⟩:=p;exact df PySem.W.kitx_tuple I.kIn ⟨o,h1,h2⟩ e (λz=>nomatch z) h
 | @dK a kvs ea=>
  cases (show u=Value.ref a from rx);obtain ⟨_,_,vs,_,p⟩:=(show ObjOk X.prog X.w H s.heap a (.dK kvs) from I.hok a _ ea);obtain ⟨o,es,ep,h1,h2,_⟩:=p;exact df PySem.W.kitx_dict I.kIn ⟨o,h1,h2.1⟩ e (λz=>nomatch z) h
 | @dT a kvs ea=>
  cases (show u=Value.ref a from rx);obtain ⟨_,_,xs,_,o,es,ep,h1,h2,_⟩:=(show ObjOk X.prog X.w H s.heap a (.dT kvs) from I.hok a _ ea);exact df PySem.W.kitx_dict I.kIn ⟨o,h1,h2.1⟩ e (λz=>nomatch z) h
 | @ins a C dx fs ea cl ha hn htk hm=>
  cases (show u=Value.ref a from rx);obtain ⟨mA,O,_⟩:=qg I.hok ea;obtain ⟨od,J,_⟩:=O.look;exact df (PySem.W.kitx_own (cl.get _) cl.hd ha hn htk hm) I.kIn J e (λz=>nomatch z) h
end
structure Room(k:Nat)(A:Around):Prop where
 hd:A.handled=none
 dp:A.depth+3 * k+5 < recursionLimit
 un:A.units+16 * k+200 < cLine
theorem Room.mono{j k:Nat}{A:Around}(r:Room k A)(h:j<=k):Room j A:=⟨r.hd,by have:=r.dp;omega,by have:=r.un;omega⟩
theorem Room.deeper{k:Nat}{A:Around}(r:Room (k+1) A)(env:Env):Room k (A.deeper env):=
 ⟨r.hd,by have:=r.dp;show A.depth+1+3 * k+5 < _;omega,by have:=r.un;show A.units+3+16 * k+200 < _;omega⟩
theorem Wr {A:Around} {C:Addr} {us:List Value} {kw:List (Str×Value)}:(A.under (.builtin "type.__call__" ⟨.ref C::us,kw⟩)).depth=A.depth+1:=by first |rfl |simp[Around.under,Code.weight,Code.isCreation,Code.isGuard,Code.isCaller,Code.frames,Code.isFrame,guardIds]
theorem Ws {A:Around} {C:Addr} {us:List Value} {kw:List (Str×Value)}:(A.under (.builtin "type.__call__" ⟨.ref C::us,kw⟩)).units=A.units+1:=by first |rfl |simp[Around.under,Code.cUnits,Code.frames,Code.isFrame]
theorem Room.make {k:Nat} {A:Around} (r:Room (k+1) A) (C:Addr) (us:List Value) (kw:List (Str×Value)):Room k (A.under (.builtin "type.__call__" ⟨.ref C::us,kw⟩)):=
 ⟨r.hd,by have:=r.dp;rw[Wr];omega,by have:=r.un;rw[Ws];omega⟩
theorem Room.depth{k:Nat}{A:Around}(r:Room k A):A.depth < recursionLimit:=by have:=r.dp;omega
noncomputable def Bl:TA:=λ_ H Q=>Q [] H
noncomputable def Wt(ta:TE)(tr:TA):TA:=λσ H Q=>ta σ H λx H1=>tr σ H1 λxs H2=>Q (x::xs) H2
section
variable {X:Cx} {e:Expr} {es:List Expr} {te:TE} {t:TA} {pos:Pos}
theorem j4:PA X [] Bl:=λ_ _ _ _ H Q I h=>Calls.spliced_nil ⟨[],H,I,.nil,h⟩
theorem iY(ha:PE X e te)(hr:PA X es t)(hs:starEach (e::es) X.env=(false,eval e X.env)::starEach es X.env:=by rfl):PA X (e::es) (Wt te t):=by intro pos pins s σ H Q I h;rw[hs];show wpAny _ _ (spliced ((false,eval e X.env)::backTo pos (starEach es X.env))) _ _ s;refine Calls.spliced_cons (thn (ha pins s σ H _ I h) λu s1 ⟨x,H1,I1,r1,q1⟩=>?_);exact thn (hr pos pins s1 σ H1 _ I1 q1) λus s2 ⟨xs,H2,I2,r2,q2⟩=>⟨x::xs,H2,I2,.cons r1 r2,q2⟩
noncomputable def Wu(t:TA):TE:=λσ H Q=>t σ H λxs H1=>xs.length<=sizeLine/\∀p,H1 p=none->Q (.ref p) (upd H1 p (.tup xs))
noncomputable def Wv(t:TA):TE:=λσ H Q=>t σ H λxs H1=>xs.length<=sizeLine/\∀p,H1 p=none->Q (.ref p) (upd H1 p (.lst xs))
theorem Ww{x1}(h:PA X es t):PE X (.Tuple es x1 pos) (Wu t):=by intro pins s σ H Q I hq;refine wpAny_Tuple_spliced (thn (h pos pins s σ H _ I hq) λus s1 ⟨xs,H1,I1,r,z,q⟩=>⟨by rw[<-r.length];exact z,?_⟩);have hf:H1 s1.heap.objs.size=none:=I1.hok.fresh (ax _);refine ⟨.ref s1.heap.objs.size,upd H1 s1.heap.objs.size (.tup xs),I1.laid (t':=s1.toks) (λb u e=>am _ e) (ax _) ?_,rfl,q _ hf⟩;exact ⟨z,us,r,⟨_,bd _ rfl,rfl,_,rfl⟩⟩
theorem Wx(h:PA X es t):PE X (.List es pos) (Wv t):=by intro pins s σ H Q I hq;refine wpAny_List_spliced (thn (h pos pins s σ H _ I hq) λus s1 ⟨xs,H1,I1,r,z,q⟩=>⟨by rw[<-r.length];exact z,?_⟩);have hf:H1 s1.heap.objs.size=none:=I1.hok.fresh (ax _);refine ⟨.ref s1.heap.objs.size,upd H1 s1.heap.objs.size (.lst xs),I1.laid (t':=s1.toks) (λb u e=>am _ e) (ax _) ?_,rfl,q _ hf⟩;exact ⟨z,us,0,r,bd _ rfl⟩
end
noncomputable abbrev Sp:=List V->Hp->VK->XK->Prop
noncomputable abbrev CXT:=List Env->Hp->Shared->XK->Value->Shared->Prop
structure Env0(P:Program)(w:World)(K:PF)(mg:Str->Option Value)(base:Heap)(A:Around)(outer:List Env)(s:Shared)(H:Hp):Prop where
 frames:A.frames=some outer
 mod:Mod K mg base
 bs:∀b o,base.get? b=some o->s.heap.get? b=some o/\H b=none
 bsz:base.objs.size<=s.heap.objs.size
 funs:s.heap.FunFrames base outer
 frf:∀b∈frs outer,H b=none
 hok:HOk P w H s.heap
 bare:AllBare s.gens
noncomputable def CE(outer:List Env)(P:Program)(w:World)(H:Hp)(s:Shared)(Q:VK)(u:Value)(s':Shared):Prop:=
 ∃v H',s'.os=s.os/\AllBare s'.gens/\Un (frs outer) [] H H' s.heap s'.heap/\HOk P w H' s'.heap/\RelV v u/\Q v H'
noncomputable def CR(CX:CXT)(outer:List Env)(P:Program)(w:World)(H:Hp)(s:Shared)(Q:VK)(E:XK)(r:Result)(s':Shared):Prop:=
 match r with
 |.ok (.ret u)=>CE outer P w H s Q u s'
 |.ok _=>False
 |.error e=>CX outer H s E e s'
structure FnOk(P:Program)(w:World)(K:PF)(mg:Str->Option Value)(base:Heap)(CX:CXT)(k:Nat)(f:Addr)(fd:FuncData)(ps:List Str)(sp:Sp):Prop where
 len:∀vs H Q E,sp vs H Q E->vs.length=ps.length
 run:∀(A:Around)(outer:List Env)(s:Shared)(H:Hp)(args:Args)(us:List Value)(vs:List V)(Q:VK)(E:XK),Room k A->Env0 P w K mg base A outer s H->BindsTo s fd args (ps.zip us)->Vals vs us->sp vs H Q E->
  codeAny (model P w) A (.call (.ref f) args) (CR CX outer P w H s Q E) s
theorem FnOk.mono{P:Program}{w:World}{K:PF}{mg:Str->Option Value}{base:Heap}{CX:CXT}{j k:Nat}{f:Addr}{fd:FuncData}{ps:List Str}{sp:Sp}(F:FnOk P w K mg base CX j f fd ps sp)(h:j<=k):
  FnOk P w K mg base CX k f fd ps sp:=⟨F.len,λA outer s H args us vs Q E hr=>F.run A outer s H args us vs Q E (hr.mono h)⟩
theorem FnOk.imp{P:Program}{w:World}{K:PF}{mg:Str->Option Value}{base:Heap}{CX:CXT}{k:Nat}{f:Addr}{fd:FuncData}{ps:List Str}{sp sp':Sp}(F:FnOk P w K mg base CX k f fd ps sp)
  (h:∀vs H Q E,sp' vs H Q E->sp vs H Q E):FnOk P w K mg base CX k f fd ps sp':=
 ⟨λvs H Q E q=>F.len vs H Q E (h _ _ _ _ q),λA outer s H args us vs Q E hr he hb hv hs=>F.run A outer s H args us vs Q E hr he hb hv (h _ _ _ _ hs)⟩
theorem Env0.make{P:Program}{w:World}{K:PF}{mg:Str->Option Value}{base:Heap}{A:Around}{outer:List Env}{s:Shared}{H:Hp}(e:Env0 P w K mg base A outer s H)(C:Addr)(us:List Value)(kw:List (Str×Value)):
  Env0 P w K mg base (A.under (.builtin "type.__call__" ⟨.ref C::us,kw⟩)) outer s H:=⟨by first |exact e.frames | (simpa [Around.under,Code.envs,Code.isFrame,pushEnvs] using e.frames),e.mod,e.bs,e.bsz,e.funs,e.frf,e.hok,e.bare⟩
section
variable {X:Cx} {pins:List (Addr×Obj)} {σ:St} {H:Hp} {s s':Shared}
theorem Inv.env0(I:Inv X pins σ H s):Env0 X.prog X.w X.K X.mg X.base X.A X.stack s H:=
 ⟨I.ok.frames,I.ok.mod,I.bs,bv I.ok.bsz I.sz,I.stack,I.stkFree,I.hok,I.bare⟩
theorem Inv.after{Q:VK}{u:Value}(I:Inv X pins σ H s)(h:CE X.stack X.prog X.w H s Q u s'):EP X pins σ Q u s':=by obtain ⟨v,H',os,bare,un,hok,r,q⟩:=h;obtain ⟨hh,g,d,t,os'⟩:=s';obtain rfl:os'=s.os:=os;exact ⟨v,H',I.call (h':=hh) (g':=g) (d':=d) (t':=t) (ch:=[]) un hok bare (λb z=>absurd z (by simp)),r,q⟩
end
noncomputable def Wy(sp:Sp)(dvs:List V)(E:XK)(t:TA):TE:=λσ H Q=>t σ H λvs H1=>sp (vs++dvs) H1 Q E
noncomputable def qi(C:Addr)(m:Str)(sp:Sp)(dvs:List V)(E:XK)(ta:TE)(t:TA):TE:=λσ H Q=>ta σ H λx H1=>∃a dx fs,x=.ref a/\H1 a=some (.ins C dx fs)/\fs.lookup m=none/\
 t σ H1 λvs H2=>sp (x::(vs++dvs)) H2 Q E
noncomputable def Wz(C:Addr)(sp:Sp)(dvs:List V)(E:XK)(t:TA):TE:=λσ H Q=>t σ H λvs H1=>∀x dx,H1 x=none->H1 dx=none->dx≠x->
 sp (.ref x::(vs++dvs)) (upd (upd H1 dx (.own x)) x (.ins C dx [])) (λv H2=>v=.non/\Q (.ref x) H2) E
noncomputable def Binds(K:PF)(fd:FuncData)(ps:List Str)(ds:List Value):Prop:=
 ∀(s:Shared)(us:List Value),K.In s.heap->(us++ds).length=ps.length->BindsTo s fd ⟨us,[]⟩ (ps.zip (us++ds))
theorem Binds.all{K:PF}{fd:FuncData}{ps:List Str}(h:∀us:List Value,us.length=ps.length->bindArgs fd ⟨us,[]⟩=pure (ps.zip us)):Binds K fd ps []:=λs us _ hl=>by
 rw[eW]at hl ⊢;exact .of_eq (h us hl)
noncomputable def eV(CX:CXT)(X:Cx)(E:XK):Prop:=∀(pins:List (Addr×Obj))(σ:St)(H:Hp)(s:Shared)(e:Value)(s':Shared),Inv X pins σ H s->CX X.stack H s E e s'->X.xe e s'
section
variable {X:Cx} {CX:CXT} {k:Nat} {f C:Addr} {fd:FuncData} {ps:List Str} {sp:Sp} {dvs:List V} {ds:List Value} {E:XK} {x m:Str} {p pos apos:Pos} {e o:Expr} {es:List Expr} {ta:TE} {t:TA}
theorem vm{pins:List (Addr×Obj)}{σ:St}{H:Hp}{s:Shared}{Q:VK}{us:List Value}{vs:List V}(F:FnOk X.prog X.w X.K X.mg X.base CX k f fd ps sp)(hr:Room k X.A)(hb:Binds X.K fd ps ds)(hd:Vals dvs ds)(hx:eV CX X E)
  (I:Inv X pins σ H s) (r:Vals vs us) (h:sp (vs++dvs) H Q E):wpAny (model X.prog X.w) X.A (call (.ref f) us) (EP X pins σ Q) X.xe s:=by
 have r2:Vals (vs++dvs) (us++ds):=r.append hd;have hl:(us++ds).length=ps.length:=by rw[<-r2.length];exact F.len _ _ _ _ h
 refine wpAny_call (codeAny_mono (F.run X.A X.stack s H ⟨us,[]⟩ (us++ds) (vs++dvs) Q E hr I.env0 (hb s us I.kIn hl) r2 h) λr s' hq=>?_);cases r with
 |error e=>exact hx pins σ H s e s' I hq
 |ok fl=>
  cases fl with
  |ret u=>exact I.after hq
  |next=>exact False.elim hq
  |brk=>exact False.elim hq
  |cont=>exact False.elim hq
theorem WD(F:FnOk X.prog X.w X.K X.mg X.base CX k f fd ps sp)(hr:Room k X.A)(hg:Gl X x)(hm:X.mg x=some (.ref f))(hk:PySem.W.keepIn X.K (.ref f)=true)(hb:Binds X.K fd ps ds)(hd:Vals dvs ds)(hx:eV CX X E)
  (ha:PA X (e::es) t) (hdb:(x==("__debug__":Str))=false:=by decide) (he:starEach (e::es) X.env=(false,eval e X.env)::starEach es X.env:=by rfl) (hpl:(backTo pos (starEach es X.env)).any (·.1)=false:=by rfl):
  PE X (.Call (.Name x p) (e::es) [] pos) (Wy sp dvs E t):=by
 intro pins s σ H Q I h;refine wpAny_Call_Name_kw (pY I hg hm ?_ hdb);refine PySem.W.callWith_K (h₀:=X.base) I.ok.mod.kin hk (thn (ha pos pins s σ H _ I h) λus s1 ⟨vs,H1,I1,r,q⟩=>⟨I1.kIn,?_⟩) he hpl;exact vm F hr hb hd hx I1 r q
theorem WF{pl:Sem Bool}(he:PE X o ta)(c:Cls X.K C)(hm:Meth X.K C m f)(F:FnOk X.prog X.w X.K X.mg X.base CX k f fd ps sp)(hr:Room k X.A)(hb:Binds X.K fd ps ds)(hd:Vals dvs ds)(hx:eV CX X E)(ha:PA X (e::es) t)
  (hst:starEach (e::es) X.env=(false,eval e X.env)::starEach es X.env:=by rfl) (hpl:(backTo pos (starEach es X.env)).any (·.1)=false:=by rfl)
  (ht:eval (.Call (.Attribute o m apos) (e::es) [] pos) X.env=(do
   let ov <-eval o X.env
   standAt apos.atName
   let (f,first) <-holding [ov] (getMethod ov m pl)
   callWith pos f first (backTo pos (starEach (e::es) X.env)) (backToKw pos (keywordEach [] X.env))):=by rfl):
  PE X (.Call (.Attribute o m apos) (e::es) [] pos) (qi C m sp dvs E ta t):=by
 intro pins s σ H Q I h;refine PySem.W.methodCall_KW (pl:=pl) (thn (he pins s σ H _ I h) λu s1 ⟨x,H1,I1,rx,a,dx,fs,ex,ea,l,q⟩=>?_) ht;subst ex;obtain rfl:u=Value.ref a:=rx;refine Bk I1 ea c hm l ?_;refine PySem.W.callWith_K (first:=[.ref a]) (h₀:=X.base) I.ok.mod.kin hm.kp (thn (ha pos pins s1 σ H1 _ I1 q) λus s2 ⟨vs,H2,I2,r,q2⟩=>⟨I2.kIn,?_⟩) hst hpl;exact vm (us:=.ref a::us) (vs:=.ref a::vs) F hr hb hd hx I2 (.cons rfl r) q2
theorem WK{pl:Sem Bool}(he:PE X o ta)(c:Cls X.K C)(hm:Meth X.K C m f)(F:FnOk X.prog X.w X.K X.mg X.base CX k f fd ps sp)(hr:Room k X.A)(hb:Binds X.K fd ps ds)(hd:Vals dvs ds)(hx:eV CX X E)
  (ht:eval (.Call (.Attribute o m apos) [] [] pos) X.env=(do
   let ov <-eval o X.env
   standAt apos.atName
   let (f,first) <-holding [ov] (getMethod ov m pl)
   callWith pos f first (backTo pos (starEach [] X.env)) (backToKw pos (keywordEach [] X.env))):=by rfl):
  PE X (.Call (.Attribute o m apos) [] [] pos) (qi C m sp dvs E ta Bl):=by
 intro pins s σ H Q I h;refine PySem.W.methodCall_KW (pl:=pl) (thn (he pins s σ H _ I h) λu s1 ⟨x,H1,I1,rx,a,dx,fs,ex,ea,l,q⟩=>?_) ht;subst ex;obtain rfl:u=Value.ref a:=rx;refine Bk I1 ea c hm l ?_;exact PySem.W.callWith_K0 (first:=[.ref a]) I1.kIn hm.kp (vm (us:=[.ref a]) (vs:=[.ref a]) F hr hb hd hx I1 (.cons rfl .nil) q)
structure Mk(K:PF)(C f:Addr):Prop where
 makes:PySem.W.makesIn K C=true
 init:PySem.W.findIn K (.ref C) "__init__"=some (some (.ref f))
 fn:PySem.W.isFn K (.ref f)=true
 kp:PySem.W.keepIn K (.ref C)=true
theorem WL{pins:List (Addr×Obj)}{σ:St}{H:Hp}{s:Shared}{Q:VK}{us:List Value}{vs:List V}(M:Mk X.K C f)(F:FnOk X.prog X.w X.K X.mg X.base CX k f fd ps sp)(hr:Room (k+1) X.A)(hb:Binds X.K fd ps ds)(hd:Vals dvs ds)
  (hx:eV CX X E) (I:Inv X pins σ H s) (r:Vals vs us)
  (h:∀x dx,H x=none->H dx=none->dx≠x->sp (.ref x::(vs++dvs)) (upd (upd H dx (.own x)) x (.ins C dx [])) (λv H2=>v=.non/\Q (.ref x) H2) E):
  wpAny (model X.prog X.w) X.A (call (.ref C) us) (EP X pins σ Q) X.xe s:=by
 have hq:=h (s.heap.objs.size+1) s.heap.objs.size (I.hok.fresh (fk _)) (I.hok.fresh (ax _)) (cm (Nat.lt_succ_self _));have I2:=Inv.made (C:=C) I;have r2:Vals (V.ref (s.heap.objs.size+1)::(vs++dvs)) (Value.ref (s.heap.objs.size+1)::(us++ds)):=.cons rfl (r.append hd);have hl:(Value.ref (s.heap.objs.size+1)::us++ds).length=ps.length:=by have e:=r2.length;rw[F.len _ _ _ _ hq]at e;exact e.symm
 refine wpAny_call (Wf (f:=f) I.kIn M.makes M.init (aE.mp M.fn) (codeAny_mono (F.run _ X.stack _ _ ⟨Value.ref (s.heap.objs.size+1)::us,[]⟩ (Value.ref (s.heap.objs.size+1)::(us++ds)) _ _ E (hr.make C us [])
  (I2.env0.make C us []) (hb _ (Value.ref (s.heap.objs.size+1)::us) I2.kIn hl) r2 hq) λr s' hq'=>?_))
 cases r with
 |error e=>exact hx pins σ _ _ e s' I2 hq'
 |ok fl=>
  cases fl with
  |ret u=>
   obtain ⟨v,H',I3,rv,ev,q3⟩:=I2.after hq';subst ev;exact ⟨rv,⟨V.ref (s.heap.objs.size+1),H',I3,rfl,q3⟩⟩
  |next=>exact False.elim hq'
  |brk=>exact False.elim hq'
  |cont=>exact False.elim hq'
theorem WM(M:Mk X.K C f)(F:FnOk X.prog X.w X.K X.mg X.base CX k f fd ps sp)(hr:Room (k+1) X.A)(hg:Gl X x)(hm:X.mg x=some (.ref C))(hb:Binds X.K fd ps ds)(hd:Vals dvs ds)(hx:eV CX X E)
  (ha:PA X (e::es) t) (hdb:(x==("__debug__":Str))=false:=by decide) (he:starEach (e::es) X.env=(false,eval e X.env)::starEach es X.env:=by rfl) (hpl:(backTo pos (starEach es X.env)).any (·.1)=false:=by rfl):
  PE X (.Call (.Name x p) (e::es) [] pos) (Wz C sp dvs E t):=by
 intro pins s σ H Q I h;refine wpAny_Call_Name_kw (pY I hg hm ?_ hdb);refine PySem.W.callWith_K (h₀:=X.base) I.ok.mod.kin M.kp (thn (ha pos pins s σ H _ I h) λus s1 ⟨vs,H1,I1,r,q⟩=>⟨I1.kIn,?_⟩) he hpl;exact WL M F hr hb hd hx I1 r q
end
structure FnScope(N P:List Str)(sc:Scope):Prop where
 kind:sc.kind=.function
 co:sc.isCoroutine=false
 gen:sc.isGenerator=false
 nd:N.Nodup
 pre:N.take P.length=P
 par:∀x∈P,sc.names.lookup x=some .local\/sc.names.lookup x=some .cell
 nofree:∀y∈sc.names,y.2≠.free
theorem Bm{kindOf:Str->Option NameKind}{x:Str}:∀{binds:List (Str×Value)}{m:Str->Option Value},(∀v,(x,v)∉binds)->bindL kindOf binds m x=m x
 |[],_,_=>rfl
 | (n,v)::r,m,h=>by
  unfold bindL;rw[Bm λw hw=>h w (a9 _ hw)];split
  ·have:x≠n:=by rintro rfl;exact h v br
   simp[this]
  ·rfl
theorem Bo{kindOf:Str->Option NameKind}{x:Str}:∀{binds:List (Str×Value)}{m:Str->Option Value},(∀v,(x,v)∉binds)->bindC kindOf binds m x=m x
 |[],_,_=>rfl
 | (n,v)::r,m,h=>by
  unfold bindC;rw[Bo λw hw=>h w (a9 _ hw)];split
  ·rfl
  ·have:x≠n:=by rintro rfl;exact h v br
   simp[this]
theorem Bp{kindOf:Str->Option NameKind}{x:Str}{v:Value}:∀{P:List Str}{vs:List Value}{i:Nat}{m:Str->Option Value},P.Nodup->P[i]?=some x->vs[i]?=some v->kindOf x=some .local->
  bindL kindOf (P.zip vs) m x=some v
 |[],_,_,_,_,h,_,_=>by simp at h
 |_::_,[],_,_,_,_,h,_=>by simp at h
 |p::P,w::vs,0,m,nd,h1,h2,hk=>by
  simp at h1 h2;subst h1;subst h2;show bindL kindOf ((p,w)::P.zip vs) m p=_;unfold bindL;rw[Bm λv hv=>(d5.mp nd).1 (List.of_mem_zip hv).1,if_pos hk];simp
 |p::P,w::vs,i+1,m,nd,h1,h2,hk=>by
  show bindL kindOf ((p,w)::P.zip vs) m x=_;unfold bindL;exact Bp (i:=i) (d5.mp nd).2 (by simpa using h1) (by simpa using h2) hk
theorem Bq{kindOf:Str->Option NameKind}{x:Str}{v:Value}:∀{P:List Str}{vs:List Value}{i:Nat}{m:Str->Option Value},P.Nodup->P[i]?=some x->vs[i]?=some v->kindOf x≠some .local->
  bindC kindOf (P.zip vs) m x=some v
 |[],_,_,_,_,h,_,_=>by simp at h
 |_::_,[],_,_,_,_,h,_=>by simp at h
 |p::P,w::vs,0,m,nd,h1,h2,hk=>by
  simp at h1 h2;subst h1;subst h2;show bindC kindOf ((p,w)::P.zip vs) m p=_;unfold bindC;rw[Bo λv hv=>(d5.mp nd).1 (List.of_mem_zip hv).1,if_neg hk];simp
 |p::P,w::vs,i+1,m,nd,h1,h2,hk=>by
  show bindC kindOf ((p,w)::P.zip vs) m x=_;unfold bindC;exact Bq (i:=i) (d5.mp nd).2 (by simpa using h1) (by simpa using h2) hk
noncomputable def start(N:List Str)(vs:List V):St:=vs.map some++List.replicate (N.length - vs.length) none
noncomputable def cV(CX:CXT)(P:Program)(w:World)(K:PF)(mg:Str->Option Value)(base:Heap)(N:List Str)(qual:Str)(scope:Scope)(f:Addr)(cd:Value)(A:Around)(outer:List Env)(s:Shared)(H:Hp)(E:XK):Cx where
 prog:=P
 w:=w
 K:=K
 mg:=mg
 base:=base
 A:=A.deeper (envOfC qual scope s.heap.objs.size f cd)
 N:=N
 s₀:=s
 H₀:=H
 env:=envOfC qual scope s.heap.objs.size f cd
 outer:=outer
 stack:=envOfC qual scope s.heap.objs.size f cd::outer
 ex:=[]
 calm:=true
 fn:=λ_=>true
 pn:=[]
 xe:=λe s'=>wpAny (model P w) (A.deeper (envOfC qual scope s.heap.objs.size f cd)) (leaving (envOfC qual scope s.heap.objs.size f cd) e) (λ_ s''=>CX outer H s E e s'') (λe' s''=>CX outer H s E e' s'') s'
theorem Br{sc:Scope}{n:Nat}{x:Str}(h:sc.names.lookup x=some .cell):∃c,(cellsFrom n sc.names []).lookup x=some c:=by have q:=PySem.W.cellsFrom_some sc.names n [] (.inl h);exact cp.mp q
theorem Bt{CX:CXT}{P:Program}{w:World}{K:PF}{mg:Str->Option Value}{base:Heap}{N ps:List Str}{qual:Str}{scope:Scope}{f:Addr}{cd:Value}{A:Around}{outer:List Env}{s s1:Shared}{H:Hp}{E:XK}{us:List Value}{vs:List V}
  (S:FnScope N ps scope) (hd:A.handled=none) (e0:Env0 P w K mg base A outer s H) (hl:vs.length=ps.length) (r:Vals vs us)
  (x:InCallC s s.heap.objs.size (bindL (envOfC qual scope s.heap.objs.size f cd).kindOf (ps.zip us) λ_=>none) (cellsFrom (s.heap.objs.size+1) scope.names []) (bindC (envOfC qual scope s.heap.objs.size f cd).kindOf (ps.zip us) λ_=>none) s1):
  Inv (cV CX P w K mg base N qual scope f cd A outer s H E) [] (start N vs) H s1:=by
 have hpl:ps.length<=N.length:=by have:=eT List.length S.pre;rw[bo]at this;omega
 obtain ⟨h1,tk,rfl,hk⟩:=x.done;have noA:∀b:Addr,b∉(cV CX P w K mg base N qual scope f cd A outer s H E).ex:=λb z=>absurd (show b∈([]:List Addr) from z) (by simp);refine ⟨⟨e0.mod,S.kind,rfl,rfl,ax _,λy z c h1 h2=>?_,λy hy=>?_,λy c _ h=>?_,λ_=>hd,Around.frames_deeper e0.frames,.inr ⟨rfl,rfl⟩,λb z=>absurd z (noA b),e0.bs,e0.bsz,λb _ _=>noA b,λb z=>absurd z (noA b),e0.funs,e0.frf⟩,
  rfl,e0.bare,Un.kept hk,⟨_,x.toInCall.ns,λi y v h1 h2 h3=>?_⟩,λy c h=>⟨_,x.cell y c h⟩,e0.hok.fresh (ax _),λy c h=>?_,λp hp=>absurd (show p∈([]:List (Addr×Obj)) from hp) (by simp),e0.hok.kept hk,?_⟩
 ·exact name_of_addr x.apart (dQ h1) (dQ h2)
 ·have hy:scope.names.lookup y=some .cell\/scope.names.lookup y=some .free:=hy;rcases hy with hy |hy
  ·exact Br hy
  ·exact absurd rfl (S.nofree _ (dQ hy))
 ·exact Nat.le_of_lt (x.above y c (dQ h))
 ·have hi:i < vs.length:=by
   unfold start at h2;by_cases hi:i < vs.length
   ·exact hi
   ·rw[List.getElem?_append_right (by simpa using hi)]at h2;rw[List.getElem?_replicate]at h2;split at h2 <;> cases h2
  have ha:vs[i]?=some v:=by
   unfold start at h2;rw[ek (by simpa using hi),bS]at h2;cases e:vs[i]? with
   |none=>rw[e]at h2;cases h2
   |some a=>rw[e]at h2;cases h2;rfl
  obtain ⟨u,hu,rv⟩:=r.get ha;have hp:ps[i]?=some y:=by rw[<-S.pre,List.getElem?_take_of_lt (by omega)];exact h1
  have ndP:ps.Nodup:=by rw[<-S.pre];exact S.nd.sublist (List.take_sublist _ _)
  refine ⟨u,rv,?_⟩;rcases S.par y (cy hp) with k |k
  ·exact .inl ⟨k,Bp ndP hp hu k⟩
  ·obtain ⟨c,e⟩:=Br (n:=s.heap.objs.size+1) k;refine .inr ⟨.inl k,c,e,?_⟩;have q:=x.cell y c e;rw[Bq ndP hp hu (by show scope.names.lookup y≠_;rw[k];decide)]at q;exact q
 ·exact e0.hok.fresh (Nat.le_of_lt (x.above y c (dQ h)))
 ·unfold start;show _=N.length;rw[aw,ah,de];omega
theorem WN{CX:CXT}{P:Program}{w:World}{K:PF}{mg:Str->Option Value}{base:Heap}{k:Nat}{f:Addr}{name qual:Str}{params:Arguments}{body:List Stmt}{scope:Scope}{dV kV doc pm cdv ct oc:Value}{an od:Option Addr}
  {osl:Array (Option Value)} {N ps:List Str} {sp:Sp} (lk:K.lookup f=some ⟨oc,od,.func (PySem.W.fnOf name qual params body scope dV kV doc pm an cdv ct),osl⟩) (hcd:PySem.W.codeIn K cdv qual=true) (S:FnScope N ps scope)
  (len:∀vs H Q E,sp vs H Q E->vs.length=ps.length)
  (hbody:∀(A:Around)(outer:List Env)(s:Shared)(H:Hp)(vs:List V)(Q:VK)(E:XK),Room k (A.deeper (envOfC qual scope s.heap.objs.size f cdv))->sp vs H Q E->
   ∃t,PSs (cV CX P w K mg base N qual scope f cdv A outer s H E) body t/\t { nx:=λ_ H'=>Q .non H',rt:=Q } (start N vs) H):
  FnOk P w K mg base CX (k+1) f (PySem.W.fnOf name qual params body scope dV kV doc pm an cdv ct) ps sp:=by
 refine ⟨len,λA outer s H args us vs Q E hr e0 hb r hsp=>?_⟩;have hl:=len _ _ _ _ hsp;have KX:K.In s.heap:=e0.mod.kin.keeps λb o e=>(e0.bs b o e).1;have lim:s.heap.NoLimit:=e0.mod.nolimit.keeps λb o e=>(e0.bs b o e).1;have hkind:∀y∈ps.zip us,scope.names.lookup y.1=some .local\/(scope.names.lookup y.1=some .cell/\((cellsFrom (s.heap.objs.size+1) scope.names []).lookup y.1).isSome=true):=λ⟨n,v⟩ hy=>by
  rcases S.par n (List.of_mem_zip hy).1 with q |q
  ·exact .inl q
  ·exact .inr ⟨q,PySem.W.cellsFrom_some _ _ _ (.inl q)⟩
 refine codeAny_call_function hr.depth (KX _ _ lk) rfl S.co S.gen rfl (PySem.W.codeRec_of KX hcd) (hb _ _ _ _ ?_);refine wpAny_newFunctionEnv_cells S.kind hkind λenv he s1 x=>?_;subst he;refine ⟨lim.keeps x.toInCall.keep,codeAny_func ?_⟩;obtain ⟨t,ht,hq⟩:=hbody A outer s H vs Q E (hr.deeper _) hsp;have I:Inv (cV CX P w K mg base N qual scope f cdv A outer s H E) [] (start N vs) H s1:=Bt S hr.hd e0 hl r x;refine cw (ht [] s1 (start N vs) H _ I hq) (λfl s' hs=>?_) λe s' hs=>hs;have fin:∀{σ':St}{H':Hp}{v:V}{u:Value},Inv (cV CX P w K mg base N qual scope f cdv A outer s H E) [] σ' H' s'->RelV v u->Q v H'->CE outer P w H s Q u s':=
  λ{σ' H' v u} J rv q=>⟨v,H',J.os,J.bare,J.base,J.hok,rv,q⟩
 cases fl with
 |ret u=>
  obtain ⟨v,σ',H',J,rv,q⟩:=hs;exact fin J rv q
 |next=>
  obtain ⟨σ',H',J,q⟩:=hs;exact fin (v:=V.non) (u:=Value.none) J rfl q
 |brk=>
  obtain ⟨_,_,_,q⟩:=hs;exact False.elim q
 |cont=>
  obtain ⟨_,_,_,q⟩:=hs;exact False.elim q
section
variable {X:Cx} {x:Str} {p pos:Pos} {e:Expr} {es:List Expr} {t:TA} {id T:String} {r:List V->Hp->VK->Prop}
noncomputable def tCB(r:List V->Hp->VK->Prop)(t:TA):TE:=λσ H Q=>t σ H λvs H1=>r vs H1 Q
theorem qj (hc:bC X (.builtin id) r) (hg:Gl X x) (hm:X.mg x=none) (hv:bootBuiltins x=some (.builtin id)) (ha:PA X (e::es) t) (hn:x≠"__name__":=by decide) (hdb:(x==("__debug__":Str))=false:=by decide)
  (he:starEach (e::es) X.env=(false,eval e X.env)::starEach es X.env:=by rfl) (hpl:(backTo pos (starEach es X.env)).any (·.1)=false:=by rfl):PE X (.Call (.Name x p) (e::es) [] pos) (tCB r t):=by
 intro pins s σ H Q I h;refine wpAny_Call_Name_kw (iU I hg hm hv ?_ hn hdb);exact PyProof.Rows.callWith_builtin1 (thn (ha pos pins s σ H _ I h) λus s1 ⟨vs,H1,I1,r1,q1⟩=>hc pins s1 σ H1 vs us Q I1 r1 q1) he hpl
theorem ql (hc:bC X (.type T) r) (hg:Gl X x) (hm:X.mg x=none) (hv:bootBuiltins x=some (.type T)) (ha:PA X (e::es) t) (hn:x≠"__name__":=by decide) (hdb:(x==("__debug__":Str))=false:=by decide)
  (he:starEach (e::es) X.env=(false,eval e X.env)::starEach es X.env:=by rfl) (hpl:(backTo pos (starEach es X.env)).any (·.1)=false:=by rfl):PE X (.Call (.Name x p) (e::es) [] pos) (tCB r t):=by
 intro pins s σ H Q I h;refine wpAny_Call_Name_kw (iU I hg hm hv ?_ hn hdb);exact ff (thn (ha pos pins s σ H _ I h) λus s1 ⟨vs,H1,I1,r1,q1⟩=>hc pins s1 σ H1 vs us Q I1 r1 q1) he hpl
end
end L2
namespace HT
open PySem PyProof.Rows
section
variable {prog:Program} {w:World} {A:Around} {E:Value->Shared->Prop} {s:Shared}
theorem WP{t b:Addr}{vs ws:List Value}{Q:Value->Shared->Prop}(ht:IsTup s.heap t vs.toArray)(hb:IsTup s.heap b ws.toArray)(hv:vs≠[])
  (h1:ws=[]->Q (.ref t) s) (h2:ws≠[]->Q (.ref s.heap.objs.size) { s with heap:=s.heap.push { cls:=.type "tuple",data:=.seq (vs++ws).toArray } })
  (hsz:vs.length+ws.length<=sizeLine):wpAny (model prog w) A (binaryOp .Add (.ref t) (.ref b)) Q E s:=by
 obtain ⟨⟨cls,dd,data,sl⟩,ho,hc,n,hd⟩:=id ht;obtain ⟨⟨cls2,dd2,data2,sl2⟩,ho2,hc2,n2,hd2⟩:=id hb;simp only at hc hd hc2 hd2;subst hc hd hc2 hd2;have e:vs.toArray++ws.toArray=(vs++ws).toArray:=by simp
 by_cases hw:ws=[]
 ·exact concat_meets ⟨_,ho,rfl⟩ ⟨_,ho2,rfl⟩ noFill_tuple_add seq_tuple_add PySem.F.slot_tuple_add PySem.F.entry_tuple_add (PySem.F.args_tuple_add_2 _ _)
   (tuple_addW1 t b vs.toArray ws.toArray n n2 dd dd2 sl sl2 (by simpa using hv) (by simp[hw])) ⟨ho,ho2,h1 hw⟩
 ·refine concat_meets ⟨_,ho,rfl⟩ ⟨_,ho2,rfl⟩ noFill_tuple_add seq_tuple_add PySem.F.slot_tuple_add PySem.F.entry_tuple_add (PySem.F.args_tuple_add_2 _ _)
   (tuple_addW2 t b vs.toArray ws.toArray n n2 dd dd2 sl sl2 (by simpa using hv) (by simpa using hw) (by rw[List.size_toArray,List.size_toArray];exact hsz)) ⟨ho,ho2,?_⟩
  rw[e];exact h2 hw
noncomputable def sIx(n d:Nat):Option Int->Nat
 |none=>d
 |some v=>if v < 0 then (v+(n:Int)).toNat else min v.toNat n
theorem Bu(n d k:Nat):sIx n d (some (k:Int))=min k n:=by show (if (k:Int) < 0 then ((k:Int)+(n:Int)).toNat else min (k:Int).toNat n)=min k n;rw[if_neg (by omega),Int.toNat_natCast]
theorem Bv(n d:Nat)(hd:d<=n)(o:Option Int):sIx n d o<=n:=by
 cases o with
 |none=>exact hd
 |some v=>
  show (if v < 0 then (v+(n:Int)).toNat else min v.toNat n)<=n;by_cases hv:v < 0
  ·rw[if_pos hv];omega
  ·rw[if_neg hv];exact Nat.min_le_right _ _
theorem Bw(v:Int)(n d:Nat):(if v < 0 then max (v+(n:Int)) 0 else min v (n:Int))=((sIx n d (some v):Nat):Int):=by
 show (if v < 0 then max (v+(n:Int)) 0 else min v (n:Int))=(((if v < 0 then (v+(n:Int)).toNat else min v.toNat n):Nat):Int);by_cases hv:v < 0
 ·simp only[if_pos hv];omega
 ·simp only[if_neg hv];omega
theorem WQ(lo hi:Option Int)(n:Nat):Builtin.Slice.sliceAdjust lo hi 1 (n:Int)=(((sIx n 0 lo:Nat):Int),((sIx n n hi:Nat):Int)):=by
 have h1:¬((1:Int) < 0):=by omega
 unfold Builtin.Slice.sliceAdjust;simp only[h1,if_false];refine Prod.ext ?_ ?_
 ·cases lo with
  |none=>rfl
  |some v=>exact Bw v n 0
 ·cases hi with
  |none=>rfl
  |some v=>exact Bw v n n
theorem WR(i j:Nat):Builtin.Slice.slicePlaces (i:Int) (j:Int) 1=j - i:=by
 unfold Builtin.Slice.slicePlaces;have h1:(1:Int) > 0:=by omega
 simp only[h1,if_true,Int.ediv_one];split <;> omega
theorem Bx{v:Value}{o:Option Int}{Q:Option Int->Shared->Prop}(p:IsPart v o)(h:Q o s):wpAny (model prog w) A (Builtin.Slice.slicePartIndex v) Q E s:=by
 cases p with
 |none=>exact slicePart_none h
 |int i t=>exact slicePart_int h
theorem By{sl:Addr}{vl vu:Value}{lo hi:Option Int}{n:Nat}{Q:Int×Int×Nat->Shared->Prop}(hs:s.heap.IsSliceOf sl vl vu .none)(pl:IsPart vl lo)(pu:IsPart vu hi)
  (h:Q (((sIx n 0 lo:Nat):Int),1,sIx n n hi - sIx n 0 lo) s):wpAny (model prog w) A (Builtin.Slice.sliceApplied (.ref sl) (pure (n:Int))) Q E s:=by
 obtain ⟨os,hos,hcs,hds⟩:=id hs;unfold Builtin.Slice.sliceApplied Builtin.Slice.sliceFields;refine wpAny_bind (wpAny_bind (wpAny_field hos hds (x:=vl) rfl (wpAny_bind (wpAny_field hos hds (x:=vu) rfl (wpAny_bind (wpAny_field hos hds (x:=.none) rfl (wpAny_pure ?_)))))));refine wpAny_bind (slicePart_none ?_);show wpAny _ _ (if ((1:Int)==0)=true then _ else _) _ _ s;rw[if_neg (by decide)];refine wpAny_bind (Bx pl (wpAny_bind (Bx pu (wpAny_bind (wpAny_pure ?_)))));show wpAny _ _ (match Builtin.Slice.sliceAdjust lo hi 1 (n:Int) with | (lo,hi)=>pure (lo,(1:Int),Builtin.Slice.slicePlaces lo hi 1)) _ _ s;rw[WQ lo hi n];show wpAny _ _ (pure (((sIx n 0 lo:Nat):Int),(1:Int),Builtin.Slice.slicePlaces ((sIx n 0 lo:Nat):Int) ((sIx n n hi:Nat):Int) 1)) _ _ s;rw[WR];exact wpAny_pure h
theorem WT(xs:Array Value)(i k:Nat):((List.range k).filterMap λ(m:Nat)=>xs[((i:Int)+(m:Int) * 1).toNat]?).toArray=((xs.toList.drop i).take k).toArray:=by
 have e:(λ(m:Nat)=>xs[((i:Int)+(m:Int) * 1).toNat]?)=λm=>xs[i+m]?:=by
  funext m;have:((i:Int)+(m:Int) * 1).toNat=i+m:=by omega
  rw[this]
 rw[e];have:=pick_run xs i k;rw[List.filterMap_map]at this;have e2:((λx=>xs[x]?)∘λx=>i+x)=λm=>xs[i+m]?:=rfl;rw[e2]at this;rw[this]
theorem WX{t sl:Addr}{items:Array Value}{vl vu:Value}{lo hi:Option Int}{Q:Value->Shared->Prop}(ht:IsTup s.heap t items)(hs:s.heap.IsSliceOf sl vl vu .none)(pl:IsPart vl lo)(pu:IsPart vu hi)
  (hw:¬(sIx items.size 0 lo=0/\sIx items.size items.size hi=items.size))
  (h:Q (.ref s.heap.objs.size) { s with heap:=s.heap.push { cls:=.type "tuple",data:=.seq ((items.toList.drop (sIx items.size 0 lo)).take (sIx items.size items.size hi - sIx items.size 0 lo)).toArray } })
  (hsz:items.size<=sizeLine):wpAny (model prog w) A (getItem (.ref t) (.ref sl)) Q E s:=by
 have htake:sizeOk (.seq ((items.toList.drop (sIx items.size 0 lo)).take (sIx items.size items.size hi - sIx items.size 0 lo)).toArray):=by show ((items.toList.drop (sIx items.size 0 lo)).take (sIx items.size items.size hi - sIx items.size 0 lo)).toArray.size<=sizeLine;rw[List.size_toArray,List.length_take,List.length_drop,Array.length_toList];omega
 have hj:sIx items.size items.size hi<=items.size:=Bv _ _ (Nat.le_refl _) hi;obtain ⟨os,hos,hcs,hds⟩:=id hs;have hTs:s.TypeIs (.ref sl) "slice":=⟨os,hos,hcs⟩;unfold getItem;try with_reducible refine wpAny_holding ?_
 first |refine wpAny_bind (wpAny_pure ?_) |skip
 refine wpAny_bind (wpAny_sequenceKey ht.typeIs (by decide) ?_);refine wpAny_bind (wpAny_callSpecial?_slot (name:=Str.ofString "__getitem__") ht.typeIs PyProof.Rows.slot_tuple_getitem
  (wpAny_call_entry PyProof.Rows.slot_tuple_getitem ht.typeIs entry_tuple_getitem ?_ (args_tuple_getitem _ _)))
 show wpAny _ _ (Builtin.Tuple.tupleItemsOf (.ref t) >>= _) _ _ s;refine wpAny_bind (tupleItemsOf_ ht ?_);refine wpAny_bind (wpAny_typeOf hTs ?_);rw[if_pos (by decide)];refine wpAny_bind (By hs pl pu ?_);have hno:¬((((sIx items.size 0 lo:Nat):Int)==0&&(1:Int)==1&&(sIx items.size items.size hi - sIx items.size 0 lo)==items.size)=true):=by intro q;rw[Bool.and_eq_true,Bool.and_eq_true]at q;have q1:((sIx items.size 0 lo:Nat):Int)=0:=eq_of_beq q.1.1;have q2:sIx items.size items.size hi - sIx items.size 0 lo=items.size:=eq_of_beq q.2;exact hw ⟨by omega,by omega⟩
 show wpAny _ _ (if (((sIx items.size 0 lo:Nat):Int)==0&&(1:Int)==1&&(sIx items.size items.size hi - sIx items.size 0 lo)==items.size)=true then _ else _) _ _ s;rw[if_neg hno,WT];first
  |exact wpAny_bind (m:=Builtin.Tuple.tupleExact _) (wpAny_newObj_type (wpAny_pure ⟨_,rfl,wpAny_pure h⟩) htake)
  |exact wpAny_bind (m:=Builtin.Tuple.tupleExact _) (wpAny_newObj_type (wpAny_bind (wpAny_pure (wpAny_pure ⟨_,rfl,wpAny_pure h⟩))) htake)
  |exact wpAny_bind (wpAny_bind (m:=Builtin.Tuple.tupleExact _) (wpAny_newObj_type (wpAny_pure (wpAny_pure ⟨_,rfl,wpAny_pure h⟩)) htake))
  |exact wpAny_bind (wpAny_bind (m:=Builtin.Tuple.tupleExact _) (wpAny_newObj_type (wpAny_pure ⟨_,rfl,wpAny_pure h⟩) htake))
end
end HT
namespace L2
open PySem PySem.Spec PyProof.Rows
noncomputable abbrev TO:=St->Hp->(Option Int->Hp->Prop)->Prop
noncomputable def PO(X:Cx)(e:Option Expr)(t:TO):Prop:=
 ∀(pins:List (Addr×Obj))(s:Shared)(σ:St)(H:Hp)(Q:Option Int->Hp->Prop),Inv X pins σ H s->t σ H Q->
  wpAny (model X.prog X.w) X.A (evalPart e X.env) (λu s'=>∃o H',Inv X pins σ H' s'/\IsPart u o/\Q o H') X.xe s
noncomputable def WY:TO:=λ_ H Q=>Q none H
noncomputable def W0(t:TE):TO:=λσ H Q=>t σ H λx H1=>∃i,x=.int i/\Q (some i) H1
theorem intsAre_of{ns:List Int}:∀{us:List Value},Vals (ns.map V.int) us->IntsAre us ns:=by
 induction ns with
 |nil=>intro us r;rw[dn]at r;cases r;exact .nil
 |cons n ns ih=>
  intro us r;rw[bq]at r;cases r with
  |cons r1 r2=>
   obtain ⟨t,e⟩:=r1;subst e;exact .cons n t (ih r2)
section
variable {X:Cx} {e:Expr} {te:TE} {lo hi:Option Expr} {tl th:TO} {pos p2:Pos}
theorem W2:PO X none WY:=by intro pins s σ H Q I h;rw[evalPart_none];exact bg ⟨none,H,I,.none,h⟩
theorem W3(h:PE X e te):PO X (some e) (W0 te):=by intro pins s σ H Q I hw;rw[evalPart_some];refine thn (h pins s σ H _ I hw) λu s1 ⟨x,H1,I1,r1,q1⟩=>?_;obtain ⟨i,rfl,q⟩:=q1;obtain ⟨t,rfl⟩:=r1;exact ⟨some i,H1,I1,.int i t,q⟩
noncomputable def SlR(X:Cx)(r:V->Option Int->Option Int->Hp->VK->Prop):Prop:=
 ∀(pins:List (Addr×Obj))(s:Shared)(σ:St)(H:Hp)(x:V)(v vl vu:Value)(lo hi:Option Int)(sl:Addr)(Q:VK),Inv X pins σ H s->RelV x v->s.heap.IsSliceOf sl vl vu .none->IsPart vl lo->IsPart vu hi->r x lo hi H Q->
  ∃T id,typeLookup (.type T) "__getitem__"=pure (some (.builtin id))/\s.TypeIs v T/\wpAny (model X.prog X.w) X.A (getItem v (.ref sl)) (EP X pins σ Q) X.xe s
noncomputable def tSl(r:V->Option Int->Option Int->Hp->VK->Prop)(te:TE)(tl th:TO):TE:=λσ H Q=>te σ H λx H1=>tl σ H1 λl H2=>th σ H2 λu H3=>r x l u H3 Q
theorem W4{r:V->Option Int->Option Int->Hp->VK->Prop}(hr:SlR X r)(he:PE X e te)(hl:PO X lo tl)(hu:PO X hi th):PE X (.Subscript e (.Slice lo hi none p2) pos) (tSl r te tl th):=by intro pins s σ H Q I h;refine Subscript_ (thn (he pins s σ H _ I h) λv s1 ⟨x,H1,I1,r1,q1⟩=>?_);refine wpAny_Slice (thn (hl pins s1 σ H1 _ I1 q1) λvl s2 ⟨l,H2,I2,pl,q2⟩=>thn (hu pins s2 σ H2 _ I2 q2) λvu s3 ⟨u,H3,I3,pu,q3⟩=>?_);rw[evalPart_none];refine bg ?_;have I4:Inv X pins σ H3 { s3 with heap:=s3.heap.push { cls:=.type "slice",data:=.fields #[vl,vu,.none] } }:=I3.kept (t':=s3.toks) λb ob q=>am _ q;obtain ⟨T,id,hT,ht,hg⟩:=hr pins { s3 with heap:=s3.heap.push { cls:=.type "slice",data:=.fields #[vl,vu,.none] } } σ H3 x v vl vu l u s3.heap.objs.size Q I4 r1 (Heap.IsSliceOf.new ..) pl pu q3;show wpAny (model X.prog X.w) X.A (subscriptTail e (.Slice lo hi none p2) v (.ref s3.heap.objs.size)) (EP X pins σ Q) X.xe { s3 with heap:=s3.heap.push { cls:=.type "slice",data:=.fields #[vl,vu,.none] } };exact tail_any (ops:=[.ref s3.heap.objs.size,v]) ht hT hg (by with_unfolding_all rfl)
noncomputable def dM(xs:List V)(lo hi:Option Int):List V:=(xs.drop (HT.sIx xs.length 0 lo)).take (HT.sIx xs.length xs.length hi - HT.sIx xs.length 0 lo)
theorem BJ(xs:List V)(lo hi:Option Int):(dM xs lo hi).length<=xs.length:=by unfold dM;rw[bo,ce];omega
noncomputable def W5(K:PF):V->Option Int->Option Int->Hp->VK->Prop:=λx lo hi H Q=>∃a xs,x=.ref a/\SqT K H a xs/\
 ¬(HT.sIx xs.length 0 lo=0/\HT.sIx xs.length xs.length hi=xs.length)/\∀p,H p=none->Q (.ref p) (upd H p (.tup (dM xs lo hi)))
theorem W6:SlR X (W5 X.K):=by
 intro pins s σ H x v vl vu lo hi sl Q I rx hs pl pu h;obtain ⟨a,xs,rfl,hx,hw,q⟩:=h;cases rx;obtain ⟨its,r,ht,hz⟩:=I.tuple hx;have hlen:its.toArray.size=xs.length:=by rw[ar];exact r.length.symm
 refine ⟨"tuple",_,eK.lookup,ht.typeIs,?_⟩;refine HT.WX ht hs pl pu (by rw[hlen];exact hw) ?_ (by rw[hlen];exact hz);rw[hlen];refine ⟨.ref s.heap.objs.size,_,I.laid (t':=s.toks) (o:=.tup (dM xs lo hi)) (λb ob q=>am _ q) (ax _) ?_,rfl,q _ (I.hok.fresh (ax _))⟩;exact ⟨bv (BJ xs lo hi) hz,_,(r.drop (HT.sIx xs.length 0 lo)).take (HT.sIx xs.length xs.length hi - HT.sIx xs.length 0 lo),IsTup.new _ _⟩
noncomputable def W7(K:PF):R2:=λx y H Q=>∃a b xs ys,x=.ref a/\y=.ref b/\SqT K H a xs/\SqT K H b ys/\xs≠[]/\xs.length+ys.length<=sizeLine/\
 (ys=[]->Q (.ref a) H)/\(ys≠[]->∀p,H p=none->Q (.ref p) (upd H p (.tup (xs++ys))))
theorem Vals.nil_iff{xs:List V}{us:List Value}(r:Vals xs us):us=[]↔xs=[]:=by
 cases r with
 |nil=>simp
 |cons _ _=>simp
theorem W8:OpR X (binaryOp .Add) (W7 X.K):=by intro pins s σ H x y v u Q I rx ry h;obtain ⟨a,b,xs,ys,rfl,rfl,ha,hb,hx,hz,q1,q2⟩:=h;cases rx;cases ry;obtain ⟨its,r1,p1,_⟩:=I.tuple ha;obtain ⟨its2,r2,p2,_⟩:=I.tuple hb;refine HT.WP p1 p2 (λz=>hx (r1.nil_iff.mp z)) (λz=>⟨.ref a,H,I,rfl,q1 (r2.nil_iff.mp z)⟩) (λz=>?_) (by rw[<-r1.length,<-r2.length];exact hz);refine ⟨.ref s.heap.objs.size,_,I.laid (t':=s.toks) (o:=.tup (xs++ys)) (λb ob q=>am _ q) (ax _) ?_,rfl,q2 (λw=>z (r2.nil_iff.mpr w)) _ (I.hok.fresh (ax _))⟩;exact ⟨by rw[aw];exact hz,_,r1.append r2,IsTup.new _ _⟩
end
noncomputable def ixN(n:Nat)(i:Int):Option Nat:=if 0<=i then (if i < n then some i.toNat else none) else if -(n:Int)<=i then some (i+n).toNat else none
noncomputable def atI{α:Type}(xs:List α)(i:Int):Option α:=(ixN xs.length i).bind λj=>xs[j]?
theorem BK{n:Nat}{i:Int}{j:Nat}(h:ixN n i=some j):seqIndex? i n=some j/\j < n/\-(n:Int)<=i/\i < n:=by
 unfold ixN at h;by_cases h0:0<=i
 ·rw[if_pos h0]at h;by_cases h1:i < n
  ·rw[if_pos h1]at h;have e:i.toNat=j:=dk h;exact ⟨by rw[seqIndex_of h0 h1,e],by omega,by omega,h1⟩
  ·rw[if_neg h1]at h;cases h
 ·rw[if_neg h0]at h;by_cases h1:-(n:Int)<=i
  ·rw[if_pos h1]at h;have e:(i+n).toNat=j:=dk h;exact ⟨by rw[seqIndex_neg (by omega) h1,e],by omega,h1,by omega⟩
  ·rw[if_neg h1]at h;cases h
theorem vo{α:Type}{xs:List α}{i:Int}{v:α}(h:atI xs i=some v):∃j,seqIndex? i xs.length=some j/\xs[j]?=some v/\j < xs.length/\-(xs.length:Int)<=i/\i < xs.length:=by
 unfold atI at h;cases e:ixN xs.length i with
 |none=>rw[e]at h;cases h
 |some j=>
  rw[e]at h;obtain ⟨h1,h2,h3,h4⟩:=BK e;exact ⟨j,h1,h,h2,h3,h4⟩
theorem bT{α:Type}{xs:List α}{j:Nat}{v:α}(h:xs[j]?=some v):atI xs (j:Int)=some v:=by
 have hj:j < xs.length:=(av.mp h).1;have e:ixN xs.length (j:Int)=some j:=by unfold ixN;rw[if_pos (by omega),if_pos (by omega)];simp
 unfold atI;rw[e];exact h
theorem qm{α:Type}(xs:List α)(v:α):atI (xs++[v]) (-1)=some v:=by
 have hl:(xs++[v]).length=xs.length+1:=by simp
 have e:ixN (xs++[v]).length (-1)=some xs.length:=by unfold ixN;rw[hl,if_neg (by decide),if_pos (by omega)];congr 1;omega
 unfold atI;rw[e];show (xs++[v])[xs.length]?=some v;simp
noncomputable def BL(b:Expr):Prop:=∀o i,subscripted b false o i=operate [o,i] (getItem o i)
noncomputable def IxR(X:Cx)(r:R2):Prop:=
 ∀(value slice:Expr)(pins:List (Addr×Obj))(s:Shared)(σ:St)(H:Hp)(x y:V)(v u:Value)(Q:VK),Inv X pins σ H s->RelV x v->RelV y u->r x y H Q->
  subscripted slice false v u=operate [v,u] (getItem v u)->wpAny (model X.prog X.w) X.A (subscriptTail value slice v u) (EP X pins σ Q) X.xe s
noncomputable def MtR(X:Cx)(id:String)(r:V->List V->Hp->VK->Prop):Prop:=
 ∀(pins:List (Addr×Obj))(s:Shared)(σ:St)(H:Hp)(x:V)(xs:List V)(v:Value)(us:List Value)(Q:VK),Inv X pins σ H s->RelV x v->Vals xs us->r x xs H Q->
  wpAny (model X.prog X.w) X.A (call (.builtin id) (v::us)) (EP X pins σ Q) X.xe s
section
variable {X:Cx} {a b:Expr} {ta tb:TE} {pos:Pos}
theorem W9{r:R2}(hr:IxR X r)(ha:PE X a ta)(hb:PE X b tb)(hs:BL b):PE X (.Subscript a b pos) (tOp r ta tb):=by intro pins s σ H Q I h;exact Subscript_ (vf ha hb I h λv u s2 x y H2 I2 rx ry q=>hr a b pins s2 σ H2 x y v u Q I2 rx ry q (hs _ _))
noncomputable def Xa(K:PF):R2:=λx y H Q=>∃p xs i v,x=.ref p/\y=.int i/\SqL K H p xs/\atI xs i=some v/\Q v H
noncomputable def Xb(K:PF):R2:=λx y H Q=>∃p xs i v,x=.ref p/\y=.int i/\SqT K H p xs/\atI xs i=some v/\Q v H
noncomputable def Xc:R2:=λx y H Q=>∃z i c,x=.str z/\y=.int i/\z.length<=sizeLine/\atI z.cps.toList i=some c/\Q (.str ⟨#[c]⟩) H
theorem Xd:IxR X (Xa X.K):=by
 intro value slice pins s σ H x y v u Q I rx ry h hs;obtain ⟨p,xs,i,z,rfl,rfl,hq,he,q⟩:=h;cases rx;obtain ⟨t,rfl⟩:=ry;obtain ⟨its,r,pl,hz⟩:=I.list hq;obtain ⟨j,h1,h2,h3,h4,h5⟩:=vo he;obtain ⟨w,ew,rw'⟩:=r.get h2;have hl:=r.length;have hn:=gW;have fin:EP X pins σ Q w s:=⟨z,H,I,rw',q⟩;by_cases h0:0<=i
 ·have hj:i.toNat=j:=by
   rw[seqIndex_of h0 h5]at h1;exact dk h1
  exact item_listR pl.isList h0 (by omega) (by rw[hj];simpa using ew) fin hs
 ·have hj:(i+(its.toArray.size:Int)).toNat=j:=by
   rw[seqIndex_neg (by omega) h4]at h1;rw[ar,<-hl];exact dk h1
  exact subscriptTail_builtinR (x:=w) pl.isList.typeIs slot_list_getitem.lookup
   (wpAny_getItem_list_neg (Q:=λr s'=>r=w/\EP X pins σ Q r s') pl.isList (by omega) (by rw[ar] <;> omega) (by omega) (by rw[hj];simpa using ew) ⟨rfl,fin⟩) hs
theorem Xe:IxR X (Xb X.K):=by
 intro value slice pins s σ H x y v u Q I rx ry h hs;obtain ⟨p,xs,i,z,rfl,rfl,hq,he,q⟩:=h;cases rx;obtain ⟨t,rfl⟩:=ry;obtain ⟨its,r,pl,hz⟩:=I.tuple hq;obtain ⟨j,h1,h2,h3,h4,h5⟩:=vo he;obtain ⟨w,ew,rw'⟩:=r.get h2;have hl:=r.length;have hn:=gW;have fin:EP X pins σ Q w s:=⟨z,H,I,rw',q⟩;exact subscriptTail_builtinR (x:=w) pl.typeIs slot_tuple_getitem.lookup
  (getItem_tuple (j:=j) (Q:=λr s'=>r=w/\EP X pins σ Q r s') pl (by omega) (by omega) (by rw[ar,<-hl];exact h1) (by simpa using ew) ⟨rfl,fin⟩) hs
theorem Xf:IxR X Xc:=by
 intro value slice pins s σ H x y v u Q I rx ry h hs;obtain ⟨z,i,c,rfl,rfl,hz,he,q⟩:=h;obtain ⟨t,rfl⟩:=rx;obtain ⟨t',rfl⟩:=ry;obtain ⟨j,h1,h2,h3,h4,h5⟩:=vo he;have hl:z.cps.toList.length=z.length:=by simp[Str.length]
 rw[hl]at h1 h4 h5;have hn:=gW;exact tail_any (typeIs_str s z t) slot_str_getitem.lookup (getItem_str (c:=c) (by
  have e1:decide (i < -(2 ^ 63:Int))=false:=cq (by omega);have e2:decide (i≥2 ^ 63)=false:=cq (by omega);rw[e1,e2,Bool.or_false]) (by rw[h1];simpa using h2) ⟨.str ⟨#[c]⟩,H,I.tok _,⟨_,rfl⟩,q⟩) hs
theorem Xg (its:List Value) (n j:Nat) (u:Value):Obj.mapSeq (·.setIfInBounds j u) { cls:=.type "list",data:=.seq its.toArray n }={ cls:=.type "list",data:=.seq (its.set j u).toArray n }:=by simp[Obj.mapSeq]
theorem Inv.lst{pins:List (Addr×Obj)}{σ:St}{H:Hp}{s:Shared}{p:Addr}{xs:List V}(I:Inv X pins σ H s)(h:H p=some (.lst xs)):
  ∃(its:List Value) (n:Nat),Vals xs its/\s.heap.get? p=some { cls:=.type "list",data:=.seq its.toArray n }/\xs.length<=sizeLine:=by
 obtain ⟨z,its,n,r,e⟩:=I.hok p _ h;exact ⟨its,n,r,e,z⟩
theorem Inv.lstUpd{pins:List (Addr×Obj)}{σ:St}{H:Hp}{s:Shared}{p:Addr}{xs ys:List V}{its its':List Value}{n n':Nat}{f:Obj->Obj}(I:Inv X pins σ H s)(h:H p=some (.lst xs))
  (ho:s.heap.get? p=some { cls:=.type "list",data:=.seq its.toArray n }) (hf:f { cls:=.type "list",data:=.seq its.toArray n }={ cls:=.type "list",data:=.seq its'.toArray n' }) (r:Vals ys its') (hz:ys.length<=sizeLine) (t:Nat):
  Inv X pins σ (upd H p (.lst ys)) { s with heap:=s.heap.update p f,toks:=t }:=by
 have e:(s.heap.update p f).get? p=some { cls:=.type "list",data:=.seq its'.toArray n' }:=by rw[Heap.get?_update_self f ho (by rw[hf] <;> rfl),hf]
 refine I.write (x:=p) (e:=p) (by rw[h];trivial) (.inl rfl) (λb u hb q=>(Heap.get?_update_other _ _ (Ne.symm hb)).trans q) ⟨_,e⟩ ?_;exact ⟨hz,its',n',r,e⟩
noncomputable def Xh:V->V->V->Hp->(Hp->Prop)->Prop:=λo i v H Q=>∃p xs k j,o=.ref p/\i=.int k/\H p=some (.lst xs)/\ixN xs.length k=some j/\Q (upd H p (.lst (xs.set j v)))
theorem set_list:u9 X Xh:=by
 intro pins s σ H o i v ov iv u Q I ro ri rv h;obtain ⟨p,xs,k,j,rfl,rfl,hp,hj,q⟩:=h;cases ro;obtain ⟨t,rfl⟩:=ri;obtain ⟨its,n,r,ho,hz⟩:=I.lst hp;obtain ⟨h1,h2,h3,h4⟩:=BK hj;have hl:=r.length;have hn:=gW;have I':Inv X pins σ (upd H p (.lst (xs.set j v))) { s with heap:=s.heap.update p (Obj.mapSeq (·.setIfInBounds j u)) }:=
  I.lstUpd hp ho (Xg its n j u) (r.set rv j) (by rw[d4];exact hz) s.toks
 by_cases h0:0<=k
 ·have hk:k.toNat=j:=by
   rw[seqIndex_of h0 h4]at h1;exact dk h1
  exact PySem.W.ki_setAt ho h0 (by omega) (by rw[ar,<-hl];exact h4) (by rw[hk];exact ⟨_,I',q⟩)
 ·have hk:(k+(its.toArray.size:Int)).toNat=j:=by
   rw[seqIndex_neg (by omega) h3]at h1;rw[ar,<-hl];exact dk h1
  exact PySem.W.ki_setBack ho (by omega) (by rw[ar,<-hl];exact h3) (by omega) (by rw[hk];exact ⟨_,I',q⟩)
theorem BP(lo hi:Option Int)(n:Nat):(sliceBounds lo hi none n).1=((HT.sIx n 0 lo:Nat):Int)/\(sliceBounds lo hi none n).2.1=((HT.sIx n n hi:Nat):Int)/\(sliceBounds lo hi none n).2.2=1:=by
 refine ⟨?_,?_,rfl⟩
 ·cases lo with
  |none=>simp[sliceBounds,HT.sIx]
  |some i=>
   simp only[sliceBounds,HT.sIx,Option.getD_none,show (1:Int) > 0 by decide,if_true];by_cases h:i < 0
   ·simp only[h,if_true] <;> omega
   ·simp only[h,if_false] <;> omega
 ·cases hi with
  |none=>simp[sliceBounds,HT.sIx]
  |some i=>
   simp only[sliceBounds,HT.sIx,Option.getD_none,show (1:Int) > 0 by decide,if_true];by_cases h:i < 0
   ·simp only[h,if_true] <;> omega
   ·simp only[h,if_false] <;> omega
theorem Xi(its:List Value)(lo hi:Option Int):slicePick its.toArray lo hi none=((its.drop (HT.sIx its.length 0 lo)).take (HT.sIx its.length its.length hi - HT.sIx its.length 0 lo)).toArray:=by obtain ⟨h1,h2,h3⟩:=BP lo hi its.toArray.size;unfold slicePick;rw[h1,h2,h3];simp only[sliceRange_one,pick_run,ar] <;> rfl
noncomputable def Xj(K:PF):V->Option Int->Option Int->Hp->VK->Prop:=λx lo hi H Q=>∃a xs,x=.ref a/\SqL K H a xs/\∀p,H p=none->Q (.ref p) (upd H p (.lst (dM xs lo hi)))
theorem BR:SlR X (Xj X.K):=by intro pins s σ H x v vl vu lo hi sl Q I rx hs pl pu h;obtain ⟨a,xs,rfl,hx,q⟩:=h;cases rx;obtain ⟨its,r,ht,hz⟩:=I.list hx;have hlen:=r.length;refine ⟨"list",_,slot_list_getitem.lookup,ht.isList.typeIs,?_⟩;refine wpAny_getItem_list_slice ht.isList hs pl pu .none (by simp) ?_ (by rw[ar] <;> omega);rw[Xi,<-hlen];refine ⟨.ref s.heap.objs.size,_,I.laid (t':=s.toks) (o:=.lst (dM xs lo hi)) (λb ob q=>am _ q) (ax _) ?_,rfl,q _ (I.hok.fresh (ax _))⟩;exact ⟨bv (BJ xs lo hi) hz,_,0,(r.drop (HT.sIx xs.length 0 lo)).take (HT.sIx xs.length xs.length hi - HT.sIx xs.length 0 lo),bd _ rfl⟩
theorem BV:bC X (.builtin "len") (λxs H Q=>∃p ys,xs=[.ref p]/\(SqL X.K H p ys\/SqT X.K H p ys)/\Q (.int ys.length) H):=by
 intro pins s σ H xs us Q I r h;obtain ⟨p,ys,rfl,hq,q⟩:=h;obtain ⟨u,rfl,rx⟩:=vals1 r;cases rx;have hn:=gW;rcases hq with hq |hq
 ·obtain ⟨its,r',pl,hz⟩:=I.list hq;have hlen:=r'.length;exact Calls.call_len_list pl.isList (by simp only[ar] <;> omega) ⟨.int ys.length,H,I.tok _,⟨s.toks+1,by rw[ar,hlen]⟩,q⟩
 ·obtain ⟨its,r',pl,hz⟩:=I.tuple hq;have hlen:=r'.length;exact len_tuple pl (by simp only[ar] <;> omega) ⟨.int ys.length,H,I.tok _,⟨s.toks+1,by rw[ar,hlen]⟩,q⟩
theorem Xk:bC X (.builtin "len") (λxs H Q=>∃z,xs=[.str z]/\z.length<=sizeLine/\Q (.int z.length) H):=by intro pins s σ H xs us Q I r h;obtain ⟨z,rfl,hz,q⟩:=h;obtain ⟨u,rfl,t,rfl⟩:=vals1 r;have hn:=gW;exact len_str (by omega) ⟨.int z.length,H,I.tok _,⟨_,rfl⟩,q⟩
theorem BW:bC X (.type "list") (λxs H Q=>∃p ys,xs=[.ref p]/\(SqL X.K H p ys\/SqT X.K H p ys)/\∀l,H l=none->Q (.ref l) (upd H l (.lst ys))):=by
 intro pins s σ H xs us Q I r h;obtain ⟨p,ys,rfl,hq,q⟩:=h;obtain ⟨u,rfl,rx⟩:=vals1 r;cases rx;have fin:∀(its:List Value),Vals ys its->ys.length<=sizeLine->∀(h':Heap)(c':Nat),(∀b o',s.heap.get? b=some o'->h'.get? b=some o')->
   h'.get? s.heap.objs.size=some { cls:=.type "list",dict:=none,data:=.seq its.toArray c',slots:=#[] }->EP X pins σ Q (.ref s.heap.objs.size) { s with heap:=h' }:=λits r' hz h' c' kp e=>
  ⟨.ref s.heap.objs.size,_,I.laid (t':=s.toks) kp (ax _) (show ObjOk X.prog X.w _ h' _ (.lst ys) from ⟨hz,its,c',r',e⟩),rfl,q _ (I.hok.fresh (ax _))⟩
 rcases hq with hq |hq
 ·obtain ⟨its,r',pl,hz⟩:=I.list hq;have hlen:=r'.length;obtain ⟨o,ho,hc,n,hd⟩:=pl.isList;exact call_list_seq p (.inl rfl) ho hc hd (λh' c' kp e=>fin its r' hz h' c' kp e) (by simp only[ar] <;> omega)
 ·obtain ⟨its,r',pl,hz⟩:=I.tuple hq;have hlen:=r'.length;obtain ⟨o,ho,hc,n,hd⟩:=pl;exact call_list_seq p (.inr rfl) ho hc hd (λh' c' kp e=>fin its r' hz h' c' kp e) (by simp only[ar] <;> omega)
theorem BX:bC X (.type "tuple") (λxs H Q=>∃p ys,xs=[.ref p]/\((SqL X.K H p ys/\∀l,H l=none->Q (.ref l) (upd H l (.tup ys)))\/(SqT X.K H p ys/\Q (.ref p) H))):=by
 intro pins s σ H xs us Q I r h;obtain ⟨p,ys,rfl,h⟩:=h;obtain ⟨u,rfl,rx⟩:=vals1 r;cases rx;rcases h with ⟨hq,q⟩ |⟨hq,q⟩
 ·obtain ⟨its,r',pl,hz⟩:=I.list hq;have hlen:=r'.length;refine call_tuple_list pl.isList (λh' kp=>?_) (by simp only[ar] <;> omega);have I1:Inv X pins σ H { s with heap:=h' }:=I.kept (t':=s.toks) kp;have I2:Inv X pins σ (upd H h'.objs.size (.tup ys)) { s with heap:=h'.push { cls:=.type "tuple",data:=.seq its.toArray } }:=
   I1.laid (t':=s.toks) (λb o e=>am _ e) (ax _) (show ObjOk X.prog X.w _ _ _ (.tup ys) from ⟨hz,its,r',IsTup.new _ _⟩)
  exact ⟨.ref h'.objs.size,_,I2,rfl,q _ (I1.hok.fresh (ax _))⟩
 ·obtain ⟨its,r',pl,hz⟩:=I.tuple hq;exact call_tuple_same pl ⟨.ref p,H,I,rfl,q⟩
noncomputable def tyV(K:PF)(T:String)(x:V)(H:Hp):Prop:=match x with
 |.str _=>T="str"
 |.int _=>T="int"
 |.ref p=>(T="list"/\∃xs,SqL K H p xs)\/(T="tuple"/\∃o,K.lookup p=some o/\o.cls=.type "tuple"/\o.dict=none)\/
   (T="dict"/\((∃kvs,H p=some (.dK kvs))\/∃kvs,H p=some (.dT kvs)))\/(T="set"/\∃S n,H p=some (.set S n))
 |_=>False
theorem BZ{pins:List (Addr×Obj)}{σ:St}{H:Hp}{s:Shared}{T:String}{x:V}{v:Value}(I:Inv X pins σ H s)(r:RelV x v)(ty:tyV X.K T x H):
  s.TypeIs v T/\∀a,v=.ref a->∃ob,s.heap.get? a=some ob/\ob.dict=none:=by
 cases x with
 |str z=>
  obtain ⟨t,rfl⟩:=r;cases (show T="str" from ty);exact ⟨typeIs_str s z t,λ_ e=>nomatch e⟩
 |int i=>
  obtain ⟨t,rfl⟩:=r;cases (show T="int" from ty);exact ⟨typeIs_int s i t,λ_ e=>nomatch e⟩
 |ref p=>
  cases r;rcases ty with ⟨rfl,xs,hq⟩ |⟨rfl,o,hk,hc,hd⟩ |⟨rfl,hk⟩ |⟨rfl,S,n,hk⟩
  ·obtain ⟨its,_,pl,_⟩:=I.list hq;refine ⟨pl.isList.typeIs,λa e=>?_⟩;cases e;obtain ⟨o,n,e,c,hd,_⟩:=pl;exact ⟨o,e,hd⟩
  ·refine ⟨⟨o,I.kIn p o hk,hc⟩,λa e=>?_⟩;cases e;exact ⟨o,I.kIn _ o hk,hd⟩
  ·have z:∃o,s.heap.get? p=some o/\o.ExactDict:=by
    rcases hk with ⟨kvs,hk⟩ |⟨kvs,hk⟩
    ·obtain ⟨_,_,_,_,o,_,_,e,ex,_⟩:=I.hok p _ hk;exact ⟨o,e,ex⟩
    ·obtain ⟨_,_,_,_,o,_,_,e,ex,_⟩:=I.hok p _ hk;exact ⟨o,e,ex⟩
   obtain ⟨o,e,ex⟩:=z;refine ⟨⟨o,e,ex.1⟩,λa e2=>?_⟩;cases e2;exact ⟨o,e,ex.2.1⟩
  ·obtain ⟨o,_,_,_,e,ex,_⟩:=I.hok p _ hk;refine ⟨⟨o,e,ex.1⟩,λa e2=>?_⟩;cases e2;exact ⟨o,e,ex.2.1⟩
 |_=>exact False.elim ty
noncomputable def Xl(K:PF)(T:String)(r:V->List V->Hp->VK->Prop)(to:TE):TE:=λσ H Q=>to σ H λx H1=>tyV K T x H1/\r x [] H1 Q
noncomputable def tBM(K:PF)(T:String)(r:V->List V->Hp->VK->Prop)(to:TE)(t:TA):TE:=λσ H Q=>to σ H λx H1=>tyV K T x H1/\t σ H1 λxs H2=>r x xs H2 Q
variable {o e:Expr} {es:List Expr} {to:TE} {t:TA} {name:Str} {apos cpos:Pos} {T id:String} {r:V->List V->Hp->VK->Prop}
theorem Xm (pa:PlainAttrs T) (slot:Slot T name id) (hty:typeOf (.builtin id)=pure (.type "method_descriptor")) (hm:MtR X id r) (ho:PE X o to)
  (hbase:attributeBase o name X.env (eval o X.env)=eval o X.env:=by rfl) (hline:(apos.endLine==cpos.line)=true:=by rfl):PE X (.Call (.Attribute o name apos) [] [] cpos) (Xl X.K T r to):=by
 intro pins s σ H Q I h;refine wpAny_Call_method0_late hbase hline (thn (ho pins s σ H _ I h) λv s1 ⟨x,H1,I1,r1,ty,q1⟩=>?_);obtain ⟨h1,h2⟩:=BZ I1 r1 ty;exact ⟨T,id,pa,slot,hty,h1,h2,Calls.callWith_builtin rfl (PySem.evalArgs_none (hm pins s1 σ H1 x [] v [] Q I1 r1 .nil q1))⟩
theorem gY (pa:PlainAttrs T) (slot:Slot T name id) (hty:typeOf (.builtin id)=pure (.type "method_descriptor")) (hm:MtR X id r) (ho:PE X o to) (ha:PA X (e::es) t)
  (hbase:attributeBase o name X.env (eval o X.env)=eval o X.env:=by rfl)
  (hfew:((backTo cpos (starEach (e::es) X.env)).all (λx=>!x.1)&&(backToKw cpos (keywordEach [] X.env)).all (λx=>x.1.isSome)
  &&decide ((e::es).length+([]:List Keyword).length+(if ([]:List Keyword).isEmpty then 0 else 1) < 30))=true:=by rfl)
  (hline:(apos.endLine==cpos.line)=true:=by rfl) (hs:starEach (e::es) X.env=(false,eval e X.env)::starEach es X.env:=by rfl) (hplain:(backTo cpos (starEach es X.env)).any (·.1)=false:=by rfl):
  PE X (.Call (.Attribute o name apos) (e::es) [] cpos) (tBM X.K T r to t):=by
 intro pins s σ H Q I h;refine wpAny_Call_method_late hbase hfew hline rfl (thn (ho pins s σ H _ I h) λv s1 ⟨x,H1,I1,r1,ty,q1⟩=>?_);obtain ⟨h1,h2⟩:=BZ I1 r1 ty;refine ⟨T,id,pa,slot,hty,h1,h2,?_⟩;have hA:=ha cpos pins s1 σ H1 _ I1 q1;rw[hs]at hA ⊢;refine Calls.callWith_builtin (by show (false||(backTo cpos (starEach es X.env)).any (·.1))=false;rw[hplain] <;> rfl) (Calls.evalArgs_plain ?_);exact thn hA λus s2 ⟨vs,H2,I2,r2,q2⟩=>hm pins s2 σ H2 x vs v us Q I2 r1 r2 q2
end
noncomputable def MtM(X:Cx)(id:String)(r:V->List V->Hp->VK->Prop):Prop:=
 ∀(pins:List (Addr×Obj))(s:Shared)(σ:St)(H:Hp)(x:V)(xs:List V)(v:Value)(us:List Value)(Q:VK),Inv X pins σ H s->RelV x v->Vals xs us->r x xs H Q->
  wpAny (model X.prog X.w) X.A (call (.builtin id) (v::us)) (EP X pins σ Q) X.xe s
theorem Vals.one:∀{x:V}{us:List Value},Vals [x] us->∃u,us=[u]/\RelV x u
 |_,_,.cons r .nil=>⟨_,rfl,r⟩
theorem Vals.zero:∀{us:List Value},Vals [] us->us=[]
 |_,.nil=>rfl
theorem Vals.dropLast{xs:List V}{us:List Value}(h:Vals xs us):Vals xs.dropLast us.dropLast:=by
 induction h with
 |nil=>exact .nil
 |cons r t ih=>
  cases t with
  |nil=>exact .nil
  |cons q t'=>exact .cons r ih
theorem Vals.eraseIdx:∀{xs:List V}{us:List Value}(i:Nat),Vals xs us->Vals (xs.eraseIdx i) (us.eraseIdx i)
 |_,_,_,.nil=>.nil
 |_,_,0,.cons _ t=>t
 |_,_,i+1,.cons r t=>.cons r (Vals.eraseIdx i t)
theorem Vals.rep{xs:List V}{us:List Value}(h:Vals xs us):∀k:Nat,Vals (List.replicate k xs).flatten (List.replicate k us).flatten
 |0=>.nil
 |k+1=>by
  rw[b9,b9,eJ,eJ];exact Vals.append h (Vals.rep h k)
theorem Xo{α:Type}(l:List α):l.eraseIdx (l.length - 1)=l.dropLast:=by
 induction l with
 |nil=>rfl
 |cons a r ih=>
  cases r with
  |nil=>rfl
  |cons b r=>
   have e:(a::b::r).length - 1=((b::r).length - 1)+1:=by have h1:(a::b::r).length=r.length+2:=rfl;have h2:(b::r).length=r.length+1:=rfl;omega
   rw[e,List.eraseIdx_cons_succ,ih];all_goals rfl
theorem Ca{α:Type}:∀(l:List α)(i:Nat),(l.eraseIdx i).length<=l.length
 |[],_=>ax _
 |_::_,0=>fk _
 |_::r,i+1=>Nat.succ_le_succ (Ca r i)
theorem foldl_rep(its:List Value):∀(k:Nat)(acc:List Value),
  List.foldl (λx1 x2=>x1++x2) acc.toArray (List.replicate k its.toArray)=(acc++(List.replicate k its).flatten).toArray
 |0,acc=>by simp
 |k+1,acc=>by
  have e:acc.toArray++its.toArray=(acc++its).toArray:=by simp
  have e2:(acc++its)++(List.replicate k its).flatten=acc++(List.replicate (k+1) its).flatten:=by rw[b9,eJ,List.append_assoc]
  rw[<-e2,<-foldl_rep its k (acc++its),<-e,b9,List.foldl_cons]
section
variable {X:Cx} {pins:List (Addr×Obj)} {σ:St} {H:Hp} {s:Shared} {l b:Addr} {xs ys zs:List V}
theorem Inv.lset{its its':List Value}{n:Nat}{f:Array Value->Array Value}{t':Nat}(I:Inv X pins σ H s)(hH:H l=some (.lst xs))
  (e:s.heap.get? l=some { cls:=.type "list",data:=.seq its.toArray n }) (hf:f its.toArray=its'.toArray) (hv:Vals ys its') (hz:ys.length<=sizeLine):
  Inv X pins σ (upd H l (.lst ys)) { s with heap:=s.heap.update l (Obj.mapSeq f),toks:=t' }:=by
 have q:=PySem.IsL.update e f;rw[hf]at q;refine I.write (x:=l) (e:=l) (by rw[hH];exact trivial) (.inl rfl) (λb' u hb hu=>(Heap.get?_update_other s.heap (Obj.mapSeq f) (Ne.symm hb)).trans hu) ⟨_,q⟩ ?_;exact ⟨hz,its',_,hv,q⟩
theorem Inv.lnew{its:List Value}{t':Nat}(I:Inv X pins σ H s)(hv:Vals ys its)(hz:ys.length<=sizeLine):
  Inv X pins σ (upd H s.heap.objs.size (.lst ys)) { s with heap:=s.heap.push { cls:=.type "list",data:=.seq its.toArray },toks:=t' }:=
 I.laid (λ_ _ q=>am _ q) (ax _) ⟨hz,its,0,hv,bd _ rfl⟩
theorem Inv.fresh(I:Inv X pins σ H s):H s.heap.objs.size=none:=I.hok.fresh (ax _)
theorem Inv.lstM (I:Inv X pins σ H s) (hH:H l=some (.lst xs)):xs.length<=sizeLine/\∃(its:List Value) (n:Nat),Vals xs its/\xs.length=its.length/\s.heap.get? l=some { cls:=.type "list",data:=.seq its.toArray n }:=by obtain ⟨z,its,n,r,e⟩:=I.hok l _ hH;exact ⟨z,its,n,r,r.length,e⟩
theorem Cd{n:Nat}(h:n<=sizeLine):Builtin.List.listTooLong n=false:=by unfold Builtin.List.listTooLong;exact cq (by omega)
end
section
variable {X:Cx}
noncomputable def Xp:V->List V->Hp->VK->Prop:=λx vs H Q=>∃l xs y,x=.ref l/\vs=[y]/\H l=some (.lst xs)/\xs.length < sizeLine/\Q .non (upd H l (.lst (xs++[y])))
theorem Xq:MtM X "list.append" Xp:=by intro pins s σ H x vs v us Q I rx rv h;obtain ⟨l,xs,y,rfl,rfl,hH,hz,q⟩:=h;cases rx;obtain ⟨u,rfl,ru⟩:=rv.one;obtain ⟨z,its,n,r,hl,e⟩:=I.lstM hH;refine fi F.slot_list_append ⟨_,e,rfl⟩ F.entry_list_append (F.args_list_append_2 _ _) (PySem.list_append l its.toArray n u (by rw[ar];omega)) ⟨e,?_⟩;refine ⟨.non,_,I.lset (its':=its++[u]) hH e (by simp) (r.append (.cons ru .nil)) ?_,rfl,q⟩;rw[aw,bP];omega
noncomputable def Xr:V->List V->Hp->VK->Prop:=λx vs H Q=>∃l b xs zs,x=.ref l/\vs=[.ref b]/\H l=some (.lst xs)/\H b=some (.lst zs)/\xs.length+zs.length<=sizeLine/\Q .non (upd H l (.lst (xs++zs)))
theorem Xu:MtM X "list.extend" Xr:=by
 intro pins s σ H x vs v us Q I rx rv h;obtain ⟨l,b,xs,zs,rfl,rfl,hH,hB,hz,q⟩:=h;cases rx;obtain ⟨u,rfl,ru⟩:=rv.one;cases ru;obtain ⟨z,its,n,r,hl,e⟩:=I.lstM hH;obtain ⟨z2,its2,n2,r2,hl2,e2⟩:=I.lstM hB;have hsz:its.toArray.size+its2.toArray.size<=sizeLine:=by rw[ar,ar];omega
 have hlong:¬(!its.toArray.isEmpty&&Builtin.List.listTooLong (its.toArray.size+its2.toArray.size))=true:=by rw[Cd hsz,Bool.and_false];exact b6
 refine fi F.slot_list_extend ⟨_,e,rfl⟩ F.entry_list_extend (F.args_list_extend_2 _ _)
  (AutoSeq1.list_extend_list_list_0 l its.toArray n b its2.toArray n2 hlong (by rw[ar];omega) (by omega)) ⟨e,e2,?_⟩
 refine ⟨.non,_,I.lset (its':=its++its2) hH e (by simp) (r.append r2) ?_,rfl,q⟩;rw[aw];omega
noncomputable def Xv:V->List V->Hp->VK->Prop:=λx vs H Q=>∃l xs y,x=.ref l/\vs=[]/\H l=some (.lst xs)/\xs[xs.length - 1]?=some y/\Q y (upd H l (.lst xs.dropLast))
theorem Xw:MtM X "list.pop" Xv:=by
 intro pins s σ H x vs v us Q I rx rv h;obtain ⟨l,xs,y,rfl,rfl,hH,hy,q⟩:=h;cases rx;have hus:=rv.zero;subst hus;obtain ⟨z,its,n,r,hl,e⟩:=I.lstM hH;obtain ⟨u,hu,ru⟩:=r.get hy;have hy':its.toArray[its.toArray.size - 1]?=some u:=by show its.toArray[its.length - 1]?=some u;rw[<-fe,<-hl];exact hu
 refine fi F.slot_list_pop ⟨_,e,rfl⟩ F.entry_list_pop (F.args_list_pop_1 _) (MeetsSeq.list_pop_last l its.toArray n u hy' (by rw[ar];omega)) ⟨e,?_⟩;refine ⟨y,_,I.lset (its':=its.dropLast) hH e ?_ r.dropLast ?_,ru,q⟩
 ·show its.toArray.eraseIdxIfInBounds (its.toArray.size - 1)=its.dropLast.toArray;rw[ar,List.eraseIdxIfInBounds_toArray,Xo]
 ·rw[List.length_dropLast];omega
noncomputable def Xx:V->List V->Hp->VK->Prop:=λx vs H Q=>∃l xs i k y,x=.ref l/\vs=[.int i]/\H l=some (.lst xs)/\-(2 ^ 63)<=i/\i < 2 ^ 63/\seqIndex? i xs.length=some k/\xs[k]?=some y/\Q y (upd H l (.lst (xs.eraseIdx k)))
theorem Xy:MtM X "list.pop" Xx:=by
 intro pins s σ H x vs v us Q I rx rv h;obtain ⟨l,xs,i,k,y,rfl,rfl,hH,h1,h2,hk,hy,q⟩:=h;cases rx;obtain ⟨u,rfl,ru⟩:=rv.one;obtain ⟨t,rfl⟩:=ru;obtain ⟨z,its,n,r,hl,e⟩:=I.lstM hH;obtain ⟨w,hw,rw'⟩:=r.get hy;refine fi F.slot_list_pop ⟨_,e,rfl⟩ F.entry_list_pop (F.args_list_pop_2 _ _)
  (MeetsSeq.list_pop_at l its.toArray n i t k w (fitsIndex_both h1 h2) (by rw[ar,<-hl];exact hk) (by rw[<-fe];exact hw) (by rw[ar];omega)) ⟨e,?_⟩
 refine ⟨y,_,I.lset (its':=its.eraseIdx k) hH e ?_ (r.eraseIdx k) ?_,rw',q⟩
 ·show its.toArray.eraseIdxIfInBounds k=(its.eraseIdx k).toArray;rw[List.eraseIdxIfInBounds_toArray]
 ·have:=Ca xs k;omega
theorem len_rep{α:Type}(xs:List α)(k:Nat):(List.replicate k xs).flatten.length=k * xs.length:=by
 induction k with
 |zero=>simp
 |succ k ih=>rw[b9,eJ,aw,ih,Nat.succ_mul,Nat.add_comm]
end
end L2
namespace Att
open PySem PySem.W PySem.Calls PyProof.Rows
theorem Xz{P:Params}{h:Heap}:∀(ns:List Int)(vs:List Value),WellAll P h vs (ns.map WData.int)->IntsAre vs ns:=by
 intro ns;induction ns with
 |nil=>
  intro vs w;rw[List.map_nil]at w;cases w;exact .nil
 |cons n ns ih=>
  intro vs w;rw[List.map_cons]at w;cases w with
  |cons a b=>
   cases a;exact .cons _ _ (ih _ b)
theorem XC{l:OpenLaw}{n:Nat}(hn:l.most=some n){P:Params}{h:Heap}{args:List WData}{vals:List Value}
  (hpre:l.row.toRowW.claim.pre args=true) (hwl:WellAll P h vals args):
  ∃a vs ns,vals=[Value.ref a]/\args=[WData.list (ns.map WData.int)]/\h.get? a=some { cls:=.type "list",data:=.seq vs.toArray }/\IntsAre vs ns/\ns.length<=n:=by
 have hsh:WShape.hasAll [] args [.list .int]=true:=(pre_splitW hpre).1;have hc:l.pre.holds [] { args:=args }=true:=(pre_splitW hpre).2;obtain ⟨d,r,rfl,h1,h2⟩:=hasAllW_cons hsh;obtain rfl:=hasAllW_nil h2;obtain ⟨xs,rfl,h3⟩:=hasW_list h1;obtain ⟨ns,rfl⟩:=items_int h3;have hlen:ns.length<=n:=by
  unfold OpenLaw.pre at hc;have h4:(WTm.not (.lt (.lit (.int (n:Int))) (.len (.arg 0)))).holds [] { args:=[.list (ns.map .int)] }=true:=by have h4:=(holds_andW hc).1;rw[hn]at h4;exact h4
  have h5:=condW_of h4 (w_not (w_lt w_lit (w_len_list (w_arg rfl))));rw[List.length_map]at h5;refine Nat.le_of_not_lt λq=>?_;have q':(n:Int) < ((ns.length:Nat):Int):=by omega
  first
   | (rw[decide_eq_true q']at h5;exact absurd h5 (by decide))
   | (simp at h5;omega)
 cases hwl with
 |cons w1 w2=>
  cases w2;cases w1 with
  |list ho hall=>exact ⟨_,_,ns,rfl,rfl,ho,Xz ns _ hall,hlen⟩
theorem XD(l:OpenLaw)(args:List WData):l.row.toRowW.claim.post args (.bool true) args=true:=
 postW_of (r:=l.row.toRowW) (X:=(true==true))
  (show WShape.has [] (.bool true) .bool=true by first |rfl |decide |simp[WShape.has,WShape.arms,WShape.armsAll])
  (show (WTm.eq .res (.lit (.bool true))).value [] { args:=args,res:=some (.bool true),after:=args }=some (.bool (true==true)) from w_eq_bool (w_res rfl) w_lit) rfl
theorem attach_call{l:OpenLaw}{n:Nat}{q:Program}{loose:List Str}{XP:(Str->Option Value)->Heap->Prop}{YP:World->Heap->Prop}{d:DefRec}
  (hn:l.most=some n) (hdf:d.params.defaults=[])
  (call:∀(w:World)(s₀ s₁:Shared)(mg mb:Str->Option Value)(fa:Addr)(o:Obj)(pm cd doc:Value)(a:Addr)(vs:List Value)(ns:List Int),
   Ground q loose [] XP w s₀ mg mb s₁.heap->YP w s₁.heap->
   s₁.heap.get? fa=some o->o.data=.func (docDef d.name d.params d.body d.scope pm cd doc)->s₁.heap.CodeRec cd d.name->mg d.name=some (.ref fa)->
   s₁.heap.get? a=some { cls:=.type "list",data:=.seq vs.toArray }->IntsAre vs ns->ns.length<=n->s₁.gens=#[]->
   codeAny (model l.prog w) callerA (.call (.ref fa) ⟨[.ref a],[]⟩) (λr s'=>r=.ok (.ret (.bool true))/\OldK s₁.heap s'.heap/\s'.os=s₁.os/\AllBare s'.gens) s₁):
  WalkO q loose XP YP l.row.toRowW d [] (λf vs=>PySem.call f vs):=by
 intro w s₀ s₁ mg mb G Y fa o pm cd doc dV kV ho hd hcd hD hmg hg args vals as hpre hlay hrd hwl hlo;obtain rfl:dV=.none:=Dflts.none hD hdf;obtain rfl:kV=.none:=Dflts.noKw hD;obtain ⟨a,vs,ns,rfl,rfl,hobj,hints,hlen⟩:=XC hn hpre hwl;refine enter_call (codeAny_mono (call w s₀ s₁ mg mb fa o pm cd doc a vs ns G Y ho (fd_plain hd) hcd hmg hobj hints hlen hg) λr s' hq=>?_);obtain ⟨rfl,h2,h3,h4⟩:=hq;exact ⟨.inl ⟨.bool true,.bool true,[],rfl,λ_=>rfl,.bool true,XD l _,λ_=>⟨List.Pairwise.nil,λ_ hm=>(nomatch hm)⟩⟩,h2,h3,h4⟩
end Att
namespace L2
open PySem PySem.Spec PyProof.Rows
theorem vp:∀{vs:List Value}{ns:List Int},IntsAre vs ns->Vals (ns.map V.int) vs
 |_,_,.nil=>.nil
 |_,_,.cons n t h=>.cons ⟨t,rfl⟩ (vp h)
noncomputable def Only(H:Hp):Prop:=∀b,H b=none\/∃o xs,H b=some (.frz o (.lst xs))
theorem XF{P:Program}{w:World}{K:PF}{mg mb:Str->Option Value}{CX:CXT}{k:Nat}{fa a:Addr}{fd:FuncData}{x:Str}{sp:Sp}{s₁:Shared}{vs:List Value}{ns:List Int}
  (KX:K.In s₁.heap) (hns:s₁.heap.Ns mainGlobals mg) (hb:s₁.heap.Ns builtinsNs mb) (hbb:∀x:Str,x≠"__name__"->mb x=bootBuiltins x) (hlim:s₁.heap.NoLimit) (hg:s₁.gens=#[])
  (ha:s₁.heap.get? a=some { cls:=.type "list",data:=.seq vs.toArray }) (hi:IntsAre vs ns) (hl:ns.length<=sizeLine) (hr:Room k callerA)
  (F:∀base:Heap,K.In base->base.Ns mainGlobals mg->FnOk P w K mg base CX k fa fd [x] sp) (hbind:∀(s:Shared)(u:Value),BindsTo s fd ⟨[u],[]⟩ [(x,u)])
  (hsp:∀H:Hp,Only H->SqL K H a (ns.map V.int)->sp [.ref a] H (λv _=>v=.bl true) λ_ _ _=>False)
  (hCX:∀H e s',CX [] H s₁ (λ_ _ _=>False) e s'->False):
  codeAny (model P w) callerA (.call (.ref fa) ⟨[.ref a],[]⟩) (λr s'=>r=.ok (.ret (.bool true))/\OldK s₁.heap s'.heap/\s'.os=s₁.os/\AllBare s'.gens) s₁:=by
 have rv:=vp hi;have lenV:=hi.length
 -- from an abstract heap in which nothing but the script may be tracked
 have core:∀H:Hp,Only H->SqL K H a (ns.map V.int)->HOk P w H s₁.heap->(∀b,H b≠none->b=a)->(H a≠none->K.lookup a=none)->
   codeAny (model P w) callerA (.call (.ref fa) ⟨[.ref a],[]⟩) (λr s'=>r=.ok (.ret (.bool true))/\OldK s₁.heap s'.heap/\s'.os=s₁.os/\AllBare s'.gens) s₁:=by
  intro H hO hS hok hA hK;have base_of:∀{b:Addr}{o:Obj},s₁.heap.get? b=some o->H b=none->(du s₁.heap H).get? b=some o:=λe n=>Uk e n;have noA:∀{b:Addr}{o:Obj}{es:Array DictEntry}{ep:Nat},s₁.heap.get? b=some o->o.data=.dict es ep->H b=none:=λ{b o es ep} e d=>by
   cases q:H b with
   |none=>rfl
   |some u=>
    have e':b=a:=hA b (by rw[q];simp);subst e';rw[ha]at e;cases e;have d':Data.seq vs.toArray _=Data.dict es ep:=d;cases d'
  have nsK:∀{b:Addr}{m:Str->Option Value},s₁.heap.Ns b m->(du s₁.heap H).Ns b m:=λ{b m} ⟨o,es,ep,e,d,r⟩=>⟨o,es,ep,base_of e (noA e d),d,r⟩;have hKb:K.In (du s₁.heap H):=λb o e=>base_of (KX b o e) (by
   cases q:H b with
   |none=>rfl
   |some u=>
    have e':b=a:=hA b (by rw[q];simp);subst e';rw[hK (by rw[q];simp)]at e;cases e)
  have hM:Mod K mg (du s₁.heap H):=⟨hKb,nsK hns,⟨mb,nsK hb,hbb⟩,let ⟨mc,h1,h2⟩:=hlim;⟨mc,nsK h1,h2⟩⟩;have e0:Env0 P w K mg (du s₁.heap H) callerA [] s₁ H:=⟨rfl,hM,λb o e=>Ul e,Nat.le_of_eq (Uj _ _),trivial,λb hb=>absurd (show b∈([]:List Addr) from hb) (by simp),hok,.of_eq hg⟩;refine codeAny_mono ((F _ hKb (nsK hns)).run callerA [] s₁ H ⟨[.ref a],[]⟩ [.ref a] [.ref a] _ _ hr e0 (hbind s₁ (.ref a)) (.cons rfl .nil) (hsp H hO hS)) λr s' h=>?_;cases r with
  |error e=>exact (hCX H e s' h).elim
  |ok fl=>
   cases fl with
   |next=>exact False.elim h
   |brk=>exact False.elim h
   |cont=>exact False.elim h
   |ret u=>
    obtain ⟨v,H',os,bare,un,hok',r',q⟩:=h;have q':v=.bl true:=q;subst q';obtain rfl:u=Value.bool true:=r';refine ⟨rfl,OldK.of_keep λb o e=>?_,os,bare⟩;cases q:H b with
    |none=>exact un.keep b o e q (by intro z;exact absurd (show b∈([]:List Addr) from z) (by simp)) (by simp)
    |some u=>
     rcases hO b with z |⟨ob,xs,z⟩
     ·rw[q]at z;cases z
     ·have z2:=un.frzs b ob _ z;obtain ⟨e1,_⟩:=hok b _ z;obtain ⟨e2,_⟩:=hok' b _ z2;rw[e]at e1;cases e1;exact e2
 cases hk:K.lookup a with
 |some o=>
  -- the script is one of the module's own objects
  have e:=KX a o hk;rw[ha]at e;cases e;refine core (λ_=>none) (λ_=>.inl rfl) (.inr ⟨_,vs.toArray,_,hk,rfl,rfl,rfl,by rw[ar,lenV];exact hl,by simpa using rv⟩) (λb u z=>by have z':(none:Option HO)=some u:=z;cases z') (λb z=>absurd rfl z) λz=>absurd rfl z
 |none=>
  refine core (λb=>if b=a then some (.frz { cls:=.type "list",data:=.seq vs.toArray } (.lst (ns.map V.int))) else none) (λb=>?_) (.inl (.inr ⟨{ cls:=.type "list",data:=.seq vs.toArray },if_pos rfl⟩)) (λb u z=>?_) (λb z=>?_) λ_=>hk
  ·by_cases hb:b=a
   ·exact .inr ⟨_,_,if_pos hb⟩
   ·exact .inl (if_neg hb)
  ·by_cases hb:b=a
   ·have z':=(if_pos hb).symm.trans z;cases z';subst hb;exact ⟨ha,by rw[ah];exact hl,vs,_,rv,ha⟩
   ·have z':=(if_neg hb).symm.trans z;cases z'
  ·by_cases hb:b=a
   ·exact hb
   ·exact absurd (if_neg hb) z
theorem XH{l:PySem.W.OpenLaw}{n k:Nat}{q:Program}{loose:List Str}{XP:(Str->Option Value)->Heap->Prop}{YP:World->Heap->Prop}{d:DefRec}{K:Params->PF}{CX:World->CXT}{sp:World->Sp}{x:Str}
  (hn:l.most=some n) (hn2:n<=sizeLine) (hdf:d.params.defaults=[]) (hr:Room k callerA)
  (hY:∀(w:World)(h:Heap),YP w h->(K w.params).In h)
  (F:∀(w:World)(mg:Str->Option Value)(fa:Addr)(h:Heap),(K w.params).In h->h.Ns mainGlobals mg->mg d.name=some (.ref fa)->
   ∃fd:FuncData,(∀(s:Shared)(u:Value),BindsTo s fd ⟨[u],[]⟩ [(x,u)])/\
    ∀base:Heap,(K w.params).In base->base.Ns mainGlobals mg->FnOk l.prog w (K w.params) mg base (CX w) k fa fd [x] (sp w))
  (hsp:∀(w:World)(H:Hp)(a:Addr)(ns:List Int),ns.length<=n->Only H->SqL (K w.params) H a (ns.map V.int)->sp w [.ref a] H (λv _=>v=.bl true) λ_ _ _=>False)
  (hCX:∀(w:World)(H:Hp)(s:Shared)(e:Value)(s':Shared),CX w [] H s (λ_ _ _=>False) e s'->False):
  PySem.W.WalkO q loose XP YP l.row.toRowW d [] (λf vs=>PySem.call f vs):=by
 refine Att.attach_call hn hdf λw s₀ s₁ mg mb fa o pm cd doc a vs ns G Y ho hd hcd hmg hobj hints hlen hg=>?_;have KX:=hY w _ Y;obtain ⟨fd,hb,hF⟩:=F w mg fa _ KX G.T.g hmg;exact XF KX G.T.g G.T.b G.T.builtins G.T.nolimit hg hobj hints (bv hlen hn2) hr hF hb (λH hO hS=>hsp w H a ns hlen hO hS) λH e s'=>hCX w H s₁ e s'
noncomputable def iZ(s:Stmt):Arguments:=match s with
 |.FunctionDef _ a _ _ _ _ _ _ _ _=>a
 |_=>{ posonlyargs:=[],args:=[],vararg:=none,kwonlyargs:=[],kw_defaults:=[],kwarg:=none,defaults:=[] }
noncomputable def aG(s:Stmt):List Stmt:=match s with
 |.FunctionDef _ _ b _ _ _ _ _ _ _=>b
 |_=>[]
noncomputable def ao(s:Stmt):Scope:=match s with
 |.FunctionDef _ _ _ _ _ _ sc _ _ _=>sc
 |_=>{ kind:=.function,names:=[],isGenerator:=false,isCoroutine:=false }
noncomputable abbrev CX0:CXT:=λ_ _ _ _ _ _=>False
structure Fun(K:PF)(x qual:Str)(st:Stmt)(f:Addr)(fd:FuncData):Prop where
 ex:∃(oc:Value)(od:Option Addr)(kV doc pm:Value)(an:Option Addr)(cdv ct:Value)(osl:Array (Option Value)),
  fd=PySem.W.fnOf x qual (iZ st) (aG st) (ao st) .none kV doc pm an cdv ct/\K.lookup f=some ⟨oc,od,.func fd,osl⟩/\PySem.W.codeIn K cdv qual=true
 kp:PySem.W.keepIn K (.ref f)=true
section
variable {P:Program} {w:World} {K:PF} {mg:Str->Option Value} {base:Heap}
theorem Fun.binds{x qual:Str}{st:Stmt}{f:Addr}{fd:FuncData}{ps:List Str}(F:Fun K x qual st f fd)
  (h:∀(kV doc pm:Value)(an:Option Addr)(cdv ct:Value)(us:List Value),us.length=ps.length->bindArgs (PySem.W.fnOf x qual (iZ st) (aG st) (ao st) .none kV doc pm an cdv ct) ⟨us,[]⟩=pure (ps.zip us)):Binds K fd ps []:=by
 obtain ⟨oc,od,kV,doc,pm,an,cdv,ct,osl,rfl,lk,hcd⟩:=F.ex;exact .all (h kV doc pm an cdv ct)
theorem Ce{x qual:Str}{st:Stmt}{f:Addr}{oc:Value}{od an:Option Addr}{osl:Array (Option Value)}{kV doc pm cdv ct:Value}(l:K.lookup f=some ⟨oc,od,.func (PySem.W.fnOf x qual (iZ st) (aG st) (ao st) .none kV doc pm an cdv ct),osl⟩)
  (c:PySem.W.codeIn K cdv qual=true) (k:PySem.W.keepIn K (.ref f)=true):Fun K x qual st f (PySem.W.fnOf x qual (iZ st) (aG st) (ao st) .none kV doc pm an cdv ct):=⟨⟨oc,od,kV,doc,pm,an,cdv,ct,osl,rfl,l,c⟩,k⟩
end
section
variable {X:Cx}
theorem pv (i:Nat) {x:Str} {pos:Pos} (hN:X.N[i]?=some x:=by rfl) (hv:Vis X.env.scope x:=by first |exact Or.inl rfl |exact Or.inr (Or.inl rfl) |exact Or.inr (Or.inr rfl)) (hd:(x==("__debug__":Str))=false:=by decide)
  (hcd:(x==("__classdict__":Str))=false:=by decide):PE X (.Name x pos) (An i):=Ao hN hv hd hcd
end
end L2
set_option maxHeartbeats 4000000
namespace L2
open PySem PySem.Spec PyProof.Rows
section
variable {X:Cx} {pins:List (Addr×Obj)} {σ:St} {H:Hp} {s:Shared} {h':Heap}
theorem Inv.turnedL{t':Nat}{ch:List Addr}(I:Inv X pins σ H s)(hf:∀b∈ch,dJ X pins H b)(k:∀b o,b∉ch->s.heap.get? b=some o->h'.get? b=some o):
  Inv X pins σ H { s with heap:=h',toks:=t' }:=by
 have nit:∀b u,H b=some u->b∉ch:=λb u e z=>by
  have q:=(hf b z).1;rw[q]at e;cases e
 refine I.step (g':=s.gens) (d':=s.drawn) (ch:=ch) (λb hb=>?_) (λb o _ _ hc e _=>k b o hc e) (λb o _ _ hc e _=>⟨o.slots,k b o hc e⟩) (λ_ _ _ _ n=>n)
  (λb o hc e=>⟨o,k b o hc e⟩) (λ_ _ e=>e) (λ_ _ _ e=>e) (λb ps e=>⟨#[],by rw[e];simp⟩) (λm hm=>?_) (λb u e=>?_) I.bare
 ·obtain ⟨_,f1,_,f3,f4,f5⟩:=hf b hb;exact ⟨f3,f1,f4,f5⟩
 ·obtain ⟨o,es,ep,ho,r⟩:=hm;exact ⟨o,es,ep,k _ o (λz=>(hf _ z).2.1 rfl) ho,r⟩
 ·refine (I.hok b u e).stay (λc v hc q=>k c v ?_ q) (λ_ q=>q) λ_ _ q=>q;rcases hc with z |z
  ·rw[z];exact nit b u e
  ·exact nit c _ z
theorem Inv.track{T:Addr}{o:HO}(I:Inv X pins σ H s)(hT:dJ X pins H T)(new:ObjOk X.prog X.w (upd H T o) s.heap T o):Inv X pins σ (upd H T o) s:=by
 have hn:=hT.1;have hok:HOk X.prog X.w (upd H T o) s.heap:=λb u e=>by
  by_cases hb:b=T
  ·subst hb;rw[cL]at e;cases e;exact new
  ·rw[aJ hb]at e;exact (I.hok b u e).stay (λc v _ q=>q) (λc q=>by rw[aJ (bf q hn)];exact q) λc xs q=>by rw[aJ (bf q hn)];exact q
 obtain ⟨hp,g,d,tk,os⟩:=s;refine I.step (h':=hp) (g':=g) (d':=d) (t':=tk) (ch:=[T]) (λb hb=>?_) (λb o _ _ _ e _=>e) (λb o _ _ _ e _=>⟨o.slots,e⟩) (λb u hc _ n=>?_)
  (λb o _ e=>⟨o,e⟩) (λb xs e=>by rw[aJ (bf e hn)];exact e) (λb u v e=>by rw[aJ (bf e hn)];exact e) (λb ps e=>⟨#[],by rw[aJ (bf e hn),e];simp⟩) (λm hm=>hm) hok I.bare
 ·have e:b=T:=by simpa using hb
  subst e;obtain ⟨_,f1,_,f3,f4,f5⟩:=hT;exact ⟨f3,f1,f4,f5⟩
 ·rw[aJ (by simpa using hc)];exact n
end
noncomputable def Its(x:Str):It:=⟨λi _=>i < x.cps.size,λi H v H'=>H'=H/\∃c,x.cps[i]?=some c/\v=.str ⟨#[c]⟩,λi _=>i=x.cps.size⟩
theorem Cg{prog:Program}{w:World}{A:Around}(hh:A.handled=none)(I:Addr)(x:Str)(t:Tok):
  Walks prog w A I [I] [I] x.cps.size (SignAt x) (λi h=>h.IsStrIter I (strIterType x) x t i):=by
 unfold strIterType;split
 ·exact Walks.strAscii hh I x t
 ·exact Walks.strWide hh I x t
theorem vq{P:Program}{w:World}{K:PF}{tg:Expr}(it:Addr)(x:Str)(t:Tok):Turn P w K tg (Its x) [it] it (λi h=>h.IsStrIter it (strIterType x) x t i) where
 mem:=by simp
 obj:=λi h st b hb=>by
  have e:b=it:=by simpa using hb
  subst e;obtain ⟨o,e,c,d⟩:=st;exact ⟨o,e,λv z=>by rw[d]at z;cases z⟩
 keep:=λi h h' st k=>let ⟨o,ho,r⟩:=st;⟨o,k it (by simp) o ho,r⟩
 item:=by intro X hP hw hK hc i pins s σ H E I hf st hg;subst hP hw hK;obtain ⟨f0,f1,f2,f3,f4,f5⟩:=hf it (by simp);have W:=Cg (prog:=X.prog) (w:=X.w) (I.ok.hd hc) it x t;refine W.item i s _ _ hg st λv h' tk hv st' kk=>?_;obtain ⟨c,u,e,rfl⟩:=hv;have I1:Inv X pins σ H { s with heap:=h',toks:=tk }:=I.turned (λb o hb e=>kk b o (by simpa using hb) e) f0 f1 f3 f4 f5;obtain ⟨o,eo,cc,d⟩:=id st';exact ⟨_,rfl,p8 (s:={ s with heap:=h',toks:=tk }) (n:=strIterType x) eo cc d (by unfold strIterType;split <;> decide) ⟨.str ⟨#[c]⟩,H,I1,⟨u,rfl⟩,⟨rfl,c,e,rfl⟩,st',λb hb=>(hf b hb).1⟩⟩
 done:=by intro X hP hw hK hc i pins s σ H E I hf st hg;subst hP hw hK;obtain ⟨f0,f1,f2,f3,f4,f5⟩:=hf it (by simp);have W:=Cg (prog:=X.prog) (w:=X.w) (I.ok.hd hc) it x t;have hg':i=x.cps.size:=hg;subst hg';exact W.done s _ _ st λh' tk kk=>⟨rfl,I.turned (λb o hb e=>kk b o (by simpa using hb) e) f0 f1 f3 f4 f5⟩
 self:=λA i s Q E st h=>by
  unfold strIterType at st;split at st
  ·exact wpAny_pyIter_striter_ascii st h
  ·exact wpAny_pyIter_striter_wide st h
noncomputable def cG(env:Env):List (Str×NameKind)->List (Str×Addr)->List (Str×Addr)
 |[],cs=>cs
 | (n,k)::r,cs=>cG env r (if (k==.free)=true then (match env.cells.lookup n with |some c=>(n,c)::cs |none=>cs) else cs)
theorem Ci{env:Env}:∀{l:List (Str×NameKind)}{cs:List (Str×Addr)},(∀x c,cs.lookup x=some c->env.cells.lookup x=some c)->∀x c,(cG env l cs).lookup x=some c->env.cells.lookup x=some c
 |[],_,h,x,c,e=>h x c e
 | (n,k)::r,cs,h,x,c,e=>by
  refine Ci (l:=r) (cs:=_) ?_ x c e;intro y d q;by_cases hk:(k==NameKind.free)=true
  ·rw[if_pos hk]at q;cases hn:env.cells.lookup n with
   |none=>rw[hn]at q;exact h y d q
   |some c'=>
    rw[hn]at q;simp only[List.lookup_cons]at q;cases hy:y==n with
    |true=>
     rw[hy]at q;have e1:y=n:=eq_of_beq hy;rw[e1,hn];exact q
    |false=>rw[hy]at q;exact h y d q
  ·rw[if_neg hk]at q;exact h y d q
theorem Cj{env:Env}{x:Str}:∀{l:List (Str×NameKind)}{cs:List (Str×Addr)},(cs.lookup x).isSome=true->((cG env l cs).lookup x).isSome=true
 |[],_,h=>h
 | (n,k)::r,cs,h=>by
  refine Cj (l:=r) (cs:=_) ?_;by_cases hk:(k==NameKind.free)=true
  ·rw[if_pos hk];cases hn:env.cells.lookup n with
   |none=>exact h
   |some c'=>
    simp only[List.lookup_cons];cases hy:x==n with
    |true=>rfl
    |false=>exact h
  ·rw[if_neg hk];exact h
theorem Ck{env:Env}{x:Str}(hx:(env.cells.lookup x).isSome=true):∀{l:List (Str×NameKind)}{cs:List (Str×Addr)},(x,NameKind.free)∈l->((cG env l cs).lookup x).isSome=true
 | (n,k)::r,cs,h=>by
  rcases aS.mp h with e |h
  ·cases e;refine Cj (l:=r) (cs:=_) ?_;rw[if_pos (show (NameKind.free==NameKind.free)=true by decide)];obtain ⟨c,hc⟩:=cp.mp hx;rw[hc];simp
  ·exact Ck hx (l:=r) h
theorem Cm{scope:Scope}{env:Env}(h:∀y∈scope.names,y.2=NameKind.free->(env.cells.lookup y.1).isSome=true):closureFor scope env=pure (cG env scope.names []):=by
 simp only[closureFor];generalize ([]:List (Str×Addr))=cs;generalize scope.names=l at h;induction l generalizing cs with
 |nil=>rfl
 |cons y r ih=>
  obtain ⟨n,k⟩:=y;have ih':=λcs=>ih cs λy hy=>h y (a9 _ hy);rw[List.forIn_cons];by_cases hk:(k==NameKind.free)=true
  ·have hk':k=NameKind.free:=eq_of_beq hk;obtain ⟨c,hc⟩:=cp.mp (h (n,k) br hk');have e1:cG env ((n,k)::r) cs=cG env r ((n,c)::cs):=by
    rw[cG,if_pos hk];show cG env r (match env.cells.lookup n with |some c=>(n,c)::cs |none=>cs)=_;have hc':env.cells.lookup n=some c:=hc;rw[hc']
   have e2:cellOf env n=pure c:=by unfold cellOf;have hc':env.cells.lookup n=some c:=hc;rw[hc']
   rw[e1,<-ih' ((n,c)::cs)];simp only[hk,if_true,e2];rfl
  ·have e1:cG env ((n,k)::r) cs=cG env r cs:=by rw[cG,if_neg hk]
   rw[e1,<-ih' cs];simp only[hk,if_false];rfl
theorem vy{env:Env}{x:Str}:∀{names:List (Str×NameKind)},
  (names.map λ(n,k)=>if (k==NameKind.free&&env.scope.kind==.function&&env.kindOf n==some .cell) then (n,NameKind.cell) else (n,k)).lookup x=
   (names.lookup x).map λk=>if (k==NameKind.free&&env.scope.kind==.function&&env.kindOf x==some .cell)=true then NameKind.cell else k
 |[]=>rfl
 | (n,k)::r=>by
  have ih:=@vy env x r;rw[bq];have hh:∀(c:Prop)[Decidable c],(if c then (n,NameKind.cell) else (n,k))=(n,if c then NameKind.cell else k):=λc _=>by split <;> rfl
  show List.lookup x ((if (k==NameKind.free&&env.scope.kind==.function&&env.kindOf n==some .cell)=true then (n,NameKind.cell) else (n,k))::_)=_;rw[hh];simp only[List.lookup_cons];cases hx:x==n with
  |true=>
   have e1:x=n:=eq_of_beq hx;subst e1;rfl
  |false=>exact ih
noncomputable abbrev Cx.comp(X:Cx)(N':List Str)(scope:Scope)(cl:List (Str×Addr))(C:Addr)(s₁:Shared)(H₁:Hp)(fp:List Addr)(pn:List (Addr×Obj)):Cx where
 prog:=X.prog
 w:=X.w
 K:=X.K
 mg:=X.mg
 base:=X.base
 A:=X.A
 N:=N'
 s₀:=s₁
 H₀:=H₁
 env:=compEnvC scope cl C X.env
 outer:=X.stack
 stack:=X.stack
 ex:=fp
 fn:=λ_=>false
 calm:=X.calm
 pn:=pn
 xe:=λ_ _=>False
noncomputable def PIf(X:Cx)(ifs:List Expr)(t:TT):Prop:=
 ∀(pins:List (Addr×Obj))(s:Shared)(σ:St)(H:Hp)(Q:Bool->Hp->Prop),Inv X pins σ H s->t σ H Q->
  wpAny (model X.prog X.w) X.A (forIn ifs true λc r=>if r=true then do let ok <-isTrue c X.env (eval c X.env);pure (ForInStep.yield ok) else pure (ForInStep.yield r)) (TP X pins σ Q) X.xe s
noncomputable def XJ:TT:=λ_ H Q=>Q true H
theorem XM{X:Cx}:PIf X [] XJ:=λ_ _ _ H _ I h=>wpAny_tests_nil ⟨H,I,h⟩
theorem XN{X:Cx}{c:Expr}{t:TT}(h:PT X c t):PIf X [c] t:=λpins s σ H Q I q=>wpAny_tests_one (h pins s σ H Q I q)
noncomputable def dw(cap:List (Option Nat))(σ:St):St:=cap.map λo=>match o with |none=>none |some j=>(σ[j]?).join
noncomputable def Caps(X:Cx)(scope:Scope):List Str->List (Option Nat)->Prop
 |[],[]=>True
 |_::N',none::cap=>Caps X scope N' cap
 |x::N',some j::cap=>(X.N[j]?=some x/\scope.names.lookup x=some NameKind.free)/\Caps X scope N' cap
 |_,_=>False
theorem Caps.len{X:Cx}{scope:Scope}:∀{N':List Str}{cap:List (Option Nat)},Caps X scope N' cap->cap.length=N'.length
 |[],[],_=>rfl
 |_::N',none::cap,h=>by
  have:=Caps.len (N':=N') (cap:=cap) h;simp[this]
 |_::N',some _::cap,h=>by
  have:=Caps.len (N':=N') (cap:=cap) h.2;simp[this]
 |[],_::_,h=>False.elim h
 |_::_,[],h=>False.elim h
theorem Caps.at{X:Cx}{scope:Scope}:∀{N':List Str}{cap:List (Option Nat)}{i:Nat}{x:Str}{v:V}{σ:St},Caps X scope N' cap->N'[i]?=some x->(dw cap σ)[i]?=some (some v)->
  ∃j:Nat,X.N[j]?=some x/\scope.names.lookup x=some NameKind.free/\σ[j]?=some (some v)
 |[],[],i,x,v,σ,_,e,_=>by simp at e
 |y::N',none::cap,0,x,v,σ,h,e,q=>by simp[dw]at q
 |y::N',some j::cap,0,x,v,σ,h,e,q=>by
  have e1:y=x:=by simpa using e
  subst e1;have q1:(σ[j]?).join=some v:=by simpa [dw] using q
  refine ⟨j,h.1.1,h.1.2,?_⟩;cases z:σ[j]? with
  |none=>rw[z]at q1;cases q1
  |some o=>rw[z]at q1;exact eT some q1
 |y::N',none::cap,i+1,x,v,σ,h,e,q=>Caps.at (N':=N') (cap:=cap) (i:=i) h (by simpa using e) (by simpa [dw] using q)
 |y::N',some _::cap,i+1,x,v,σ,h,e,q=>Caps.at (N':=N') (cap:=cap) (i:=i) h.2 (by simpa using e) (by simpa [dw] using q)
 |[],_::_,_,_,_,_,h,_,_=>False.elim h
 |_::_,[],_,_,_,_,h,_,_=>False.elim h
noncomputable abbrev tx(l:List Nat):Str:=⟨l.toArray⟩
theorem bN(l:List Nat):(tx l).length=l.length:=by simp[Str.length]
theorem qp(a b:List Nat):tx a++tx b=tx (a++b):=by show (⟨a.toArray++b.toArray⟩:Str)=⟨(a++b).toArray⟩;simp
theorem Cp{a b:List Nat}(h:tx a=tx b):a=b:=by have:=eT (λx:Str=>x.cps.toList) h;simpa using this
theorem vz(x:Str):x=tx x.cps.toList:=by cases x;simp
section
variable {X:Cx}
theorem Cq:∀{ys:List Str}{us:List Value},Vals (ys.map V.str) us->StrsAre us ys
 |[],us,r=>by
  rw[dn]at r;cases r;exact .nil
 |y::ys,us,r=>by
  rw[bq]at r;cases r with
  |cons r1 r2=>
   obtain ⟨t,e⟩:=r1;subst e;exact .cons y t (Cq r2)
noncomputable def rJoin(K:PF):V->List V->Hp->VK->Prop:=λx vs H Q=>∃z p ys,x=.str z/\vs=[.ref p]/\SqL K H p (ys.map V.str)/\(ys.map (·.length)).sum+ys.length * z.length<=16777216/\Q (.str (Str.join z ys)) H
theorem XQ:MtR X "str.join" (rJoin X.K):=by intro pins s σ H x xs v us Q I rx rs h;obtain ⟨z,p,ys,rfl,rfl,hq,hb,q⟩:=h;obtain ⟨t,rfl⟩:=rx;obtain ⟨u,rfl,ru⟩:=vals1 rs;cases ru;obtain ⟨its,rv,pl,hz⟩:=I.list hq;refine join_list pl.isList (by simpa using Cq rv) hb λt' k=>⟨.str _,H,I.tok _,⟨_,rfl⟩,?_⟩;have e:Txt.join z ys=Str.join z ys:=StrLaws.glued_eq_join z ys;rw[e];exact q
noncomputable def XS(K:PF):List V->Hp->VK->Prop:=λxs H Q=>∃x n t b,xs=[x,.ty n]/\TyOf K H x t/\PySem.W.kitOne K t (.type n)=some b/\Q (.bl b) H
theorem XX:bC X (.builtin "isinstance") (XS X.K):=by intro pins s σ H xs us Q I r h;obtain ⟨x,n,t,b,rfl,ty,e,q⟩:=h;obtain ⟨u,w',rfl,rx,ry⟩:=vals2 r;cases ry;exact Wq I rx ty e λtk=>⟨.bl b,H,I.tok _,rfl,q⟩
theorem X3:bootBuiltins "bool"=some (.type "bool"):=by ac_rfl
theorem Cr:bootBuiltins "int"=some (.type "int"):=by ac_rfl
theorem Cu:bootBuiltins "str"=some (.type "str"):=by ac_rfl
theorem Cv:bootBuiltins "list"=some (.type "list"):=by ac_rfl
theorem X4:bootBuiltins "isinstance"=some (.builtin "isinstance"):=by ac_rfl
theorem X5 {x:Str} {T:String} {pos:Pos} (hg:Gl X x) (hm:X.mg x=none) (hv:bootBuiltins x=some (.type T)) (hn:x≠"__name__":=by decide) (hd:(x==("__debug__":Str))=false:=by decide):PE X (.Name x pos) (tC (.ty T)):=
 Ut hg hm hv (v:=.ty T) rfl hn hd
theorem X6:OpR X (binaryOp .Mult) (λx y H Q=>∃i n,x=.str i/\y=.int n/\MulOk i n/\Q (.str (Txt.mul i n)) H):=by intro pins s σ H x y v u Q I rx ry h;obtain ⟨i,n,rfl,rfl,hok,q⟩:=h;obtain ⟨t,rfl⟩:=rx;obtain ⟨t',rfl⟩:=ry;exact SB.mul hok λt' k=>⟨.str _,H,I.tok _,⟨_,rfl⟩,q⟩
end
noncomputable def vA(X:Cx)(st:List Stmt)(t:TS):Prop:=
 ∀(pins:List (Addr×Obj))(s:Shared)(σ:St)(H:Hp)(D:Ends),1<=s.toks->Inv X pins σ H s->t D σ H->wpAny (model X.prog X.w) X.A (execs st X.env) (SP X pins D) X.xe s
noncomputable def PE1(X:Cx)(e:Expr)(t:TE):Prop:=
 ∀(pins:List (Addr×Obj))(s:Shared)(σ:St)(H:Hp)(Q:VK),1<=s.toks->Inv X pins σ H s->t σ H Q->wpAny (model X.prog X.w) X.A (eval e X.env) (EP X pins σ Q) X.xe s
theorem X7{X:Cx}{e:Expr}{te:TE}{pos:Pos}(he:PE1 X e te):vA X [.Return (some e) pos] (Aw te):=by intro pins s σ H D h1 I h;refine wpAny_execs_cons (wpAny_Return_some (thn (he pins s σ H _ h1 I h) λv s1 ⟨x,H1,I1,r1,q1⟩=>?_));exact ⟨x,σ,H1,I1,r1,q1⟩
theorem vB{c d:Nat}:∀l:List Nat,c∉l->l.map (λa=>if a=c then d else a)=l
 |[],_=>rfl
 |a::r,h=>by
  have h1:a≠c:=λe=>h (by rw[e];exact br);rw[bq,if_neg h1,vB r λz=>h (a9 _ z)]
theorem Cw(c d:Nat):∀parts:List Str,(∀p∈parts,c∉p.cps.toList)->(Str.join ⟨#[c]⟩ parts).cps.toList.map (λa=>if a=c then d else a)=(Str.join ⟨#[d]⟩ parts).cps.toList
 |[],_=>rfl
 |[x],h=>by
  simp only[Str.join];exact vB _ (h x br)
 |x::y::r,h=>by
  have ih:=Cw c d (y::r) λp hp=>h p (a9 _ hp);have e:∀z:Str,Str.join z (x::y::r)=x++z++Str.join z (y::r):=λz=>by simp only[Str.join]
  have ap:∀u v:Str,(u++v).cps.toList=u.cps.toList++v.cps.toList:=λu v=>by
   show (u.cps++v.cps).toList=_;simp
  rw[e,e,ap,ap,ap,ap,bX,bX,ih,vB _ (h x br)];simp
theorem X8(l:List Nat)(c d:Nat):Txt.replace (tx l) (tx [c]) (tx [d])=tx (l.map λa=>if a=c then d else a):=by
 have e:(Txt.replace (tx l) ⟨#[c]⟩ ⟨#[d]⟩).cps.toList=l.map λa=>if a=c then d else a:=by rw[StrLaws.replace_one,<-Cw c d _ (StrLaws.split_free (tx l) c),StrLaws.join_split]
 rw[vz (Txt.replace (tx l) (tx [c]) (tx [d]))];exact eT tx e
section
variable {X:Cx}
theorem Yb{o:Expr}{to:TE}{y z:Str}{ky kz:Nat}{py pz apos cpos:Pos}(ho:PE X o to)(hyz:(y==z)=false)
  (hbase:attributeBase o "replace" X.env (eval o X.env)=eval o X.env:=by rfl)
  (hfew:((backTo cpos (starEach [.Constant (.str y) ky py,.Constant (.str z) kz pz] X.env)).all (λx=>!x.1)&&(backToKw cpos (keywordEach [] X.env)).all (λx=>x.1.isSome)
  &&decide (([.Constant (.str y) ky py,.Constant (.str z) kz pz]:List Expr).length+([]:List Keyword).length+(if ([]:List Keyword).isEmpty then 0 else 1) < 30))=true:=by rfl)
  (hline:(apos.endLine==cpos.line)=true:=by rfl):
  PE1 X (.Call (.Attribute o "replace" apos) [.Constant (.str y) ky py,.Constant (.str z) kz pz] [] cpos)
   (λσ H Q=>to σ H λv H1=>∃x,v=.str x/\x.length+(x.length+1) * z.length<=16777216/\Q (.str (Txt.replace x y z)) H1):=by
 intro pins s σ H Q h1 I h;refine wpAny_Call_method_late hbase hfew hline rfl (cw (wpAny_toks_of (n:=1) h1 (ho pins s σ H _ I h)) (λv s1 h2=>?_) (λ_ _ e=>e.2));obtain ⟨t1,v',H1,I1,r1,x,e,hb,q⟩:=h2;subst e;obtain ⟨t,rfl⟩:=r1;refine ⟨"str","str.replace",F.plainAttrs_str,F.slot_str_replace,F.type_str_replace,typeIs_str _ _ _,(λ_ e=>nomatch e),?_⟩;refine Calls.callWith_builtin (by rfl) (Calls.evalArgs_plain ?_);show wpAny _ _ (spliced [(false,eval (.Constant (.str y) ky py) X.env),(false,eval (.Constant (.str z) kz pz) X.env)]) _ _ s1;refine Calls.spliced_cons (Calls.Constant_str (Calls.spliced_cons (Calls.Constant_str (Calls.spliced_nil ?_))));exact SC.replace (by show @Ne Nat s1.toks 0;omega) (by show @Ne Nat (s1.toks+1) 0;omega) (by show @Ne Nat s1.toks (s1.toks+1);omega) hyz hb λt' k=>⟨.str _,H1,I1.tok _,⟨_,rfl⟩,q⟩
end
theorem Yc{CX:CXT}{P:Program}{w:World}{K:PF}{mg:Str->Option Value}{base:Heap}{k:Nat}{f:Addr}{name qual:Str}{params:Arguments}{body:List Stmt}{scope:Scope}{dV kV doc pm cdv ct oc:Value}{an od:Option Addr}
  {osl:Array (Option Value)} {N:List Str} {x:Str} {sp:Sp} (lk:K.lookup f=some ⟨oc,od,.func (PySem.W.fnOf name qual params body scope dV kV doc pm an cdv ct),osl⟩) (hcd:PySem.W.codeIn K cdv qual=true) (S:FnScope N [x] scope)
  (hx:scope.names.lookup x=some .local) (hnc:∀y∈scope.names,y.2≠NameKind.cell) (hcf:∀n,cellsFrom n scope.names []=[])
  (len:∀vs H Q E,sp vs H Q E->vs.length=[x].length)
  (hbody:∀(A:Around)(outer:List Env)(s:Shared)(H:Hp)(vs:List V)(Q:VK)(E:XK),Room k (A.deeper (envOfC qual scope s.heap.objs.size f cdv))->sp vs H Q E->
   ∃t,vA (cV CX P w K mg base N qual scope f cdv A outer s H E) body t/\t { nx:=λ_ H'=>Q .non H',rt:=Q } (start N vs) H):
  FnOk P w K mg base CX (k+1) f (PySem.W.fnOf name qual params body scope dV kV doc pm an cdv ct) [x] sp:=by
 refine ⟨len,λA outer s H args us vs Q E hr e0 hb r hsp=>?_⟩;have hl:=len _ _ _ _ hsp;have KX:K.In s.heap:=e0.mod.kin.keeps λb o e=>(e0.bs b o e).1;have lim:s.heap.NoLimit:=e0.mod.nolimit.keeps λb o e=>(e0.bs b o e).1;obtain ⟨u,rfl⟩:∃u,us=[u]:=by
  have h2:=r.length;rw[hl]at h2;match us,h2 with
  |[u],_=>exact ⟨u,rfl⟩
 refine codeAny_call_function hr.depth (KX _ _ lk) rfl S.co S.gen rfl (PySem.W.codeRec_of KX hcd) (hb _ _ _ _ ?_);refine wpAny_newFunctionEnv (binds:=[x].zip [u]) hnc (λy hy=>?_) (λh' hns hsb=>?_) S.kind
 ·have e:y=(x,u):=by simpa using hy
  rw[e];exact hx
 have envEq:newEnv scope s.heap.objs.size mainGlobals [] (qual++Str.ofString ".<locals>.") (some f) cdv none builtinsNs=envOfC qual scope s.heap.objs.size f cdv:=by unfold envOfC newEnv;rw[hcf]
 have kp:∀b o,s.heap.get? b=some o->h'.get? b=some o:=λb o e=>hsb.extBut b o (cm (aI e)) (am _ e);have mEq:bindL (envOfC qual scope s.heap.objs.size f cdv).kindOf ([x].zip [u]) (λ_=>none)=λy=>(([x].zip [u]).reverse).lookup y:=by
  funext y;have hk:(envOfC qual scope s.heap.objs.size f cdv).kindOf x=some .local:=hx;show bindL (envOfC qual scope s.heap.objs.size f cdv).kindOf [(x,u)] (λ_=>none) y=List.lookup y [(x,u)];unfold bindL;rw[if_pos hk];unfold bindL;by_cases hy:y=x
  ·subst hy;simp
  ·have:(y==x)=false:=by simpa using hy
   simp[hy,List.lookup_cons,this]
 have xx:InCallC s s.heap.objs.size (bindL (envOfC qual scope s.heap.objs.size f cdv).kindOf ([x].zip [u]) λ_=>none) (cellsFrom (s.heap.objs.size+1) scope.names []) (bindC (envOfC qual scope s.heap.objs.size f cdv).kindOf ([x].zip [u]) λ_=>none)
   { s with heap:=h',toks:=s.toks+([x].zip [u]).length }:=by
  rw[mEq,hcf];exact ⟨⟨⟨h',_,rfl⟩,hns,kp,ax _⟩,(λn c e=>by simp at e),List.Pairwise.nil,(λn c e=>nomatch e)⟩
 show _/\codeAny (model P w) A (.func body (newEnv scope s.heap.objs.size mainGlobals [] (qual++Str.ofString ".<locals>.") (some f) cdv none builtinsNs)) _ _;rw[envEq];refine ⟨lim.keeps kp,codeAny_func ?_⟩;obtain ⟨t,ht,hq⟩:=hbody A outer s H vs Q E (hr.deeper _) hsp;have I:Inv (cV CX P w K mg base N qual scope f cdv A outer s H E) [] (start N vs) H { s with heap:=h',toks:=s.toks+([x].zip [u]).length }:=Bt S hr.hd e0 hl r xx;refine cw (ht [] _ (start N vs) H _ (Nat.le_add_left 1 s.toks) I hq) (λfl s' hs=>?_) λe s' hs=>hs;have fin:∀{σ':St}{H':Hp}{v:V}{u:Value},Inv (cV CX P w K mg base N qual scope f cdv A outer s H E) [] σ' H' s'->RelV v u->Q v H'->CE outer P w H s Q u s':=
  λ{σ' H' v u} J rv q=>⟨v,H',J.os,J.bare,J.base,J.hok,rv,q⟩
 cases fl with
 |ret u=>
  obtain ⟨v,σ',H',J,rv,q⟩:=hs;exact fin J rv q
 |next=>
  obtain ⟨σ',H',J,q⟩:=hs;exact fin (v:=V.non) (u:=Value.none) J rfl q
 |brk=>
  obtain ⟨_,_,_,q⟩:=hs;exact False.elim q
 |cont=>
  obtain ⟨_,_,_,q⟩:=hs;exact False.elim q
theorem Fun.ok1{P:Program}{w:World}{K:PF}{mg:Str->Option Value}{base:Heap}{x qual:Str}{st:Stmt}{f:Addr}{fd:FuncData}{N:List Str}{y:Str}{k:Nat}{sp:Sp}(F:Fun K x qual st f fd)(S:FnScope N [y] (ao st))
  (hx:(ao st).names.lookup y=some .local) (hnc:∀z∈(ao st).names,z.2≠NameKind.cell) (hcf:∀n,cellsFrom n (ao st).names []=[]) (len:∀vs H Q E,sp vs H Q E->vs.length=[y].length)
  (hbody:∀(cdv:Value)(A:Around)(outer:List Env)(s:Shared)(H:Hp)(vs:List V)(Q:VK)(E:XK),Room k (A.deeper (envOfC qual (ao st) s.heap.objs.size f cdv))->sp vs H Q E->
   ∃t,vA (cV CX0 P w K mg base N qual (ao st) f cdv A outer s H E) (aG st) t/\t { nx:=λ_ H'=>Q .non H',rt:=Q } (start N vs) H):FnOk P w K mg base CX0 (k+1) f fd [y] sp:=by
 obtain ⟨oc,od,kV,doc,pm,an,cdv,ct,osl,rfl,lk,hcd⟩:=F.ex;exact Yc lk hcd S hx hnc hcf len λA outer s H vs Q E hr hsp=>hbody cdv A outer s H vs Q E hr hsp
open Builtin Builtin.Str
theorem Yd{prog:Program}{w:World}{A:Around}(hh:A.handled=none)(it:Addr)(x:Str)(t:Tok):
  Draws prog w A it [it] x.cps.size (λi v=>∃c u,x.cps[i]?=some c/\v=.str ⟨#[c]⟩ u) (λi h=>h.IsStrIter it (strIterType x) x t i):=by
 unfold strIterType;split
 ·exact Draws.strAscii hh it x t
 ·exact Draws.strWide hh it x t
structure ZApart(z TI TO i1 i2:Addr):Prop where
 TIz:TI≠z
 TOz:TO≠z
 i1z:i1≠z
 i2z:i2≠z
 TITO:TI≠TO
 TIi1:TI≠i1
 TIi2:TI≠i2
 TOi1:TO≠i1
 TOi2:TO≠i2
 i12:i1≠i2
section
variable {X:Cx}
theorem Cy:∀{bs:List Bool}{us:List Value}{i:Nat}{v:Value},Vals (bs.map V.bl) us->us[i]?=some v->∃b,bs[i]?=some b/\v=.bool b
 |[],us,i,v,r,e=>by
  rw[dn]at r;cases r;simp at e
 |b::bs,us,i,v,r,e=>by
  rw[bq]at r;cases r with
  |cons r1 r2=>
   cases i with
   |zero=>
    cases (show _=Value.bool b from r1);exact ⟨b,rfl,by simpa using e.symm⟩
   |succ i=>exact Cy (i:=i) r2 (by simpa using e)
theorem Ye:bootBuiltins "all"=some (.builtin "all"):=by ac_rfl
theorem Yg:bootBuiltins "zip"=some (.type "zip"):=by ac_rfl
theorem all_range(bs:List Bool)(n:Nat)(hn:n=bs.length):((List.range n).all λi=>(bs[i]?).getD true)=bs.all id:=by
 subst hn;rw[Bool.eq_iff_iff,cf,cf];constructor
 ·intro h b hb;obtain ⟨i,hi,e⟩:=List.mem_iff_getElem.mp hb;have:=h i (List.mem_range.mpr hi);rw[ba hi,e]at this;simpa using this
 ·intro h i hi;have hi':=List.mem_range.mp hi;rw[ba hi'];simpa using h _ (c9 hi')
theorem Yh (hc:X.calm=true):bC X (.builtin "all") (λxs H Q=>∃(p:Addr) (bs:List Bool),xs=[.ref p]/\SqL X.K H p (bs.map V.bl)/\Q (.bl (bs.all id)) H):=by
 intro pins s σ H xs us Q I r h;obtain ⟨p,bs,rfl,hq,q⟩:=h;obtain ⟨u,rfl,ru⟩:=vals1 r;cases ru;obtain ⟨its,rv,pl,hz⟩:=I.list hq;have hl:=pl.isList;have hlt:p < s.heap.objs.size:=by obtain ⟨_,e,_⟩:=hl;exact aI e
 refine call_all_walk (wpAny_pyIter_list hl ?_);refine ⟨s.heap.objs.size,[s.heap.objs.size,p],[s.heap.objs.size],its.toArray.size,_,_,λi=>(bs[i]?).getD true,rfl,Walks.list (A:=X.A.in1) (I.ok.hd hc) _ p (cm hlt) its.toArray,
  ⟨⟨_,bd _ rfl,rfl,rfl⟩,hl.push _⟩,λi v s' Q' E' hP hQ=>?_,λh' tk hk=>?_⟩
 ·obtain ⟨b,e,rfl⟩:=Cy rv (i:=i) (v:=v) (by simpa using hP);simp only[e,Option.getD_some]at hQ;exact ed hQ
 ·have e:=all_range bs its.toArray.size (by rw[ar,<-rv.length,ah]);rw[e];exact ⟨.bl _,H,I.kept (λb o q=>hk b o (λhm=>by rw[a7.mp hm]at q;exact ee _ (aI q)) (am _ q)),rfl,q⟩
theorem Yi:OpR X (compareOp .Is) (λx y H Q=>∃i j,x=.bl i/\y=.bl j/\Q (.bl (i==j)) H):=by intro pins s σ H x y v u Q I rx ry h;obtain ⟨i,j,rfl,rfl,q⟩:=h;cases rx;cases ry;exact is_bool ⟨.bl _,H,I,rfl,q⟩
theorem Yj:bC X (.type "int") (λxs H Q=>∃z n,xs=[.str z]/\PySem.intText? z=some n/\z.length<=640/\Q (.int n) H):=by intro pins s σ H xs us Q I r h;obtain ⟨z,n,rfl,hn,hl,q⟩:=h;obtain ⟨u,rfl,t,rfl⟩:=vals1 r;exact PySem.W.KIN.call_text hn hl ⟨.int n,H,I.tok _,⟨_,rfl⟩,q⟩
noncomputable def Yk:V->Option Int->Option Int->Hp->VK->Prop:=λx lo hi H Q=>∃z,x=.str z/\z.length<=sizeLine/\Q (.str (Txt.slice z lo hi)) H
theorem Yl:SlR X Yk:=by
 intro pins s σ H x v vl vu lo hi sl Q I rx hs pl pu h;obtain ⟨z,rfl,hz,q⟩:=h;obtain ⟨t,rfl⟩:=rx;refine ⟨"str",_,slot_str_getitem.lookup,typeIs_str _ _ _,?_⟩;obtain ⟨l,el,e1⟩:∃l:Option (Int×Tok),vl=partValue l/\l.map (·.1)=lo:=by
  cases pl with
  |none=>exact ⟨none,rfl,rfl⟩
  |int i t=>exact ⟨some (i,t),rfl,rfl⟩
 obtain ⟨u,eu,e2⟩:∃u:Option (Int×Tok),vu=partValue u/\u.map (·.1)=hi:=by
  cases pu with
  |none=>exact ⟨none,rfl,rfl⟩
  |int i t=>exact ⟨some (i,t),rfl,rfl⟩
 subst el eu e1 e2;refine wpAny_getItem_str_slice (l:=l) (u:=u) (st:=none) hs rfl ?_;unfold sliceMade;unfold Txt.slice at q;show (if ((1:Int)==1&&(slicePicked z l u none).length==z.length)=true then Made.val (.str z t) else Made.str ⟨((slicePicked z l u none).filterMap (z.cps[·]?)).toArray⟩).post _ _;have ep:slicePicked z l u none=Builtin.Str.strSliceIndices (l.map (·.1)) (u.map (·.1)) 1 z.length:=rfl;rw[ep];by_cases hc:((1:Int)==1&&(Builtin.Str.strSliceIndices (l.map (·.1)) (u.map (·.1)) 1 z.length).length==z.length)=true
 ·rw[if_pos hc]at q ⊢;exact ⟨.str z,H,I,⟨t,rfl⟩,q⟩
 ·rw[if_neg hc]at q ⊢;refine ⟨?_,⟨.str _,H,I.tok _,⟨_,rfl⟩,q⟩⟩;show (List.filterMap _ _).toArray.size<=sizeLine;rw[ar];have h1:=sliceIndices_le (l.map (·.1)) (u.map (·.1)) z.length;have h2:=List.length_filterMap_le (λx=>z.cps[x]?) (Builtin.Str.strSliceIndices (l.map (·.1)) (u.map (·.1)) 1 z.length);omega
end
section
variable {X:Cx}
theorem Ym:OpR X (compareOp .IsNot) (λx y H Q=>∃i j,x=.bl i/\y=.bl j/\Q (.bl (i != j)) H):=by intro pins s σ H x y v u Q I rx ry h;obtain ⟨i,j,rfl,rfl,q⟩:=h;cases rx;cases ry;exact isnot_bool ⟨.bl _,H,I,rfl,q⟩
end
noncomputable def noStar:Expr->Bool
 |.Starred ..=>false
 |_=>true
theorem cH(e:Expr)(es:List Expr)(env:Env)(h:noStar e=true):starEach (e::es) env=(false,eval e env)::starEach es env:=by cases e <;> first |rfl |cases h
variable {X:Cx} {e st:Expr} {te ts:TE} {p2 pos:Pos}
noncomputable def holes(h:Heap)(l:List Addr):Heap:={ h with objs:=h.objs.mapIdx λi o=>if l.contains i then { o with data:=.freed } else o }
theorem Cz{h:Heap}{l:List Addr}{b:Addr}:(holes h l).get? b=if l.contains b then none else h.get? b:=by
 unfold holes Heap.get?;simp only[Array.getElem?_mapIdx];cases hb:h.objs[b]? with
 |none=>simp
 |some o=>
  cases hc:l.contains b with
  |true=>simp[hc]
  |false=>simp[hc]
theorem j5{h:Heap}{l:List Addr}{b:Addr}(hb:b∈l):(holes h l).get? b=none:=by rw[Cz,bb.mpr hb];rfl
theorem vC{h:Heap}{l:List Addr}{b:Addr}(hb:b∉l):(holes h l).get? b=h.get? b:=by
 rw[Cz];cases hc:l.contains b with
 |true=>exact absurd (bb.mp hc) hb
 |false=>rfl
theorem CG{h:Heap}{l:List Addr}:(holes h l).StaysIn h:=λb o e=>by
 by_cases hb:b∈l
 ·rw[j5 hb]at e;cases e
 ·rw[vC hb]at e;exact e
theorem ObjOk.at{P:Program}{w:World}{H:Hp}{h:Heap}{a:Addr}{o:HO}(x:ObjOk P w H h a o):∃u,h.get? a=some u:=by
 cases o with
 |lst xs=>obtain ⟨_,_,_,_,e⟩:=x;exact ⟨_,e⟩
 |tup xs=>obtain ⟨_,_,_,o,e,_⟩:=x;exact ⟨_,e⟩
 |dK kvs=>obtain ⟨_,_,_,_,o,_,_,e,_⟩:=x;exact ⟨_,e⟩
 |dT kvs=>obtain ⟨_,_,_,_,o,_,_,e,_⟩:=x;exact ⟨_,e⟩
 |set S n=>obtain ⟨o,_,_,_,e,_⟩:=x;exact ⟨_,e⟩
 |ins C dx fs=>obtain ⟨_,_,_,e,_⟩:=x;exact ⟨_,e⟩
 |own y=>exact x
 |xd fs=>obtain ⟨_,⟨_,_,_,e,_⟩,_⟩:=x;exact ⟨_,e⟩
 |rng lo hi=>obtain ⟨_,_,_,e⟩:=x;exact ⟨_,e⟩
 |frz ob u=>obtain ⟨e,_⟩:=x;exact ⟨_,e⟩
 |tbl ps=>exact ⟨_,(show h.get? a=some _ from x)⟩
 |met f y=>exact ⟨_,(show h.get? a=some _ from x)⟩
 |ext φ=>obtain ⟨_,e,_⟩:=x;exact e
theorem HOk.gone{P:Program}{w:World}{H:Hp}{h:Heap}{a:Addr}(x:HOk P w H h)(e:h.get? a=none):H a=none:=by
 cases q:H a with
 |none=>rfl
 |some u=>obtain ⟨o,ho⟩:=(x a u q).at;rw[ho]at e;cases e
theorem CJ{h base:Heap}:∀{l:List Env},h.FunFrames base l->∀b∈frs l,∃o,h.get? b=some o/\∀vs,o.data≠.fields vs
 |[],_,b,hb=>by cases hb
 |env::l,hf,b,hb=>by
  unfold Heap.FunFrames at hf;obtain ⟨_,⟨L,o,e1,_,e3,e4⟩,hr⟩:=hf;unfold frs at hb;rw[fq,e1]at hb;rcases aS.mp hb with rfl |hb
  ·exact ⟨o,e3,e4⟩
  ·exact CJ hr b hb
theorem vD{h base:Heap}{x:List Addr}:∀{l:List Env},h.FunFrames base l->(∀b∈frs l,b∈x)->h.FunFrames (holes h x) l
 |[],_,_=>by unfold Heap.FunFrames;trivial
 |env::l,hf,hx=>by
  unfold Heap.FunFrames at hf ⊢;obtain ⟨h1,⟨L,o,e1,_,e3,e4⟩,hr⟩:=hf;have hL:L∈frs (env::l):=by unfold frs;rw[fq,e1];exact br
  refine ⟨h1,⟨L,o,e1,j5 (hx L hL),e3,e4⟩,vD hr λb hb=>hx b ?_⟩;unfold frs at hb ⊢;rw[fq,e1];exact a9 _ hb
theorem CK{h base:Heap}{env:Env}{l:List Env}(hf:h.FunFrames base (env::l)):∃L,env.frame=some L:=by unfold Heap.FunFrames at hf;obtain ⟨_,⟨L,o,e1,_⟩,_⟩:=hf;exact ⟨L,e1⟩
noncomputable def Tr(h0:Heap)(H:Hp)(h:Heap)(a:Addr)(c:Value):Prop:=
 ∃oe vs T oT ts,h.get? a=some oe/\oe.cls=c/\oe.data=.fields vs/\vs[1]?=some (.ref T)/\T≠a/\h.get? T=some oT/\oT.data=.fields ts/\ts[3]?=some .none/\
  h0.get? a=none/\h0.get? T=none/\H a=none/\H T=none
noncomputable def CX1(P:Program)(w:World):CXT:=λouter H s E e s'=>
 ∃(a:Addr)(c:Value)(H':Hp),e=.ref a/\s'.os=s.os/\AllBare s'.gens/\Un (frs outer) [] H H' s.heap s'.heap/\HOk P w H' s'.heap/\Tr s.heap H' s'.heap a c/\E c none H'
theorem Yn{P:Program}{w:World}{fs st:List Addr}{H0 H:Hp}{h0 h h':Heap}{l:List Env}{a:Addr}{xs:List Addr}{c:Value}(un:Un fs [] H0 H h0 h)(hok:HOk P w H h)
  (up:∀b∈fs,b∈st) (old:∀b o,h0.get? b=some o->b∉fs->b∉st) (fr:∀b∈st,H b=none/\∃o,h.get? b=some o/\∀vs,o.data≠.fields vs)
  (ha:h0.get? a=none) (hHa:H a=none) (hxs:∀x∈xs,h0.get? x=none/\H x=none)
  (L:(holes h (st++a::xs)).Left l a c h h'):Un fs [] H0 H h0 h'/\HOk P w H h'/\Tr h0 H h' a c:=by
 obtain ⟨stay,_,tr,slots⟩:=L;have old:∀b o,h0.get? b=some o->b∉fs->b∉st++a::xs:=by
  intro b o hb hf hin;rcases a8.mp hin with hin |hin
  ·exact old b o hb hf hin
  ·rcases aS.mp hin with e |e
   ·rw[e,ha]at hb;cases hb
   ·rw[(hxs b e).1]at hb;cases hb
 have kept:∀b o,h.get? b=some o->b∉st++a::xs->h'.get? b=some o:=λb o e hn=>stay b o (by rw[vC hn];exact e);have trk:∀b o,H b=some o->b∉st++a::xs:=by
  intro b o hb hin;rcases a8.mp hin with hin |hin
  ·rw[(fr b hin).1]at hb;cases hb
  ·rcases aS.mp hin with e |e
   ·rw[e,hHa]at hb;cases hb
   ·rw[(hxs b e).2]at hb;cases hb
 have noex:∀b:Addr,b∉([]:List Addr):=λb hb=>by cases hb
 have frd:∀b∈st,∀o,h.get? b=some o->∀vs,o.data≠.fields vs:=by intro b hb o ho vs;obtain ⟨_,o',e1,e2⟩:=fr b hb;rw[e1]at ho;cases ho;exact e2 vs
 refine ⟨⟨?_,?_,?_,?_,un.tups,un.frzs,un.tbls⟩,?_,?_⟩
 ·intro b o hb hn hf _;exact kept b o (un.keep b o hb hn hf (noex b)) (old b o hb hf)
 ·intro b o hb hn hf _;obtain ⟨sl,e⟩:=un.slot b o hb hn hf (noex b);obtain ⟨sl',e'⟩:=slots b _ e (frd b (up b hf) _ e);exact ⟨sl',e'⟩
 ·intro b o hb hn _;exact un.free b o hb hn (noex b)
 ·intro b o hb _;obtain ⟨o',e⟩:=un.there b o hb (noex b);by_cases hin:b∈st++a::xs
  ·rcases a8.mp hin with h1 |h1
   ·obtain ⟨sl',e'⟩:=slots b _ e (frd b h1 _ e);exact ⟨_,e'⟩
   ·rcases aS.mp h1 with e2 |e2
    ·rw[e2,ha]at hb;cases hb
    ·rw[(hxs b e2).1]at hb;cases hb
  ·exact ⟨_,kept b o' e hin⟩
 ·intro b o hb;refine (hok b o hb).stay (λb' u hb' e=>kept b' u e ?_) (λ_ z=>z) λ_ _ z=>z;rcases hb' with rfl |hb'
  ·exact trk _ _ hb
  ·exact trk _ _ hb'
 ·obtain ⟨oe,vs,T,oT,ts,t1,t2,t3,t4,t5,t6,t7,t8,t9⟩:=tr;have hT:T∈xs\/h.get? T=none:=by
   by_cases hin:T∈st++a::xs
   ·rcases a8.mp hin with h1 |h1
    ·exfalso;obtain ⟨_,o,e1,e2⟩:=fr T h1;obtain ⟨sl,e3⟩:=slots T o e1 e2;rw[e3]at t7;cases t7;exact e2 ts t8
    ·rcases aS.mp h1 with e2 |e2
     ·exact absurd e2 t6
     ·exact .inl e2
   ·rw[vC hin]at t5;exact .inr t5
  refine ⟨oe,vs,T,oT,ts,t1,t2,t3,t4,t6,t7,t8,t9,ha,?_,hHa,?_⟩
  ·rcases hT with h1 |h1
   ·exact (hxs T h1).1
   ·cases e:h0.get? T with
    |none=>rfl
    |some o=>obtain ⟨o',e'⟩:=un.there T o e (noex T);rw[e']at h1;cases h1
  ·rcases hT with h1 |h1
   ·exact (hxs T h1).2
   ·exact hok.gone h1
section
variable {X:Cx} {pins:List (Addr×Obj)} {σ:St} {H:Hp} {s:Shared}
theorem CN(J:Inv X pins σ H s)(hst:X.stack=X.env::X.outer)(hex:X.ex=[]){a:Addr}{xs:List Addr}{c:Value}{E:XK}
  (ha:X.s₀.heap.get? a=none) (hHa:H a=none) (hxs:∀x∈xs,X.s₀.heap.get? x=none/\H x=none)
  {h':Heap} (L:(holes s.heap (frs X.stack++a::xs)).Left (X.env::X.outer) a c s.heap h') (q:E c none H):
  CX1 X.prog X.w X.outer X.H₀ X.s₀ E (.ref a) { s with heap:=h' }:=by
 have sub:=J.stkSub;have hb0:=J.base;rw[hex]at hb0;have up:∀b∈X.fs,b∈frs X.stack:=by
  intro b hb;rw[hst];unfold Cx.fs at hb;unfold frs at hb ⊢;rw[fq];split
  ·exact hb
  ·exact a9 _ hb
 have old:∀b o,X.s₀.heap.get? b=some o->b∉X.fs->b∉frs X.stack:=by
  intro b o hb hf hin;rcases aS.mp (sub b hin) with e |e
  ·have h1:=aI hb;have h2:=J.ok.above;rw[e]at h1;exact absurd h1 (Nat.not_lt.mpr h2)
  ·exact hf e
 obtain ⟨u,k,t⟩:=Yn hb0 J.hok up old (λb hb=>⟨J.stkFree b hb,CJ J.stack b hb⟩) ha hHa hxs L;exact ⟨a,c,H,rfl,J.os,J.bare,u,k,t,q⟩
theorem Yo(J:Inv X pins σ H s)(hst:X.stack=X.env::X.outer)(hex:X.ex=[]){a:Addr}{c:Value}{E:XK}(t:Tr X.s₀.heap H s.heap a c)(q:E c none H){E':Value->Shared->Prop}:
  wpAny (model X.prog X.w) X.A (leaving X.env (.ref a)) (λ_ s''=>CX1 X.prog X.w X.outer X.H₀ X.s₀ E (.ref a) s'') E' s:=by
 obtain ⟨oe,vs,T,oT,ts,t1,t2,t3,t4,t6,t7,t8,t9,n1,n2,n3,n4⟩:=t;have hfr:=J.stack;rw[hst]at hfr;obtain ⟨L,hL⟩:=CK hfr;have sub:∀b∈frs (X.env::X.outer),b∈frs X.stack++a::[T]:=λb hb=>by rw[hst];exact dA _ hb
 refine wpAny_leaving_next (base:=holes s.heap (frs X.stack++a::[T])) (cls:=c) (by rw[J.ok.frames,hst]) (vD hfr sub) hL ?_ CG (j5 (by simp)) λh' hl=>?_
 ·exact ⟨oe,vs,T,oT,ts,t1,t2,t3,t4,j5 (by simp),t6,t7,t8,t9⟩
 ·exact CN J hst hex n1 n3 (λx hx=>by rw[a7.mp hx];exact ⟨n2,n4⟩) hl q
theorem Yp{h':Heap}(I:Inv X pins σ H s)(hst:X.stack=X.env::X.outer)(hex:X.ex=[]){a:Addr}{c:Value}{args:List Value}{E:XK}(m:s.heap.MadeExcOf h' a c args)(q:E c none H){E':Value->Shared->Prop}:
  wpAny (model X.prog X.w) X.A (leaving X.env (.ref a)) (λ_ s''=>CX1 X.prog X.w X.outer X.H₀ X.s₀ E (.ref a) s'') E' { s with heap:=h' }:=by
 have J:Inv X pins σ H { s with heap:=h' }:=I.kept (t':=s.toks) m.keeps;have hfr:=J.stack;rw[hst]at hfr;obtain ⟨L,hL⟩:=CK hfr;have sub:∀b∈frs (X.env::X.outer),b∈frs X.stack++a::[]:=λb hb=>by rw[hst];exact dA _ hb
 obtain ⟨t,e,_,_⟩:=m.there;have n1:X.s₀.heap.get? a=none:=by
  cases e:X.s₀.heap.get? a with
  |none=>rfl
  |some o=>
   obtain ⟨o',e'⟩:=I.base.there a o e (by rw[hex];simp);rw[m.new]at e';cases e'
 refine wpAny_leaving_first (base:=holes h' (frs X.stack++a::[])) (by rw[J.ok.frames,hst]) (vD hfr sub) hL e CG (j5 (by simp)) rfl rfl λh'' hl=>?_;exact CN J hst hex n1 (I.hok.gone m.new) (λx hx=>by cases hx) hl q
theorem Yq{E:XK}(hst:X.stack=X.env::X.outer)(hex:X.ex=[])(hxe:∀e s',wpAny (model X.prog X.w) X.A (leaving X.env e) (λ_ s''=>CX1 X.prog X.w X.outer X.H₀ X.s₀ E e s'') (λe' s''=>CX1 X.prog X.w X.outer X.H₀ X.s₀ E e' s'') s'->X.xe e s'):
  eV (CX1 X.prog X.w) X E:=by
 intro pins σ H s e s' I h;obtain ⟨a,c,H',rfl,ho,hg,un,hok,tr,q⟩:=h;have J:Inv X pins σ H' s':=I.call' (ch:=[]) ho un hok hg (λb z=>absurd z (by simp));refine hxe _ _ (Yo J hst hex ?_ q);obtain ⟨oe,vs,T,oT,ts,t1,t2,t3,t4,t6,t7,t8,t9,n1,n2,n3,n4⟩:=tr;have old:∀b,s.heap.get? b=none->X.s₀.heap.get? b=none:=λb hb=>by
  cases e:X.s₀.heap.get? b with
  |none=>rfl
  |some o=>
   obtain ⟨o',e'⟩:=I.base.there b o e (by rw[hex];simp);rw[hb]at e';cases e'
 exact ⟨oe,vs,T,oT,ts,t1,t2,t3,t4,t6,t7,t8,t9,old a n1,old T n2,n3,n4⟩
theorem CP{P:Program}{w:World}(Y:Cx):eV (CX1 P w) Y λ_ _ _=>False:=λ_ _ _ _ _ _ _ h=>by
 obtain ⟨_,_,_,_,_,_,_,_,_,q⟩:=h;exact q.elim
end
noncomputable abbrev veM:List Value:=[.type "ValueError",.type "Exception",.type "BaseException",.type "object"]
noncomputable def vG:List Value->Bool
 |[.type a,.type b,.type c,.type d]=>a=="ValueError"&&b=="Exception"&&c=="BaseException"&&d=="object"
 |_=>false
theorem Yr{l:List Value}(h:vG l=true):l=veM:=by
 unfold vG at h;split at h
 ·simp only[ae,aE]at h;obtain ⟨⟨⟨rfl,rfl⟩,rfl⟩,rfl⟩:=h;rfl
 ·cases h
noncomputable def CQ:Value->Bool
 |.str _ _=>true
 |_=>false
noncomputable def nsB(K:PF)(N:Addr):Bool:=match K.lookup N with
 |some ⟨_,_,.dict es _,_⟩=>es.toList.all (λe=>CQ e.key)&&quietNames.all λn=>(nsFind es n).isNone
 |_=>false
theorem CW{K:PF}{N:Addr}{h:Heap}(KX:K.In h)(b:nsB K N=true):∃m,h.Ns N m/\∀n∈quietNames,m n=none:=by
 unfold nsB at b;split at b
 ·rename_i c d es ep sl e;rw[ae,cf,cf]at b;refine ⟨nsFind es,⟨_,es,ep,KX _ _ e,rfl,λx hx=>?_,λ_=>rfl⟩,λn hn=>by simpa using b.2 n hn⟩;have:=b.1 x (Array.mem_toList_iff.mpr hx);unfold CQ at this;split at this
  ·rename_i y t e;exact ⟨_,_,e⟩
  ·cases this
 ·cases b
noncomputable def CZ(K:PF)(A:Addr):Bool:=match K.lookup A with
 |some ⟨_,_,.cls cd,_⟩=>nsB K cd.ns
 |_=>false
noncomputable def qt(K:PF):List Value->Bool
 |[]=>false
 |v::tl=>(match v with |.ref A=>CZ K A&&qt K tl |_=>vG (v::tl))
theorem Dc{K:PF}{h:Heap}(KX:K.In h):∀{l:List Value},qt K l=true->OwnTailQ h veM l
 |[],b=>by cases b
 |v::tl,b=>by
  unfold qt at b;split at b
  ·rename_i A;rw[ae]at b;have b1:=b.1;unfold CZ at b1;split at b1
   ·rename_i c d cd sl e;obtain ⟨m,hm,hq⟩:=CW KX b1;exact .own (KX _ _ e) hm hq (Dc KX b.2)
   ·cases b1
  ·rw[Yr b];exact .base
noncomputable def isRef(C:Addr):Value->Bool
 |.ref a=>a==C
 |_=>false
noncomputable def isNew:Option Value->Bool
 |some (.builtin s)=>s=="ValueError.__new__"
 |_=>false
noncomputable def Dd:Value->Bool
 |.type s=>s=="type"
 |_=>false
noncomputable def gZ(K:PF)(C:Addr):Bool:=match K.lookup C with
 |some ⟨ty,_,.cls cd,⟨[_,_,_,_,k,_]⟩⟩=>Dd ty&&isNew k&&nsB K cd.ns&&!cd.hasDel&&(match cd.mro with |v::tl=>isRef C v&&qt K tl |[]=>false)
 |_=>false
theorem Ys {K:PF} {C:Addr} {h:Heap} {mg:Str->Option Value} {x:Str} (KX:K.In h) (b:gZ K C=true) (hm:mg x=some (.ref C)):OwnClsQ x C veM "ValueError.__new__" mg h:=by
 unfold gZ at b;split at b
 ·rename_i ty dd cd k0 k1 k2 k3 k k5 e;simp only[ae]at b;obtain ⟨⟨⟨⟨b1,b2⟩,b3⟩,b5⟩,b4⟩:=b;obtain ⟨m,hns,hq⟩:=CW KX b3;have e1:ty=.type "type":=by
   unfold Dd at b1;split at b1
   ·rw[aE]at b1;rw[b1]
   ·cases b1
  have e2:k=some (.builtin "ValueError.__new__"):=by
   unfold isNew at b2;split at b2
   ·rw[aE]at b2;rw[b2]
   ·cases b2
  obtain ⟨nm,bs,mro,ns,q,hd,sn,sub,ab,col,del⟩:=cd;dsimp only at b4 hns b5;have e4:del=false:=by simpa using b5
  subst e4;split at b4
  ·rename_i v tl;rw[ae]at b4;have e3:v=.ref C:=by
    have:=b4.1;unfold isRef at this;split at this
    ·rw[aE]at this;rw[this]
    ·cases this
   subst e1 e2 e3;exact ⟨hm,tl,ns,nm,q,bs,hd,sn,sub,ab,col,dd,k0,k1,k2,k3,k5,m,KX _ _ e,hns,hq,Dc KX b4.2⟩
  ·cases b4
 ·cases b
theorem Yt{h:Heap}{bmB bm:List Value}(t:OwnTail h bmB bm){v:Value}(hv:bmB.contains v=true):bm.contains v=true:=by
 induction t with
 |base=>exact hv
 |own _ _ _ _ ih=>rw[List.contains_cons,ih,Bool.or_true]
theorem De{h h':Heap}(k:∀b o,h.get? b=some o->h'.get? b=some o){N:Addr}{m:Str->Option Value}(n:h.Ns N m):h'.Ns N m:=by obtain ⟨o,es,ep,e,r⟩:=n;exact ⟨o,es,ep,k _ _ e,r⟩
theorem Yu{h h':Heap}(k:∀b o,h.get? b=some o->h'.get? b=some o){bmB bm:List Value}(t:OwnTail h bmB bm):OwnTail h' bmB bm:=by
 induction t with
 |base=>exact .base
 |own e n i _ ih=>exact .own (k _ _ e) (De k n) i ih
section
variable {X:Cx}
noncomputable abbrev TJ:=St->Hp->(Hp->Prop)->Prop
noncomputable def PJ(X:Cx)(es:List Expr)(t:TJ)(n:Nat):Prop:=∀(pins:List (Addr×Obj))(s:Shared)(σ:St)(H:Hp)(Q:Hp->Prop)(out:Str),Inv X pins σ H s->out.length+n<=100000->t σ H Q->
 wpAny (model X.prog X.w) X.A (joinParts out (evalEach es X.env)) (EP X pins σ λv H'=>(∃x,v=.str x)/\Q H') X.xe s
theorem Yv:PJ X [] (λ_ H Q=>Q H) 0:=λpins s σ H Q out I hl q=>by
 refine joinParts_nil ⟨.str out,H,I.tok _,⟨_,rfl⟩,⟨_,rfl⟩,q⟩ ?_;have:sizeLine≥100000:=by decide
 omega
theorem qu(x y:Str):(x++y).length=x.length+y.length:=by show (x.cps++y.cps).size=_;rw[Array.size_append];rfl
theorem Yw{y:Str}{k:Nat}{p:Pos}{es:List Expr}{t:TJ}{n:Nat}(h:PJ X es t n):PJ X (.Constant (.str y) k p::es) t (y.length+n):=λpins s σ H Q out I hl q=>by
 have hz:sizeLine≥100000:=by decide
 refine joinParts_consE (joinParts_cons (Calls.Constant_str ?_));dsimp only;refine ⟨by rw[qu];omega,h pins _ σ H Q _ (I.tok _) (by rw[qu];omega) q⟩
theorem digits_le:∀n:Fin 100,(Str.ofString (toString (n.val:Int))).length<=3:=by ac_rfl
theorem Yx{e:Expr}{te:TE}{p:Pos}{es:List Expr}{t:TJ}{n:Nat}(he:PE X e te)(h:PJ X es t n):PJ X (.FormattedValue e (-1) none p::es) (λσ H Q=>te σ H λv H1=>(∃m:Nat,v=.int m/\m < 100)/\t σ H1 Q) (3+n):=λpins s σ H Q out I hl q=>by
 have hz:sizeLine≥100000:=by decide
 refine joinParts_consE (joinParts_cons (FormattedValue_plain (thn (he pins s σ H _ I q) λv s1 hy=>?_)));obtain ⟨x,H1,I1,r1,⟨m,rfl,hm⟩,q1⟩:=hy;obtain ⟨tk,rfl⟩:=r1;have hd:(Str.ofString (toString (m:Int))).length<=3:=digits_le ⟨m,hm⟩;refine formatField_int_small ?_ ?_
 ·have:(m:Int).natAbs=m:=Int.natAbs_natCast m;rw[this];exact Nat.lt_of_le_of_lt (Nat.log2_le_self m) (by omega)
 ·dsimp only;exact ⟨by rw[qu];omega,h pins _ σ H1 Q _ ((I1.tok _)) (by rw[qu];omega) q1⟩
theorem Yy{v1 v2:Expr}{es:List Expr}{t:TJ}{n:Nat}{pos:Pos}(h:PJ X (v1::v2::es) t n)(hn:n<=100000):PE X (.JoinedStr (v1::v2::es) pos) (λσ H Q=>t σ H λH1=>∀x,Q (.str x) H1):=λpins s σ H Q I q=>by
 refine JoinedStr_many ?_;refine cw (h pins s σ H _ Str.empty I (by show 0+n<=_;omega) q) (λv s1 hy=>?_) λ_ _ z=>z;obtain ⟨x,H1,I1,r1,⟨y,rfl⟩,q1⟩:=hy;exact ⟨_,H1,I1,r1,q1 y⟩
noncomputable def Throws(X:Cx)(E:XK):Prop:=∀(pins:List (Addr×Obj))(σ:St)(H:Hp)(s:Shared)(h':Heap)(a:Addr)(c:Value)(args:List Value),Inv X pins σ H s->s.heap.MadeExcOf h' a c args->E c none H->X.xe (.ref a) { s with heap:=h' }
theorem Yz{E:XK}(hst:X.stack=X.env::X.outer)(hex:X.ex=[])(hxe:∀e s',wpAny (model X.prog X.w) X.A (leaving X.env e) (λ_ s''=>CX1 X.prog X.w X.outer X.H₀ X.s₀ E e s'') (λe' s''=>CX1 X.prog X.w X.outer X.H₀ X.s₀ E e' s'') s'->X.xe e s'):Throws X E:=
 λ_ _ _ _ _ _ _ _ I m q=>hxe _ _ (Yp I hst hex m q)
theorem Df{x:Str}{C:Addr}{np cpos pos:Pos}{e:Expr}{es:List Expr}{ta:TA}{E:XK}(hc:X.calm=true)(hg:Gl X x)(hm:X.mg x=some (.ref C))(hb:gZ X.K C=true)(hE:Throws X E)(ha:PA X (e::es) ta)
  (hdb:(x==("__debug__":Str))=false:=by decide) (he:starEach (e::es) X.env=(false,eval e X.env)::starEach es X.env:=by rfl) (hpl:(backTo cpos (starEach es X.env)).any (·.1)=false:=by rfl):
  PS X (.Raise (some (.Call (.Name x np) (e::es) [] cpos)) none pos) (λ_ σ H=>ta σ H λvs H1=>vs.length<=sizeLine/\E (.ref C) none H1):=by
 intro pins s σ H D I h;have kb:=I.ok.mod.kin;obtain ⟨bm,N,nm,q,bs,hd,sn,sub,ab,col,dd,k0,k1,k2,k3,k5,mN,b1,b2,b3,b4⟩:=(Ys kb hb hm:OwnClsQ x C veM "ValueError.__new__" X.mg X.base).own.obj;refine wpAny_Raise_call_subT (nm:=nm) (q:=q) (N:=N) (bs:=bs) (hdct:=hd) (sn:=sn) (sub:=sub) (ab:=ab) (col:=col) (dd:=dd) (k0:=k0) (k1:=k1) (k2:=k2) (k3:=k3) (k5:=k5) (F.excBase_ValueError) (Yt b4 (by decide)) (I.ok.hd hc) ?_ b3 (pY I hg hm ⟨rfl,?_⟩ hdb)
 ·rw[he];exact hpl
 ·have hsp:=ha cpos pins s σ H _ I h;rw[he]at hsp ⊢;refine Calls.evalArgs_plain (cw hsp (λvs s2 hy=>?_) λ_ _ z=>z);obtain ⟨ws,H2,I2,r2,hl,q2⟩:=hy;refine ⟨rfl,by rw[<-r2.length];exact hl,I2.bk _ _ b1,De I2.bk b2,Yu I2.bk b4,λh' a m=>hE pins σ H2 s2 h' a _ _ I2 m q2⟩
end
section
variable {X:Cx}
variable {pins:List (Addr×Obj)} {σ:St} {H:Hp} {s:Shared}
structure Caught(X:Cx)(H:Hp)(s:Shared)(H':Hp)(a:Addr)(c:Value)(s':Shared):Prop where
 os:s'.os=s.os
 bare:AllBare s'.gens
 un:Un (frs X.stack) [] H H' s.heap s'.heap
 hok:HOk X.prog X.w H' s'.heap
 tr:Tr s.heap H' s'.heap a c
variable {H':Hp} {a:Addr} {c:Value} {s':Shared}
end
open Builtin.ObjectAttr Builtin.Getset_descriptor
open PySem.W (findIn mroIn clsIn typeIn Looks InstAt looks_findIn looks_mroIn looks_typeIn)
noncomputable def Dg(K:PF)(D:Addr):Bool:=
 findIn K (.ref D) "__class__"==some (some (.builtin "object.__class__"))&&findIn K (.ref D) "__getattribute__"==some (some (.builtin "BaseException.__getattribute__"))&&findIn K (.ref D) "__getattr__"==some none &&
  mroIn K D (.type "object")==some true&&mroIn K D (.type "BaseException")==some true&&(clsIn K D).isSome
open PySem.W (findIn mroIn clsIn typeIn Looks looks_findIn looks_mroIn looks_typeIn)
section
variable {X:Cx}
noncomputable def XO(H:Hp)(a c:Addr):Prop:=∃o y,H a=some (.frz o (.own y))/\o.cls=.ref c
noncomputable def valOf:V->Value
 |.ref a=>.ref a
 |.ty n=>.type n
 |_=>.none
end
section
variable {X:Cx}
noncomputable def XP(X:Cx)(pins:List (Addr×Obj))(ex:Value->St->Hp->Prop)(σ:St)(e:Value)(s1:Shared):Prop:=∃a c H1 s0 H',e=.ref a/\Inv X pins σ H1 s0/\Caught X H1 s0 H' a c s1/\ex c σ H'
noncomputable def Dh (K:PF) (C:Addr):Bool:=typeIn K (.ref C)==some (.type "type")&&(clsIn K C).isSome&&mroIn K C (.type "BaseException")==some true
end
open PySem.SeqAt
section
variable {X:Cx}
theorem vH:∀{bs:List Bool}{us:List Value},Vals (bs.map V.bl) us->us=bs.map Value.bool
 |[],us,r=>by cases r;rfl
 |b::bs,us,r=>by
  cases r with
  |cons r1 r2=>
   have e:_=Value.bool b:=r1;rw[e,vH r2];rfl
theorem Di(k:Bool){bs:List Bool}:∀y,y∈(bs.map Value.bool)->∀(A:Around)(s:Shared),EqAt A s y (.bool k) (isBoolOf k y):=by intro y hy A s;obtain ⟨b,_,rfl⟩:=ca.mp hy;exact EqAt.bool_bool b k
theorem YB(k:Bool)(bs:List Bool):(bs.map Value.bool).countP (isBoolOf k)=bs.count k:=by
 induction bs with
 |nil=>rfl
 |cons b bs ih=>
  rw[bq,List.countP_cons,ih,List.count_cons];rfl
noncomputable def YC(K:PF):V->List V->Hp->VK->Prop:=λx vs H Q=>∃(p:Addr)(bs:List Bool),x=.ref p/\vs=[.bl true]/\SqL K H p (bs.map V.bl)/\Q (.int (bs.count true:Nat)) H
theorem YD:MtR X "list.count" (YC X.K):=by intro pins s σ H x xs v us Q I rx rs h;obtain ⟨p,bs,rfl,rfl,hq,q⟩:=h;cases rx;obtain ⟨u,rfl,ru⟩:=vals1 rs;cases ru;obtain ⟨its,rv,⟨o,n,ho,hc,hd,hdd⟩,hz⟩:=I.list hq;obtain ⟨cls,dd,data,sl⟩:=o;simp only at hc hd hdd;subst hc hd hdd;have e:=vH rv;subst e;refine fi PySem.F.slot_list_count ⟨_,ho,rfl⟩ PySem.F.entry_list_count (PySem.F.args_list_count_2 _ _) (list_countAt p _ n _ sl (.bool true) (isBoolOf true)) ⟨ho,λy hy=>Di true y (by simpa using hy) _ _,?_⟩;refine ⟨.int _,H,I.tok _,⟨_,rfl⟩,?_⟩;rw[show ((bs.map Value.bool).toArray).toList=bs.map Value.bool from rfl,YB];exact q
noncomputable def YF(K:PF):V->List V->Hp->VK->Prop:=λx vs H Q=>∃(p:Addr)(bs:List Bool),x=.ref p/\vs=[.bl true]/\SqL K H p (bs.map V.bl)/\true∈bs/\Q (.int (bs.idxOf true:Nat)) H
theorem Dk(bs:List Bool)(j:Nat)(h:j < (bs.map Value.bool).length)(h':j < bs.length):isBoolOf true (bs.map Value.bool)[j]=(bs[j]==true):=by rw[List.getElem_map];rfl
theorem YG:MtR X "list.index" (YF X.K):=by
 intro pins s σ H x xs v us Q I rx rs h;obtain ⟨p,bs,rfl,rfl,hq,hin,q⟩:=h;cases rx;obtain ⟨u,rfl,ru⟩:=vals1 rs;cases ru;obtain ⟨its,rv,⟨o,n,ho,hc,hd,hdd⟩,hz⟩:=I.list hq;obtain ⟨cls,dd,data,sl⟩:=o;simp only at hc hd hdd;subst hc hd hdd;have e:=vH rv;subst e;have hj:bs.idxOf true < bs.length:=List.idxOf_lt_length_iff.mpr hin;have hz':bs.length<=sizeLine:=by rw[ah]at hz;exact hz
 have hs:sizeLine < 2 ^ 63 - 1:=by decide
 refine fi PySem.F.slot_list_index ⟨_,ho,rfl⟩ PySem.F.entry_list_index (PySem.F.args_list_index_2 _ _) (list_indexAt p _ n _ sl (.bool true) (isBoolOf true) (bs.idxOf true) (by simpa using hj) (by omega) ?_ ?_) ⟨ho,λy hy=>Di true y (by simpa using hy) _ _,?_⟩
 ·have h3:bs.idxOf true < (bs.map Value.bool).length:=by rw[ah];exact hj
  show isBoolOf true ((bs.map Value.bool)[bs.idxOf true]'h3)=true;rw[Dk bs _ h3 hj];simpa using List.getElem_idxOf hj
 ·intro j hjs hlt;have h2:j < bs.length:=by omega
  have h3:j < (bs.map Value.bool).length:=by rw[ah];exact h2
  show isBoolOf true ((bs.map Value.bool)[j]'h3)=false;rw[Dk bs j h3 h2];have h4:j < bs.findIdx (·==true):=hlt;simpa using List.not_of_lt_findIdx h4
 ·exact ⟨.int _,H,I.tok _,⟨_,rfl⟩,q⟩
end
section
variable {X:Cx}
theorem YH:OpR X (binaryOp .FloorDiv) (rI (λ_ j=>0 < j/\j < 1152921504606846976) λi j=>.int (i / j)):=opI λi j _ _ _ _ _ hc q=>by
 have h1:(0:Int) < j:=hc.1;have h2:j < 1152921504606846976:=hc.2;refine floordiv_int (by omega) (by rw[Int.fdiv_eq_ediv_of_nonneg i (by omega)];exact q) (.inl (PyProof.noPylong_of_log2 ?_));have:j.natAbs.log2 < 60:=(Nat.log2_lt (by omega)).mpr (by show j.natAbs < 1152921504606846976;omega);omega
noncomputable def vI(m:Nat):Str:=Str.ofString (toString (m:Int))
theorem YJ{m:Nat}(h:m < 100):(m:Int).natAbs.log2 < 1920:=by have:(m:Int).natAbs=m:=Int.natAbs_natCast m;rw[this];exact Nat.lt_of_le_of_lt (Nat.log2_le_self m) (by omega)
theorem YK:bC X (.type "str") (λxs H Q=>∃m:Nat,xs=[.int m]/\m < 100/\Q (.str (vI m)) H):=by intro pins s σ H xs us Q I r h;obtain ⟨m,rfl,hm,q⟩:=h;obtain ⟨u,rfl,ru⟩:=vals1 r;obtain ⟨t,rfl⟩:=ru;exact PySem.P.str_of_int (YJ hm) ⟨.str _,H,I.tok _,⟨_,rfl⟩,q⟩
end
end L2
namespace HT
open PySem PySem.Spec PyProof.Rows Builtin
theorem YL:fillsNumberSlot (.type "tuple") "mul"=pure false:=
 PySem.fillsNumberSlot_seq (id:="tuple.__mul__") (r:=some (.builtin "tuple.__rmul__")) PySem.F.slot_tuple_mul.lookup (by ac_rfl) PySem.F.slot_tuple_rmul.lookup (by ac_rfl)
theorem YM:seqRepeat? (.type "tuple")=pure (some (.builtin "tuple.__mul__")):=by unfold seqRepeat?;rw[PySem.seqSlot_of (T:="tuple") (name:="__mul__") (id:="tuple.__mul__") PySem.F.slot_tuple_mul.lookup (by ac_rfl),PySem.seqSlot_of (T:="tuple") (name:="__rmul__") (id:="tuple.__rmul__") PySem.F.slot_tuple_rmul.lookup (by ac_rfl)];rfl
theorem YQ(a:Int)(t:Tok)(l:Addr)(items:Array Value)(n:Nat)(dd:Option Addr)(sl:Array (Option Value)):
  Meets (Builtin.«int.__rmul__» ⟨[.int a t,.ref l],[]⟩) (λ_ R s=>s.heap.get? l=some { cls:=.type "tuple",dict:=dd,data:=.seq items n,slots:=sl }/\R (.ok (.ret Value.notImplemented)) s):=
 .of_wp λprog w A R s h=>by obtain ⟨hp,g,d,tk,os⟩:=s;obtain ⟨hl,h⟩:=h;wp_walk;exact ⟨_,rfl,h⟩
theorem YS(l:Addr)(items:Array Value)(n:Nat)(dd:Option Addr)(sl:Array (Option Value))(k:Int)(t:Tok)(h2:2<=k)(hk:k<=1000)(hne:items.isEmpty=false)(hz:items.size * k.toNat<=sizeLine)(hz2:(List.foldl (λx1 x2=>x1++x2) #[] (List.replicate k.toNat items)).size<=sizeLine):
  Meets (Builtin.«tuple.__mul__» ⟨[.ref l,.int k t],[]⟩) (λ_ R s=>s.heap.get? l=some { cls:=.type "tuple",dict:=dd,data:=.seq items n,slots:=sl }/\
   R (.ok (.ret (.ref s.heap.objs.size))) { s with heap:=s.heap.push { cls:=.type "tuple",data:=.seq ((List.replicate k.toNat items).foldl (· ++ ·) #[]) } }):=
 .of_wp λprog w A R s h=>by
  obtain ⟨hp,g,d,tk,os⟩:=s;obtain ⟨hl,h⟩:=h;have a1:(decide (k < -(2 ^ 63))||decide (k≥2 ^ 63))=false:=by rw[decide_eq_false (by omega),decide_eq_false (by omega)];rfl
  have a2:(items.isEmpty||k==1)=false:=by rw[hne,Bool.false_or,beq_eq_false_iff_ne];omega
  have a3:(decide (k<=0)||items.isEmpty)=false:=by rw[decide_eq_false (by omega),hne];rfl
  have hs:(items.size:Int) * k=((items.size * k.toNat:Nat):Int):=by rw[Int.natCast_mul,Int.toNat_of_nonneg (by omega)]
  have hsl:sizeLine<=1152921504606846975:=by decide
  have a4:¬((items.size:Int) * k > (2 ^ 63 - 1) / 8):=by rw[hs];omega
  have a5:¬(Tuple.tupleTooMany ((items.size:Int) * k)=true):=by unfold Tuple.tupleTooMany;rw[decide_eq_true_iff,hs];omega
  wp_walk
  rw[if_neg (by rw[a1];exact Bool.false_ne_true)];wp_walk
  rw[if_neg (by rw[a2];exact Bool.false_ne_true)];dsimp only;rw[if_neg (by rw[a3];exact Bool.false_ne_true),if_neg a4,if_neg a5];unfold Tuple.tupleExact;wp_walk
  exact ⟨_,rfl,h⟩
end HT
namespace L2
open PySem PySem.Spec PyProof.Rows
section
variable {X:Cx}
noncomputable def YT(K:PF):R2:=λx y H Q=>∃(l:Addr)(k:Int)(xs:List V),x=.ref l/\y=.int k/\SqT K H l xs/\xs≠[]/\2<=k/\k<=1000/\xs.length * k.toNat<=sizeLine/\∀p,H p=none->Q (.ref p) (upd H p (.tup (List.replicate k.toNat xs).flatten))
theorem YW:OpR X (binaryOp .Mult) (YT X.K):=by
 intro pins s σ H x y v u Q I rx ry h;obtain ⟨l,k,xs,rfl,rfl,hT,hne,h2,hk,hz,q⟩:=h;cases rx;obtain ⟨t,rfl⟩:=ry;obtain ⟨its,r,pt,_⟩:=I.tuple hT;obtain ⟨⟨cls,dd,data,sl⟩,ho,hc,n,hd⟩:=id pt;simp only at hc hd;subst hc hd;have hl:=r.length;have hz':its.toArray.size * k.toNat<=sizeLine:=by rw[ar,<-hl];exact hz
 have he:its.toArray.isEmpty=false:=by
  cases its with
  |nil=>exact absurd (c6.mp hl) hne
  |cons _ _=>rfl
 have hnew:List.foldl (λx1 x2=>x1++x2) #[] (List.replicate k.toNat its.toArray)=(List.replicate k.toNat its).flatten.toArray:=by have:=foldl_rep its k.toNat [];rw[List.nil_append]at this;exact this
 refine wpAny_binaryOp_repeat_ref (T:="tuple") (U:="int") (by decide) ⟨_,ho,rfl⟩ (λs'=>typeIs_int s' k t) HT.YL F.fills_int_mul F.slot_int_rmul HT.YM F.slot_int_index.lookup
  (fi F.slot_int_rmul (typeIs_int s k t) F.entry_int_rmul (F.args_int_rmul_2 _ _) (HT.YQ k t l its.toArray n dd sl)
   ⟨ho,rfl,⟨_,ho,rfl⟩,fi PySem.F.slot_tuple_mul ⟨_,ho,rfl⟩ PySem.F.entry_tuple_mul (PySem.F.args_tuple_mul_2 _ _) (HT.YS l its.toArray n dd sl k t h2 hk he hz' (by rw[hnew,ar,len_rep,Nat.mul_comm,<-hl];exact hz)) ⟨ho,?_⟩⟩)
 rw[hnew];refine ⟨.ref s.heap.objs.size,_,I.laid (t':=s.toks) (o:=.tup (List.replicate k.toNat xs).flatten) (λb ob q=>am _ q) (ax _) ?_,rfl,q _ (I.hok.fresh (ax _))⟩;exact ⟨by rw[len_rep,Nat.mul_comm];exact hz,_,r.rep k.toNat,IsTup.new _ _⟩
end
end L2
namespace HT
open PySem PySem.Spec PyProof.Rows Builtin
theorem YX(a:Int)(t:Tok)(l:Addr)(items:Array Value)(n:Nat)(dd:Option Addr)(sl:Array (Option Value)):
  Meets (Builtin.«int.__rmul__» ⟨[.int a t,.ref l],[]⟩) (λ_ R s=>s.heap.get? l=some { cls:=.type "list",dict:=dd,data:=.seq items n,slots:=sl }/\R (.ok (.ret Value.notImplemented)) s):=
 .of_wp λprog w A R s h=>by obtain ⟨hp,g,d,tk,os⟩:=s;obtain ⟨hl,h⟩:=h;wp_walk;exact ⟨_,rfl,h⟩
theorem YZ(l:Addr)(items:Array Value)(n:Nat)(dd:Option Addr)(sl:Array (Option Value))(x:Int)(u:Tok)(hc0:¬(!Builtin.List.listFitsIndex x)=true)(hc1:¬items.size * x.toNat > (2 ^ 63 - 1) / 8)(hc2:¬Builtin.List.listTooLong (items.size * x.toNat)=true):
  Meets (Builtin.«list.__mul__» ⟨[.ref l,.int x u],[]⟩) (λ_ R s=>s.heap.get? l=some { cls:=.type "list",dict:=dd,data:=.seq items n,slots:=sl }/\R (.ok (.ret (Value.ref s.heap.objs.size))) { s with heap:=s.heap.push { cls:=Value.type "list",data:=Data.seq (List.foldl (λx1 x2=>x1++x2) #[] (List.replicate (if items.isEmpty=true then 0 else x.toNat) items)) },toks:=s.toks }):=
 .of_wp λprog w A R s h=>by
  obtain ⟨hp,g,d,tk,os⟩:=s;obtain ⟨hl,h⟩:=h;have hsz:=AutoListH.joined_fits hc2;wp_walk;refine wpAny_ite_false (decide_eq_false (Nat.not_lt.mpr hsz)) ?_;wp_walk;exact ⟨_,rfl,h⟩
end HT
namespace L2
open PySem PySem.Spec PyProof.Rows
section
variable {X:Cx}
noncomputable def Y0(K:PF):R2:=λx y H Q=>∃(l:Addr)(k:Int)(xs:List V),x=.ref l/\y=.int k/\SqL K H l xs/\0<=k/\k<=1000/\xs.length * k.toNat<=sizeLine/\∀p,H p=none->Q (.ref p) (upd H p (.lst (List.replicate k.toNat xs).flatten))
theorem Y4:OpR X (binaryOp .Mult) (Y0 X.K):=by
 intro pins s σ H x y v u Q I rx ry h;obtain ⟨l,k,xs,rfl,rfl,hH,h1,h2,hz,q⟩:=h;cases rx;obtain ⟨t,rfl⟩:=ry;obtain ⟨its,r,⟨⟨cls,dd,data,sl⟩,n,e,c1,c2,c3⟩,_⟩:=I.list hH;simp only at c1 c2 c3;have hl:=r.length;have hlen:its.toArray.size * k.toNat<=sizeLine:=by rw[ar,<-hl];exact hz
 have hcap:¬its.toArray.size * k.toNat > (2 ^ 63 - 1) / 8:=by
  have:(sizeLine:Nat)<=(2 ^ 63 - 1) / 8:=by decide
  omega
 have hfit:¬(!Builtin.List.listFitsIndex k)=true:=by rw[fitsIndex_both (by omega) (by omega)];exact b6
 have hlong:¬Builtin.List.listTooLong (its.toArray.size * k.toNat)=true:=by rw[Cd hlen];exact b6
 have hnew:List.foldl (λx1 x2=>x1++x2) #[] (List.replicate (if its.toArray.isEmpty=true then 0 else k.toNat) its.toArray)=(List.replicate k.toNat its).flatten.toArray:=by
  have f0:∀m:Nat,List.foldl (λx1 x2=>x1++x2) #[] (List.replicate m its.toArray)=(List.replicate m its).flatten.toArray:=λm=>by
   have:=foldl_rep its m [];rw[List.nil_append]at this;exact this
  rw[f0];cases its with
  |nil=>simp
  |cons a r'=>rw[if_neg (by simp)]
 subst c1 c3;refine wpAny_binaryOp_repeat_ref (T:="list") (U:="int") (by decide) ⟨_,e,rfl⟩ (λs'=>typeIs_int s' k t) noFill_list_mul F.fills_int_mul F.slot_int_rmul repeat_list F.slot_int_index.lookup
  (fi F.slot_int_rmul (typeIs_int s k t) F.entry_int_rmul (F.args_int_rmul_2 _ _) (HT.YX k t l its.toArray n dd sl)
   ⟨e,rfl,⟨_,e,rfl⟩,fi F.slot_list_mul ⟨_,e,rfl⟩ F.entry_list_mul (F.args_list_mul_2 _ _) (HT.YZ l its.toArray n dd sl k t hfit hcap hlong) ⟨e,?_⟩⟩)
 rw[hnew];exact ⟨.ref _,_,I.lnew (t':=s.toks) (r.rep k.toNat) (by rw[len_rep,Nat.mul_comm];exact hz),rfl,q _ I.fresh⟩
end
end L2
namespace PySem
end PySem
namespace L2
open PySem PySem.Spec PyProof.Rows
end L2
namespace PyProof.Rows
open PySem
theorem Y5 {prog:Program} {w:World} {A:Around} {E:Value->Shared->Prop} {s:Shared} {it:Addr} {T:String} {o:Obj} {items:List Value} {n:Nat} {ns:List Int} {Q:Value->Shared->Prop} (hT:T="list"\/T="tuple")
  (ho:s.heap.get? it=some o) (hc:o.cls=.type T) (hd:o.data=.seq items.toArray n) (hI:IntsAre items ns) (h64:items.length < 64)
  (h:∀(h1 h':Heap) (e:Nat) (out:Array Value) (ns':List Int),IntsAre out.toList ns'->ns'.Perm ns->ns'.Pairwise (·<=·)->(∀b o',s.heap.get? b=some o'->h1.get? b=some o')->(∀b o',h1.get? b=some o'->h'.get? b=some o')->h'.get? h1.objs.size=some (seqObj "list" out e)->Q (.ref h1.objs.size) { s with heap:=h' }):
  wpAny (model prog w) A (call (.builtin "sorted") [.ref it]) Q E s:=by
 refine Calls.call_function_entry kind_sorted plain_sorted entry_sorted (args_sorted1 _) ?_;unfold Builtin.«sorted»;refine wpAny_bind (m:=checkCount "sorted" 1 1 _) (wpAny_pure ?_);refine wpAny_bind (wpAny_collect_seq it hT ho hc hd (λh1 k1=>?_) (by rw[List.size_toArray,sizeLine_eq];omega));refine wpAny_bind (wpAny_newList ?_);have e1:items.toArray.toList=items:=by simp
 rw[e1];have hoL:(h1.push (seqObj "list" items.toArray 0)).get? h1.objs.size=some (seqObj "list" items.toArray 0):=Heap.get?_push_size _ rfl;show wpAny _ _ _ _ _ { s with heap:=h1.push (seqObj "list" items.toArray 0) };refine wpAny_bind (wpAny_holding (wpAny_call_entry slot_list_sort ⟨_,hoL,rfl⟩ entry_list_sort (list_sort_tree hoL hI h64 λout ns' a1 a2 a3=>⟨_,rfl,?_⟩) (args_list_sort _)));obtain ⟨e,he⟩:=sortedHeap_at (vs:=items) (out:=out) hoL;refine wpAny_pure ⟨_,rfl,h h1 _ e out ns' a1 a2 a3 k1 (λb o' hb1=>?_) he⟩;rw[sortedHeap_old (Nat.ne_of_lt (Heap.lt_size hb1)) (by rw[size_push'];exact Nat.lt_succ_of_lt (Heap.lt_size hb1))];exact Heap.get?_push_of_some _ hb1
end PyProof.Rows
namespace L2
open PySem PySem.Spec PyProof.Rows
theorem ahN {X:Cx}:bC X (.builtin "sorted") (λxs H Q=>∃(p:Addr) (ns:List Int),xs=[.ref p]/\SqT X.K H p (ns.map V.int)/\ns.length < 64/\∀ns':List Int,ns'.Perm ns->ns'.Pairwise (·<=·)->∀l,H l=none->Q (.ref l) (upd H l (.lst (ns'.map V.int)))):=by
 intro pins s σ H xs us Q I r h;obtain ⟨p,ns,rfl,hq,h64,q⟩:=h;obtain ⟨u,rfl,ru⟩:=vals1 r;cases ru;obtain ⟨its,rv,⟨o,ho,hc,n,hd⟩,hz⟩:=I.tuple hq;have hlen:its.length=ns.length:=by rw[<-rv.length];simp
 refine Y5 (.inr rfl) ho hc hd (intsAre_of rv) (by omega) λh1 h' e out ns' a1 a2 a3 k1 k2 he=>?_;have I1:Inv X pins σ H { s with heap:=h1 }:=I.kept (t':=s.toks) k1;have hsz:(ns'.map V.int).length<=sizeLine:=by rw[ah,a2.length_eq,fI];omega
 exact ⟨.ref h1.objs.size,_,I1.laid (t':=s.toks) k2 (ax _) (show ObjOk X.prog X.w _ _ _ (.lst (ns'.map V.int)) from ⟨hsz,out.toList,e,vp a1,by rw[Array.toArray_toList];exact he⟩),rfl,q ns' a2 a3 _ (I1.hok.fresh (ax _))⟩
section
variable {prog:Program} {w:World} {A:Around} {R:Result->Shared->Prop} {s:Shared}
noncomputable def fO(e:Expr)(d:Nat)(target iter:Expr)(em:Value->Env->Sem Fin->Sem Fin):Prop:=
 ∀it acc env,compTurn e d it acc env=(standAt iter.pos >>= λ_=>pyNext it >>= λr=>match r with
   |none=>pure (.done .next)
   |some v=>letOwnedTupleGo target it v >>= λ_=>assign target env v >>= λ_=>em acc env (again (.compLoop e d it acc env)))
noncomputable def emE (elt:Expr) (acc:Value) (env:Env) (k:Sem Fin):Sem Fin:=(eval elt env >>= λx=>call (.builtin "list.append") [acc,x] >>= λ_=>pure ()) >>= λ_=>k
noncomputable def emG(e:Expr)(d:Nat)(iter:Expr)(acc:Value)(env:Env)(k:Sem Fin):Sem Fin:=
 eval iter env >>= λx=>standAt iter.pos >>= λ_=>foldedSetIterable iter env x >>= λx=>holding [x] (pyIter x) >>= λit=>runOwn (.compStart e d it acc env) env >>= λ_=>k
theorem Y6(elt t1 i1 t2 i2 t3 i3:Expr)(scope:Scope)(pos:Pos):fO (.ListComp elt [⟨t1,i1,[],0⟩,⟨t2,i2,[],0⟩,⟨t3,i3,[],0⟩] scope pos) 2 t3 i3 (emE elt):=λ_ _ _=>rfl
theorem Y7(elt t1 i1 t2 i2 t3 i3:Expr)(scope:Scope)(pos:Pos):fO (.ListComp elt [⟨t1,i1,[],0⟩,⟨t2,i2,[],0⟩,⟨t3,i3,[],0⟩] scope pos) 1 t2 i2 (emG (.ListComp elt [⟨t1,i1,[],0⟩,⟨t2,i2,[],0⟩,⟨t3,i3,[],0⟩] scope pos) 2 i3):=λ_ _ _=>rfl
theorem ahO(elt t1 i1 t2 i2 t3 i3:Expr)(scope:Scope)(pos:Pos):fO (.ListComp elt [⟨t1,i1,[],0⟩,⟨t2,i2,[],0⟩,⟨t3,i3,[],0⟩] scope pos) 0 t1 i1 (emG (.ListComp elt [⟨t1,i1,[],0⟩,⟨t2,i2,[],0⟩,⟨t3,i3,[],0⟩] scope pos) 1 i2):=λ_ _ _=>rfl
theorem Dl{elt:Expr}{gens:List Comprehension}{scope:Scope}{pos:Pos}{d:Nat}{target iter:Expr}{em:Value->Env->Sem Fin->Sem Fin}{it acc:Value}{env:Env}(hT:fO (.ListComp elt gens scope pos) d target iter em)(I:Nat->Shared->Prop)
  (turn:∀n s,I n s->wpAny (model prog w) A (pyNext it) (λr s₁=>match r with
   |none=>R (.ok .next) s₁
   |some v=>wpAny (model prog w) A (letOwnedTupleGo target it v) (λ_ s₁'=>wpAny (model prog w) A (assign target env v) (λ_ s₂=>
     ∀(k:Sem Fin)(Q:Fin->Shared->Prop)(E:Value->Shared->Prop),(∀s₅,(∃m,m < n/\I m s₅)->wpAny (model prog w) A k Q E s₅)->wpAny (model prog w) A (em acc env k) Q E s₂) (λ_ _=>False) s₁') (λ_ _=>False) s₁) (λ_ _=>False) s)
  (n:Nat) (h:I n s):codeAny (model prog w) A (.compLoop (.ListComp elt gens scope pos) d it acc env) R s:=by
 refine codeAny_loop rfl I (λn s hI=>?_) n h;show wpAny _ A ((compTurn (.ListComp elt gens scope pos) d it acc env).onRaise (λx=>do noteFrame x env;theTreesLotGoes x)) _ _ s;refine wpAny_noted ?_;rw[hT];refine ag (fS (ag (cw (turn n s hI) (λr s₁ h₁=>?_) λ_ _ h'=>False.elim h')));cases r with
 |none=>exact bg h₁
 |some v=>
  refine ag (cw h₁ (λ_ s₁' h₁'=>?_) λ_ _ h'=>False.elim h');exact ag (cw h₁' (λ_ s₂ h₂=>h₂ _ _ _ λs₃ h₃=>bg ⟨rfl,h₃⟩) λ_ _ h'=>False.elim h')
theorem Y8{elt:Expr}{gens:List Comprehension}{scope:Scope}{pos:Pos}{d:Nat}{t i:Expr}{it acc:Value}{env:Env}(hg:gens[d]?=some ⟨t,i,[],0⟩)
  (h0:codeAny (model prog w) A (.compLoop (.ListComp elt gens scope pos) d it acc env) R s)
  (h:wpAny (model prog w) A (pyIter it) (λit' s'=>codeAny (model prog w) A (.compLoop (.ListComp elt gens scope pos) d it' acc env) R s') (λ_ _=>False) s):
  codeAny (model prog w) A (.compStart (.ListComp elt gens scope pos) d it acc env) R s:=by
 refine codeAny_of_tree ?_;show wpAny _ _ ((compStart (.ListComp elt gens scope pos) d it acc env).onRaise (λx=>do noteFrame x env;standAt theWindowsPlace)) _ _ s;refine wpAny_notedAt ?_;unfold compStart;have e:(clausesOf (.ListComp elt gens scope pos))[d]?=some ⟨t,i,[],0⟩:=hg;rw[e];show wpAny _ _ (ask >>= _) _ _ s;refine ag (wpAny_askSetting (wpAny_ite ?_));split
 ·exact bg (af rfl h0)
 ·refine ag (wpAny_rule ?_);show wpAny _ _ (standAt i.pos >>= _) _ _ s;exact ag (fS (ag (cw h (λit' s' h'=>bg (af rfl h')) λ_ _ x=>False.elim x)))
end
noncomputable abbrev TM:=List V->St->Hp->(List V->St->Hp->Prop)->Prop
noncomputable def lob (its:List Value) (n:Nat):Obj:={ cls:=.type "list",data:=.seq its.toArray n }
structure AccOk(X:Cx)(a:Addr):Prop where
 new:a∈X.ex\/X.s₀.heap.objs.size<=a
 cel:∀x c,X.env.cells.lookup x=some c->c≠a
 pin:∀p∈X.pn,p.1≠a
noncomputable def PM(X:Cx)(lim:Bool)(a:Addr)(em:Sem Fin->Sem Fin)(t:TM):Prop:=
 ∀(pins:List (Addr×Obj))(its:List Value)(n:Nat)(ys:List V)(σ:St)(H:Hp)(s:Shared)(K:List V->St->Hp->Prop),Inv X ((a,lob its n)::pins) σ H s->(∀p∈pins,p.1≠a)->Vals ys its->(lim=true->ys.length < sizeLine)->t ys σ H K->
  ∀(k:Sem Fin)(Q:Fin->Shared->Prop)(E:Value->Shared->Prop),(∀s' its' n' ys' σ' H',Inv X ((a,lob its' n')::pins) σ' H' s'->Vals ys' its'->K ys' σ' H'->wpAny (model X.prog X.w) X.A k Q E s')->wpAny (model X.prog X.w) X.A (em k) Q E s
noncomputable def tmE(te:TE):TM:=λys σ H K=>ys.length < sizeLine/\te σ H λy H'=>K (ys++[y]) σ H'
theorem Dm{X:Cx}{a:Addr}{elt:Expr}{te:TE}(hx:X.xe=λ_ _=>False)(ha:AccOk X a)(he:PE X elt te):PM X false a (emE elt (.ref a) X.env) (tmE te):=by
 intro pins its n ys σ H s K I hp rv _ h kk Q E hk;obtain ⟨hz,h⟩:=h;have h0:=he _ s σ H _ I h;rw[hx]at h0;refine ag (ag (cw h0 (λv s8 h8=>?_) λ_ _ z=>False.elim z));obtain ⟨y,H8,I8,r8,k8⟩:=h8;obtain ⟨pD,nD,lD,fD,cD⟩:=I8.pin (a,lob its n) (ay _ br);have hl:=rv.length;refine ag (append_at (hsz:=by rw[ar];omega) pD λh9 hs9 hD9=>bg ?_);have I8a:Inv X pins σ H8 s8:=I8.pins_of λp hp=>I8.pin p (ay _ (a9 _ hp));have I9:Inv X pins σ H8 { s8 with heap:=h9 }:=I8a.turned (t':=s8.toks) (it:=a) (λb o hb e=>hs9.extBut b o hb e) nD lD ha.new ha.cel (λp hp'=>by
  rcases a8.mp hp' with z |z
  ·exact ha.pin p z
  ·exact hp p z)
 have hD9':h9.get? a=some (lob (its++[v]) (n+1)):=by rw[hD9,List.push_toArray];rfl
 refine hk _ (its++[v]) (n+1) (ys++[y]) σ H8 (I9.pins_of λp hp'=>?_) (rv.append (.cons r8 .nil)) k8;rcases aS.mp hp' with e |z
 ·subst e;exact ⟨hD9',nD,lD,fD,λv z=>by have z':Data.seq _ _=Data.cell v:=z;cases z'⟩
 ·exact I9.pin p (ay _ z)
noncomputable def emT(ifs:List Expr)(elt:Expr)(acc:Value)(env:Env)(k:Sem Fin):Sem Fin:=
 (forIn ifs true λc r=>if r=true then do let ok <-isTrue c env (eval c env);pure (ForInStep.yield ok) else pure (ForInStep.yield r)) >>= λok=>if ok=true then emE elt acc env k else k
theorem Dn(elt tg iter:Expr)(ifs:List Expr)(scope:Scope)(pos:Pos):fO (.ListComp elt [⟨tg,iter,ifs,0⟩] scope pos) 0 tg iter (emT ifs elt):=λ_ _ _=>rfl
noncomputable def tmT(tt:TT)(te:TE):TM:=λys σ H K=>tt σ H λb H4=>if b=true then te σ H4 λy H5=>K (ys++[y]) σ H5 else K ys σ H4
theorem Y9{X:Cx}{a:Addr}{elt:Expr}{ifs:List Expr}{tt:TT}{te:TE}(hx:X.xe=λ_ _=>False)(ha:AccOk X a)(ht:PIf X ifs tt)(he:PE X elt te):PM X true a (emT ifs elt (.ref a) X.env) (tmT tt te):=by
 intro pins its n ys σ H s K I hp rv hl h kk Q E hk;have h0:=ht _ s σ H _ I h;rw[hx]at h0;refine ag (cw h0 (λb s4 h4=>?_) λ_ _ z=>False.elim z);obtain ⟨H4,I4,q4⟩:=h4;cases b with
 |false=>exact hk s4 its n ys σ H4 I4 rv q4
 |true=>exact Dm hx ha he pins its n ys σ H4 s4 K I4 hp rv (λz=>nomatch z) ⟨hl rfl,q4⟩ kk Q E hk
noncomputable def Do(J:It)(g:TG)(tm:TM)(ys:List V)(σ0:St)(H1:Hp)(K:List V->St->Hp->Prop):Prop:=
 ∃W:Nat->Nat->List V->St->Hp->Prop,(∃m,W 0 m ys σ0 H1)/\∀i m ys σ' H',W i m ys σ' H'->
  (J.stop i H'/\K ys σ' H')\/(J.go i H'/\∀x H2,J.yld i H' x H2->g x σ' H2 λσ3 H3=>tm ys σ3 H3 λys' σ4 H4=>∃m',m' < m/\W (i+1) m' ys' σ4 H4)
noncomputable def tmG(wi:TI)(g:TG)(tm:TM):TM:=λys σ H K=>wi σ H λJ H1=>Do J g tm ys σ H1 K
theorem Dp{X:Cx}{a:Addr}{elt:Expr}{gens:List Comprehension}{scope:Scope}{pos:Pos}{d:Nat}{t i:Expr}{em:Value->Env->Sem Fin->Sem Fin}{wi:TI}{g:TG}{tm:TM}(hx:X.xe=λ_ _=>False)(hc:X.calm=true)
  (hg:gens[d]?=some ⟨t,i,[],0⟩) (hT:fO (.ListComp elt gens scope pos) d t i em) (hi:PI X t i wi) (hG:PG X t g) (hs:∀x,foldedSetIterable i X.env x=pure x) (hm:PM X false a (em (.ref a) X.env) tm):
  PM X false a (emG (.ListComp elt gens scope pos) d i (.ref a) X.env) (tmG wi g tm):=by
 intro pins its n ys σ H s K I hp rv _ h kk Q E hk;have h0:=hi _ s σ H _ I h;rw[hx]at h0;refine ag (cw h0 (λxv s1 h1=>?_) λ_ _ z=>False.elim z);refine ag (fS (ag (wpAny_of_eq (hs xv) ?_)));refine ag (ej (cw h1 (λitv s2 h2=>?_) λ_ _ z=>False.elim z));obtain ⟨it,fp,tn,J,H2,e,I2,T,st2,f2,W,⟨m0,w0⟩,turn⟩:=h2;subst e;have fpok:∀{H':Hp}{o:Obj},(∀b∈fp,H' b=none)->∀b∈fp,dJ X ((a,o)::pins) H' b:=λhn b hb=>by
  obtain ⟨_,q1,q2,q3,q4,q5⟩:=f2 b hb;refine ⟨hn b hb,q1,q2,q3,q4,λp hp=>?_⟩;rcases a8.mp hp with z |z
  ·exact q5 p (dA _ z)
  ·rcases aS.mp z with z |z
   ·subst z;exact q5 (a,lob its n) (ay _ br)
   ·exact q5 p (ay _ (a9 _ z))
 have hap:∀b∈fp,a≠b:=λb hb=>(f2 b hb).2.2.2.2.2 (a,lob its n) (ay _ br);have loop:codeAny (model X.prog X.w) X.A (.compLoop (.ListComp elt gens scope pos) d (.ref it) (.ref a) X.env) (λr s'=>match r with |.ok f=>wpAny (model X.prog X.w) X.A kk Q E s' |.error e=>cameBackBy (model X.prog X.w) X.A X.env E e s') s2:=by
  refine Dl hT (λm s'=>∃(i:Nat)(ys:List V)(its:List Value)(n:Nat)(σ':St)(H':Hp),Inv X ((a,lob its n)::pins) σ' H' s'/\Vals ys its/\tn i s'.heap/\(∀b∈fp,H' b=none)/\W i m ys σ' H') ?_ m0 ⟨0,ys,its,n,σ,H2,I2,rv,st2,λb hb=>(f2 b hb).1,w0⟩;rintro m s3 ⟨i,ys,its,n,σ3,H3,I3,rv3,st3,fr3,w3⟩;rcases turn i m ys σ3 H3 w3 with ⟨stop,qn⟩ |⟨go,step⟩
  ·refine thn (T.done X rfl rfl rfl hc i _ s3 σ3 H3 _ I3 (fpok fr3) st3 stop) λr s4 ⟨hr,I4⟩=>?_;subst hr;exact hk s4 its n ys σ3 H3 I4 rv3 qn
  ·refine thn (T.item X rfl rfl rfl hc i _ s3 σ3 H3 _ I3 (fpok fr3) st3 go) λr s4 ⟨u,hr,h4⟩=>?_;subst hr;refine thn h4 λ_ s5 ⟨x,H5,I5,r5,y5,st5,fr5⟩=>?_;have I5':=I5.pinned (fpok fr5) (T.obj _ _ st5);have h6:=hG _ s5 σ3 H5 x u _ I5' r5 (step x H5 y5);rw[hx]at h6;refine thn h6 λ_ s6 ⟨σ6,H6,I6,q6⟩=>?_;intro k Q' E' hk';refine hm (pins++iV fp s5.heap) its n ys σ6 H6 s6 _ I6 (λp hp'=>?_) rv3 (λz=>nomatch z) q6 k Q' E' λs7 its' n' ys' σ7 H7 I7 rv7 ⟨m',hm',w7⟩=>hk' s7 ⟨m',hm',i+1,ys',its',n',σ7,H7,I7.pins_of λp hp'=>?_,rv7,?_,λb hb=>?_,w7⟩
   ·rcases a8.mp hp' with z |z
    ·exact hp p z
    ·exact λe=>hap p.1 (vd z).1 e.symm
   ·refine I7.pin p (ay _ ?_);rcases aS.mp hp' with z |z
    ·rw[z];exact br
    ·exact a9 _ (dA _ z)
   ·exact T.keep _ _ _ st5 λb hb o e=>(I7.pin (b,o) (ay _ (a9 _ (ay _ (iW hb e))))).1
   ·obtain ⟨o,e,_⟩:=T.obj _ _ st5 b hb;exact (I7.pin (b,o) (ay _ (a9 _ (ay _ (iW hb e))))).2.1
 exact ag (wpAny_runOwn (Y8 hg loop (T.self X.A 0 _ _ _ st2 loop)))
noncomputable def vJ(lim:Bool)(X:Cx)(N':List Str)(scope:Scope)(tg:Expr)(em:Value->Env->Sem Fin->Sem Fin)(J:It)(σ0:St)(H1:Hp)(Q:VK):Prop:=
 ∃W:Nat->Nat->List V->St->Hp->Prop,(∃m,W 0 m [] σ0 H1)/\∀i m ys σ' H',W i m ys σ' H'->
  (J.stop i H'/\ys.length<=sizeLine/\∀D,H' D=none->Q (.ref D) (upd H' D (.lst ys)))\/
  (J.go i H'/\(lim=true->ys.length < sizeLine)/\∀cl C s₁ H₁ fp pn,∃g tm,PG (X.comp N' scope cl C s₁ H₁ fp pn) tg g/\(∀a,AccOk (X.comp N' scope cl C s₁ H₁ fp pn) a->PM (X.comp N' scope cl C s₁ H₁ fp pn) lim a (em (.ref a) (X.comp N' scope cl C s₁ H₁ fp pn).env) tm)/\
   ∀x H2,J.yld i H' x H2->g x σ' H2 λσ3 H3=>tm ys σ3 H3 λys' σ4 H4=>∃m',m' < m/\W (i+1) m' ys' σ4 H4)
noncomputable def vK(lim:Bool)(X:Cx)(N':List Str)(scope:Scope)(tg:Expr)(em:Value->Env->Sem Fin->Sem Fin)(wi:TI)(cap:List (Option Nat)):TE:=λσ H Q=>wi σ H λJ H1=>vJ lim X N' scope tg em J (dw cap σ) H1 Q
theorem Dq{X:Cx}{elt tg iter:Expr}{ifs:List Expr}{lim:Bool}{rest:List Comprehension}{em:Value->Env->Sem Fin->Sem Fin}{scope:Scope}{pos:Pos}{wi:TI}{pins:List (Addr×Obj)}{s:Shared}{σ:St}{H:Hp}{Q:VK}{RR:Value->Addr->Result->Shared->Prop}(N':List Str)(cap:List (Option Nat))(hc:X.calm=true)(hi:PI X tg iter wi)(hcap:Caps X scope N' cap)
  (hcell:scope.names.all (λy=>y.2 != NameKind.cell)=true)
  (hfr:scope.names.all (λy=>y.2 != NameKind.free||(X.env.kindOf y.1==some NameKind.cell||X.env.kindOf y.1==some NameKind.free))=true)
  (hkind:scope.kind=.function) (hT:fO (.ListComp elt (⟨tg,iter,ifs,0⟩::rest) scope pos) 0 tg iter em) (I:Inv X pins σ H s) (h:vK lim X N' scope tg em wi cap σ H Q)
  (fin:∀(D C:Addr)(H':Hp)(s4:Shared)(m:Str->Option Value),Inv X pins σ H' s4->Q (.ref D) H'->s4.heap.Ns C m->dJ X pins H' C->RR (.ref D) C (.ok .next) s4):
  wpAny (model X.prog X.w) X.A (eval iter X.env) (λx s₁=>wpAny (model X.prog X.w) X.A (pyIter x) (λit s₂=>wpAny (model X.prog X.w) X.A (newList []) (λacc s₃=>
   wpAny (model X.prog X.w) X.A (newFunctionEnv scope X.env.globals (cG X.env scope.names []) [] X.env.qual none .none (some X.env)) (λcenv s₄=>
    codeAny (model X.prog X.w) X.A (.compStart (.ListComp elt (⟨tg,iter,ifs,0⟩::rest) scope pos) 0 it acc { cenv with scope:=relabel scope X.env }) (RR acc cenv.locals) s₄) X.xe s₃) X.xe s₂) X.xe s₁) X.xe s:=by
 have hcell':∀y∈scope.names,y.2≠NameKind.cell:=λy hy=>by
  have:=cf.mp hcell y hy;simpa using this
 have hfr':∀y∈scope.names,y.2=NameKind.free->(X.env.kindOf y.1=some NameKind.cell\/X.env.kindOf y.1=some NameKind.free):=λy hy hl=>by
  have:=cf.mp hfr y hy;simpa [hl] using this
 have hcs:∀y∈scope.names,y.2=NameKind.free->(X.env.cells.lookup y.1).isSome=true:=λy hy hl=>by
  obtain ⟨c,e⟩:=I.ok.has y.1 (hfr' y hy hl);rw[e];rfl
 have clsub:∀x c,(cG X.env scope.names []).lookup x=some c->X.env.cells.lookup x=some c:=Ci (λx c e=>by simp at e);have clhas:∀x,scope.names.lookup x=some NameKind.free->∃c,(cG X.env scope.names []).lookup x=some c:=λx e=>by
  have hm:=dQ e;exact cp.mp (Ck (hcs _ hm rfl) hm)
 have rel:∀x,(relabel scope X.env).names.lookup x=(scope.names.lookup x).map λk=>if (k==NameKind.free&&X.env.scope.kind==.function&&X.env.kindOf x==some .cell)=true then NameKind.cell else k:=λx=>vy
 have relfree:∀x,((relabel scope X.env).names.lookup x=some NameKind.cell\/(relabel scope X.env).names.lookup x=some NameKind.free)->scope.names.lookup x=some NameKind.free:=λx e=>by
  rw[rel x]at e;cases z:scope.names.lookup x with
  |none=>rw[z]at e;rcases e with e |e <;> cases e
  |some k=>
   have nk:=hcell' _ (dQ z);rw[z]at e;cases k with
   |free=>rfl
   |cell=>exact absurd rfl nk
   | «local»=>rcases e with e |e <;> simp[show (NameKind.«local»==NameKind.free)=false by decide]at e
   |globalExplicit=>rcases e with e |e <;> simp[show (NameKind.globalExplicit==NameKind.free)=false by decide]at e
   |globalImplicit=>rcases e with e |e <;> simp[show (NameKind.globalImplicit==NameKind.free)=false by decide]at e
 generalize hcl:cG X.env scope.names []=cl at clsub clhas;refine thn (hi pins s σ H _ I h) λxv s0 h0=>thn h0 λitv s2 h2=>?_;obtain ⟨it,fp,tn,J,H2,e,I2,T,st2,f2,W,⟨m0,w0⟩,turn⟩:=h2;subst e;refine wpAny_newObj_type (wpAny_newFunctionEnv hcell' (by intro y hy;simp at hy) (λh₁ hns₁ hsb₁=>?_) hkind);dsimp only at hns₁ hsb₁ ⊢;generalize hH2:s2.heap.push { cls:=.type "list",dict:=none,data:=.seq ([]:List Value).toArray }=HP at hns₁ hsb₁ ⊢;have hC:HP.objs.size=s2.heap.objs.size+1:=by rw[<-hH2,dE]
 have hDC:s2.heap.objs.size≠HP.objs.size:=by rw[hC];exact cm (Nat.lt_succ_self _)
 have below:∀b,b < s2.heap.objs.size->b≠HP.objs.size/\b≠s2.heap.objs.size:=λb hb=>⟨by rw[hC];exact cm (Nat.lt_succ_of_lt hb),cm hb⟩;have old:∀b o,s2.heap.get? b=some o->h₁.get? b=some o:=λb o e=>hsb₁.extBut b o (below b (aI e)).1 (am _ (hH2 ▸ am _ e));have hacc:h₁.get? s2.heap.objs.size=some { cls:=.type "list",data:=.seq ([]:List Value).toArray 0 }:=hsb₁.extBut _ _ hDC (am _ (hH2 ▸ bd _ rfl));have hst₁:tn 0 h₁:=T.keep _ _ _ st2 λb _ o e=>old b o e;have fplt:∀b∈fp,b < s2.heap.objs.size:=λb hb=>by
  obtain ⟨o,e,_⟩:=T.obj _ _ st2 b hb;exact aI e
 have fslt:∀b∈frs X.stack,b < s2.heap.objs.size:=λb hb=>by
  obtain ⟨_,o,e,_⟩:=I2.stack.mem hb;exact aI e
 have celllt:∀x c,cl.lookup x=some c->c < s2.heap.objs.size:=λx c e=>by
  obtain ⟨v,q⟩:=I2.cell x c (clsub x c e);exact q.lt
 have hDf:H2 s2.heap.objs.size=none:=I2.hok.fresh (ax _);have hCf:H2 HP.objs.size=none:=I2.hok.fresh (by rw[hC];exact fk _);have nofs:∀b∈fp,b∉frs X.stack:=λb hb z=>by
  obtain ⟨_,f1,f2',_⟩:=f2 b hb;rcases aS.mp (I2.stkSub b z) with e |e
  ·exact f1 e
  ·exact f2' e
 have ok':(X.comp N' scope cl HP.objs.size s2 H2 fp (X.pn++pins)).Ok:=
  ⟨I2.ok.mod,hkind,I2.ok.glob,I2.ok.blt,(by show s2.heap.objs.size<=HP.objs.size;rw[hC];exact fk _),
   λx y c e1 e2=>I2.ok.inj x y c (clsub x c e1) (clsub y c e2),λx hx=>clhas x (relfree x hx),λx c hf _=>(by cases hf),I2.ok.hd,I2.ok.frames,.inl rfl,
   λb hb=>⟨(below b (fplt b hb)).1,λx c e=>(f2 b hb).2.2.2.2.1 x c (clsub x c e)⟩,I2.bs,bv I2.ok.bsz I2.sz,
   λb o e hb=>(by
    rcases (f2 b hb).2.2.2.1 with z |z
    ·exact I2.ok.noex b o e z
    ·exact absurd (bn (aI e) (bv I2.ok.bsz z)) (ee _)),
   nofs,I2.stack,I2.stkFree⟩
 have pnOk:∀p∈X.pn++pins,p.1 < s2.heap.objs.size/\p.1∉frs X.stack:=λp hp=>by
  obtain ⟨e,_,n1,n2,_⟩:=I2.pin p hp;refine ⟨aI e,λz=>?_⟩;rcases aS.mp (I2.stkSub _ z) with e |e
  ·exact n1 e
  ·exact n2 e
 have I0:∀t,Inv (X.comp N' scope cl HP.objs.size s2 H2 fp (X.pn++pins)) [(s2.heap.objs.size,{ cls:=.type "list",data:=.seq ([]:List Value).toArray 0 })] (dw cap σ) H2 { s2 with heap:=h₁,toks:=t }:=λt=>
  ⟨ok',rfl,I2.bare,Un.kept old,⟨_,hns₁,λi x v e1 e2 _=>by
    obtain ⟨j,nj,fr,sj⟩:=hcap.at e1 e2;obtain ⟨m,_,hl⟩:=I2.loc;have hk:=hfr' (x,NameKind.free) (dQ fr) rfl;obtain ⟨u,r,l⟩:=hl j x v nj sj (by rcases hk with hk |hk;exact .inr (.inl hk);exact .inr (.inr hk));refine ⟨u,r,.inr ⟨?_,?_⟩⟩
    ·show (relabel scope X.env).names.lookup x=some .cell\/(relabel scope X.env).names.lookup x=some .free;rw[rel x,fr,Option.map_some];by_cases hh:(NameKind.free==NameKind.free&&X.env.scope.kind==ScopeKind.function&&X.env.kindOf x==some NameKind.cell)=true
     ·exact .inl (by rw[if_pos hh])
     ·exact .inr (by rw[if_neg hh])
    ·obtain ⟨c,ec⟩:=clhas x fr;have ec':=clsub x c ec;rcases l with ⟨k1,_⟩ |⟨_,c',e',q⟩
     ·rcases hk with hk |hk <;> (rw[hk]at k1;cases k1)
     ·have ecc:X.env.cells.lookup x=some c:=ec';rw[e']at ecc;cases ecc;obtain ⟨o,ho,hd⟩:=q;exact ⟨_,ec,o,old _ _ ho,hd⟩⟩,
   λx c e=>(by obtain ⟨v,o,ho,hd⟩:=I2.cell x c (clsub x c e);exact ⟨v,o,old _ _ ho,hd⟩),hCf,λx c e=>I2.freeC x c (clsub x c e),
   λp hp=>by
    rcases a8.mp hp with z |z
    ·obtain ⟨e,n0,_,_,d⟩:=I2.pin p z;exact ⟨old _ _ e,n0,(below _ (pnOk p z).1).1,(pnOk p z).2,d⟩
    ·have e:p=_:=a7.mp z;subst e;exact ⟨hacc,hDf,hDC,λz=>absurd (fslt _ z) (ee _),λv z=>by have z':Data.seq _ _=Data.cell v:=z;cases z'⟩,
   I2.hok.kept old,by show (dw cap σ).length=N'.length;unfold dw;rw[ah];exact hcap.len⟩
 have fpok:∀{H':Hp}{o:Obj},(∀b∈fp,H' b=none)->∀b∈fp,dJ (X.comp N' scope cl HP.objs.size s2 H2 fp (X.pn++pins)) [(s2.heap.objs.size,o)] H' b:=λhn b hb=>
  ⟨hn b hb,(below b (fplt b hb)).1,nofs b hb,.inl hb,λx c e=>(f2 b hb).2.2.2.2.1 x c (clsub x c e),λp hp=>by
   rcases a8.mp hp with z |z
   ·exact (f2 b hb).2.2.2.2.2 p z
   ·have e:p=_:=a7.mp z;subst e;exact Ne.symm (below b (fplt b hb)).2⟩
 have loop:∀s₃:Shared,s₃={ s2 with heap:=h₁,toks:=s2.toks+([]:List (Str×Value)).length }->
   codeAny (model X.prog X.w) X.A (.compLoop (.ListComp elt (⟨tg,iter,ifs,0⟩::rest) scope pos) 0 (.ref it) (.ref s2.heap.objs.size) (compEnvC scope cl HP.objs.size X.env))
    (RR (.ref s2.heap.objs.size) HP.objs.size) s₃:=by
  rintro s₃ rfl;refine Dl hT
   (λk s'=>∃(i:Nat) (ys:List V) (its:List Value) (n:Nat) (σ':St) (H':Hp),Inv (X.comp N' scope cl HP.objs.size s2 H2 fp (X.pn++pins)) [(s2.heap.objs.size,{ cls:=.type "list",data:=.seq its.toArray n })] σ' H' s'/\Vals ys its/\
    tn i s'.heap/\(∀b∈fp,H' b=none)/\W i k ys σ' H') ?_ m0 ⟨0,[],[],0,_,H2,I0 _,.nil,hst₁,λb hb=>(f2 b hb).1,w0⟩
  rintro k s3 ⟨i,ys,its,n,σ3,H3,I3,rv3,st3,fr3,w3⟩;rcases turn i k ys σ3 H3 w3 with ⟨stop,hz,qn⟩ |⟨go,hlim,step⟩
  ·refine thn (T.done (X.comp N' scope cl HP.objs.size s2 H2 fp (X.pn++pins)) rfl rfl rfl hc i _ s3 σ3 H3 _ I3 (fpok fr3) st3 stop) λr s4 ⟨hr,I4⟩=>?_;subst hr;obtain ⟨m,hn,_⟩:=I4.loc;obtain ⟨pD,nD,_,_,_⟩:=I4.pin (s2.heap.objs.size,{ cls:=.type "list",data:=.seq its.toArray n }) (ay _ (a7.mpr rfl));have nC:H3 HP.objs.size=none:=I4.free;have u:Un (frs X.stack) fp H2 H3 s2.heap s4.heap:=I4.base;refine fin s2.heap.objs.size HP.objs.size (upd H3 s2.heap.objs.size (.lst ys)) s4 m ?_ (qn _ nD) hn ?_
   ·refine I2.call' (s':=s4) (ch:=fp) I4.os ?_ ?_ I4.bare λb hb=>⟨(f2 b hb).2.2.2.1,(f2 b hb).2.1,(f2 b hb).2.2.2.2.1,(f2 b hb).2.2.2.2.2⟩
    ·refine ⟨λb o e n0 hb hx=>u.keep b o e n0 hb hx,λb o e n0 hb hx=>u.slot b o e n0 hb hx,λb o e n0 hx=>?_,λb o e hx=>u.there b o e hx,λb xs e=>?_,λb o v e=>?_,λb ps e=>?_⟩
     ·rw[aJ (below b (aI e)).2];exact u.free b o e n0 hx
     ·rw[aJ (bf e hDf)];exact u.tups b xs e
     ·rw[aJ (bf e hDf)];exact u.frzs b o v e
     ·rw[aJ (bf e hDf)];exact u.tbls b ps e
    ·intro b o e;by_cases hb:b=s2.heap.objs.size
     ·subst hb;rw[cL]at e;cases e;exact ⟨hz,its,n,rv3,pD⟩
     ·rw[aJ hb]at e;exact (I4.hok b o e).stay (λc v _ q=>q) (λc q=>by rw[aJ (bf q nD)];exact q) λc xs q=>by rw[aJ (bf q nD)];exact q
   ·have hle:s2.heap.objs.size<=HP.objs.size:=by rw[hC];exact fk _
    exact I2.fpOk hle (by rw[aJ (Ne.symm hDC)];exact nC)
  ·refine thn (T.item (X.comp N' scope cl HP.objs.size s2 H2 fp (X.pn++pins)) rfl rfl rfl hc i _ s3 σ3 H3 _ I3 (fpok fr3) st3 go) λr s4 ⟨u,hr,h4⟩=>?_;subst hr;refine thn h4 λ_ s5 ⟨x,H5,I5,r5,y5,st5,fr5⟩=>?_;obtain ⟨g,tm,hg,hm,body⟩:=step cl HP.objs.size s2 H2 fp (X.pn++pins);have acc:AccOk (X.comp N' scope cl HP.objs.size s2 H2 fp (X.pn++pins)) s2.heap.objs.size:=
    ⟨.inr (ax _),λx c e z=>absurd (celllt x c e) (by rw[z];exact ee _),λp hp z=>absurd (pnOk p hp).1 (by rw[z];exact ee _)⟩
   have I5':=I5.pinned (fpok fr5) (T.obj _ _ st5);refine thn (hg _ s5 σ3 H5 x u _ I5' r5 (body x H5 y5)) λ_ s6 ⟨σ6,H6,I6,q6⟩=>?_;intro kk Q' E' hk';refine hm _ acc (iV fp s5.heap) its n ys σ6 H6 s6 _ I6 (λp hp' e=>?_) rv3 hlim q6 kk Q' E' λs7 its' n' ys' σ7 H7 I7 rv7 ⟨m',hm',w7⟩=>hk' s7 ⟨m',hm',i+1,ys',its',n',σ7,H7,I7.pins_of λp hp'=>?_,rv7,?_,λb hb=>?_,w7⟩
   ·exact (below p.1 (fplt p.1 (vd hp').1)).2 e
   ·refine I7.pin p (ay _ ?_);rw[a7.mp hp'];exact br
   ·exact T.keep _ _ _ st5 λb hb o e=>(I7.pin (b,o) (ay _ (a9 _ (iW hb e)))).1
   ·obtain ⟨o,e,_⟩:=T.obj _ _ st5 b hb;exact (I7.pin (b,o) (ay _ (a9 _ (iW hb e)))).2.1
 exact codeAny_compStart_list (loop _ rfl) (T.self X.A 0 _ _ _ hst₁ (loop _ rfl))
theorem Za{X:Cx}{elt tg iter:Expr}{ifs:List Expr}{lim:Bool}{rest:List Comprehension}{em:Value->Env->Sem Fin->Sem Fin}{scope:Scope}{pos:Pos}{wi:TI}(N':List Str)(cap:List (Option Nat))(hc:X.calm=true)(hi:PI X tg iter wi)(hcap:Caps X scope N' cap)
  (hcell:scope.names.all (λy=>y.2 != NameKind.cell)=true) (hnames:scope.names.all (λy=>y.2 != NameKind.local||scope.names.lookup y.1==some NameKind.local)=true)
  (hfr:scope.names.all (λy=>y.2 != NameKind.free||(X.env.kindOf y.1==some NameKind.cell||X.env.kindOf y.1==some NameKind.free))=true)
  (hkind:scope.kind=.function) (hs:∀x,foldedSetIterable iter X.env x=pure x) (hT:fO (.ListComp elt (⟨tg,iter,ifs,0⟩::rest) scope pos) 0 tg iter em):
  PE X (.ListComp elt (⟨tg,iter,ifs,0⟩::rest) scope pos) (vK lim X N' scope tg em wi cap):=by
 intro pins s σ H Q I h;have hnames':∀y∈scope.names,y.2=NameKind.local->scope.names.lookup y.1=some NameKind.local:=λy hy hl=>by
  have:=cf.mp hnames y hy;simpa [hl] using this
 have hcs:∀y∈scope.names,y.2=NameKind.free->(X.env.cells.lookup y.1).isSome=true:=λy hy hl=>by
  have:=cf.mp hfr y hy;obtain ⟨c,e⟩:=I.ok.has y.1 (by simpa [hl] using this);rw[e];rfl
 rw[eval_ListComp];refine wpAny_comprehension_free (use:=none) (Q:=EP X pins σ Q) rfl hs (Cm hcs) hkind hnames'
  (Dq (RR:=λacc C=>compPost (model X.prog X.w) X.A X.xe none (EP X pins σ Q) acc C) N' cap hc hi hcap hcell hfr hkind hT I h λL C H' s4 m I4 q hn fC=>?_)
 obtain ⟨f0,f1,f2,f3,f4,f5⟩:=fC;exact ⟨m,hn,λh' hs'=>⟨.ref L,H',I4.turned (t':=s4.toks) (it:=C) (λb o hb e=>hs'.extBut b o hb e) f0 f1 f3 f4 f5,rfl,q⟩⟩
theorem Zb{X:Cx}{elt tg iter:Expr}{ifs:List Expr}{lim:Bool}{rest:List Comprehension}{em:Value->Env->Sem Fin->Sem Fin}{scope:Scope}{pos py spos:Pos}{wi:TI}{i:Nat}{y:Str}(hT:fO (.ListComp elt (⟨tg,iter,ifs,0⟩::rest) scope pos) 0 tg iter em)(hN:X.N.Nodup)(hiy:X.N[i]?=some y)(hy:Loc X.env.scope y)(N':List Str)(cap:List (Option Nat))(hc:X.calm=true)(hi:PI X tg iter wi)(hcap:Caps X scope N' cap)
  (hcell:scope.names.all (λy=>y.2 != NameKind.cell)=true:=by rfl) (hnames:scope.names.all (λy=>y.2 != NameKind.local||scope.names.lookup y.1==some NameKind.local)=true:=by rfl)
  (hfr:scope.names.all (λy=>y.2 != NameKind.free||(X.env.kindOf y.1==some NameKind.cell||X.env.kindOf y.1==some NameKind.free))=true:=by rfl)
  (hkind:scope.kind=.function:=by rfl) (hs:∀x,foldedSetIterable iter X.env x=pure x:=by intro _;rfl)
  (hsw:swapsWith (.ListComp elt (⟨tg,iter,ifs,0⟩::rest) scope pos) (some (.Name y py)) spos.line X.env=pure true:=by rfl)
  (hf:X.fn y=true\/X.env.scope.names.lookup y=some .local:=by first |exact .inl rfl |exact .inr rfl |assumption):
  PS X (.Assign [.Name y py] (.ListComp elt (⟨tg,iter,ifs,0⟩::rest) scope pos) spos) (p7 (vK lim X N' scope tg em wi cap) (pZ i)):=by
 intro pins s σ H D I h;have hnames':∀y∈scope.names,y.2=NameKind.local->scope.names.lookup y.1=some NameKind.local:=λy hy hl=>by
  have:=cf.mp hnames y hy;simpa [hl] using this
 have hcs:∀y∈scope.names,y.2=NameKind.free->(X.env.cells.lookup y.1).isSome=true:=λy hy hl=>by
  have:=cf.mp hfr y hy;obtain ⟨c,e⟩:=I.ok.has y.1 (by simpa [hl] using this);rw[e];rfl
 rw[exec_Assign_Name_used _ _ _ _ hsw];refine ag (fS (ag ?_));show wpAny _ X.A (do let _ <-comprehension (.ListComp elt (⟨tg,iter,ifs,0⟩::rest) scope pos) scope X.env _ (newList []) false (eval iter X.env) (some (assign (.Name y py) X.env))) _ _ s;refine ag (cw (wpAny_comprehension_free (use:=some (assign (.Name y py) X.env)) (Q:=λ_ s'=>SP X pins D .next s') rfl hs (Cm hcs) hkind hnames'
  (Dq (RR:=λacc C=>compPost (model X.prog X.w) X.A X.xe (some (assign (.Name y py) X.env)) (λ_ s'=>SP X pins D .next s') acc C) N' cap hc hi hcap hcell hfr hkind hT I h λL C H' s4 m I4 q hn fC=>?_)) (λ_ s' hq=>bg (bg hq)) λ_ _ e=>e)
 obtain ⟨oC,es,ep,eC,rC⟩:=id hn;obtain ⟨f0,f1,f2,f3,f4,f5⟩:=fC;have ncell:∀v,oC.data≠.cell v:=λv z=>by rw[rC.1]at z;cases z
 have I5:Inv X (pins++[(C,oC)]) σ H' s4:=I4.pins_of λp hp=>by
  rcases a8.mp hp with z |z
  ·exact I4.pin p (ay _ z)
  ·have e:p=_:=a7.mp z;subst e;exact ⟨eC,f0,f1,f2,ncell⟩
 refine wpAny_assign_Name (pX I5 hN hiy hy (v:=.ref L) (u:=.ref L) rfl (λs5 I6=>?_) hf);have eC5:s5.heap.get? C=some oC:=(I6.pin (C,oC) (ay _ (ay _ (a7.mpr rfl)))).1;have I7:Inv X pins (σ.set i (some (.ref L))) H' s5:=I6.pins_of λp hp=>I6.pin p (ay _ (dA _ hp));refine ⟨m,⟨oC,es,ep,eC5,rC⟩,λh'' hs''=>?_⟩;exact ⟨_,H',I7.turned (t':=s5.toks) (it:=C) (λb o hb e=>hs''.extBut b o hb e) f0 f1 f3 f4 f5,q⟩
open HT
end L2
namespace RF
open PySem PySem.Spec PyProof.Rows L2
inductive D where
 |non |bl (b:Bool) |int (i:Int) |str (l:List Nat) |tup (xs:List D) |lst (xs:List D) |ref (a:Addr) |scr (ns:List Int) |exn (C:String) |obj (C f:String) (q:Addr)
 deriving Inhabited
inductive DO where
 |lst (xs:List D)
 deriving Inhabited
noncomputable abbrev DH:=Addr->Option DO
noncomputable def aF(G:DH)(a:Addr)(o:DO):DH:=λb=>if b=a then some o else G b
noncomputable def g8(G:DH)(a:Addr):DH:=λb=>if b=a then none else G b
theorem aP{G:DH}{a:Addr}{o:DO}:aF G a o a=some o:=if_pos rfl
theorem cI{G:DH}{a b:Addr}{o:DO}(h:b≠a):aF G a o b=G b:=if_neg h
theorem vL{G:DH}{a:Addr}:g8 G a a=none:=if_pos rfl
theorem Ds{G:DH}{a b:Addr}(h:b≠a):g8 G a b=G b:=if_neg h
theorem Zc{G:DH}{a:Addr}{o u:DO}:aF (aF G a o) a u=aF G a u:=by funext b;unfold aF;split <;> rfl
theorem Dt{G:DH}{a:Addr}{o:DO}(h:G a=none):g8 (aF G a o) a=G:=by
 funext b;unfold aF g8;split
 ·rename_i e;rw[e,h]
 ·rename_i e;exact if_neg e
theorem bU{G:DH}{a b:Addr}{o:DO}(h:G a=some o)(h':G b=none):a≠b:=by intro e;subst e;rw[h]at h';cases h'
noncomputable abbrev sz:Nat:=1000000
noncomputable abbrev FZ:=Addr->Prop
noncomputable def FzL(H:Hp)(F:FZ)(a:Addr)(vs:List V):Prop:=F a/\H a=some (.lst vs)
theorem FzL.sq{K:PF}{H:Hp}{F:FZ}{a:Addr}{vs:List V}(h:FzL H F a vs):SqL K H a vs:=.inl (.inl h.2)
structure TpT(K:PF)(H:Hp)(a:Addr)(vs:List V):Prop where
 it:H a=some (.tup vs)
theorem TpT.sq{K:PF}{H:Hp}{a:Addr}{vs:List V}(h:TpT K H a vs):SqT K H a vs:=.inl (.inl h.it)
noncomputable def ScL(K:PF)(H:Hp)(a:Addr)(vs:List V):Prop:=
 (∃o,H a=some (.frz o (.lst vs)))\/
  ∃(o:Obj) (its:Array Value) (n:Nat),K.lookup a=some o/\o.cls=.type "list"/\o.dict=none/\o.data=.seq its n/\its.size<=sizeLine/\Vals vs its.toList
theorem ScL.sq{K:PF}{H:Hp}{a:Addr}{vs:List V}(h:ScL K H a vs):SqL K H a vs:=by
 rcases h with ⟨o,h⟩ |h
 ·exact .inl (.inr ⟨o,h⟩)
 ·exact .inr h
noncomputable def FzO(H:Hp)(F:FZ)(a c dx:Addr)(f:Str)(q:Addr):Prop:=F a/\H a=some (.ins c dx [(f,.ref q)])
mutual
noncomputable def Rep(K:PF)(H:Hp)(F:FZ):D->V->Prop
 |.non,v=>v=.non
 |.bl b,v=>v=.bl b
 |.int i,v=>v=.int i
 |.str l,v=>v=.str (tx l)/\l.length<=sz
 |.tup ds,v=>∃a vs,v=.ref a/\TpT K H a vs/\Reps K H F ds vs
 |.lst ds,v=>∃a vs,v=.ref a/\FzL H F a vs/\Reps K H F ds vs
 |.ref a,v=>v=.ref a
 |.scr ns,v=>∃a,v=.ref a/\ScL K H a (ns.map V.int)
 |.obj C f q,v=>∃a c dx,v=.ref a/\FzO H F a c dx (Str.ofString f) q/\PySem.W.nsIn K mainGlobals (Str.ofString C)=some (some (.ref c))
 |.exn C,v=>∃a c,v=.ref a/\XO H a c/\PySem.W.nsIn K mainGlobals (Str.ofString C)=some (some (.ref c))
noncomputable def Reps(K:PF)(H:Hp)(F:FZ):List D->List V->Prop
 |[],vs=>vs=[]
 |d::ds,vs=>∃v r,vs=v::r/\Rep K H F d v/\Reps K H F ds r
end
structure Ext(H:Hp)(F:FZ)(H':Hp)(F':FZ):Prop where
 sub:∀a,F a->F' a
 keep:∀a,F a->H' a=H a
 tups:∀a xs,H a=some (.tup xs)->H' a=some (.tup xs)
 frzs:∀a o u,H a=some (.frz o u)->H' a=some (.frz o u)
theorem Ext.refl(H:Hp)(F:FZ):Ext H F H F:=⟨λ_ h=>h,λ_ _=>rfl,λ_ _ h=>h,λ_ _ _ h=>h⟩
theorem Ext.trans{H H1 H2:Hp}{F F1 F2:FZ}(a:Ext H F H1 F1)(b:Ext H1 F1 H2 F2):Ext H F H2 F2:=
 ⟨λc h=>b.sub c (a.sub c h),λc h=>(b.keep c (a.sub c h)).trans (a.keep c h),λc xs h=>b.tups c xs (a.tups c xs h),λc o u h=>b.frzs c o u (a.frzs c o u h)⟩
section
variable {K:PF} {H H':Hp} {F F':FZ}
theorem TpT.ext{a:Addr}{vs:List V}(x:Ext H F H' F')(h:TpT K H a vs):TpT K H' a vs:=⟨x.tups _ _ h.it⟩
theorem FzL.ext{a:Addr}{vs:List V}(x:Ext H F H' F')(h:FzL H F a vs):FzL H' F' a vs:=⟨x.sub _ h.1,(x.keep _ h.1).trans h.2⟩
theorem ScL.ext{a:Addr}{vs:List V}(x:Ext H F H' F')(h:ScL K H a vs):ScL K H' a vs:=by
 rcases h with ⟨o,h⟩ |h
 ·exact .inl ⟨o,x.frzs _ _ _ h⟩
 ·exact .inr h
mutual
theorem Rep.ext(x:Ext H F H' F'):∀{d:D}{v:V},Rep K H F d v->Rep K H' F' d v
 |.non,_,h=>h
 |.bl _,_,h=>h
 |.int _,_,h=>h
 |.str _,_,h=>h
 |.tup _,_,⟨a,vs,e,q,r⟩=>⟨a,vs,e,TpT.ext x q,Reps.ext x r⟩
 |.lst _,_,⟨a,vs,e,q,r⟩=>⟨a,vs,e,FzL.ext x q,Reps.ext x r⟩
 |.ref _,_,h=>h
 |.scr _,_,⟨a,e,q⟩=>⟨a,e,ScL.ext x q⟩
 |.obj _ _ _,_,⟨a,c,dx,e,⟨hf,hh⟩,n⟩=>⟨a,c,dx,e,⟨x.sub _ hf,(x.keep _ hf).trans hh⟩,n⟩
 |.exn _,_,⟨a,c,e,⟨o,y,q,hc⟩,n⟩=>⟨a,c,e,⟨o,y,x.frzs _ _ _ q,hc⟩,n⟩
theorem Reps.ext(x:Ext H F H' F'):∀{ds:List D}{vs:List V},Reps K H F ds vs->Reps K H' F' ds vs
 |[],_,h=>h
 |_::_,_,⟨v,r,e,h,t⟩=>⟨v,r,e,Rep.ext x h,Reps.ext x t⟩
end
theorem Reps.nil:Reps K H F [] []:=rfl
theorem Reps.cons{d:D}{v:V}{ds:List D}{vs:List V}(h:Rep K H F d v)(t:Reps K H F ds vs):Reps K H F (d::ds) (v::vs):=⟨v,vs,rfl,h,t⟩
theorem Reps.length:∀{ds:List D}{vs:List V},Reps K H F ds vs->ds.length=vs.length
 |[],_,h=>by cases h;rfl
 |_::_,_,⟨v,r,e,_,t⟩=>by subst e;simp[Reps.length t]
theorem Reps.append:∀{ds es:List D}{vs us:List V},Reps K H F ds vs->Reps K H F es us->Reps K H F (ds++es) (vs++us)
 |[],_,_,_,h,t=>by cases h;exact t
 |_::_,_,_,_,⟨v,r,e,h,t⟩,t'=>by subst e;exact ⟨v,_,rfl,h,Reps.append t t'⟩
theorem Reps.get:∀{ds:List D}{vs:List V}{i:Nat}{d:D},Reps K H F ds vs->ds[i]?=some d->∃v,vs[i]?=some v/\Rep K H F d v
 |[],_,_,_,_,e=>by simp at e
 |_::_,_,0,_,⟨v,r,e,h,t⟩,q=>by subst e;simp at q;subst q;exact ⟨v,rfl,h⟩
 |_::_,_,i+1,d,⟨v,r,e,h,t⟩,q=>by
  subst e;obtain ⟨u,h1,h2⟩:=Reps.get (i:=i) (d:=d) t (by simpa using q);exact ⟨u,by simpa using h1,h2⟩
theorem Reps.set{d:D}{v:V}(r:Rep K H F d v):∀{ds:List D}{vs:List V}(i:Nat),Reps K H F ds vs->Reps K H F (ds.set i d) (vs.set i v)
 |[],_,_,h=>by cases h;exact rfl
 |_::_,_,0,⟨v',r',e,h,t⟩=>by subst e;exact ⟨_,_,rfl,r,t⟩
 |_::_,_,i+1,⟨v',r',e,h,t⟩=>by subst e;exact ⟨_,_,rfl,h,Reps.set r i t⟩
theorem Reps.take:∀{ds:List D}{vs:List V}(n:Nat),Reps K H F ds vs->Reps K H F (ds.take n) (vs.take n)
 |_,_,0,_=>rfl
 |[],_,_+1,h=>by cases h;exact rfl
 |_::_,_,n+1,⟨v',r',e,h,t⟩=>by subst e;exact ⟨_,_,rfl,h,Reps.take n t⟩
theorem Reps.drop:∀{ds:List D}{vs:List V}(n:Nat),Reps K H F ds vs->Reps K H F (ds.drop n) (vs.drop n)
 |_,_,0,h=>h
 |[],_,_+1,h=>by cases h;exact rfl
 |_::_,_,n+1,⟨v',r',e,h,t⟩=>by subst e;exact Reps.drop n t
theorem Reps.cut{ds:List D}{vs:List V}(h:Reps K H F ds vs)(lo hi:Option Int):
  Reps K H F ((ds.drop (HT.sIx ds.length 0 lo)).take (HT.sIx ds.length ds.length hi - HT.sIx ds.length 0 lo)) (dM vs lo hi):=by
 unfold dM;rw[<-h.length];exact (h.drop _).take _
theorem Reps.rep{ds:List D}{vs:List V}(h:Reps K H F ds vs):∀k:Nat,Reps K H F (List.replicate k ds).flatten (List.replicate k vs).flatten
 |0=>rfl
 |k+1=>by
  rw[b9,b9,eJ,eJ];exact Reps.append h (Reps.rep h k)
end
noncomputable def Zd(K:PF)(H:Hp)(F:FZ)(a:Addr):DO->Prop
 |.lst ds=>∃vs,H a=some (.lst vs)/\Reps K H F ds vs
structure R(K:PF)(H:Hp)(F:FZ)(G:DH):Prop where
 fz:∀a,F a->G a=none/\∃o,H a=some o
 ob:∀a o,G a=some o->Zd K H F a o
section
variable {K:PF} {H:Hp} {F:FZ} {G:DH} {p:Addr} {vs:List V} {ds:List D}
theorem R.lst(r:R K H F G)(h:G p=some (.lst ds)):∃vs,H p=some (.lst vs)/\Reps K H F ds vs:=r.ob p _ h
theorem R.free(r:R K H F G)(h:H p=none):G p=none:=by
 cases e:G p with
 |none=>rfl
 |some o=>
  cases o with
  |lst ds=>obtain ⟨vs,q,_⟩:=r.lst e;rw[h]at q;cases q
theorem R.notF(r:R K H F G)(h:H p=none):¬F p:=λf=>by
 obtain ⟨_,vs,q⟩:=r.fz p f;rw[h]at q;cases q
theorem dg{o:HO}(r:R K H F G)(h:H p=none):Ext H F (upd H p o) F:=
 ⟨λ_ f=>f,λa f=>aJ λe=>r.notF h (by rw[<-e];exact f),λa xs q=>by rw[aJ (bf q h)];exact q,λa ob u q=>by rw[aJ (bf q h)];exact q⟩
theorem R.new{o:HO}(r:R K H F G)(h:H p=none):R K (upd H p o) F G:=by
 have x:Ext H F (upd H p o) F:=dg r h;refine ⟨λa f=>⟨(r.fz a f).1,?_⟩,λa u e=>?_⟩
 ·obtain ⟨_,vs,q⟩:=r.fz a f;exact ⟨vs,by rw[x.keep a f];exact q⟩
 ·cases u with
  |lst ds=>
   obtain ⟨vs,q,t⟩:=r.lst e;exact ⟨vs,by rw[aJ (bf q h)];exact q,Reps.ext x t⟩
theorem R.newL(r:R K H F G)(h:H p=none)(t:Reps K H F ds vs):R K (upd H p (.lst vs)) F (aF G p (.lst ds)):=by
 have x:Ext H F (upd H p (.lst vs)) F:=dg r h;have r':R K (upd H p (.lst vs)) F G:=r.new h;refine ⟨λa f=>⟨?_,(r'.fz a f).2⟩,λa u e=>?_⟩
 ·rw[cI λe=>r.notF h (by rw[<-e];exact f)];exact (r.fz a f).1
 ·by_cases ha:a=p
  ·subst ha;rw[aP]at e;cases e;exact ⟨vs,cL,Reps.ext x t⟩
  ·rw[cI ha]at e;exact r'.ob a u e
theorem vM(r:R K H F G)(h:H p=none):Ext H F (upd H p (.lst vs)) (λa=>F a\/a=p):=
 ⟨λ_ f=>.inl f,(dg r h).keep,(dg r h).tups,(dg r h).frzs⟩
theorem R.newF(r:R K H F G)(h:H p=none):R K (upd H p (.lst vs)) (λa=>F a\/a=p) G:=by
 have x:Ext H F (upd H p (.lst vs)) (λa=>F a\/a=p):=vM r h;refine ⟨λa f=>?_,λa u e=>?_⟩
 ·rcases f with f |f
  ·obtain ⟨g,vs',q⟩:=r.fz a f;exact ⟨g,vs',by rw[x.keep a f];exact q⟩
  ·subst f;exact ⟨r.free h,_,cL⟩
 ·cases u with
  |lst ds=>
   obtain ⟨vs',q,t⟩:=r.lst e;exact ⟨vs',by rw[aJ (bf q h)];exact q,Reps.ext x t⟩
theorem vN{o:HO}(r:R K H F G)(h:H p=none):Ext H F (upd H p o) (λa=>F a\/a=p):=
 ⟨λ_ f=>.inl f,(dg r h).keep,(dg r h).tups,(dg r h).frzs⟩
theorem R.newO{o:HO}(r:R K H F G)(h:H p=none):R K (upd H p o) (λa=>F a\/a=p) G:=by
 have x:Ext H F (upd H p o) (λa=>F a\/a=p):=vN r h;refine ⟨λa f=>?_,λa u e=>?_⟩
 ·rcases f with f |f
  ·obtain ⟨g,vs',q⟩:=r.fz a f;exact ⟨g,vs',by rw[x.keep a f];exact q⟩
  ·subst f;exact ⟨r.free h,_,cL⟩
 ·cases u with
  |lst ds=>
   obtain ⟨vs',q,t⟩:=r.lst e;exact ⟨vs',by rw[aJ (bf q h)];exact q,Reps.ext x t⟩
theorem Ze(r:R K H F G)(h:H p=none)(t:Reps K H F ds vs):Rep K (upd H p (.lst vs)) (λa=>F a\/a=p) (.lst ds) (.ref p):=
 ⟨p,vs,rfl,⟨.inr rfl,cL⟩,Reps.ext (vM r h) t⟩
theorem vO(r:R K H F G)(h:H p=none)(t:Reps K H F ds vs):Rep K (upd H p (.tup vs)) F (.tup ds) (.ref p):=
 ⟨p,vs,rfl,⟨cL⟩,Reps.ext (dg r h) t⟩
theorem jb{H:Hp}{a x c dx:Addr}{u:HO}{fs:List (Str×V)}(h:H a=some u)(hx:H x=some (.ins c dx []))(hu:u≠.ins c dx []):a≠x:=λe=>hu (by subst e;rw[h]at hx;exact dk hx)
mutual
theorem Rep.setO{x c dx:Addr}{fs:List (Str×V)}(hx:H x=some (.ins c dx [])):∀{d:D}{v:V},Rep K H F d v->Rep K (upd H x (.ins c dx fs)) F d v
 |.non,_,h=>h
 |.bl _,_,h=>h
 |.int _,_,h=>h
 |.str _,_,h=>h
 |.tup _,_,⟨a,vs,e,q,r⟩=>⟨a,vs,e,⟨by rw[aJ (jb (fs:=fs) q.it hx (by intro w;cases w))];exact q.it⟩,Reps.setO hx r⟩
 |.lst _,_,⟨a,vs,e,q,r⟩=>⟨a,vs,e,⟨q.1,by rw[aJ (jb (fs:=fs) q.2 hx (by intro w;cases w))];exact q.2⟩,Reps.setO hx r⟩
 |.ref _,_,h=>h
 |.scr _,_,⟨a,e,q⟩=>⟨a,e,by
   rcases q with ⟨o,q⟩ |q
   ·exact .inl ⟨o,by rw[aJ (jb (fs:=fs) q hx (by intro w;cases w))];exact q⟩
   ·exact .inr q⟩
 |.obj _ _ _,_,⟨a,c',dx',e,⟨hf,hh⟩,n⟩=>⟨a,c',dx',e,⟨hf,by rw[aJ (jb (fs:=fs) hh hx (by intro w;cases w))];exact hh⟩,n⟩
 |.exn _,_,⟨a,c',e,⟨o,y,q,hc⟩,n⟩=>⟨a,c',e,⟨o,y,by rw[aJ (jb (fs:=fs) q hx (by intro w;cases w))];exact q,hc⟩,n⟩
theorem Reps.setO{x c dx:Addr}{fs:List (Str×V)}(hx:H x=some (.ins c dx [])):∀{ds:List D}{vs:List V},Reps K H F ds vs->Reps K (upd H x (.ins c dx fs)) F ds vs
 |[],_,h=>h
 |_::_,_,⟨v,r,e,h,t⟩=>⟨v,r,e,Rep.setO hx h,Reps.setO hx t⟩
end
theorem R.setO{x c dx:Addr}{fs:List (Str×V)}(r:R K H F G)(hx:H x=some (.ins c dx [])):R K (upd H x (.ins c dx fs)) F G:=by
 refine ⟨λa f=>⟨(r.fz a f).1,?_⟩,λa u e=>?_⟩
 ·by_cases h:a=x
  ·exact ⟨_,by rw[h,cL]⟩
  ·rw[aJ h];exact (r.fz a f).2
 ·cases u with
  |lst ds=>
   obtain ⟨vs,q,t⟩:=r.lst e;exact ⟨vs,by rw[aJ (jb (fs:=fs) q hx (by intro w;cases w))];exact q,Reps.setO hx t⟩
theorem fP{ds0:List D}{o:HO}(r:R K H F G)(h:G p=some (.lst ds0)):Ext H F (upd H p o) F:=by
 obtain ⟨vs0,q,_⟩:=r.lst h;refine ⟨λ_ f=>f,λa f=>aJ λe=>?_,λa xs z=>?_,λa ob u z=>?_⟩
 ·subst e;rw[(r.fz a f).1]at h;cases h
 ·rw[aJ (Al z q (by intro w;cases w))];exact z
 ·rw[aJ (Al z q (by intro w;cases w))];exact z
theorem R.write{ds0:List D}(r:R K H F G)(h:G p=some (.lst ds0))(t:Reps K H F ds vs):R K (upd H p (.lst vs)) F (aF G p (.lst ds)):=by
 have x:Ext H F (upd H p (.lst vs)) F:=fP r h;refine ⟨λa f=>⟨?_,?_⟩,λa u e=>?_⟩
 ·rw[cI λe=>by subst e;rw[(r.fz a f).1]at h;cases h];exact (r.fz a f).1
 ·obtain ⟨_,vs',q⟩:=r.fz a f;exact ⟨vs',by rw[x.keep a f];exact q⟩
 ·by_cases ha:a=p
  ·subst ha;rw[aP]at e;cases e;exact ⟨vs,cL,Reps.ext x t⟩
  ·rw[cI ha]at e;cases u with
   |lst ds'=>
    obtain ⟨vs',q,t'⟩:=r.lst e;exact ⟨vs',by rw[aJ ha];exact q,Reps.ext x t'⟩
theorem vP:Ext H F H (λa=>F a\/a=p):=⟨λ_ f=>.inl f,λ_ _=>rfl,λ_ _ h=>h,λ_ _ _ h=>h⟩
theorem R.frz(r:R K H F G)(h:G p=some (.lst ds)):R K H (λa=>F a\/a=p) (g8 G p):=by
 have x:Ext H F H (λa=>F a\/a=p):=vP;refine ⟨λa f=>?_,λa u e=>?_⟩
 ·rcases f with f |f
  ·obtain ⟨g,vs',q⟩:=r.fz a f;refine ⟨?_,vs',q⟩;by_cases ha:a=p
   ·rw[ha];exact vL
   ·rw[Ds ha];exact g
  ·subst f;obtain ⟨vs,q,_⟩:=r.lst h;exact ⟨vL,_,q⟩
 ·by_cases ha:a=p
  ·rw[ha,vL]at e;cases e
  ·rw[Ds ha]at e;cases u with
   |lst ds'=>
    obtain ⟨vs',q,t'⟩:=r.lst e;exact ⟨vs',q,Reps.ext x t'⟩
theorem Zf(r:R K H F G)(h:G p=some (.lst ds)):Rep K H (λa=>F a\/a=p) (.lst ds) (.ref p):=by obtain ⟨vs,q,t⟩:=r.lst h;exact ⟨p,vs,rfl,⟨.inr rfl,q⟩,Reps.ext vP t⟩
end
noncomputable def view(G:DH):D->D
 |.ref p=>match G p with |some (.lst ds)=>.lst ds |none=>.ref p
 |d=>d
theorem Rep.list{K:PF}{H:Hp}{F:FZ}{G:DH}{d:D}{v:V}{ds:List D}(r:R K H F G)(h:Rep K H F d v)(e:view G d=.lst ds):∃a vs,v=.ref a/\SqL K H a vs/\Reps K H F ds vs:=by
 cases d with
 |lst xs=>
  have e':D.lst xs=.lst ds:=e;cases e';obtain ⟨a,vs,e1,q,t⟩:=h;exact ⟨a,vs,e1,q.sq,t⟩
 |ref p=>
  have hv:v=.ref p:=h;unfold view at e;cases g:G p with
  |none=>simp only[g]at e;cases e
  |some o=>
   cases o with
   |lst xs=>
    simp only[g]at e;cases e;obtain ⟨vs,q,t⟩:=r.lst g;exact ⟨p,vs,hv,.inl (.inl q),t⟩
 |_=>cases (show _=D.lst ds from e)
theorem gm{G:DH}{d:D}{ds:List D}(e:view G d=.tup ds):d=.tup ds:=by
 cases d with
 |ref p=>
  unfold view at e;cases g:G p with
  |none=>simp only[g]at e;cases e
  |some o=>cases o;simp only[g]at e;cases e
 |_=>exact e
theorem gn{G:DH}{d:D}{l:List Nat}(e:view G d=.str l):d=.str l:=by
 cases d with
 |ref p=>
  unfold view at e;cases g:G p with
  |none=>simp only[g]at e;cases e
  |some o=>cases o;simp only[g]at e;cases e
 |_=>exact e
theorem dN{G:DH}{d:D}{l:Int}(e:view G d=.int l):d=.int l:=by
 cases d with
 |ref p=>
  unfold view at e;cases g:G p with
  |none=>simp only[g]at e;cases e
  |some o=>cases o;simp only[g]at e;cases e
 |_=>exact e
theorem Zg{G:DH}{d:D}{l:Bool}(e:view G d=.bl l):d=.bl l:=by
 cases d with
 |ref p=>
  unfold view at e;cases g:G p with
  |none=>simp only[g]at e;cases e
  |some o=>cases o;simp only[g]at e;cases e
 |_=>exact e
noncomputable abbrev ak:=List (Option D)
noncomputable def EnvR(K:PF)(H:Hp)(F:FZ):ak->L2.St->Prop
 |[],σ=>σ=[]
 |o::ρ,σ=>∃u τ,σ=u::τ/\(∀d,o=some d->∃v,u=some v/\Rep K H F d v)/\EnvR K H F ρ τ
section
variable {K:PF} {H H':Hp} {F F':FZ}
theorem EnvR.ext(x:Ext H F H' F'):∀{ρ:ak}{σ:L2.St},EnvR K H F ρ σ->EnvR K H' F' ρ σ
 |[],_,h=>h
 |_::_,_,⟨u,τ,e,h,t⟩=>⟨u,τ,e,λd q=>by obtain ⟨v,e1,r⟩:=h d q;exact ⟨v,e1,Rep.ext x r⟩,EnvR.ext x t⟩
theorem EnvR.get:∀{ρ:ak}{σ:L2.St}{i:Nat}{d:D},EnvR K H F ρ σ->ρ[i]?=some (some d)->∃v,σ[i]?=some (some v)/\Rep K H F d v
 |[],_,_,_,_,e=>by simp at e
 |_::_,_,0,d,⟨u,τ,e,h,t⟩,q=>by
  subst e;obtain ⟨v,e1,r⟩:=h d (by simpa using q);exact ⟨v,by simp[e1],r⟩
 |_::_,_,i+1,d,⟨u,τ,e,h,t⟩,q=>by
  subst e;obtain ⟨v,e1,r⟩:=EnvR.get (i:=i) (d:=d) t (by simpa using q);exact ⟨v,by simpa using e1,r⟩
theorem EnvR.set{d:D}{v:V}(r:Rep K H F d v):∀{ρ:ak}{σ:L2.St}(i:Nat),EnvR K H F ρ σ->EnvR K H F (ρ.set i (some d)) (σ.set i (some v))
 |[],_,_,h=>by cases h;exact rfl
 |_::_,_,0,⟨u,τ,e,h,t⟩=>by subst e;exact ⟨_,_,rfl,λd' q=>⟨v,rfl,by cases q;exact r⟩,t⟩
 |_::_,_,i+1,⟨u,τ,e,h,t⟩=>by subst e;exact ⟨_,_,rfl,h,EnvR.set r i t⟩
theorem EnvR.none:∀(n:Nat),EnvR K H F (List.replicate n Option.none) (List.replicate n Option.none)
 |0=>rfl
 |n+1=>⟨_,_,rfl,λd q=>(nomatch q),EnvR.none n⟩
theorem EnvR.start:∀{ds:List D}{vs:List V}(n:Nat),Reps K H F ds vs->EnvR K H F (ds.map some++List.replicate n Option.none) (vs.map some++List.replicate n Option.none)
 |[],_,n,h=>by cases h;exact EnvR.none n
 |d::ds,_,n,⟨v,r,e,h,t⟩=>by
  subst e;exact ⟨_,_,rfl,λd' q=>⟨v,rfl,by cases q;exact h⟩,EnvR.start n t⟩
theorem EnvR.cap{ρ:ak}{σ:L2.St}(h:EnvR K H F ρ σ):∀(cap:List (Option Nat)),EnvR K H F (cap.map λo=>match o with |Option.none=>Option.none |some j=>(ρ[j]?).join) (dw cap σ)
 |[]=>rfl
 |Option.none::cap=>⟨_,_,rfl,λd q=>(nomatch q),EnvR.cap h cap⟩
 |some j::cap=>by
  refine ⟨_,_,rfl,λd q=>?_,EnvR.cap h cap⟩;have q':(ρ[j]?).join=some d:=q;have z:ρ[j]?=some (some d):=by
   cases e:ρ[j]? with
   |none=>rw[e]at q';cases q'
   |some o=>rw[e]at q';exact eT some q'
  obtain ⟨v,e1,r⟩:=h.get z;exact ⟨v,by show (σ[j]?).join=some v;rw[e1];rfl,r⟩
end
mutual
noncomputable def deq:D->D->Bool
 |.non,.non=>true
 |.bl a,.bl b=>a==b
 |.bl a,.int b=>(if a then 1 else 0)==b
 |.int a,.bl b=>a==(if b then 1 else 0)
 |.int a,.int b=>a==b
 |.str a,.str b=>a==b
 |.tup a,.tup b=>bK a b
 |.lst a,.lst b=>bK a b
 |_,_=>false
noncomputable def bK:List D->List D->Bool
 |[],[]=>true
 |a::as,b::bs=>deq a b&&bK as bs
 |_,_=>false
end
mutual
/-- no tracked object within -/
noncomputable def nr:D->Bool
 |.tup a=>nrs a
 |.lst a=>nrs a
 |.ref _=>false
 |.scr _=>false
 |.exn _=>false
 |.obj _ _ _=>false
 |_=>true
noncomputable def nrs:List D->Bool
 |[]=>true
 |a::as=>nr a&&nrs as
end
mutual
noncomputable def dpt:D->Nat
 |.tup a=>aV a+1
 |.lst a=>aV a+1
 |_=>0
noncomputable def aV:List D->Nat
 |[]=>0
 |a::as=>max (dpt a) (aV as)
end
noncomputable def truth:D->Option Bool
 |.non=>some false
 |.bl b=>some b
 |.int i=>some (i != 0)
 |.str l=>some (!l.isEmpty)
 |.tup l=>some (!l.isEmpty)
 |.lst l=>some (!l.isEmpty)
 |_=>none
noncomputable def cut{α:Type}(xs:List α)(lo hi:Option Int):List α:=(xs.drop (HT.sIx xs.length 0 lo)).take (HT.sIx xs.length xs.length hi - HT.sIx xs.length 0 lo)
noncomputable def reps{α:Type}(xs:List α)(n:Nat):List α:=(List.replicate n xs).flatten
noncomputable def mk(fz:Bool)(xs:List D)(G:DH)(k:D->DH->Prop):Prop:=
 match fz with
 |true=>k (.lst xs) G
 |false=>∀p,G p=none->k (.ref p) (aF G p (.lst xs))
noncomputable def jc(fz:Bool)(a b:D)(G:DH)(k:D->DH->Prop):Prop:=
 match a with
 |.int i=>(match b with |.int j=>k (.int (i+j)) G |_=>False)
 |.str x=>(match b with |.str y=>x.length+y.length<=sz/\k (.str (x++y)) G |_=>False)
 |.lst x=>(match b with |.lst y=>x.length+y.length<=sz/\mk fz (x++y) G k |_=>False)
 |.tup x=>(match b with |.tup y=>x.length+y.length<=sz/\k (.tup (x++y)) G |_=>False)
 |_=>False
noncomputable def gw(a b:D)(p:Int->Int->Prop):Prop:=
 match a with
 |.int i=>(match b with |.int j=>p i j |_=>False)
 |_=>False
noncomputable def jd(fz:Bool)(a b:D)(G:DH)(k:D->DH->Prop):Prop:=
 match b with
 |.int n=>(match a with |.int i=>CMul i n/\k (.int (i * n)) G |.str x=>0<=n/\n<=1000/\x.length * n.toNat<=sz/\k (.str (reps x n.toNat)) G |.tup x=>2<=n/\n<=1000/\x≠[]/\x.length * n.toNat<=sz/\k (.tup (reps x n.toNat)) G |.lst x=>0<=n/\n<=1000/\x.length * n.toNat<=sz/\mk fz (reps x n.toNat) G k |_=>False)
 |_=>False
noncomputable def b8(op:Operator)(fz:Bool)(a b:D)(G:DH)(k:D->DH->Prop):Prop:=
 match op with
 |.Add=>jc fz a b G k
 |.Sub=>gw a b λi j=>k (.int (i - j)) G
 |.Mult=>jd fz a b G k
 |.FloorDiv=>gw a b λi j=>(0 < j/\j < 1152921504606846976)/\k (.int (i / j)) G
 |.Mod=>gw a b λi j=>0 < j/\k (.int (i % j)) G
 |.Pow=>gw a b λi j=>qd i j/\k (.int (i ^ j.toNat)) G
 |_=>False
noncomputable def isIn(x:D)(ys:List D):Bool:=ys.any λy=>deq y x
noncomputable def Du(a b:D):Prop:=nr a=true/\nr b=true/\min (dpt a) (dpt b)<=60
noncomputable def inG(a:D)(l:List D):Prop:=nr a=true/\nrs l=true/\aV l<=60
noncomputable def je(a b:D)(k:Bool->Prop):Prop:=
 match a,b with
 |.int i,.int j=>k (decide (i < j))
 |.str i,.str j=>k (decide (i < j))
 |_,_=>False
noncomputable def jf(a b:D)(k:Bool->Prop):Prop:=
 match a,b with
 |.int i,.int j=>k (decide (i<=j))
 |.str i,.str j=>k (!decide (j < i))
 |_,_=>False
noncomputable def jg(a b:D)(k:Bool->Prop):Prop:=
 match a,b with
 |.int i,.int j=>k (decide (j < i))
 |_,_=>False
noncomputable def jh(a b:D)(k:Bool->Prop):Prop:=
 match a,b with
 |.int i,.int j=>k (decide (j<=i))
 |_,_=>False
noncomputable def qw(a:D):Bool:=match a with |.non=>true |_=>false
noncomputable def ji(a b:D)(k:Bool->Prop):Prop:=
 match b with
 |.non=>k (qw a)
 |.bl b=>(match a with |.bl a=>k (a==b) |_=>False)
 |_=>False
noncomputable def jj(a b:D)(k:Bool->Prop):Prop:=
 match b with
 |.non=>k (!qw a)
 |.bl b=>(match a with |.bl a=>k (a != b) |_=>False)
 |_=>False
noncomputable def fQ(a b:D)(k:Bool->Prop):Prop:=
 match b with
 |.str l=>(match a with |.str [c]=>k (l.contains c) |_=>False)
 |.lst l=>inG a l/\k (isIn a l)
 |.tup l=>inG a l/\k (isIn a l)
 |_=>False
noncomputable def aW(op:CmpOp)(a b:D)(k:Bool->Prop):Prop:=
 match op with
 |.Eq=>Du a b/\k (deq a b)
 |.NotEq=>Du a b/\k (!deq a b)
 |.Lt=>je a b k
 |.LtE=>jf a b k
 |.Gt=>jg a b k
 |.GtE=>jh a b k
 |.Is=>ji a b k
 |.IsNot=>jj a b k
 |.In=>fQ a b k
 |.NotIn=>fQ a b λc=>k (!c)
noncomputable def cg(a i:D)(k:D->Prop):Prop:=
 match a,i with
 |.lst ds,.int i=>match atI ds i with |some d=>k d |none=>False
 |.tup ds,.int i=>match atI ds i with |some d=>k d |none=>False
 |.str l,.int i=>match atI l i with |some c=>k (.str [c]) |none=>False
 |_,_=>False
noncomputable def dO(fz:Bool)(a:D)(lo hi:Option Int)(G:DH)(k:D->DH->Prop):Prop:=
 match a with
 |.lst ds=>mk fz (cut ds lo hi) G k
 |.scr ns=>mk fz ((cut ns lo hi).map .int) G k
 |.tup ds=>k (.tup (cut ds lo hi)) G
 |.str l=>k (.str (cut l lo hi)) G
 |_=>False
noncomputable def jk(fz:Bool)(a y:D)(G:DH)(k:D->DH->Prop):Prop:=
 match a with
 |.lst ds=>y=.int (-1)/\mk fz ds.reverse G k
 |.tup ds=>y=.int (-1)/\k (.tup ds.reverse) G
 |_=>False
noncomputable def bools:List D->Option (List Bool)
 |[]=>some []
 |.bl b::r=>match bools r with |some s=>some (b::s) |none=>none
 |_=>none
noncomputable def bV:List D->Option (List Int)
 |[]=>some []
 |.int b::r=>match bV r with |some s=>some (b::s) |none=>none
 |_=>none
noncomputable def bh:List D->Option (List (List Nat))
 |[]=>some []
 |.str b::r=>match bh r with |some s=>some (b::s) |none=>none
 |_=>none
noncomputable def dR(s:List Nat):List (List Nat)->List Nat
 |[]=>[]
 |[x]=>x
 |x::y::r=>x++s++dR s (y::r)
inductive Bf where
 |len |all |int |tuple |sum |min |max |str |abs |min2
inductive Lf where
 |list |sorted
inductive Mf where
 |join |append |extend |insert |count |index |pop
noncomputable def vQ(as:List D)(k:D->Prop):Prop:=
 match as with
 |[.lst ds]=>k (.int ds.length)
 |[.tup ds]=>k (.int ds.length)
 |[.str l]=>k (.int l.length)
 |_=>False
noncomputable def qx(as:List D)(k:D->Prop):Prop:=
 match as with
 |[.lst ds]=>match bools ds with |some bs=>k (.bl (bs.all id)) |none=>False
 |_=>False
noncomputable def qy(as:List D)(k:D->Prop):Prop:=
 match as with
 |[.bl b]=>k (.int (if b then 1 else 0))
 |[.int i]=>k (.int i)
 |[.str l]=>match PySem.intText? (tx l) with |some n=>l.length<=640/\k (.int n) |none=>False
 |_=>False
noncomputable def vR(as:List D)(k:D->Prop):Prop:=
 match as with
 |[.lst ds]=>k (.tup ds)
 |[.tup ds]=>k (.tup ds)
 |_=>False
noncomputable def vU(as:List D)(k:D->Prop):Prop:=
 match as with
 |[.lst ds]=>match bV ds with |some ns=>k (.int ns.sum) |none=>False
 |_=>False
noncomputable def j6(as:List D)(k:D->Prop):Prop:=
 match as with
 |[.lst ds]=>match bV ds with
  |some ns=>ns≠[]/\∀m,m∈ns->(∀a,a∈ns->m<=a)->k (.int m)
  |none=>match bh ds with
   |some ls=>∀m,m∈ls->(∀a,a∈ls->¬a < m)->k (.str m)
   |none=>False
 |_=>False
noncomputable def Dv(as:List D)(k:D->Prop):Prop:=match as with
 |[.int a]=>k (.int (if a < 0 then -a else a))
 |_=>False
noncomputable def Dw(as:List D)(k:D->Prop):Prop:=match as with
 |[.int a,.int b]=>k (.int (if b < a then b else a))
 |_=>False
noncomputable def Dy(as:List D)(k:D->Prop):Prop:=
 match as with
 |[.int a,.int b]=>k (.int (if b > a then b else a))
 |_=>False
noncomputable def gA(m:Nat):List Nat:=(vI m).cps.toList
noncomputable def vV(as:List D)(k:D->Prop):Prop:=
 match as with
 |[.int i]=>(0<=i/\i < 100)/\k (.str (gA i.toNat))
 |_=>False
noncomputable def opB:Bf->List D->(D->Prop)->Prop
 |.len=>vQ
 |.all=>qx
 |.int=>qy
 |.tuple=>vR
 |.sum=>vU
 |.min=>j6
 |.max=>Dy
 |.abs=>Dv
 |.min2=>Dw
 |.str=>vV
noncomputable def vW(as:List D)(k:List D->Prop):Prop:=
 match as with
 |[.lst ds]=>k ds
 |[.tup ds]=>k ds
 |[.str l]=>k (l.map λc=>.str [c])
 |_=>False
noncomputable def qz(as:List D)(k:List D->Prop):Prop:=
 match as with
 |[.lst ds]=>match bh ds with |some ls=>ls.length < 64/\∀ls':List (List Nat),ls'.Perm ls->PyProof.Rows.sortedS (ls'.map tx)=true->k (ls'.map D.str) |none=>False
 |[.tup ds]=>match bV ds with |some ns=>ns.length < 64/\∀ns':List Int,ns'.Perm ns->ns'.Pairwise (·<=·)->k (ns'.map D.int) |none=>False
 |_=>False
noncomputable def cM:Lf->List D->(List D->Prop)->Prop
 |.list=>vW
 |.sorted=>qz
noncomputable def isT(t:String)(d:D):Option Bool:=
 match d with
 |.non=>some false
 |.bl _=>some (t=="bool"||t=="int")
 |.int _=>some (t=="int")
 |.str _=>some (t=="str")
 |.tup _=>some (t=="tuple")
 |.lst _=>some (t=="list")
 |_=>none
noncomputable def fU (t:String):Bool:=t=="bool"||t=="int"||t=="str"||t=="tuple"||t=="list"
noncomputable def qC(o:D)(as:List D)(G:DH)(k:D->DH->Prop):Prop:=
 match o,as with
 |.str s,[.lst ds]=>match bh ds with |some ls=>((ls.map (·.length)).sum+ls.length * s.length<=sz)/\k (.str (dR s ls)) G |none=>False
 |_,_=>False
noncomputable def qD(o:D)(as:List D)(G:DH)(k:D->DH->Prop):Prop:=
 match o,as with
 |.ref p,[x]=>match G p with |some (.lst ds)=>ds.length < sz/\k .non (aF G p (.lst (ds++[x]))) |none=>False
 |_,_=>False
noncomputable def qF(o:D)(as:List D)(G:DH)(k:D->DH->Prop):Prop:=
 match o,as with
 |.ref p,[.lst xs]=>match G p with |some (.lst ds)=>ds.length+xs.length < sz/\k .non (aF G p (.lst (ds++xs))) |none=>False
 |_,_=>False
noncomputable def qG(o:D)(as:List D)(G:DH)(k:D->DH->Prop):Prop:=
 match o,as with
 |.ref p,[.int i,x]=>match G p with |some (.lst ds)=>ds.length < sz/\0<=i/\i<=1000000/\k .non (aF G p (.lst (ds.take i.toNat++x::ds.drop i.toNat))) |none=>False
 |_,_=>False
noncomputable def vX(o:D)(as:List D)(G:DH)(k:D->DH->Prop):Prop:=
 match o,as with
 |.ref p,[.int i]=>match G p with |some (.lst ds)=>0<=i/\i<=1000000/\(match ds[i.toNat]? with |some y=>k y (aF G p (.lst (ds.eraseIdx i.toNat))) |none=>False) |none=>False
 |_,_=>False
noncomputable def qH(o:D)(as:List D)(G:DH)(k:D->DH->Prop):Prop:=
 match o,as with
 |.lst ds,[.bl true]=>match bools ds with |some bs=>k (.int (bs.count true:Nat)) G |none=>False
 |_,_=>False
noncomputable def qI(o:D)(as:List D)(G:DH)(k:D->DH->Prop):Prop:=
 match o,as with
 |.lst ds,[.bl true]=>match bools ds with |some bs=>true∈bs/\k (.int (bs.idxOf true:Nat)) G |none=>False
 |_,_=>False
noncomputable def vY:D->Prop
 |.lst _=>True
 |_=>False
noncomputable def recv(m:Mf)(o:D)(G:DH):Prop:=
 match m,o with
 |.join,.str _=>True
 |.append,.ref p=>match G p with |some (.lst _)=>True |none=>False
 |.extend,.ref p=>match G p with |some (.lst _)=>True |none=>False
 |.insert,.ref p=>match G p with |some (.lst _)=>True |none=>False
 |.pop,.ref p=>match G p with |some (.lst _)=>True |none=>False
 |.count,o=>vY (view G o)
 |.index,o=>vY (view G o)
 |_,_=>False
noncomputable def opM:Mf->D->List D->DH->(D->DH->Prop)->Prop
 |.join,o,as,G,k=>qC o (as.map (view G)) G k
 |.append,o,as,G,k=>qD o as G k
 |.extend,o,as,G,k=>qF o (as.map (view G)) G k
 |.insert,o,as,G,k=>qG o as G k
 |.pop,o,as,G,k=>vX o as G k
 |.count,o,as,G,k=>qH (view G o) as G k
 |.index,o,as,G,k=>qI (view G o) as G k
noncomputable def gB (C C':String):Bool:=C==C'||C'=="SieveError"||C'=="ValueError"
mutual
inductive Tg where
 |nm (i:Nat)
 |tp (ts:Tgs)
inductive Tgs where
 |nil
 |cons (t:Tg) (r:Tgs)
end
mutual
inductive Ex where
 |var (i:Nat)
 |cst (d:D)
 |glb (x:String) (d:D)
 |bin (op:Operator) (fz:Bool) (a b:Ex)
 |neg (a:Ex)
 |cmp (op:CmpOp) (a b:Ex)
 |chn (op op':CmpOp) (a b c:Ex)
 |not (a:Ex)
 |boo (isAnd:Bool) (e:Ex) (es:Exs)
 |ife (c:Tx) (a b:Ex)
 |tup (es:Exs)
 |lst (fz:Bool) (es:Exs)
 |idx (a i:Ex)
 |slc (fz:Bool) (a:Ex) (lo hi:Ox)
 |rvs (fz:Bool) (a s:Ex)
 |call (f:String) (es:Exs)
 |bcl (f:Bf) (es:Exs)
 |lcl (fz:Bool) (f:Lf) (es:Exs)
 |isi (a:Ex) (t:String)
 |isx (a:Ex) (C:String) (xs:List String)
 |fst (es:Exs)
 |rgl (fz:Bool) (a:Ex)
 |rgt (a:Ex)
 |rpl (f:String) (a b ix:Ex)
 |fld (C f:String) (o:Ex)
 |mcl (f C m:String) (o:Ex) (es:Exs)
 |mko (C:String) (es:Exs)
 |pp0 (o:Ex)
 |mth (m:Mf) (o:Ex) (es:Exs)
 |comp (fz:Bool) (elt:Ex) (tg:Tg) (it:It') (cond:Tx) (N:List String) (cap:List (Option Nat))
 |cm3 (elt:Ex) (t1:Tg) (i1:It') (t2:Tg) (i2:It') (t3:Tg) (i3:It') (N:List String) (cap:List (Option Nat))
 |frz (a:Ex)
inductive Exs where
 |nil
 |cons (e:Ex) (es:Exs)
/-- a test -/
inductive Tx where
 |val (e:Ex)
 |not (t:Tx)
 |boo (isAnd:Bool) (t:Tx) (ts:Txs)
 |yes
inductive Txs where
 |nil
 |cons (t:Tx) (ts:Txs)
/-- a bound of a slice -/
inductive Ox where
 |no
 |ob (e:Ex)
/-- what a loop walks -/
inductive It' where
 |seq (e:Ex)
 |rng (a:Ex)
 |rng2 (a b:Ex)
 |rev (a:Ex)
 |dwn (a b c:Ex)
 |enm (e:Ex)
 |zip (a b:Ex)
end
inductive Tb where
 |call (f:String) (es:Exs)
 |asg (i:Nat) (f:String) (es:Exs)
 |pick (f g:String) (i:Nat) (es:Exs)
 |ite (c:Tx) (a b:Tb)
 |mcl (f C m:String) (o:Ex) (es:Exs)
 |mko (C:String) (es:Exs)
inductive Hd where
 |flag (i:Nat) (b:Bool)
 |bind (n i:Nat)
mutual
inductive Sx where
 |exp (e:Ex)
 |asg (t:Tg) (e:Ex)
 |set (o i e:Ex)
 |aug (i:Nat) (op:Operator) (e:Ex)
 |augs (o i:Ex) (op:Operator) (e:Ex)
 |ret (e:Ex)
 |rtn
 |ite (c:Tx) (a b:Sxs)
 |for_ (t:Tg) (it:It') (body:Sxs)
 |whl (c:Tx) (body:Sxs)
 |pas
 |brk
 |cnt
 |nev
 |rse (C:String) (es:Exs)
 |tryc (f:String) (es:Exs) (C:String) (i:Nat) (b:Bool)
 |tryx (b:Tb) (C:String) (h:Hd) (xs:List String)
inductive Sxs where
 |nil
 |cons (s:Sx) (r:Sxs)
end
structure Xn where
 cls:String
 fld:D
structure Spec where
 A:Type
 pre:List D->DH->A->Prop
 post:A->D->DH->Prop
 exc:A->Xn->DH->Prop
noncomputable abbrev EK:=Xn->DH->Prop
noncomputable def Spec.t(S:Spec)(ds:List D)(G:DH)(Q:D->DH->Prop)(E:EK):Prop:=
 ∃a,S.pre ds G a/\(∀d G',S.post a d G'->Q d G')/\∀x G',S.exc a x G'->E x G'
theorem Spec.mono{S:Spec}{ds:List D}{G:DH}{Q Q':D->DH->Prop}{E E':EK}(h:S.t ds G Q E)(hq:∀d G',Q d G'->Q' d G')(he:∀x G',E x G'->E' x G'):S.t ds G Q' E':=by obtain ⟨a,h1,h2,h3⟩:=h;exact ⟨a,h1,λd G' q=>hq _ _ (h2 d G' q),λx G' q=>he _ _ (h3 x G' q)⟩
noncomputable abbrev aa:=String->Spec
noncomputable def gC(C f:String)(d:D)(k:Addr->Prop):Prop:=match d with |.obj C' f' q=>C'=C/\f'=f/\k q |_=>False
noncomputable def dz(C m:String)(d:D):Prop:=match d with |.obj C' f' _=>C'=C/\(Str.ofString m==Str.ofString f')=false |_=>False
noncomputable def gD(d:D)(G:DH)(k:D->DH->Prop):Prop:=match d with |.ref p=>(match G p with |some (.lst ds)=>(match ds[ds.length - 1]? with |some y=>k y (aF G p (.lst ds.dropLast)) |none=>False) |none=>False) |_=>False
noncomputable def vZ(d:D)(k:List Nat->Prop):Prop:=match d with |.str l=>l.length<=1000/\k l |_=>False
noncomputable def v6(i:D)(l:List Nat)(k:List Nat->Prop):Prop:=match i with |.int n=>(match atI [48,49] n with |some c=>k (l.map λa=>if a=42 then c else a) |none=>False) |_=>False
mutual
noncomputable def aO:Tg->D->ak->DH->(ak->Prop)->Prop
 |.nm i,d,ρ,_,k=>k (ρ.set i (some d))
 |.tp ts,d,ρ,G,k=>match d with |.tup ds=>bD ts ds ρ G k |.lst ds=>bD ts ds ρ G k |_=>False
noncomputable def bD:Tgs->List D->ak->DH->(ak->Prop)->Prop
 |.nil,ds,ρ,_,k=>match ds with |[]=>k ρ |_=>False
 |.cons t r,ds,ρ,G,k=>match ds with |d::ds=>aO t d ρ G (λρ'=>bD r ds ρ' G k) |[]=>False
end
noncomputable abbrev Hld:=List (Addr×List D)
noncomputable def held:Hld->DH->Prop
 |[],_=>True
 | (a,ds)::r,G=>G a=some (.lst ds)/\held r G
noncomputable def compLoop(step:D->ak->DH->(Option D->ak->DH->Prop)->Prop)(g:Hld):List D->List D->ak->DH->(List D->DH->Prop)->Prop
 |[],acc,_,G,k=>held g G/\acc.length<=sz/\k acc G
 |d::ds,acc,ρ,G,k=>held g G/\acc.length < sz/\step d ρ G (λo ρ' G'=>match o with |some y=>compLoop step g ds (acc++[y]) ρ' G' k |none=>compLoop step g ds acc ρ' G' k)
noncomputable def dB(step:D->List D->ak->DH->(List D->ak->DH->Prop)->Prop)(g:Hld):List D->List D->ak->DH->(List D->ak->DH->Prop)->Prop
 |[],acc,ρ,G,k=>held g G/\k acc ρ G
 |d::ds,acc,ρ,G,k=>held g G/\step d acc ρ G (λacc' ρ' G'=>dB step g ds acc' ρ' G' k)
noncomputable def dC:Nat->List D->List D
 |_,[]=>[]
 |i,d::ds=>.tup [.int i,d]::dC (i+1) ds
noncomputable def bH:List D->List D->List D
 |a::as,b::bs=>.tup [a,b]::bH as bs
 |_,_=>[]
noncomputable def itemsOf(G:DH):D->Option (List D×Hld)
 |.lst ds=>some (ds,[])
 |.tup ds=>some (ds,[])
 |.str l=>some (l.map λc=>.str [c],[])
 |.ref p=>match G p with |some (.lst ds)=>some (ds,[(p,ds)]) |none=>none
 |_=>none
noncomputable def bu(lo:Int)(n:Nat):List D:=(List.range n).map λi=>.int (lo+(i:Nat))
noncomputable def qJ(lo:Int)(n:Nat):List D:=(List.range n).map λi=>.int (lo - (i:Nat))
noncomputable def noE:EK:=λ_ _=>False
mutual
noncomputable def wpE(Φ:aa):Ex->EK->ak->DH->(D->DH->Prop)->Prop
 |.var i,_,ρ,G,k=>match ρ[i]? with |some (some d)=>k d G |_=>False
 |.cst d,_,_,G,k=>k d G
 |.glb _ d,_,_,G,k=>k d G
 |.bin op fz a b,E,ρ,G,k=>wpE Φ a E ρ G λx G1=>wpE Φ b E ρ G1 λy G2=>b8 op fz (view G2 x) (view G2 y) G2 k
 |.neg a,E,ρ,G,k=>wpE Φ a E ρ G λx G1=>match x with |.int i=>k (.int (-i)) G1 |_=>False
 |.cmp op a b,E,ρ,G,k=>wpE Φ a E ρ G λx G1=>wpE Φ b E ρ G1 λy G2=>aW op (view G2 x) (view G2 y) λc=>k (.bl c) G2
 |.chn op op' a b c,E,ρ,G,k=>wpE Φ a E ρ G λx G1=>wpE Φ b E ρ G1 λy G2=>aW op (view G2 x) (view G2 y) λt=>
   match t with
   |true=>wpE Φ c E ρ G2 λz G3=>aW op' (view G3 y) (view G3 z) λt'=>k (.bl t') G3
   |false=>k (.bl false) G2
 |.not a,E,ρ,G,k=>wpE Φ a E ρ G λx G1=>match truth (view G1 x) with |some b=>k (.bl (!b)) G1 |none=>False
 |.boo isAnd e es,E,ρ,G,k=>wpE Φ e E ρ G λd G1=>match d with |.bl b=>wpB Φ es isAnd b E ρ G1 (λc G2=>k (.bl c) G2) |_=>False
 |.ife c a b,E,ρ,G,k=>wpT Φ c E ρ G λt G1=>match t with |true=>wpE Φ a E ρ G1 k |false=>wpE Φ b E ρ G1 k
 |.tup es,E,ρ,G,k=>aM Φ es E ρ G λds G1=>ds.length<=sz/\k (.tup ds) G1
 |.lst fz es,E,ρ,G,k=>aM Φ es E ρ G λds G1=>ds.length<=sz/\mk fz ds G1 k
 |.idx a i,E,ρ,G,k=>wpE Φ a E ρ G λx G1=>wpE Φ i E ρ G1 λy G2=>cg (view G2 x) y λd=>k d G2
 |.slc fz a lo hi,E,ρ,G,k=>wpE Φ a E ρ G λx G1=>wpO Φ lo E ρ G1 λl G2=>wpO Φ hi E ρ G2 λh G3=>dO fz (view G3 x) l h G3 k
 |.rvs fz a s,E,ρ,G,k=>wpE Φ a E ρ G λx G1=>wpE Φ s E ρ G1 λy G2=>jk fz (view G2 x) y G2 k
 |.call f es,E,ρ,G,k=>aM Φ es E ρ G λds G1=>(Φ f).t ds G1 k E
 |.bcl f es,E,ρ,G,k=>aM Φ es E ρ G λds G1=>opB f (ds.map (view G1)) λd=>k d G1
 |.lcl fz f es,E,ρ,G,k=>aM Φ es E ρ G λds G1=>cM f (ds.map (view G1)) λxs=>mk fz xs G1 k
 |.isi a t,E,ρ,G,k=>wpE Φ a E ρ G λx G1=>match isT t (view G1 x) with |some b=>k (.bl b) G1 |none=>False
 |.isx a C xs,E,ρ,G,k=>wpE Φ a E ρ G λx G1=>match x with |.exn c=>xs.contains c=true/\k (.bl (gB c C)) G1 |_=>False
 |.fst es,E,ρ,G,k=>wpF Φ es E ρ G λl G1=>l.length<=sz/\k (.str l) G1
 |.rgl fz a,E,ρ,G,k=>wpE Φ a E ρ G λd G1=>match d with |.int n=>(0<=n/\n<=1000)/\mk fz (bu 0 n.toNat) G1 k |_=>False
 |.rpl f a b ix,E,ρ,G,k=>wpE Φ a E ρ G λda G1=>wpE Φ b E ρ G1 λdb G2=>cg (view G2 db) (.int 0) λd0=>(Φ f).t [da,d0] G2 (λd G3=>vZ d λl=>wpE Φ ix E ρ G3 λi G4=>v6 i l λm=>k (.str m) G4) E
 |.fld C f o,E,ρ,G,k=>wpE Φ o E ρ G λd G1=>gC C f d λq=>k (.ref q) G1
 |.mcl f C m o es,E,ρ,G,k=>wpE Φ o E ρ G λd G1=>dz C m d/\aM Φ es E ρ G1 λds G2=>(Φ f).t (d::ds) G2 k E
 |.mko C es,E,ρ,G,k=>aM Φ es E ρ G λds G1=>(Φ C).t ds G1 k E
 |.pp0 o,E,ρ,G,k=>wpE Φ o E ρ G λd G1=>gD d G1 k
 |.rgt a,E,ρ,G,k=>wpE Φ a E ρ G λd G1=>match d with |.int n=>(0<=n/\n<=1000)/\k (.tup (bu 0 n.toNat)) G1 |_=>False
 |.mth m o es,E,ρ,G,k=>wpE Φ o E ρ G λx G1=>recv m x G1/\aM Φ es E ρ G1 λds G2=>opM m x ds G2 k
 |.comp fz elt tg it cond _ cap,E,ρ,G,k=>wpI Φ it E ρ G λitems g G1=>
   compLoop (λd ρ' G' k'=>aO tg d ρ' G' λρ1=>wpT Φ cond noE ρ1 G' λb G2=>match b with |true=>wpE Φ elt noE ρ1 G2 λy G3=>k' (some y) ρ1 G3 |false=>k' none ρ1 G2)
    g items [] (cap.map λo=>match o with |none=>none |some j=>(ρ[j]?).join) G1 λds G2=>mk fz ds G2 k
 |.cm3 elt t1 i1 t2 i2 t3 i3 _ cap,E,ρ,G,k=>wpI Φ i1 E ρ G λitems g G1=>dB (λd acc ρ' G' k1=>aO t1 d ρ' G' λρ1=>wpI Φ i2 noE ρ1 G' λitems2 g2 G2=>dB (λd acc ρ' G' k2=>aO t2 d ρ' G' λρ1=>wpI Φ i3 noE ρ1 G' λitems3 g3 G3=>dB (λd acc ρ' G' k3=>aO t3 d ρ' G' λρ1=>acc.length < sz/\wpE Φ elt noE ρ1 G' λy G4=>k3 (acc++[y]) ρ1 G4) g3 items3 acc ρ1 G3 k2) g2 items2 acc ρ1 G2 k1) g items [] (cap.map λo=>match o with |none=>none |some j=>(ρ[j]?).join) G1 λds _ G2=>ds.length<=sz/\mk true ds G2 k
 |.frz a,E,ρ,G,k=>wpE Φ a E ρ G λx G1=>match x with |.ref p=>(match G1 p with |some (.lst ds)=>k (.lst ds) (g8 G1 p) |none=>False) |d=>k d G1
/-- a test -/
noncomputable def wpT(Φ:aa):Tx->EK->ak->DH->(Bool->DH->Prop)->Prop
 |.not a,E,ρ,G,k=>wpT Φ a E ρ G λb G1=>k (!b) G1
 |.boo isAnd e es,E,ρ,G,k=>wpT Φ e E ρ G λb G1=>fV Φ es isAnd b E ρ G1 k
 |.yes,_,_,G,k=>k true G
 |.val x,E,ρ,G,k=>wpE Φ x E ρ G λd G1=>match truth (view G1 d) with |some b=>k b G1 |none=>False
noncomputable def wpF(Φ:aa):Exs->EK->ak->DH->(List Nat->DH->Prop)->Prop
 |.nil,_,_,G,k=>k [] G
 |.cons e es,E,ρ,G,k=>wpE Φ e E ρ G λd G1=>match d with
  |.str l=>l.length<=1000/\wpF Φ es E ρ G1 λx G2=>k (l++x) G2
  |.int i=>(0<=i/\i < 100)/\wpF Φ es E ρ G1 λx G2=>k (gA i.toNat++x) G2
  |_=>False
noncomputable def aM(Φ:aa):Exs->EK->ak->DH->(List D->DH->Prop)->Prop
 |.nil,_,_,G,k=>k [] G
 |.cons e es,E,ρ,G,k=>wpE Φ e E ρ G λd G1=>aM Φ es E ρ G1 λds G2=>k (d::ds) G2
/-- and,or as values:truths alone;b:the one ahead -/
noncomputable def wpB(Φ:aa):Exs->Bool->Bool->EK->ak->DH->(Bool->DH->Prop)->Prop
 |.nil,_,b,_,_,G,k=>k b G
 |.cons e es,isAnd,b,E,ρ,G,k=>match isAnd,b with
  |true,false=>k false G
  |false,true=>k true G
  |_,_=>wpE Φ e E ρ G λd G1=>match d with |.bl b'=>wpB Φ es isAnd b' E ρ G1 k |_=>False
noncomputable def fV(Φ:aa):Txs->Bool->Bool->EK->ak->DH->(Bool->DH->Prop)->Prop
 |.nil,_,b,_,_,G,k=>k b G
 |.cons e es,isAnd,b,E,ρ,G,k=>match isAnd,b with
  |true,false=>k false G
  |false,true=>k true G
  |_,_=>wpT Φ e E ρ G λb' G1=>fV Φ es isAnd b' E ρ G1 k
/-- a bound of a slice -/
noncomputable def wpO(Φ:aa):Ox->EK->ak->DH->(Option Int->DH->Prop)->Prop
 |.no,_,_,G,k=>k none G
 |.ob x,E,ρ,G,k=>wpE Φ x E ρ G λd G1=>match d with |.int i=>k (some i) G1 |_=>False
noncomputable def wpI(Φ:aa):It'->EK->ak->DH->(List D->Hld->DH->Prop)->Prop
 |.seq e,E,ρ,G,k=>wpE Φ e E ρ G λd G1=>match itemsOf G1 d with |some ds=>k ds.1 ds.2 G1 |none=>False
 |.rng a,E,ρ,G,k=>wpE Φ a E ρ G λd G1=>match d with |.int n=>(-(2 ^ 62)<=n/\n < 2 ^ 62)/\k (bu 0 n.toNat) [] G1 |_=>False
 |.rng2 a b,E,ρ,G,k=>wpE Φ a E ρ G λx G1=>wpE Φ b E ρ G1 λy G2=>match x,y with
  |.int m,.int n=>(-(2 ^ 62)<=m/\m < 2 ^ 62/\-(2 ^ 62)<=n/\n < 2 ^ 62)/\k (bu m (n - m).toNat) [] G2
  |_,_=>False
 |.rev a,E,ρ,G,k=>wpE Φ a E ρ G λd G1=>match d with |.int n=>(-(2 ^ 62)<=n/\n < 2 ^ 62)/\k (qJ ((n.toNat:Int) - 1) n.toNat) [] G1 |_=>False
 |.dwn a b c,E,ρ,G,k=>wpE Φ a E ρ G λx G1=>wpE Φ b E ρ G1 λy G2=>wpE Φ c E ρ G2 λz G3=>match x,y,z with
  |.int m,.int n,.int s=>(s=-1/\-(2 ^ 62)<=m/\m < 2 ^ 62/\-(2 ^ 62)<=n/\n < 2 ^ 62)/\k (qJ m (m - n).toNat) [] G3
  |_,_,_=>False
 |.enm e,E,ρ,G,k=>wpE Φ e E ρ G λd G1=>match itemsOf G1 d with |some ds=>k (dC 0 ds.1) ds.2 G1 |none=>False
 |.zip a b,E,ρ,G,k=>wpE Φ a E ρ G λx G1=>wpE Φ b E ρ G1 λy G2=>match itemsOf G2 x,itemsOf G2 y with |some ds,some es=>k (bH ds.1 es.1) (ds.2++es.2) G2 |_,_=>False
end
structure En where
 nx:ak->DH->Prop
 rt:D->DH->Prop
 bk:ak->DH->Prop
 ct:ak->DH->Prop
noncomputable def forLoop(step:D->ak->DH->(ak->DH->Prop)->Prop)(g:Hld):List D->ak->DH->(ak->DH->Prop)->Prop
 |[],ρ,G,k=>held g G/\k ρ G
 |d::ds,ρ,G,k=>held g G/\step d ρ G λρ' G'=>forLoop step g ds ρ' G' k
noncomputable def whileLoop(test:ak->DH->(Bool->DH->Prop)->Prop)(body:ak->DH->(ak->DH->Prop)->Prop):Nat->ak->DH->(ak->DH->Prop)->Prop
 |0,_,_,_=>False
 |n+1,ρ,G,k=>test ρ G λb G1=>match b with |true=>body ρ G1 λρ' G'=>whileLoop test body n ρ' G' k |false=>k ρ G1
noncomputable def dU(o i x:D)(G:DH)(k:DH->Prop):Prop:=
 match o,i with
 |.ref p,.int i=>match G p with |some (.lst ds)=>(match ixN ds.length i with |some j=>k (aF G p (.lst (ds.set j x))) |none=>False) |none=>False
 |_,_=>False
noncomputable def dD(op:Operator)(a b:D)(k:D->Prop):Prop:=
 match op,a,b with
 |.Add,.int i,.int j=>k (.int (i+j))
 |.Add,.str x,.str y=>x.length+y.length<=sz/\k (.str (x++y))
 |.Sub,.int i,.int j=>k (.int (i - j))
 |_,_,_=>False
noncomputable def v7:D->Bool
 |.int i=>decide (0<=i)&&decide (i < 100)
 |_=>false
noncomputable def wpM(Φ:aa):Exs->EK->ak->DH->(DH->Prop)->Prop
 |.nil,_,_,G,k=>k G
 |.cons e es,E,ρ,G,k=>wpE Φ e E ρ G λd G1=>v7 d=true/\wpM Φ es E ρ G1 k
noncomputable def wpX(Φ:aa):Tb->ak->DH->(ak->DH->Prop)->(Xn->ak->DH->Prop)->Prop
 |.call f es,ρ,G,nx,ex=>aM Φ es noE ρ G λds G1=>(Φ f).t ds G1 (λ_ G2=>nx ρ G2) λx G2=>ex x ρ G2
 |.asg i f es,ρ,G,nx,ex=>aM Φ es noE ρ G λds G1=>(Φ f).t ds G1 (λd G2=>nx (ρ.set i (some d)) G2) λx G2=>ex x ρ G2
 |.pick f g i es,ρ,G,nx,ex=>wpE Φ (.var i) noE ρ G λd G1=>∃b:Bool,d=.int (if b then 1 else 0)/\aM Φ es noE ρ G1 λds G2=>(Φ (if b then g else f)).t ds G2 (λ_ G3=>nx ρ G3) λx G3=>ex x ρ G3
 |.ite c a b,ρ,G,nx,ex=>wpT Φ c noE ρ G λt G1=>match t with |true=>wpX Φ a ρ G1 nx ex |false=>wpX Φ b ρ G1 nx ex
 |.mcl f C m o es,ρ,G,nx,ex=>wpE Φ o noE ρ G λd G1=>dz C m d/\aM Φ es noE ρ G1 λds G2=>(Φ f).t (d::ds) G2 (λ_ G3=>nx ρ G3) λx G3=>ex x ρ G3
 |.mko C es,ρ,G,nx,ex=>aM Φ es noE ρ G λds G1=>(Φ C).t ds G1 (λ_ G2=>nx ρ G2) λx G2=>ex x ρ G2
noncomputable def caught(h:Hd)(C:String)(ρ:ak):ak:=match h with
 |.flag i b=>ρ.set i (some (.bl b))
 |.bind n i=>((ρ.set n (some (.exn C))).set i (some (.exn C))).set n none
mutual
noncomputable def wpS(Φ:aa):Sx->EK->ak->DH->En->Prop
 |.exp e,E,ρ,G,D=>wpE Φ e E ρ G λ_ G1=>D.nx ρ G1
 |.asg t e,E,ρ,G,D=>wpE Φ e E ρ G λd G1=>aO t d ρ G1 λρ'=>D.nx ρ' G1
 |.set o i e,E,ρ,G,D=>wpE Φ e E ρ G λx G1=>wpE Φ o E ρ G1 λa G2=>wpE Φ i E ρ G2 λy G3=>dU a y x G3 λG4=>D.nx ρ G4
 |.aug i op e,E,ρ,G,D=>match ρ[i]? with
  |some (some a)=>wpE Φ e E ρ G λb G1=>dD op a b λc=>D.nx (ρ.set i (some c)) G1
  |_=>False
 |.augs o i op e,E,ρ,G,D=>wpE Φ o E ρ G λa G1=>wpE Φ i E ρ G1 λy G2=>cg (view G2 a) y λold=>wpE Φ e E ρ G2 λb G3=>dD op old b λc=>dU a y c G3 λG4=>D.nx ρ G4
 |.ret e,E,ρ,G,D=>wpE Φ e E ρ G D.rt
 |.rtn,_,_,G,D=>D.rt .non G
 |.ite c a b,E,ρ,G,D=>wpT Φ c E ρ G λt G1=>match t with |true=>au Φ a E ρ G1 D |false=>au Φ b E ρ G1 D
 |.for_ t it body,E,ρ,G,D=>wpI Φ it E ρ G λitems g G1=>
   forLoop (λd ρ' G' k=>aO t d ρ' G' λρ1=>au Φ body E ρ1 G' { D with nx:=k,ct:=k,bk:=D.nx }) g items ρ G1 D.nx
 |.whl c body,E,ρ,G,D=>∃n,whileLoop (λρ' G' k=>wpT Φ c E ρ' G' k) (λρ' G' k=>au Φ body E ρ' G' { D with nx:=k,ct:=k,bk:=D.nx }) n ρ G D.nx
 |.pas,_,ρ,G,D=>D.nx ρ G
 |.brk,_,ρ,G,D=>D.bk ρ G
 |.cnt,_,ρ,G,D=>D.ct ρ G
 |.nev,_,_,_,_=>False
 |.rse C es,E,ρ,G,_=>wpM Φ es E ρ G λG1=>E ⟨C,.non⟩ G1
 |.tryc f es C i b,_,ρ,G,D=>aM Φ es noE ρ G λds G1=>(Φ f).t ds G1 (λ_ G2=>D.nx ρ G2) λx G2=>x.cls=C/\x.fld=.non/\D.nx (ρ.set i (some (.bl b))) G2
 |.tryx b C h xs,_,ρ,G,D=>wpX Φ b ρ G D.nx λx ρ' G'=>x.fld=.non/\xs.contains x.cls=true/\gB x.cls C=true/\D.nx (caught h x.cls ρ') G'
noncomputable def au(Φ:aa):Sxs->EK->ak->DH->En->Prop
 |.nil,_,ρ,G,D=>D.nx ρ G
 |.cons s r,E,ρ,G,D=>wpS Φ s E ρ G { D with nx:=λρ' G'=>au Φ r E ρ' G' D }
end
theorem qK{Φ:aa}{a}{E}{ρ}{G}{k}:wpT Φ (.not a) E ρ G k=(wpT Φ a E ρ G λb G1=>k (!b) G1):=rfl
theorem qL{Φ:aa}{isAnd}{e}{es}{E}{ρ}{G}{k}:wpT Φ (.boo isAnd e es) E ρ G k=(wpT Φ e E ρ G λb G1=>fV Φ es isAnd b E ρ G1 k):=rfl
theorem qM{Φ:aa}{E}{ρ}{G}{k}:wpT Φ .yes E ρ G k=(k true G):=rfl
theorem jl{Φ:aa}{x}{E}{ρ}{G}{k}:wpT Φ (.val x) E ρ G k=(wpE Φ x E ρ G λd G1=>match truth (view G1 d) with |some b=>k b G1 |none=>False):=rfl
theorem gF{Φ:aa}{E}{ρ}{G}{k}:aM Φ .nil E ρ G k=(k [] G):=rfl
theorem gG{Φ:aa}{e}{es}{E}{ρ}{G}{k}:aM Φ (.cons e es) E ρ G k=(wpE Φ e E ρ G λd G1=>aM Φ es E ρ G1 λds G2=>k (d::ds) G2):=rfl
theorem qN{Φ:aa}{isAnd:Bool}{b:Bool}{E}{ρ}{G}{k}:wpB Φ .nil isAnd b E ρ G k=(k b G):=rfl
theorem j7{Φ:aa}{e}{es}{isAnd:Bool}{b:Bool}{E}{ρ}{G}{k}:wpB Φ (.cons e es) isAnd b E ρ G k=(match isAnd,b with
  |true,false=>k false G
  |false,true=>k true G
  |_,_=>wpE Φ e E ρ G λd G1=>match d with |.bl b'=>wpB Φ es isAnd b' E ρ G1 k |_=>False):=rfl
theorem qO{Φ:aa}{isAnd:Bool}{b:Bool}{E}{ρ}{G}{k}:fV Φ .nil isAnd b E ρ G k=(k b G):=rfl
theorem j8{Φ:aa}{e}{es}{isAnd:Bool}{b:Bool}{E}{ρ}{G}{k}:fV Φ (.cons e es) isAnd b E ρ G k=(match isAnd,b with
  |true,false=>k false G
  |false,true=>k true G
  |_,_=>wpT Φ e E ρ G λb' G1=>fV Φ es isAnd b' E ρ G1 k):=rfl
theorem qP{Φ:aa}{E}{ρ}{G}{k}:wpO Φ .no E ρ G k=(k none G):=rfl
theorem qQ{Φ:aa}{x}{E}{ρ}{G}{k}:wpO Φ (.ob x) E ρ G k=(wpE Φ x E ρ G λd G1=>match d with |.int i=>k (some i) G1 |_=>False):=rfl
theorem qR{Φ:aa}{e}{E}{ρ}{G}{k}:wpI Φ (.seq e) E ρ G k=(wpE Φ e E ρ G λd G1=>match itemsOf G1 d with |some ds=>k ds.1 ds.2 G1 |none=>False):=rfl
theorem qT{Φ:aa}{a}{E}{ρ}{G}{k}:wpI Φ (.rng a) E ρ G k=(wpE Φ a E ρ G λd G1=>match d with |.int n=>(-(2 ^ 62)<=n/\n < 2 ^ 62)/\k (bu 0 n.toNat) [] G1 |_=>False):=rfl
theorem v8{Φ:aa}{a}{b}{E}{ρ}{G}{k}:wpI Φ (.rng2 a b) E ρ G k=(wpE Φ a E ρ G λx G1=>wpE Φ b E ρ G1 λy G2=>match x,y with
  |.int m,.int n=>(-(2 ^ 62)<=m/\m < 2 ^ 62/\-(2 ^ 62)<=n/\n < 2 ^ 62)/\k (bu m (n - m).toNat) [] G2
  |_,_=>False):=rfl
theorem v9{Φ:aa}{a}{E}{ρ}{G}{k}:wpI Φ (.rev a) E ρ G k=(wpE Φ a E ρ G λd G1=>match d with |.int n=>(-(2 ^ 62)<=n/\n < 2 ^ 62)/\k (qJ ((n.toNat:Int) - 1) n.toNat) [] G1 |_=>False):=rfl
theorem wg{Φ:aa}{a}{b}{c}{E}{ρ}{G}{k}:wpI Φ (.dwn a b c) E ρ G k=(wpE Φ a E ρ G λx G1=>wpE Φ b E ρ G1 λy G2=>wpE Φ c E ρ G2 λz G3=>match x,y,z with
  |.int m,.int n,.int s=>(s=-1/\-(2 ^ 62)<=m/\m < 2 ^ 62/\-(2 ^ 62)<=n/\n < 2 ^ 62)/\k (qJ m (m - n).toNat) [] G3
  |_,_,_=>False):=rfl
theorem qU{Φ:aa}{e}{E}{ρ}{G}{k}:wpI Φ (.enm e) E ρ G k=(wpE Φ e E ρ G λd G1=>match itemsOf G1 d with |some ds=>k (dC 0 ds.1) ds.2 G1 |none=>False):=rfl
theorem qW{Φ:aa}{a}{b}{E}{ρ}{G}{k}:wpI Φ (.zip a b) E ρ G k=(wpE Φ a E ρ G λx G1=>wpE Φ b E ρ G1 λy G2=>match itemsOf G2 x,itemsOf G2 y with |some ds,some es=>k (bH ds.1 es.1) (ds.2++es.2) G2 |_,_=>False):=rfl
theorem jm{Φ:aa}{E}{ρ}{G}{D}:au Φ .nil E ρ G D=(D.nx ρ G):=rfl
theorem jn{Φ:aa}{s}{r}{E}{ρ}{G}{D}:au Φ (.cons s r) E ρ G D=(wpS Φ s E ρ G { D with nx:=λρ' G'=>au Φ r E ρ' G' D }):=rfl
theorem qX{Φ:aa}{i E ρ G k}:wpE Φ (.var i) E ρ G k=(match ρ[i]? with |some (some d)=>k d G |_=>False):=rfl
theorem ie{Φ:aa}{d E ρ G k}:wpE Φ (.cst d) E ρ G k=(k d G):=rfl
theorem qY{Φ:aa}{u0 d E ρ G k}:wpE Φ (.glb u0 d) E ρ G k=(k d G):=rfl
theorem qZ{Φ:aa}{op fz a b E ρ G k}:wpE Φ (.bin op fz a b) E ρ G k=(wpE Φ a E ρ G λx G1=>wpE Φ b E ρ G1 λy G2=>b8 op fz (view G2 x) (view G2 y) G2 k):=rfl
theorem q8{Φ:aa}{a E ρ G k}:wpE Φ (.neg a) E ρ G k=(wpE Φ a E ρ G λx G1=>match x with |.int i=>k (.int (-i)) G1 |_=>False):=rfl
theorem j9{Φ:aa}{op a b E ρ G k}:wpE Φ (.cmp op a b) E ρ G k=(wpE Φ a E ρ G λx G1=>wpE Φ b E ρ G1 λy G2=>aW op (view G2 x) (view G2 y) λc=>k (.bl c) G2):=rfl
theorem kh{Φ:aa}{op op' a b c E ρ G k}:wpE Φ (.chn op op' a b c) E ρ G k=(wpE Φ a E ρ G λx G1=>wpE Φ b E ρ G1 λy G2=>aW op (view G2 x) (view G2 y) λt=>
   match t with
   |true=>wpE Φ c E ρ G2 λz G3=>aW op' (view G3 y) (view G3 z) λt'=>k (.bl t') G3
   |false=>k (.bl false) G2):=rfl
theorem q9{Φ:aa}{a E ρ G k}:wpE Φ (.not a) E ρ G k=(wpE Φ a E ρ G λx G1=>match truth (view G1 x) with |some b=>k (.bl (!b)) G1 |none=>False):=rfl
theorem rm{Φ:aa}{isAnd e es E ρ G k}:wpE Φ (.boo isAnd e es) E ρ G k=(wpE Φ e E ρ G λd G1=>match d with |.bl b=>wpB Φ es isAnd b E ρ G1 (λc G2=>k (.bl c) G2) |_=>False):=rfl
theorem rn{Φ:aa}{c a b E ρ G k}:wpE Φ (.ife c a b) E ρ G k=(wpT Φ c E ρ G λt G1=>match t with |true=>wpE Φ a E ρ G1 k |false=>wpE Φ b E ρ G1 k):=rfl
theorem rz{Φ:aa}{es E ρ G k}:wpE Φ (.tup es) E ρ G k=(aM Φ es E ρ G λds G1=>ds.length<=sz/\k (.tup ds) G1):=rfl
theorem rA{Φ:aa}{fz es E ρ G k}:wpE Φ (.lst fz es) E ρ G k=(aM Φ es E ρ G λds G1=>ds.length<=sz/\mk fz ds G1 k):=rfl
theorem rB{Φ:aa}{a i E ρ G k}:wpE Φ (.idx a i) E ρ G k=(wpE Φ a E ρ G λx G1=>wpE Φ i E ρ G1 λy G2=>cg (view G2 x) y λd=>k d G2):=rfl
theorem wj{Φ:aa}{fz a s E ρ G k}:wpE Φ (.rvs fz a s) E ρ G k=(wpE Φ a E ρ G λx G1=>wpE Φ s E ρ G1 λy G2=>jk fz (view G2 x) y G2 k):=rfl
theorem rD{Φ:aa}{fz a lo hi E ρ G k}:wpE Φ (.slc fz a lo hi) E ρ G k=(wpE Φ a E ρ G λx G1=>wpO Φ lo E ρ G1 λl G2=>wpO Φ hi E ρ G2 λh G3=>dO fz (view G3 x) l h G3 k):=rfl
theorem rE{Φ:aa}{f es E ρ G k}:wpE Φ (.call f es) E ρ G k=(aM Φ es E ρ G λds G1=>(Φ f).t ds G1 k E):=rfl
theorem rF{Φ:aa}{f es E ρ G k}:wpE Φ (.bcl f es) E ρ G k=(aM Φ es E ρ G λds G1=>opB f (ds.map (view G1)) λd=>k d G1):=rfl
theorem rG{Φ:aa}{fz f es E ρ G k}:wpE Φ (.lcl fz f es) E ρ G k=(aM Φ es E ρ G λds G1=>cM f (ds.map (view G1)) λxs=>mk fz xs G1 k):=rfl
theorem rH{Φ:aa}{a t E ρ G k}:wpE Φ (.isi a t) E ρ G k=(wpE Φ a E ρ G λx G1=>match isT t (view G1 x) with |some b=>k (.bl b) G1 |none=>False):=rfl
theorem wk{Φ:aa}{a C xs E ρ G k}:wpE Φ (.isx a C xs) E ρ G k=(wpE Φ a E ρ G λx G1=>match x with |.exn c=>xs.contains c=true/\k (.bl (gB c C)) G1 |_=>False):=rfl
theorem wu{Φ:aa}{fz a E ρ G k}:wpE Φ (.rgl fz a) E ρ G k=(wpE Φ a E ρ G λd G1=>match d with |.int n=>(0<=n/\n<=1000)/\mk fz (bu 0 n.toNat) G1 k |_=>False):=rfl
theorem Zh{Φ:aa}{f a b ix E ρ G k}:wpE Φ (.rpl f a b ix) E ρ G k=(wpE Φ a E ρ G λda G1=>wpE Φ b E ρ G1 λdb G2=>cg (view G2 db) (.int 0) λd0=>(Φ f).t [da,d0] G2 (λd G3=>vZ d λl=>wpE Φ ix E ρ G3 λi G4=>v6 i l λm=>k (.str m) G4) E):=rfl
theorem rJ{Φ:aa}{C f o E ρ G k}:wpE Φ (.fld C f o) E ρ G k=(wpE Φ o E ρ G λd G1=>gC C f d λq=>k (.ref q) G1):=rfl
theorem rK{Φ:aa}{f C m o es E ρ G k}:wpE Φ (.mcl f C m o es) E ρ G k=(wpE Φ o E ρ G λd G1=>dz C m d/\aM Φ es E ρ G1 λds G2=>(Φ f).t (d::ds) G2 k E):=rfl
theorem rM{Φ:aa}{C es E ρ G k}:wpE Φ (.mko C es) E ρ G k=(aM Φ es E ρ G λds G1=>(Φ C).t ds G1 k E):=rfl
theorem rN{Φ:aa}{o E ρ G k}:wpE Φ (.pp0 o) E ρ G k=(wpE Φ o E ρ G λd G1=>gD d G1 k):=rfl
theorem ww{Φ:aa}{a E ρ G k}:wpE Φ (.rgt a) E ρ G k=(wpE Φ a E ρ G λd G1=>match d with |.int n=>(0<=n/\n<=1000)/\k (.tup (bu 0 n.toNat)) G1 |_=>False):=rfl
theorem wy{Φ:aa}{es E ρ G k}:wpE Φ (.fst es) E ρ G k=(wpF Φ es E ρ G λl G1=>l.length<=sz/\k (.str l) G1):=rfl
theorem wz{Φ:aa}{E ρ G k}:wpF Φ .nil E ρ G k=k [] G:=rfl
theorem wA{Φ:aa}{e es E ρ G k}:wpF Φ (.cons e es) E ρ G k=(wpE Φ e E ρ G λd G1=>match d with
  |.str l=>l.length<=1000/\wpF Φ es E ρ G1 λx G2=>k (l++x) G2
  |.int i=>(0<=i/\i < 100)/\wpF Φ es E ρ G1 λx G2=>k (gA i.toNat++x) G2
  |_=>False):=rfl
theorem eX{Φ:aa}{m o es E ρ G k}:wpE Φ (.mth m o es) E ρ G k=(wpE Φ o E ρ G λx G1=>recv m x G1/\aM Φ es E ρ G1 λds G2=>opM m x ds G2 k):=rfl
theorem rO{Φ:aa}{a E ρ G k}:wpE Φ (.frz a) E ρ G k=(wpE Φ a E ρ G λx G1=>match x with |.ref p=>(match G1 p with |some (.lst ds)=>k (.lst ds) (g8 G1 p) |none=>False) |d=>k d G1):=rfl
theorem rP{Φ:aa}{e E ρ G D}:wpS Φ (.exp e) E ρ G D=(wpE Φ e E ρ G λ_ G1=>D.nx ρ G1):=rfl
theorem jo{Φ:aa}{t e E ρ G D}:wpS Φ (.asg t e) E ρ G D=(wpE Φ e E ρ G λd G1=>aO t d ρ G1 λρ'=>D.nx ρ' G1):=rfl
theorem rQ{Φ:aa}{o i e E ρ G D}:wpS Φ (.set o i e) E ρ G D=(wpE Φ e E ρ G λx G1=>wpE Φ o E ρ G1 λa G2=>wpE Φ i E ρ G2 λy G3=>dU a y x G3 λG4=>D.nx ρ G4):=rfl
theorem rR{Φ:aa}{i op e E ρ G D}:wpS Φ (.aug i op e) E ρ G D=(match ρ[i]? with
  |some (some a)=>wpE Φ e E ρ G λb G1=>dD op a b λc=>D.nx (ρ.set i (some c)) G1
  |_=>False):=rfl
theorem wB{Φ:aa}{o i op e E ρ G D}:wpS Φ (.augs o i op e) E ρ G D=(wpE Φ o E ρ G λa G1=>wpE Φ i E ρ G1 λy G2=>cg (view G2 a) y λold=>wpE Φ e E ρ G2 λb G3=>dD op old b λc=>dU a y c G3 λG4=>D.nx ρ G4):=rfl
theorem rT{Φ:aa}{e E ρ G D}:wpS Φ (.ret e) E ρ G D=(wpE Φ e E ρ G D.rt):=rfl
theorem rW{Φ:aa}{E ρ G D}:wpS Φ .rtn E ρ G D=(D.rt .non G):=rfl
theorem rY{Φ:aa}{c a b E ρ G D}:wpS Φ (.ite c a b) E ρ G D=(wpT Φ c E ρ G λt G1=>match t with |true=>au Φ a E ρ G1 D |false=>au Φ b E ρ G1 D):=rfl
theorem rZ{Φ:aa}{E ρ G D}:wpS Φ .pas E ρ G D=(D.nx ρ G):=rfl
theorem sr{Φ:aa}{E ρ G D}:wpS Φ .brk E ρ G D=(D.bk ρ G):=rfl
theorem su{Φ:aa}{E ρ G D}:wpS Φ .cnt E ρ G D=(D.ct ρ G):=rfl
theorem kj{Φ:aa}{C es E ρ G D}:wpS Φ (.rse C es) E ρ G D=(wpM Φ es E ρ G λG1=>E ⟨C,.non⟩ G1):=rfl
theorem wC{Φ:aa}{E ρ G k}:wpM Φ .nil E ρ G k=k G:=rfl
theorem sy{Φ:aa}{e es E ρ G k}:wpM Φ (.cons e es) E ρ G k=(wpE Φ e E ρ G λd G1=>v7 d=true/\wpM Φ es E ρ G1 k):=rfl
theorem wD{Φ:aa}{f es C i b E ρ G D}:wpS Φ (.tryc f es C i b) E ρ G D=(aM Φ es noE ρ G λds G1=>(Φ f).t ds G1 (λ_ G2=>D.nx ρ G2) λx G2=>x.cls=C/\x.fld=.non/\D.nx (ρ.set i (some (.bl b))) G2):=rfl
theorem wF{Φ:aa}{b C h xs E ρ G D}:wpS Φ (.tryx b C h xs) E ρ G D=(wpX Φ b ρ G D.nx λx ρ' G'=>x.fld=.non/\xs.contains x.cls=true/\gB x.cls C=true/\D.nx (caught h x.cls ρ') G'):=rfl
theorem wG{Φ:aa}{f g i es ρ G nx ex}:wpX Φ (.pick f g i es) ρ G nx ex=(wpE Φ (.var i) noE ρ G λd G1=>∃b:Bool,d=.int (if b then 1 else 0)/\aM Φ es noE ρ G1 λds G2=>(Φ (if b then g else f)).t ds G2 (λ_ G3=>nx ρ G3) λx G3=>ex x ρ G3):=rfl
theorem wH{Φ:aa}{f C m o es ρ G nx ex}:wpX Φ (.mcl f C m o es) ρ G nx ex=(wpE Φ o noE ρ G λd G1=>dz C m d/\aM Φ es noE ρ G1 λds G2=>(Φ f).t (d::ds) G2 (λ_ G3=>nx ρ G3) λx G3=>ex x ρ G3):=rfl
theorem wI{Φ:aa}{C es ρ G nx ex}:wpX Φ (.mko C es) ρ G nx ex=(aM Φ es noE ρ G λds G1=>(Φ C).t ds G1 (λ_ G2=>nx ρ G2) λx G2=>ex x ρ G2):=rfl
theorem wJ{Φ:aa}{f es ρ G nx ex}:wpX Φ (.call f es) ρ G nx ex=(aM Φ es noE ρ G λds G1=>(Φ f).t ds G1 (λ_ G2=>nx ρ G2) λx G2=>ex x ρ G2):=rfl
theorem wK{Φ:aa}{i f es ρ G nx ex}:wpX Φ (.asg i f es) ρ G nx ex=(aM Φ es noE ρ G λds G1=>(Φ f).t ds G1 (λd G2=>nx (ρ.set i (some d)) G2) λx G2=>ex x ρ G2):=rfl
theorem wL{Φ:aa}{c a b ρ G nx ex}:wpX Φ (.ite c a b) ρ G nx ex=(wpT Φ c noE ρ G λt G1=>match t with |true=>wpX Φ a ρ G1 nx ex |false=>wpX Φ b ρ G1 nx ex):=rfl
theorem sE{Φ:aa}{E ρ G D}:wpS Φ .nev E ρ G D=(False):=rfl
theorem wM{Φ:aa}{fz elt tg it cond N cap E ρ G k}:wpE Φ (.comp fz elt tg it cond N cap) E ρ G k=(wpI Φ it E ρ G λitems g G1=>
   compLoop (λd ρ' G' k'=>aO tg d ρ' G' λρ1=>wpT Φ cond noE ρ1 G' λb G2=>match b with |true=>wpE Φ elt noE ρ1 G2 λy G3=>k' (some y) ρ1 G3 |false=>k' none ρ1 G2)
    g items [] (cap.map λo=>match o with |none=>none |some j=>(ρ[j]?).join) G1 λds G2=>mk fz ds G2 k):=rfl
theorem Dz{Φ:aa}{elt t1 i1 t2 i2 t3 i3 N cap E ρ G k}:wpE Φ (.cm3 elt t1 i1 t2 i2 t3 i3 N cap) E ρ G k=(wpI Φ i1 E ρ G λitems g G1=>dB (λd acc ρ' G' k1=>aO t1 d ρ' G' λρ1=>wpI Φ i2 noE ρ1 G' λitems2 g2 G2=>dB (λd acc ρ' G' k2=>aO t2 d ρ' G' λρ1=>wpI Φ i3 noE ρ1 G' λitems3 g3 G3=>dB (λd acc ρ' G' k3=>aO t3 d ρ' G' λρ1=>acc.length < sz/\wpE Φ elt noE ρ1 G' λy G4=>k3 (acc++[y]) ρ1 G4) g3 items3 acc ρ1 G3 k2) g2 items2 acc ρ1 G2 k1) g items [] (cap.map λo=>match o with |none=>none |some j=>(ρ[j]?).join) G1 λds _ G2=>ds.length<=sz/\mk true ds G2 k):=rfl
theorem DG{Φ:aa}{t it body E ρ G D}:wpS Φ (.for_ t it body) E ρ G D=(wpI Φ it E ρ G λitems g G1=>
   forLoop (λd ρ' G' k=>aO t d ρ' G' λρ1=>au Φ body E ρ1 G' { D with nx:=k,ct:=k,bk:=D.nx }) g items ρ G1 D.nx):=rfl
theorem Zi{Φ:aa}{c body E ρ G D}:wpS Φ (.whl c body) E ρ G D=(∃n,whileLoop (λρ' G' k=>wpT Φ c E ρ' G' k) (λρ' G' k=>au Φ body E ρ' G' { D with nx:=k,ct:=k,bk:=D.nx }) n ρ G D.nx):=rfl
section
variable {k k':D->DH->Prop} {G:DH}
theorem cW{fz:Bool}{xs:List D}(h:∀d G',k d G'->k' d G')(q:mk fz xs G k):mk fz xs G k':=by
 cases fz with
 |true=>exact h _ _ q
 |false=>exact λp hp=>h _ _ (q p hp)
theorem DK{a b:D}{p:Int->Int->Prop}(h:gw a b p):∃i j,a=.int i/\b=.int j/\p i j:=by
 cases a with
 |int i=>cases b with
  |int j=>exact ⟨i,j,rfl,rfl,h⟩
  |_=>exact h.elim
 |_=>exact h.elim
theorem sG{a b:D}{p q:Int->Int->Prop}(h:∀i j,p i j->q i j)(z:gw a b p):gw a b q:=by obtain ⟨i,j,rfl,rfl,z⟩:=DK z;exact h i j z
theorem DN{op:Operator}{fz:Bool}{a b:D}(h:∀d G',k d G'->k' d G')(q:b8 op fz a b G k):b8 op fz a b G k':=by
 cases op with
 |Add=>
  have q:jc fz a b G k:=q;show jc fz a b G k';unfold jc at q ⊢;cases a with
  |int i=>cases b <;> first |exact h _ _ q |exact q
  |str i=>cases b <;> first |exact ⟨q.1,h _ _ q.2⟩ |exact q
  |lst i=>cases b <;> first |exact ⟨q.1,cW h q.2⟩ |exact q
  |tup i=>cases b <;> first |exact ⟨q.1,h _ _ q.2⟩ |exact q
  |_=>exact q
 |Sub=>exact sG (λ_ _ z=>h _ _ z) q
 |Mult=>
  have q:jd fz a b G k:=q;show jd fz a b G k';unfold jd at q ⊢;cases b with
  |int n=>cases a <;> first |exact ⟨q.1,h _ _ q.2⟩ |exact ⟨q.1,q.2.1,q.2.2.1,h _ _ q.2.2.2⟩ |exact ⟨q.1,q.2.1,q.2.2.1,cW h q.2.2.2⟩ |exact ⟨q.1,q.2.1,q.2.2.1,q.2.2.2.1,h _ _ q.2.2.2.2⟩ |exact q
  |_=>exact q
 |FloorDiv=>exact sG (λ_ _ z=>⟨z.1,h _ _ z.2⟩) q
 |Mod=>exact sG (λ_ _ z=>⟨z.1,h _ _ z.2⟩) q
 |Pow=>exact sG (λ_ _ z=>⟨z.1,h _ _ z.2⟩) q
 |_=>exact q
theorem DP{a b:D}{k k':Bool->Prop}(h:∀c,k c->k' c)(q:fQ a b k):fQ a b k':=by
 unfold fQ at q ⊢;split at q
 ·split at q
  ·exact h _ q
  ·exact q
 ·exact ⟨q.1,h _ q.2⟩
 ·exact ⟨q.1,h _ q.2⟩
 ·exact q
theorem ig{op:CmpOp}{a b:D}{k k':Bool->Prop}(h:∀c,k c->k' c)(q:aW op a b k):aW op a b k':=by
 cases op with
 |Eq=>exact ⟨q.1,h _ q.2⟩
 |NotEq=>exact ⟨q.1,h _ q.2⟩
 |Lt=>have q:je a b k:=q;show je a b k';unfold je at q ⊢;split at q <;> first |exact h _ q |exact q
 |LtE=>have q:jf a b k:=q;show jf a b k';unfold jf at q ⊢;split at q <;> first |exact h _ q |exact q
 |Gt=>have q:jg a b k:=q;show jg a b k';unfold jg at q ⊢;split at q <;> first |exact h _ q |exact q
 |GtE=>have q:jh a b k:=q;show jh a b k';unfold jh at q ⊢;split at q <;> first |exact h _ q |exact q
 |Is=>
  have q:ji a b k:=q;show ji a b k';unfold ji at q ⊢;split at q
  ·exact h _ q
  ·split at q
   ·exact h _ q
   ·exact q
  ·exact q
 |IsNot=>
  have q:jj a b k:=q;show jj a b k';unfold jj at q ⊢;split at q
  ·exact h _ q
  ·split at q
   ·exact h _ q
   ·exact q
  ·exact q
 |In=>exact DP h q
 |NotIn=>exact DP (λc=>h _) q
theorem sH{a i:D}{k k':D->Prop}(h:∀c,k c->k' c)(q:cg a i k):cg a i k':=by
 unfold cg at q ⊢;split at q
 ·split at q
  ·exact h _ q
  ·exact q
 ·split at q
  ·exact h _ q
  ·exact q
 ·split at q
  ·exact h _ q
  ·exact q
 ·exact q
theorem DQ{fz:Bool}{a:D}{lo hi:Option Int}(h:∀d G',k d G'->k' d G')(q:dO fz a lo hi G k):dO fz a lo hi G k':=by
 unfold dO at q ⊢;split at q <;> first
  |exact cW h q
  |exact h _ _ q
  |exact q.elim
theorem Zj{fz:Bool}{a y:D}(h:∀d G',k d G'->k' d G')(q:jk fz a y G k):jk fz a y G k':=by
 unfold jk at q ⊢;split at q
 ·exact ⟨q.1,cW h q.2⟩
 ·exact ⟨q.1,h _ _ q.2⟩
 ·exact q.elim
theorem DR{f:Bf}{as:List D}{k k':D->Prop}(h:∀c,k c->k' c)(q:opB f as k):opB f as k':=by
 cases f with
 |len=>simp only[opB,vQ]at q ⊢;split at q <;> first |exact h _ q |exact q.elim
 |all=>
  simp only[opB,qx]at q ⊢;split at q
  ·split at q
   ·exact h _ q
   ·exact q
  ·exact q
 |int=>
  simp only[opB,qy]at q ⊢;split at q
  ·exact h _ q
  ·exact h _ q
  ·split at q
   ·exact ⟨q.1,h _ q.2⟩
   ·exact q
  ·exact q
 |tuple=>simp only[opB,vR]at q ⊢;split at q <;> first |exact h _ q |exact q.elim
 |sum=>
  simp only[opB,vU]at q ⊢;split at q
  ·split at q
   ·exact h _ q
   ·exact q
  ·exact q
 |min=>
  simp only[opB,j6]at q ⊢;split at q
  ·split at q
   ·exact ⟨q.1,λm h1 h2=>h _ (q.2 m h1 h2)⟩
   ·split at q
    ·exact λm h1 h2=>h _ (q m h1 h2)
    ·exact q
  ·exact q
 |max=>simp only[opB,Dy]at q ⊢;split at q <;> first |exact h _ q |exact q.elim
 |abs=>simp only[opB,Dv]at q ⊢;split at q <;> first |exact h _ q |exact q.elim
 |min2=>simp only[opB,Dw]at q ⊢;split at q <;> first |exact h _ q |exact q.elim
 |str=>
  simp only[opB,vV]at q ⊢;split at q
  ·exact ⟨q.1,h _ q.2⟩
  ·exact q
theorem DW{f:Lf}{as:List D}{k k':List D->Prop}(h:∀c,k c->k' c)(q:cM f as k):cM f as k':=by
 cases f with
 |list=>simp only[cM,vW]at q ⊢;split at q <;> first |exact h _ q |exact q.elim
 |sorted=>
  simp only[cM,qz]at q ⊢;split at q
  ·split at q
   ·exact ⟨q.1,λls p z=>h _ (q.2 ls p z)⟩
   ·exact q
  ·split at q
   ·exact ⟨q.1,λls p z=>h _ (q.2 ls p z)⟩
   ·exact q
  ·exact q
theorem gH{m:Mf}{o:D}{as:List D}(h:∀d G',k d G'->k' d G')(q:opM m o as G k):opM m o as G k':=by
 cases m with
 |join=>
  simp only[opM,qC]at q ⊢;split at q
  ·split at q
   ·exact ⟨q.1,h _ _ q.2⟩
   ·exact q
  ·exact q
 |append=>
  simp only[opM,qD]at q ⊢;split at q
  ·split at q
   ·exact ⟨q.1,h _ _ q.2⟩
   ·exact q
  ·exact q
 |extend=>
  simp only[opM,qF]at q ⊢;split at q
  ·split at q
   ·exact ⟨q.1,h _ _ q.2⟩
   ·exact q
  ·exact q
 |insert=>
  simp only[opM,qG]at q ⊢;split at q
  ·split at q
   ·exact ⟨q.1,q.2.1,q.2.2.1,h _ _ q.2.2.2⟩
   ·exact q
  ·exact q
 |pop=>
  simp only[opM,vX]at q ⊢;split at q
  ·split at q
   ·refine ⟨q.1,q.2.1,?_⟩;have q2:=q.2.2;split at q2
    ·exact h _ _ q2
    ·exact q2
   ·exact q
  ·exact q
 |count=>
  simp only[opM,qH]at q ⊢;split at q
  ·split at q
   ·exact h _ _ q
   ·exact q
  ·exact q
 |index=>
  simp only[opM,qI]at q ⊢;split at q
  ·split at q
   ·exact ⟨q.1,h _ _ q.2⟩
   ·exact q
  ·exact q
theorem wN{o i x:D}{k k':DH->Prop}(h:∀G',k G'->k' G')(q:dU o i x G k):dU o i x G k':=by
 unfold dU at q ⊢;split at q
 ·split at q
  ·split at q
   ·exact h _ q
   ·exact q
  ·exact q
 ·exact q
theorem wO{op:Operator}{a b:D}{k k':D->Prop}(h:∀c,k c->k' c)(q:dD op a b k):dD op a b k':=by
 unfold dD at q ⊢;split at q <;> first
  |exact h _ q
  |exact ⟨q.1,h _ q.2⟩
  |exact q.elim
mutual
theorem cN{k k':ak->Prop}(h:∀ρ,k ρ->k' ρ):∀(t:Tg){d:D}{ρ:ak},aO t d ρ G k->aO t d ρ G k'
 |.nm i,d,ρ,q=>h _ q
 |.tp ts,d,ρ,q=>by
  unfold aO at q ⊢;split at q
  ·exact wQ h ts q
  ·exact wQ h ts q
  ·exact q
theorem wQ{k k':ak->Prop}(h:∀ρ,k ρ->k' ρ):∀(ts:Tgs){ds:List D}{ρ:ak},bD ts ds ρ G k->bD ts ds ρ G k'
 |.nil,ds,ρ,q=>by
  unfold bD at q ⊢;split at q
  ·exact h _ q
  ·exact q
 |.cons t r,ds,ρ,q=>by
  unfold bD at q ⊢;split at q
  ·exact cN (λρ' q'=>wQ h r q') t q
  ·exact q
end
theorem sI{step step':D->ak->DH->(Option D->ak->DH->Prop)->Prop}(hs:∀d ρ G (k k':Option D->ak->DH->Prop),(∀o ρ' G',k o ρ' G'->k' o ρ' G')->step d ρ G k->step' d ρ G k')
  {g:Hld} {k k':List D->DH->Prop} (h:∀ds G',k ds G'->k' ds G'):∀(ds acc:List D)(ρ:ak)(G:DH),compLoop step g ds acc ρ G k->compLoop step' g ds acc ρ G k'
 |[],acc,ρ,G,q=>⟨q.1,q.2.1,h _ _ q.2.2⟩
 |d::ds,acc,ρ,G,q=>by
  refine ⟨q.1,q.2.1,hs d ρ G _ _ (λo ρ' G' z=>?_) q.2.2⟩;cases o with
  |some y=>exact sI hs h ds (acc++[y]) ρ' G' z
  |none=>exact sI hs h ds acc ρ' G' z
theorem sJ{step step':D->List D->ak->DH->(List D->ak->DH->Prop)->Prop}(hs:∀d acc ρ G (k k':List D->ak->DH->Prop),(∀a ρ' G',k a ρ' G'->k' a ρ' G')->step d acc ρ G k->step' d acc ρ G k')
  {g:Hld} {k k':List D->ak->DH->Prop} (h:∀a ρ G',k a ρ G'->k' a ρ G'):∀(ds acc:List D)(ρ:ak)(G:DH),dB step g ds acc ρ G k->dB step' g ds acc ρ G k'
 |[],acc,ρ,G,q=>⟨q.1,h _ _ _ q.2⟩
 |d::ds,acc,ρ,G,q=>⟨q.1,hs d acc ρ G _ _ (λa ρ' G' z=>sJ hs h ds a ρ' G' z) q.2⟩
theorem DX{step step':D->ak->DH->(ak->DH->Prop)->Prop}(hs:∀d ρ G (k k':ak->DH->Prop),(∀ρ' G',k ρ' G'->k' ρ' G')->step d ρ G k->step' d ρ G k')
  {g:Hld} {k k':ak->DH->Prop} (h:∀ρ G',k ρ G'->k' ρ G'):∀(ds:List D)(ρ:ak)(G:DH),forLoop step g ds ρ G k->forLoop step' g ds ρ G k'
 |[],ρ,G,q=>⟨q.1,h _ _ q.2⟩
 |d::ds,ρ,G,q=>⟨q.1,hs d ρ G _ _ (λρ' G' z=>DX hs h ds ρ' G' z) q.2⟩
theorem DY{test test':ak->DH->(Bool->DH->Prop)->Prop}{body body':ak->DH->(ak->DH->Prop)->Prop}
  (ht:∀ρ G (k k':Bool->DH->Prop),(∀b G',k b G'->k' b G')->test ρ G k->test' ρ G k') (hb:∀ρ G (k k':ak->DH->Prop),(∀ρ' G',k ρ' G'->k' ρ' G')->body ρ G k->body' ρ G k')
  {k k':ak->DH->Prop} (h:∀ρ G',k ρ G'->k' ρ G'):∀(n:Nat)(ρ:ak)(G:DH),whileLoop test body n ρ G k->whileLoop test' body' n ρ G k'
 |0,ρ,G,q=>q
 |n+1,ρ,G,q=>ht ρ G _ _ (λb G' z=>by
   cases b with
   |true=>exact hb ρ G' _ _ (λρ' G'' z'=>DY ht hb h n ρ' G'' z') z
   |false=>exact h _ _ z) q
end
section
variable {Φ:aa} {G:DH}
mutual
theorem aC{E:EK}{ρ:ak}:∀(x:Ex){G:DH}{k k':D->DH->Prop},(∀d G',k d G'->k' d G')->wpE Φ x E ρ G k->wpE Φ x E ρ G k'
 |.var i,G,k,k',h,q=>by
  rw[qX]at q ⊢;split at q
  ·exact h _ _ q
  ·exact q
 |.cst d,G,k,k',h,q=>by rw[ie]at q ⊢;exact h _ _ q
 |.glb x d,G,k,k',h,q=>by rw[qY]at q ⊢;exact h _ _ q
 |.bin op fz a b,G,k,k',h,q=>by
  rw[qZ]at q ⊢;exact aC a (λ_ _ q=>aC b (λ_ _ q=>DN h q) q) q
 |.neg a,G,k,k',h,q=>by
  rw[q8]at q ⊢;refine aC a (λx _ q=>?_) q;split at q
  ·exact h _ _ q
  ·exact q
 |.cmp op a b,G,k,k',h,q=>by
  rw[j9]at q ⊢;exact aC a (λ_ _ q=>aC b (λ_ _ q=>ig (λ_ q=>h _ _ q) q) q) q
 |.chn op op' a b c,G,k,k',h,q=>by
  rw[kh]at q ⊢;refine aC a (λ_ _ q=>aC b (λ_ _ q=>ig (λt q=>?_) q) q) q;cases t with
  |true=>exact aC c (λ_ _ q=>ig (λ_ q=>h _ _ q) q) q
  |false=>exact h _ _ q
 |.not a,G,k,k',h,q=>by
  rw[q9]at q ⊢;refine aC a (λx _ q=>?_) q;split at q
  ·exact h _ _ q
  ·exact q
 |.boo isAnd e es,G,k,k',h,q=>by
  rw[rm]at q ⊢;refine aC e (λx _ q=>?_) q;split at q
  ·exact sO es (λ_ _ q=>h _ _ q) q
  ·exact q
 |.ife c a b,G,k,k',h,q=>by
  rw[rn]at q ⊢;refine dh c (λt _ q=>?_) q;cases t with
  |true=>exact aC a h q
  |false=>exact aC b h q
 |.tup es,G,k,k',h,q=>by
  rw[rz]at q ⊢;exact cj es (λ_ _ q=>⟨q.1,h _ _ q.2⟩) q
 |.lst fz es,G,k,k',h,q=>by
  rw[rA]at q ⊢;exact cj es (λ_ _ q=>⟨q.1,cW h q.2⟩) q
 |.idx a i,G,k,k',h,q=>by
  rw[rB]at q ⊢;exact aC a (λ_ _ q=>aC i (λ_ _ q=>sH (λ_ q=>h _ _ q) q) q) q
 |.slc fz a lo hi,G,k,k',h,q=>by
  rw[rD]at q ⊢;exact aC a (λ_ _ q=>wU lo (λ_ _ q=>wU hi (λ_ _ q=>DQ h q) q) q) q
 |.rvs fz a s,G,k,k',h,q=>by
  rw[wj]at q ⊢;exact aC a (λ_ _ q=>aC s (λ_ _ q=>Zj h q) q) q
 |.call f es,G,k,k',h,q=>by
  rw[rE]at q ⊢;exact cj es (λ_ _ q=>Spec.mono q h λ_ _ z=>z) q
 |.bcl f es,G,k,k',h,q=>by
  rw[rF]at q ⊢;exact cj es (λ_ _ q=>DR (λ_ q=>h _ _ q) q) q
 |.lcl fz f es,G,k,k',h,q=>by
  rw[rG]at q ⊢;exact cj es (λ_ _ q=>DW (λ_ q=>cW h q) q) q
 |.isi a t,G,k,k',h,q=>by
  rw[rH]at q ⊢;refine aC a (λx _ q=>?_) q;split at q
  ·exact h _ _ q
  ·exact q
 |.isx a C xs,G,k,k',h,q=>by
  rw[wk]at q ⊢;refine aC a (λx _ q=>?_) q;split at q
  ·exact ⟨q.1,h _ _ q.2⟩
  ·exact q
 |.rgl fz a,G,k,k',h,q=>by
  rw[wu]at q ⊢;refine aC a (λd _ q=>?_) q;split at q
  ·exact ⟨q.1,cW h q.2⟩
  ·exact q
 |.rpl f a b ix,G,k,k',h,q=>by
  rw[Zh]at q ⊢;refine aC a (λ_ _ q=>aC b (λ_ _ q=>sH (λ_ q=>Spec.mono q (λd G3 q=>?_) λ_ _ z=>z) q) q) q;unfold vZ at q ⊢;split at q
  ·refine ⟨q.1,aC ix (λi G4 q=>?_) q.2⟩;unfold v6 at q ⊢;split at q
   ·split at q
    ·exact h _ _ q
    ·exact q
   ·exact q
  ·exact q
 |.fld C f o,G,k,k',h,q=>by
  rw[rJ]at q ⊢;refine aC o (λd _ q=>?_) q;unfold gC at q ⊢;split at q
  ·exact ⟨q.1,q.2.1,h _ _ q.2.2⟩
  ·exact q
 |.mcl f C m o es,G,k,k',h,q=>by
  rw[rK]at q ⊢;exact aC o (λd _ q=>⟨q.1,cj es (λ_ _ q=>Spec.mono q h λ_ _ z=>z) q.2⟩) q
 |.mko C es,G,k,k',h,q=>by
  rw[rM]at q ⊢;exact cj es (λ_ _ q=>Spec.mono q h λ_ _ z=>z) q
 |.pp0 o,G,k,k',h,q=>by
  rw[rN]at q ⊢;refine aC o (λd _ q=>?_) q;unfold gD at q ⊢;split at q
  ·split at q
   ·split at q
    ·exact h _ _ q
    ·exact q
   ·exact q
  ·exact q
 |.rgt a,G,k,k',h,q=>by
  rw[ww]at q ⊢;refine aC a (λd _ q=>?_) q;split at q
  ·exact ⟨q.1,h _ _ q.2⟩
  ·exact q
 |.fst es,G,k,k',h,q=>by
  rw[wy]at q ⊢;exact wR es (λ_ _ q=>⟨q.1,h _ _ q.2⟩) q
 |.mth m o es,G,k,k',h,q=>by
  rw[eX]at q ⊢;exact aC o (λ_ _ q=>⟨q.1,cj es (λ_ _ q=>gH h q) q.2⟩) q
 |.comp fz elt tg it cond N cap,G,k,k',h,q=>by
  rw[wM]at q ⊢;refine eY it (λitems g G1 q=>?_) q;refine sI ?_ (λds G2 z=>cW h z) items [] _ G1 q;intro d ρ' G' k k' hk z;refine cN (λρ1 z=>?_) tg z;refine dh cond (λb G2 z=>?_) z;cases b with
  |true=>exact aC elt (λy G3 z=>hk _ _ _ z) z
  |false=>exact hk _ _ _ z
 |.cm3 elt t1 i1 t2 i2 t3 i3 N cap,G,k,k',h,q=>by
  rw[Dz]at q ⊢;refine eY i1 (λitems g G1 q=>?_) q;refine sJ ?_ (λds _ G2 z=>⟨z.1,cW h z.2⟩) items [] _ G1 q;intro d acc ρ' G' k k' hk z;refine cN (λρ1 z=>eY i2 (λitems g G1 q=>?_) z) t1 z;refine sJ ?_ hk items _ _ G1 q;intro d acc ρ' G' k k' hk z;refine cN (λρ1 z=>eY i3 (λitems g G1 q=>?_) z) t2 z;refine sJ ?_ hk items _ _ G1 q;intro d acc ρ' G' k k' hk z;exact cN (λρ1 z=>⟨z.1,aC elt (λy G3 z=>hk _ _ _ z) z.2⟩) t3 z
 |.frz a,G,k,k',h,q=>by
  rw[rO]at q ⊢;refine aC a (λx G1 q=>?_) q;split at q
  ·split at q
   ·exact h _ _ q
   ·exact q
  ·exact h _ _ q
theorem dh{E:EK}{ρ:ak}:∀(x:Tx){G:DH}{k k':Bool->DH->Prop},(∀d G',k d G'->k' d G')->wpT Φ x E ρ G k->wpT Φ x E ρ G k'
 |.not a,G,k,k',h,q=>by rw[qK]at q ⊢;exact dh a (λ_ _ q=>h _ _ q) q
 |.boo isAnd e es,G,k,k',h,q=>by rw[qL]at q ⊢;exact dh e (λ_ _ q=>sS es h q) q
 |.yes,G,k,k',h,q=>by rw[qM]at q ⊢;exact h _ _ q
 |.val a,G,k,k',h,q=>by
  rw[jl]at q ⊢;refine aC a (λx _ q=>?_) q;split at q
  ·exact h _ _ q
  ·exact q
theorem wR{E:EK}{ρ:ak}:∀(x:Exs){G:DH}{k k':List Nat->DH->Prop},(∀d G',k d G'->k' d G')->wpF Φ x E ρ G k->wpF Φ x E ρ G k'
 |.nil,G,k,k',h,q=>by rw[wz]at q ⊢;exact h _ _ q
 |.cons e es,G,k,k',h,q=>by
  rw[wA]at q ⊢;refine aC e (λd _ q=>?_) q;split at q
  ·exact ⟨q.1,wR es (λ_ _ q=>h _ _ q) q.2⟩
  ·exact ⟨q.1,wR es (λ_ _ q=>h _ _ q) q.2⟩
  ·exact q
theorem cj{E:EK}{ρ:ak}:∀(x:Exs){G:DH}{k k':List D->DH->Prop},(∀d G',k d G'->k' d G')->aM Φ x E ρ G k->aM Φ x E ρ G k'
 |.nil,G,k,k',h,q=>by rw[gF]at q ⊢;exact h _ _ q
 |.cons e es,G,k,k',h,q=>by rw[gG]at q ⊢;exact aC e (λ_ _ q=>cj es (λ_ _ q=>h _ _ q) q) q
theorem sO{E:EK}{ρ:ak}:∀(x:Exs){isAnd b:Bool}{G:DH}{k k':Bool->DH->Prop},(∀d G',k d G'->k' d G')->wpB Φ x isAnd b E ρ G k->wpB Φ x isAnd b E ρ G k'
 |.nil,_,_,G,k,k',h,q=>by rw[qN]at q ⊢;exact h _ _ q
 |.cons e es,isAnd,b,G,k,k',h,q=>by
  rw[j7]at q ⊢;cases isAnd <;> cases b <;> first
   |exact h _ _ q
   | (refine aC e (λd _ q=>?_) q
      split at q
      ·exact sO es h q
      ·exact q)
theorem sS{E:EK}{ρ:ak}:∀(x:Txs){isAnd b:Bool}{G:DH}{k k':Bool->DH->Prop},(∀d G',k d G'->k' d G')->fV Φ x isAnd b E ρ G k->fV Φ x isAnd b E ρ G k'
 |.nil,_,_,G,k,k',h,q=>by rw[qO]at q ⊢;exact h _ _ q
 |.cons e es,isAnd,b,G,k,k',h,q=>by
  rw[j8]at q ⊢;cases isAnd <;> cases b <;> first
   |exact h _ _ q
   |exact dh e (λd _ q=>sS es h q) q
theorem wU{E:EK}{ρ:ak}:∀(x:Ox){G:DH}{k k':Option Int->DH->Prop},(∀d G',k d G'->k' d G')->wpO Φ x E ρ G k->wpO Φ x E ρ G k'
 |.no,G,k,k',h,q=>by rw[qP]at q ⊢;exact h _ _ q
 |.ob a,G,k,k',h,q=>by
  rw[qQ]at q ⊢;refine aC a (λx _ q=>?_) q;split at q
  ·exact h _ _ q
  ·exact q
theorem eY{E:EK}{ρ:ak}:∀(x:It'){G:DH}{k k':List D->Hld->DH->Prop},(∀d g G',k d g G'->k' d g G')->wpI Φ x E ρ G k->wpI Φ x E ρ G k'
 |.seq a,G,k,k',h,q=>by
  rw[qR]at q ⊢;refine aC a (λx _ q=>?_) q;split at q
  ·exact h _ _ _ q
  ·exact q
 |.rng a,G,k,k',h,q=>by
  rw[qT]at q ⊢;refine aC a (λx _ q=>?_) q;split at q
  ·exact ⟨q.1,h _ _ _ q.2⟩
  ·exact q
 |.rev a,G,k,k',h,q=>by
  rw[v9]at q ⊢;refine aC a (λx _ q=>?_) q;split at q
  ·exact ⟨q.1,h _ _ _ q.2⟩
  ·exact q
 |.dwn a b d,G,k,k',h,q=>by
  rw[wg]at q ⊢;refine aC a (λx _ q=>aC b (λy _ q=>aC d (λz _ q=>?_) q) q) q;split at q
  ·exact ⟨q.1,h _ _ _ q.2⟩
  ·exact q
 |.rng2 a b,G,k,k',h,q=>by
  rw[v8]at q ⊢;refine aC a (λx _ q=>aC b (λy _ q=>?_) q) q;split at q
  ·exact ⟨q.1,h _ _ _ q.2⟩
  ·exact q
 |.enm a,G,k,k',h,q=>by
  rw[qU]at q ⊢;refine aC a (λx _ q=>?_) q;split at q
  ·exact h _ _ _ q
  ·exact q
 |.zip a b,G,k,k',h,q=>by
  rw[qW]at q ⊢;refine aC a (λx _ q=>aC b (λy _ q=>?_) q) q;split at q
  ·exact h _ _ _ q
  ·exact q
end
structure En.Le(D D':En):Prop where
 nx:∀ρ G,D.nx ρ G->D'.nx ρ G
 rt:∀d G,D.rt d G->D'.rt d G
 bk:∀ρ G,D.bk ρ G->D'.bk ρ G
 ct:∀ρ G,D.ct ρ G->D'.ct ρ G
theorem wV:∀(b:Tb){ρ:ak}{G:DH}{nx nx':ak->DH->Prop}{ex ex':Xn->ak->DH->Prop},(∀ρ G,nx ρ G->nx' ρ G)->(∀x ρ G,ex x ρ G->ex' x ρ G)->wpX Φ b ρ G nx ex->wpX Φ b ρ G nx' ex'
 |.call f es,ρ,G,nx,nx',ex,ex',h,h',q=>by rw[wJ]at q ⊢;exact cj es (λ_ _ q=>Spec.mono q (λ_ _ z=>h _ _ z) λ_ _ z=>h' _ _ _ z) q
 |.pick f g i es,ρ,G,nx,nx',ex,ex',h,h',q=>by
  rw[wG]at q ⊢;exact aC (.var i) (λ_ _ q=>let ⟨b,e,q⟩:=q;⟨b,e,cj es (λ_ _ q=>Spec.mono q (λ_ _ z=>h _ _ z) λ_ _ z=>h' _ _ _ z) q⟩) q
 |.mcl f C m o es,ρ,G,nx,nx',ex,ex',h,h',q=>by
  rw[wH]at q ⊢;exact aC o (λ_ _ q=>⟨q.1,cj es (λ_ _ q=>Spec.mono q (λ_ _ z=>h _ _ z) λ_ _ z=>h' _ _ _ z) q.2⟩) q
 |.mko C es,ρ,G,nx,nx',ex,ex',h,h',q=>by rw[wI]at q ⊢;exact cj es (λ_ _ q=>Spec.mono q (λ_ _ z=>h _ _ z) λ_ _ z=>h' _ _ _ z) q
 |.asg i f es,ρ,G,nx,nx',ex,ex',h,h',q=>by rw[wK]at q ⊢;exact cj es (λ_ _ q=>Spec.mono q (λ_ _ z=>h _ _ z) λ_ _ z=>h' _ _ _ z) q
 |.ite c a b,ρ,G,nx,nx',ex,ex',h,h',q=>by
  rw[wL]at q ⊢;refine dh c (λt _ q=>?_) q;cases t with
  |true=>exact wV a h h' q
  |false=>exact wV b h h' q
mutual
theorem wpS_mono{E:EK}:∀(x:Sx){ρ:ak}{G:DH}{D D':En},D.Le D'->wpS Φ x E ρ G D->wpS Φ x E ρ G D'
 |.exp e,ρ,G,D,D',h,q=>by rw[rP]at q ⊢;exact aC e (λ_ _ q=>h.nx _ _ q) q
 |.asg t e,ρ,G,D,D',h,q=>by rw[jo]at q ⊢;exact aC e (λ_ _ q=>cN (λ_ q=>h.nx _ _ q) t q) q
 |.set o i e,ρ,G,D,D',h,q=>by rw[rQ]at q ⊢;exact aC e (λ_ _ q=>aC o (λ_ _ q=>aC i (λ_ _ q=>wN (λ_ q=>h.nx _ _ q) q) q) q) q
 |.aug i op e,ρ,G,D,D',h,q=>by
  rw[rR]at q ⊢;split at q
  ·exact aC e (λ_ _ q=>wO (λ_ q=>h.nx _ _ q) q) q
  ·exact q
 |.augs o i op e,ρ,G,D,D',h,q=>by
  rw[wB]at q ⊢;exact aC o (λ_ _ q=>aC i (λ_ _ q=>sH (λ_ q=>aC e (λ_ _ q=>wO (λ_ q=>wN (λ_ q=>h.nx _ _ q) q) q) q) q) q) q
 |.ret e,ρ,G,D,D',h,q=>by rw[rT]at q ⊢;exact aC e (λ_ _ q=>h.rt _ _ q) q
 |.rtn,ρ,G,D,D',h,q=>by rw[rW]at q ⊢;exact h.rt _ _ q
 |.ite c a b,ρ,G,D,D',h,q=>by
  rw[rY]at q ⊢;refine dh c (λt _ q=>?_) q;cases t with
  |true=>exact dW a h q
  |false=>exact dW b h q
 |.for_ t it body,ρ,G,D,D',h,q=>by
  rw[DG]at q ⊢;exact eY it (λitems g G1 q=>DX (λd ρ' G' k k' hk z=>cN (λρ1 z=>dW body (D:={ D with nx:=k,ct:=k,bk:=D.nx }) (D':={ D' with nx:=k',ct:=k',bk:=D'.nx }) ⟨hk,h.rt,h.nx,hk⟩ z) t z) h.nx items ρ G1 q) q
 |.whl c body,ρ,G,D,D',h,q=>by
  rw[Zi]at q ⊢;obtain ⟨n,q⟩:=q;refine ⟨n,?_⟩;refine DY ?_ ?_ h.nx n ρ G q
  ·exact λρ' G' k k' hk z=>dh c hk z
  ·exact λρ' G' k k' hk z=>dW body (D:={ D with nx:=k,ct:=k,bk:=D.nx }) (D':={ D' with nx:=k',ct:=k',bk:=D'.nx }) ⟨hk,h.rt,h.nx,hk⟩ z
 |.pas,ρ,G,D,D',h,q=>by rw[rZ]at q ⊢;exact h.nx _ _ q
 |.brk,ρ,G,D,D',h,q=>by rw[sr]at q ⊢;exact h.bk _ _ q
 |.cnt,ρ,G,D,D',h,q=>by rw[su]at q ⊢;exact h.ct _ _ q
 |.nev,ρ,G,D,D',h,q=>by rw[sE]at q;exact q.elim
 |.rse C es,ρ,G,D,D',h,q=>by rw[kj]at q ⊢;exact q
 |.tryc f es C i b,ρ,G,D,D',h,q=>by rw[wD]at q ⊢;exact cj es (λ_ _ q=>Spec.mono q (λ_ _ z=>h.nx _ _ z) λ_ _ z=>⟨z.1,z.2.1,h.nx _ _ z.2.2⟩) q
 |.tryx b C hd xs,ρ,G,D,D',h,q=>by rw[wF]at q ⊢;exact wV b (λ_ _ z=>h.nx _ _ z) (λ_ _ _ z=>⟨z.1,z.2.1,z.2.2.1,h.nx _ _ z.2.2.2⟩) q
theorem dW{E:EK}:∀(x:Sxs){ρ:ak}{G:DH}{D D':En},D.Le D'->au Φ x E ρ G D->au Φ x E ρ G D'
 |.nil,ρ,G,D,D',h,q=>by rw[jm]at q ⊢;exact h.nx _ _ q
 |.cons s r,ρ,G,D,D',h,q=>by rw[jn]at q ⊢;exact wpS_mono s (D:={ D with nx:=λρ' G'=>au Φ r E ρ' G' D }) (D':={ D' with nx:=λρ' G'=>au Φ r E ρ' G' D' }) ⟨λ_ _ z=>dW r h z,h.rt,h.bk,h.ct⟩ q
end
end
noncomputable def PV(K:PF)(H:Hp)(F:FZ)(Q:VK):D->DH->Prop:=λd G'=>∀H' F' v,Ext H F H' F'->R K H' F' G'->Rep K H' F' d v->Q v H'
noncomputable def PB(K:PF)(H:Hp)(F:FZ)(Q:Bool->Hp->Prop):Bool->DH->Prop:=λb G'=>∀H' F',Ext H F H' F'->R K H' F' G'->Q b H'
noncomputable def PLs(K:PF)(H:Hp)(F:FZ)(Q:List V->Hp->Prop):List D->DH->Prop:=λds G'=>∀H' F' vs,Ext H F H' F'->R K H' F' G'->Reps K H' F' ds vs->Q vs H'
section
variable {K:PF} {H:Hp} {F:FZ} {G:DH} {Q:VK}
theorem PV.now{d:D}{v:V}(h:PV K H F Q d G)(r:R K H F G)(q:Rep K H F d v):Q v H:=h H F v (Ext.refl H F) r q
theorem eZ{fz:Bool}{ds:List D}{vs:List V}(h:mk fz ds G (PV K H F Q))(r:R K H F G)(t:Reps K H F ds vs)(p:Addr)(hp:H p=none):Q (.ref p) (upd H p (.lst vs)):=by
 cases fz with
 |true=>exact h _ _ _ (vM r hp) (r.newF hp) (Ze r hp t)
 |false=>exact h p (r.free hp) _ _ _ (dg r hp) (r.newL hp t) rfl
theorem km{ds:List D}{vs:List V}(h:PV K H F Q (.tup ds) G)(r:R K H F G)(t:Reps K H F ds vs)(p:Addr)(hp:H p=none):Q (.ref p) (upd H p (.tup vs)):=
 h _ _ _ (dg r hp) (r.new hp) (vO r hp t)
end
theorem szl:sz<=sizeLine:=by rw[fI];decide
theorem cO{n:Nat}(h:n<=sz):n<=sizeLine:=bv h szl
noncomputable def rB2(K:PF)(f:D->D->DH->(D->DH->Prop)->Prop):R2:=λx y H Q=>∃F G a b,R K H F G/\Rep K H F a x/\Rep K H F b y/\f (view G a) (view G b) G (PV K H F Q)
section
variable {X:Cx}
theorem Zk:OpR X (binaryOp .Add) (λx y H Q=>∃a b xs ys,x=.ref a/\y=.ref b/\SqL X.K H a xs/\SqL X.K H b ys/\xs.length+ys.length<=sizeLine/\∀p,H p=none->Q (.ref p) (upd H p (.lst (xs++ys)))):=by
 intro pins s σ H x y v u Q I rx ry h;obtain ⟨a,b,xs,ys,rfl,rfl,ha,hb,hz,q⟩:=h;cases rx;cases ry;obtain ⟨its,r1,p1,_⟩:=I.list ha;obtain ⟨its2,r2,p2,_⟩:=I.list hb;obtain ⟨⟨cls,dd,data,sl⟩,ho,hc,n,hd⟩:=p1.isList;obtain ⟨⟨cls2,dd2,data2,sl2⟩,ho2,hc2,n2,hd2⟩:=p2.isList;simp only at hc hd hc2 hd2;subst hc hd hc2 hd2;have e:its.toArray++its2.toArray=(its++its2).toArray:=by simp
 refine concat_meets ⟨_,ho,rfl⟩ ⟨_,ho2,rfl⟩ noFill_list_add seq_list_add PySem.F.slot_list_add PySem.F.entry_list_add (PySem.F.args_list_add_2 _ _)
  (list_addW a b its.toArray its2.toArray n n2 dd dd2 sl sl2 (by rw[ar,ar,<-r1.length,<-r2.length];exact hz)) ⟨ho,ho2,?_⟩
 rw[e];exact ⟨.ref _,_,I.lnew (t':=s.toks) (r1.append r2) (by rw[aw];exact hz),rfl,q _ I.fresh⟩
theorem Zm:OpR X (binaryOp .Add) (λx y H Q=>∃a b ys,x=.ref a/\y=.ref b/\SqT X.K H a []/\SqT X.K H b ys/\Q (.ref b) H):=by
 intro pins s σ H x y v u Q I rx ry h;obtain ⟨a,b,ys,rfl,rfl,ha,hb,q⟩:=h;cases rx;cases ry;obtain ⟨its,r1,p1,_⟩:=I.tuple ha;obtain ⟨its2,r2,p2,_⟩:=I.tuple hb;obtain ⟨⟨cls,dd,data,sl⟩,ho,hc,n,hd⟩:=id p1;obtain ⟨⟨cls2,dd2,data2,sl2⟩,ho2,hc2,n2,hd2⟩:=id p2;simp only at hc hd hc2 hd2;subst hc hd hc2 hd2;cases r1;exact concat_meets ⟨_,ho,rfl⟩ ⟨_,ho2,rfl⟩ noFill_tuple_add seq_tuple_add PySem.F.slot_tuple_add PySem.F.entry_tuple_add (PySem.F.args_tuple_add_2 _ _)
   (tuple_addW0 a b _ its2.toArray n n2 dd dd2 sl sl2 (by simp)) ⟨ho,ho2,⟨.ref b,H,I,rfl,q⟩⟩
theorem wW{K:PF}{H:Hp}{F:FZ}{ds:List D}{vs:List V}(t:Reps K H F ds vs):ds=[]↔vs=[]:=by
 have:=t.length;constructor
 ·intro e;subst e;exact c6.mp this.symm
 ·intro e;subst e;exact c6.mp this
theorem Zn{x:Str}{n:Nat}(h1:n<=1000)(h:x.length * n<=sz):MulOk x (n:Int):=by
 have h2:((x.length * n:Nat):Int)<=((1000000:Nat):Int):=Int.ofNat_le.mpr h;rw[Int.natCast_mul]at h2;refine ⟨?_,?_,?_⟩
 ·rw[cq (by omega),cq (by omega)];rfl
 ·intro hn _ hh;have hp:(0:Int) < n:=by omega
  have h3:(x.length:Int)<=(2 ^ 63 - 1) / n:=(Int.le_ediv_iff_mul_le hp).mpr (Int.le_trans h2 (by decide));exact absurd hh (Int.not_lt.mpr h3)
 ·intro _ _;unfold Builtin.Str.tooLong;rw[fI,dP];exact cq (by have:sz=1000000:=rfl;omega)
theorem Ea(l:List Nat):∀(n:Nat)(acc:List Nat),(List.replicate n l.toArray).foldl (· ++ ·) acc.toArray=(acc++reps l n).toArray
 |0,acc=>by simp[reps]
 |n+1,acc=>by
  rw[b9,List.foldl_cons];have e:acc.toArray++l.toArray=(acc++l).toArray:=by simp
  rw[e,Ea l n (acc++l)];unfold reps;rw[b9,eJ,List.append_assoc]
theorem Zo(n:Nat):reps ([]:List Nat) n=[]:=by
 unfold reps;induction n with
 |zero=>rfl
 |succ n ih=>rw[b9,eJ,ih];rfl
theorem Zq{α:Type}(l:List α)(n:Nat):(reps l n).length=n * l.length:=len_rep l n
theorem Zr(l:List Nat)(n:Nat):Txt.mul (tx l) (n:Int)=tx (reps l n):=by
 unfold Txt.mul;by_cases h:(n:Int) < 1
 ·rw[if_pos h];have:n=0:=by omega
  subst this;rfl
 ·rw[if_neg h];by_cases h2:((n:Int)==1||(tx l).length==0)=true
  ·rw[if_pos h2];rw[cK]at h2;rcases h2 with h2 |h2
   ·have:n=1:=by have:=eq_of_beq h2;omega
    subst this;simp[reps]
   ·have h3:=eq_of_beq h2;rw[bN]at h3;have:l=[]:=c6.mp h3;subst this;rw[Zo]
  ·rw[if_neg h2];have e:=Ea l n [];rw[List.nil_append]at e;exact eT Str.mk (by simpa using e)
theorem Zt(op:Operator)(fz:Bool):OpR X (binaryOp op) (rB2 X.K (b8 op fz)):=by
 intro pins s σ H x y v u Q I rx ry h;obtain ⟨F,G,a,b,r,ra,rb,h⟩:=h;generalize ea:view G a=va at h;generalize eb:view G b=vb at h;have twoI:∀{p:Int->Int->Prop},gw va vb p->∃i j,x=.int i/\y=.int j/\p i j:=λ{p} h=>by
  obtain ⟨i,j,rfl,rfl,h⟩:=DK h;cases dN ea;cases dN eb;exact ⟨i,j,ra,rb,h⟩
 cases op with
 |Add=>
  have h:jc fz va vb G _:=h;unfold jc at h;cases va with
  |int _=>cases vb with
   |int _=>
    cases dN ea;cases dN eb;have ha:x=.int _:=ra;have hb:y=.int _:=rb;subst ha;subst hb;exact VJ pins s σ H _ _ v u Q I rx ry ⟨_,_,rfl,rfl,h.now r rfl⟩
   |_=>exact h.elim
  |str _=>cases vb with
   |str _=>
    cases gn ea;cases gn eb;obtain ⟨ha,la⟩:=ra;obtain ⟨hb,lb⟩:=rb;subst ha;subst hb;refine V9 pins s σ H _ _ v u Q I rx ry ⟨_,_,rfl,rfl,?_,?_⟩
    ·rw[bN,bN];exact cO h.1
    ·rw[qp];exact h.2.now r ⟨rfl,by rw[aw];exact h.1⟩
   |_=>exact h.elim
  |lst _=>cases vb with
   |lst _=>
    obtain ⟨p,vs,rfl,q1,t1⟩:=Rep.list r ra ea;obtain ⟨p',vs',rfl,q2,t2⟩:=Rep.list r rb eb;exact Zk pins s σ H _ _ v u Q I rx ry ⟨p,p',vs,vs',rfl,rfl,q1,q2,by rw[<-t1.length,<-t2.length];exact cO h.1,eZ h.2 r (t1.append t2)⟩
   |_=>exact h.elim
  |tup xs=>cases vb with
   |tup ys=>
    cases gm ea;cases gm eb;obtain ⟨p,vs,rfl,q1,t1⟩:=id ra;obtain ⟨p',vs',rfl,q2,t2⟩:=id rb;by_cases hx:vs=[]
    ·subst hx;have:xs=[]:=(wW t1).mpr rfl;subst this;exact Zm pins s σ H _ _ v u Q I rx ry ⟨p,p',vs',rfl,rfl,q1.sq,q2.sq,h.2.now r rb⟩
    ·refine W8 pins s σ H _ _ v u Q I rx ry ⟨p,p',vs,vs',rfl,rfl,q1.sq,q2.sq,hx,by rw[<-t1.length,<-t2.length];exact cO h.1,λe=>?_,λ_=>km h.2 r (t1.append t2)⟩;subst e;have:ys=[]:=(wW t2).mpr rfl;subst this;have h2:=h.2;rw[eW]at h2;exact h2.now r ra
   |_=>exact h.elim
  |_=>exact h.elim
 |Sub=>
  obtain ⟨i,j,rfl,rfl,h⟩:=twoI h;exact VL pins s σ H _ _ v u Q I rx ry ⟨_,_,rfl,rfl,h.now r rfl⟩
 |Mult=>
  have h:jd fz va vb G _:=h;unfold jd at h;cases vb with
  |int _=>cases va with
   |int _=>
    cases dN ea;cases dN eb;have ha:x=.int _:=ra;have hb:y=.int _:=rb;subst ha;subst hb;exact VM pins s σ H _ _ v u Q I rx ry ⟨_,_,rfl,rfl,h.1,h.2.now r rfl⟩
   |str _=>
    cases gn ea;cases dN eb;obtain ⟨ha,la⟩:=ra;have hb:y=.int _:=rb;subst ha;subst hb;obtain ⟨h0,h1,h2,h3⟩:=h;obtain ⟨n,rfl⟩:=cr h0;rw[dP]at h2 h3;refine X6 pins s σ H _ _ v u Q I rx ry ⟨_,_,rfl,rfl,Zn (by omega) (by rw[bN];exact h2),?_⟩;rw[Zr];exact h3.now r ⟨rfl,by rw[Zq,Nat.mul_comm];exact h2⟩
   |tup _=>
    cases gm ea;cases dN eb;obtain ⟨p,vs,rfl,q1,t1⟩:=ra;have hb:y=.int _:=rb;subst hb;obtain ⟨h0,h1,h2,h3,h4⟩:=h;refine YW pins s σ H _ _ v u Q I rx ry ⟨p,_,vs,rfl,rfl,q1.sq,λe=>h2 ((wW t1).mpr e),h0,h1,by rw[<-t1.length];exact cO h3,?_⟩;exact km h4 r (t1.rep _)
   |lst _=>
    cases dN eb;have hb:y=.int _:=rb;subst hb;obtain ⟨p,vs,rfl,q1,t1⟩:=ra.list r ea;obtain ⟨h0,h1,h2,h3⟩:=h;exact Y4 pins s σ H _ _ v u Q I rx ry ⟨p,_,vs,rfl,rfl,q1,h0,h1,by rw[<-t1.length];exact cO h2,eZ h3 r (t1.rep _)⟩
   |_=>exact h.elim
  |_=>exact h.elim
 |FloorDiv=>
  obtain ⟨i,j,rfl,rfl,h⟩:=twoI h;exact YH pins s σ H _ _ v u Q I rx ry ⟨_,_,rfl,rfl,h.1,h.2.now r rfl⟩
 |Mod=>
  obtain ⟨i,j,rfl,rfl,h⟩:=twoI h;exact VN pins s σ H _ _ v u Q I rx ry ⟨_,_,rfl,rfl,h.1,h.2.now r rfl⟩
 |Pow=>
  obtain ⟨i,j,rfl,rfl,h⟩:=twoI h;exact VP pins s σ H _ _ v u Q I rx ry ⟨_,_,rfl,rfl,h.1,h.2.now r rfl⟩
 |_=>exact h.elim
end
mutual
theorem wX:∀{d:D},nr d=true->deq d d=true
 |.non,_=>rfl
 |.bl b,_=>by simp[deq]
 |.int i,_=>by simp[deq]
 |.str l,_=>by simp[deq]
 |.tup xs,h=>by rw[deq];exact wY (by rw[nr]at h;exact h)
 |.lst xs,h=>by rw[deq];exact wY (by rw[nr]at h;exact h)
 |.ref a,h=>by rw[nr]at h;cases h
 |.scr a,h=>by rw[nr]at h;cases h
 |.exn a,h=>by rw[nr]at h;cases h
 |.obj _ _ _,h=>by rw[nr]at h;cases h
theorem wY:∀{ds:List D},nrs ds=true->bK ds ds=true
 |[],_=>rfl
 |d::ds,h=>by
  rw[nrs,ae]at h;rw[bK,wX h.1,wY h.2];rfl
end
theorem sU:∀(xs ys:List D),bK xs ys=((List.range (min xs.length ys.length)).all (λj=>deq (xs.getD j .non) (ys.getD j .non))&&xs.length==ys.length)
 |[],[]=>rfl
 |[],y::ys=>by simp[bK]
 |x::xs,[]=>by simp[bK]
 |x::xs,y::ys=>by
  have e:min (x::xs).length (y::ys).length=(min xs.length ys.length)+1:=by simp only[c5];omega
  rw[bK,sU xs ys,e,List.range_succ_eq_map,List.all_cons,List.all_map];simp only[List.getD_cons_zero,c5,Bool.and_assoc];congr 1;congr 1;rw[Bool.eq_iff_iff];simp
theorem Zu{xs ys:List D}(h:xs.length≠ys.length):bK xs ys=false:=by rw[sU];rw[show (xs.length==ys.length)=false from cS.mpr h,Bool.and_false]
theorem kE:∀{xs:List D}{i:Nat},nrs xs=true->nr (xs.getD i .non)=true
 |[],_,_=>rfl
 |x::xs,0,h=>by rw[nrs,ae]at h;exact h.1
 |x::xs,i+1,h=>by rw[nrs,ae]at h;rw[List.getD_cons_succ];exact kE h.2
theorem kI:∀{xs:List D}{i:Nat},dpt (xs.getD i .non)<=aV xs
 |[],_=>eI _
 |x::xs,0=>by rw[aV,List.getD_cons_zero];omega
 |x::xs,i+1=>by rw[aV,List.getD_cons_succ];have:=@kI xs i;omega
section
variable {X:Cx} {pins:List (Addr×Obj)} {σ:L2.St} {H:Hp} {s:Shared} {F:FZ}
mutual
theorem sV(I:Inv X pins σ H s):∀{d d':D}{v:V},nr d=true->nr d'=true->Rep X.K H F d v->Rep X.K H F d' v->d=d'
 |.non,d',v,_,n',h,h'=>by
  have h:v=.non:=h;subst h;cases d' with
  |non=>rfl
  |bl _=>simp only[Rep]at h';cases h'
  |int _=>simp only[Rep]at h';cases h'
  |ref _=>simp only[Rep]at h';cases h'
  |scr _=>rw[nr]at n';cases n'
  |exn _=>rw[nr]at n';cases n'
  |obj _ _ _=>rw[nr]at n';cases n'
  |str _=>simp only[Rep]at h';obtain ⟨e,_⟩:=h';cases e
  |tup _=>simp only[Rep]at h';obtain ⟨_,_,e,_⟩:=h';cases e
  |lst _=>simp only[Rep]at h';obtain ⟨_,_,e,_⟩:=h';cases e
 |.bl b,d',v,_,n',h,h'=>by
  have h:v=.bl b:=h;subst h;cases d' with
  |non=>simp only[Rep]at h';cases h'
  |bl _=>simp only[Rep]at h';cases h';rfl
  |int _=>simp only[Rep]at h';cases h'
  |ref _=>simp only[Rep]at h';cases h'
  |scr _=>rw[nr]at n';cases n'
  |exn _=>rw[nr]at n';cases n'
  |obj _ _ _=>rw[nr]at n';cases n'
  |str _=>simp only[Rep]at h';obtain ⟨e,_⟩:=h';cases e
  |tup _=>simp only[Rep]at h';obtain ⟨_,_,e,_⟩:=h';cases e
  |lst _=>simp only[Rep]at h';obtain ⟨_,_,e,_⟩:=h';cases e
 |.int b,d',v,_,n',h,h'=>by
  have h:v=.int b:=h;subst h;cases d' with
  |non=>simp only[Rep]at h';cases h'
  |bl _=>simp only[Rep]at h';cases h'
  |int _=>simp only[Rep]at h';cases h';rfl
  |ref _=>simp only[Rep]at h';cases h'
  |scr _=>rw[nr]at n';cases n'
  |exn _=>rw[nr]at n';cases n'
  |obj _ _ _=>rw[nr]at n';cases n'
  |str _=>simp only[Rep]at h';obtain ⟨e,_⟩:=h';cases e
  |tup _=>simp only[Rep]at h';obtain ⟨_,_,e,_⟩:=h';cases e
  |lst _=>simp only[Rep]at h';obtain ⟨_,_,e,_⟩:=h';cases e
 |.str l,d',v,_,n',h,h'=>by
  obtain ⟨h,_⟩:=h;subst h;cases d' with
  |str l'=>
   obtain ⟨e,_⟩:=h';injection e with e;rw[Cp e]
  |non=>simp only[Rep]at h';cases h'
  |bl _=>simp only[Rep]at h';cases h'
  |int _=>simp only[Rep]at h';cases h'
  |ref _=>simp only[Rep]at h';cases h'
  |scr _=>rw[nr]at n';cases n'
  |exn _=>rw[nr]at n';cases n'
  |obj _ _ _=>rw[nr]at n';cases n'
  |tup _=>simp only[Rep]at h';obtain ⟨_,_,e,_⟩:=h';cases e
  |lst _=>simp only[Rep]at h';obtain ⟨_,_,e,_⟩:=h';cases e
 |.tup xs,d',v,n,n',h,h'=>by
  obtain ⟨a,vs,e,q,t⟩:=h;subst e;cases d' with
  |tup ys=>
   obtain ⟨a',vs',e,q',t'⟩:=h';injection e with e;subst e;have:=I.tuple_inj q.sq q'.sq;subst this;rw[nr]at n n';rw[wZ I n n' t t']
  |lst ys=>
   obtain ⟨a',vs',e,q',t'⟩:=h';injection e with e;subst e;obtain ⟨its,_,⟨o,e1,c1,_⟩,_⟩:=I.tuple q.sq;obtain ⟨its',_,⟨o',n',e2,c2,_⟩,_⟩:=I.list q'.sq;rw[e1]at e2;cases e2;rw[c1]at c2;exact absurd c2 (by ac_rfl)
  |ref _=>rw[nr]at n';cases n'
  |scr _=>rw[nr]at n';cases n'
  |exn _=>rw[nr]at n';cases n'
  |obj _ _ _=>rw[nr]at n';cases n'
  |str _=>simp only[Rep]at h';obtain ⟨e,_⟩:=h';cases e
  |non=>simp only[Rep]at h';cases h'
  |bl _=>simp only[Rep]at h';cases h'
  |int _=>simp only[Rep]at h';cases h'
 |.lst xs,d',v,n,n',h,h'=>by
  obtain ⟨a,vs,e,q,t⟩:=h;subst e;cases d' with
  |lst ys=>
   obtain ⟨a',vs',e,q',t'⟩:=h';injection e with e;subst e;have:=I.list_inj q.sq q'.sq;subst this;rw[nr]at n n';rw[wZ I n n' t t']
  |tup ys=>
   obtain ⟨a',vs',e,q',t'⟩:=h';injection e with e;subst e;obtain ⟨its,_,⟨o,e1,c1,_⟩,_⟩:=I.tuple q'.sq;obtain ⟨its',_,⟨o',n',e2,c2,_⟩,_⟩:=I.list q.sq;rw[e1]at e2;cases e2;rw[c1]at c2;exact absurd c2 (by ac_rfl)
  |ref _=>rw[nr]at n';cases n'
  |scr _=>rw[nr]at n';cases n'
  |exn _=>rw[nr]at n';cases n'
  |obj _ _ _=>rw[nr]at n';cases n'
  |str _=>simp only[Rep]at h';obtain ⟨e,_⟩:=h';cases e
  |non=>simp only[Rep]at h';cases h'
  |bl _=>simp only[Rep]at h';cases h'
  |int _=>simp only[Rep]at h';cases h'
 |.ref a,d',v,n,_,_,_=>by rw[nr]at n;cases n
 |.scr a,d',v,n,_,_,_=>by rw[nr]at n;cases n
 |.exn a,d',v,n,_,_,_=>by rw[nr]at n;cases n
 |.obj _ _ _,d',v,n,_,_,_=>by rw[nr]at n;cases n
theorem wZ(I:Inv X pins σ H s):∀{ds ds':List D}{vs:List V},nrs ds=true->nrs ds'=true->Reps X.K H F ds vs->Reps X.K H F ds' vs->ds=ds'
 |[],[],_,_,_,_,_=>rfl
 |[],_::_,_,_,_,h,⟨v,r,e,_⟩=>by have h:_=[]:=h;rw[h]at e;cases e
 |_::_,[],_,_,_,⟨v,r,e,_⟩,h=>by have h:_=[]:=h;rw[h]at e;cases e
 |d::ds,d'::ds',_,n,n',⟨v,r,e,h,t⟩,⟨v',r',e',h',t'⟩=>by
  subst e;injection e' with e1 e2;subst e1;subst e2;rw[nrs,ae]at n n';rw[sV I n.1 n'.1 h h',wZ I n.2 n'.2 t t']
end
theorem sW{I:Inv X pins σ H s}{ds:List D}{vs:List V}{its:List Value}(t:Reps X.K H F ds vs)(r:Vals vs its)(j:Nat)(h:j < its.length):∃v,Rep X.K H F (ds.getD j .non) v/\RelV v its[j]:=by
 have hl:j < ds.length:=by rw[t.length,r.length];exact h
 have e1:ds[j]?=some (ds.getD j .non):=by rw[eh,ba hl];rfl
 obtain ⟨v,e2,r2⟩:=t.get e1;obtain ⟨u,e3,r3⟩:=r.get e2;rw[ba h]at e3;cases e3;exact ⟨v,r2,r3⟩
theorem Zv(a b:List Nat):(tx a==tx b)=(a==b):=by rw[Bool.eq_iff_iff,aE,aE];exact ⟨λh=>Cp h,λh=>by rw[h]⟩
theorem Zw(I:Inv X pins σ H s){n:Nat}{A:Around}{xs ys:List D}{a a':Addr}{vs vs':List V}{its its':List Value}
  (ih:∀m,m < n->∀(A:Around)(d d':D)(v v':V)(u u':Value),A.units+m < cLine->min (dpt d) (dpt d')<=m->nr d=true->nr d'=true->Rep X.K H F d v->Rep X.K H F d' v'->RelV v u->RelV v' u'->
   SeqAt.RcAt A s u u' (deq d d')/\SeqAt.EqAt A s u u' (deq d d')/\SeqAt.RcNeAt A s u u' (!deq d d'))
  (hu:A.units+n < cLine) (hd:min (dpt (.tup xs)) (dpt (.tup ys))<=n) (n1:nr (.tup xs)=true) (n2:nr (.tup ys)=true) (h:Rep X.K H F (.tup xs) (.ref a)) (h':Rep X.K H F (.tup ys) (.ref a'))
  (pt:s.heap.IsTuple a its.toArray) (pt':s.heap.IsTuple a' its'.toArray) (rv:Vals vs its) (rv':Vals vs' its') (tt:Reps X.K H F xs vs) (tt':Reps X.K H F ys vs'):
  SeqAt.RcAt A s (.ref a) (.ref a') (deq (.tup xs) (.tup ys))/\SeqAt.EqAt A s (.ref a) (.ref a') (deq (.tup xs) (.tup ys))/\SeqAt.RcNeAt A s (.ref a) (.ref a') (!deq (.tup xs) (.tup ys)):=by
 have hd':min (aV xs+1) (aV ys+1)<=n:=by rw[dpt,dpt]at hd;exact hd
 have hn1:nrs xs=true:=by rw[nr]at n1;exact n1
 have hn2:nrs ys=true:=by rw[nr]at n2;exact n2
 have l1:its.toArray.size=xs.length:=by rw[ar,<-rv.length,tt.length]
 have l2:its'.toArray.size=ys.length:=by rw[ar,<-rv'.length,tt'.length]
 have he:∀j (h1:j < its.toArray.size) (h2:j < its'.toArray.size),SeqAt.EqAt A.in1 s its.toArray[j] its'.toArray[j] (deq (xs.getD j .non) (ys.getD j .non)):=by intro j h1 h2;obtain ⟨w1,q1,q2⟩:=sW (I:=I) tt rv j (by simpa using h1);obtain ⟨w2,q3,q4⟩:=sW (I:=I) tt' rv' j (by simpa using h2);have d1:=@kI xs j;have d2:=@kI ys j;exact (ih (n - 1) (by omega) A.in1 _ _ w1 w2 _ _ (by show A.units+1+(n - 1) < cLine;omega) (by omega) (kE hn1) (kE hn2) q1 q3 (by simpa using q2) (by simpa using q4)).2.1
 have e:deq (.tup xs) (.tup ys)=((List.range (min its.toArray.size its'.toArray.size)).all (λj=>deq (xs.getD j .non) (ys.getD j .non))&&its.toArray.size==its'.toArray.size):=by rw[deq,sU,l1,l2]
 have rc:SeqAt.RcAt A s (.ref a) (.ref a') (deq (.tup xs) (.tup ys)):=by rw[e];exact .tuples pt pt' (by omega) he
 refine ⟨rc,?_,by rw[e];exact .tuples pt pt' (by omega) he⟩;by_cases z:a=a'
 ·subst z;have:=sV I n1 n2 h h';rw[<-this,wX n1];exact .same _
 ·exact .of_refs z rc
theorem Zx(I:Inv X pins σ H s){n:Nat}{A:Around}{xs ys:List D}{a a':Addr}{vs vs':List V}{its its':List Value}
  (ih:∀m,m < n->∀(A:Around)(d d':D)(v v':V)(u u':Value),A.units+m < cLine->min (dpt d) (dpt d')<=m->nr d=true->nr d'=true->Rep X.K H F d v->Rep X.K H F d' v'->RelV v u->RelV v' u'->
   SeqAt.RcAt A s u u' (deq d d')/\SeqAt.EqAt A s u u' (deq d d')/\SeqAt.RcNeAt A s u u' (!deq d d'))
  (hu:A.units+n < cLine) (hd:min (dpt (.lst xs)) (dpt (.lst ys))<=n) (n1:nr (.lst xs)=true) (n2:nr (.lst ys)=true) (h:a=a'->xs=ys)
  (pt:s.heap.IsList a its.toArray) (pt':s.heap.IsList a' its'.toArray) (rv:Vals vs its) (rv':Vals vs' its') (tt:Reps X.K H F xs vs) (tt':Reps X.K H F ys vs'):
  SeqAt.RcAt A s (.ref a) (.ref a') (deq (.lst xs) (.lst ys))/\SeqAt.EqAt A s (.ref a) (.ref a') (deq (.lst xs) (.lst ys))/\SeqAt.RcNeAt A s (.ref a) (.ref a') (!deq (.lst xs) (.lst ys)):=by
 have hd':min (aV xs+1) (aV ys+1)<=n:=by rw[dpt,dpt]at hd;exact hd
 have hn1:nrs xs=true:=by rw[nr]at n1;exact n1
 have hn2:nrs ys=true:=by rw[nr]at n2;exact n2
 have l1:its.toArray.size=xs.length:=by rw[ar,<-rv.length,tt.length]
 have l2:its'.toArray.size=ys.length:=by rw[ar,<-rv'.length,tt'.length]
 have eqs:∀(rc:SeqAt.RcAt A s (.ref a) (.ref a') (deq (.lst xs) (.lst ys))),SeqAt.EqAt A s (.ref a) (.ref a') (deq (.lst xs) (.lst ys)):=λrc=>by
  by_cases z:a=a'
  ·have:=h z;subst z;subst this;rw[wX n1];exact .same _
  ·exact .of_refs z rc
 by_cases hl:xs.length=ys.length
 ·have he:∀j (h1:j < its.toArray.size) (h2:j < its'.toArray.size),SeqAt.EqAt A.in1 s its.toArray[j] its'.toArray[j] (deq (xs.getD j .non) (ys.getD j .non)):=by
   intro j h1 h2;obtain ⟨w1,q1,q2⟩:=sW (I:=I) tt rv j (by simpa using h1);obtain ⟨w2,q3,q4⟩:=sW (I:=I) tt' rv' j (by simpa using h2);have d1:=@kI xs j;have d2:=@kI ys j;exact (ih (n - 1) (by omega) A.in1 _ _ w1 w2 _ _ (by show A.units+1+(n - 1) < cLine;omega) (by omega) (kE hn1) (kE hn2) q1 q3 (by simpa using q2) (by simpa using q4)).2.1
  have e:deq (.lst xs) (.lst ys)=(List.range its.toArray.size).all (λj=>deq (xs.getD j .non) (ys.getD j .non)):=by rw[deq,sU,l1,hl,Nat.min_self];simp
  have rc:SeqAt.RcAt A s (.ref a) (.ref a') (deq (.lst xs) (.lst ys)):=by rw[e];exact .lists pt pt' (by rw[l1,l2];exact hl) (by omega) he
  exact ⟨rc,eqs rc,by rw[e];exact .lists pt pt' (by rw[l1,l2];exact hl) (by omega) he⟩
 ·have e:deq (.lst xs) (.lst ys)=false:=by rw[deq];exact Zu hl
  have hne:(its.toArray.size != its'.toArray.size)=true:=by rw[l1,l2];simpa using hl
  have rc:SeqAt.RcAt A s (.ref a) (.ref a') (deq (.lst xs) (.lst ys)):=by rw[e];exact .lists_lengths pt pt' hne (by omega)
  exact ⟨rc,eqs rc,by rw[e];exact .lists_lengths pt pt' hne (by omega)⟩
theorem w5(I:Inv X pins σ H s):∀(n:Nat)(A:Around)(d d':D)(v v':V)(u u':Value),A.units+n < cLine->min (dpt d) (dpt d')<=n->nr d=true->nr d'=true->Rep X.K H F d v->Rep X.K H F d' v'->RelV v u->RelV v' u'->
  SeqAt.RcAt A s u u' (deq d d')/\SeqAt.EqAt A s u u' (deq d d')/\SeqAt.RcNeAt A s u u' (!deq d d'):=by
 intro n;induction n using Nat.strongRecOn with
 |_ n ih=>
  intro A d d' v v' u u' hu hd n1 n2 h h' r r';have hu0:A.units < cLine:=by omega
  cases d with
  |ref a=>rw[nr]at n1;cases n1
  |scr a=>rw[nr]at n1;cases n1
  |exn a=>rw[nr]at n1;cases n1
  |obj _ _ _=>rw[nr]at n1;cases n1
  |non=>
   have hv:v=.non:=h;subst hv;have hr:u=Value.none:=r;subst hr;cases d' with
   |ref a=>rw[nr]at n2;cases n2
   |scr a=>rw[nr]at n2;cases n2
   |exn a=>rw[nr]at n2;cases n2
   |obj _ _ _=>rw[nr]at n2;cases n2
   |non=>
    have hv:v'=.non:=h';subst hv;have hr:u'=Value.none:=r';subst hr;exact ⟨.none_none,.same _,.none_none⟩
   |bl b'=>
    have hv:v'=.bl b':=h';subst hv;have hr:u'=Value.bool b':=r';subst hr;exact ⟨.none_bool b',.none_bool b',.none_bool b'⟩
   |int i'=>
    have hv:v'=.int i':=h';subst hv;obtain ⟨t',hr⟩:∃t',u'=Value.int i' t':=r';subst hr;exact ⟨.none_int i' t',.none_int i' t',.none_int i' t'⟩
   |str l'=>
    obtain ⟨hv,_⟩:=h';subst hv;obtain ⟨t',hr⟩:∃t',u'=Value.str (tx l') t':=r';subst hr;exact ⟨.none_str (tx l') t',.none_str (tx l') t',.none_str (tx l') t'⟩
   |tup ys=>
    obtain ⟨a',vs',hv,q',tt'⟩:=id h';subst hv;have hr:u'=Value.ref a':=r';subst hr;obtain ⟨its',rv',pt',_⟩:=I.tuple q'.sq;have pt':s.heap.IsTuple a' its'.toArray:=pt';exact ⟨.none_tuple pt' hu0,.none_tuple pt' hu0,.none_tuple pt' hu0⟩
   |lst ys=>
    obtain ⟨a',vs',hv,q',tt'⟩:=id h';subst hv;have hr:u'=Value.ref a':=r';subst hr;obtain ⟨its',rv',pl',_⟩:=I.list q'.sq;have pt':s.heap.IsList a' its'.toArray:=pl'.isList;exact ⟨.none_list pt' hu0,.none_list pt' hu0,.none_list pt' hu0⟩
  |bl b=>
   have hv:v=.bl b:=h;subst hv;have hr:u=Value.bool b:=r;subst hr;cases d' with
   |ref a=>rw[nr]at n2;cases n2
   |scr a=>rw[nr]at n2;cases n2
   |exn a=>rw[nr]at n2;cases n2
   |obj _ _ _=>rw[nr]at n2;cases n2
   |non=>
    have hv:v'=.non:=h';subst hv;have hr:u'=Value.none:=r';subst hr;exact ⟨.bool_none b,.bool_none b,.bool_none b⟩
   |bl b'=>
    have hv:v'=.bl b':=h';subst hv;have hr:u'=Value.bool b':=r';subst hr;exact ⟨.bool_bool b b',.bool_bool b b',.bool_bool b b'⟩
   |int i'=>
    have hv:v'=.int i':=h';subst hv;obtain ⟨t',hr⟩:∃t',u'=Value.int i' t':=r';subst hr;exact ⟨.bool_int b i' t',.bool_int b i' t',.bool_int b i' t'⟩
   |str l'=>
    obtain ⟨hv,_⟩:=h';subst hv;obtain ⟨t',hr⟩:∃t',u'=Value.str (tx l') t':=r';subst hr;exact ⟨.bool_str b (tx l') t',.bool_str b (tx l') t',.bool_str b (tx l') t'⟩
   |tup ys=>
    obtain ⟨a',vs',hv,q',tt'⟩:=id h';subst hv;have hr:u'=Value.ref a':=r';subst hr;obtain ⟨its',rv',pt',_⟩:=I.tuple q'.sq;have pt':s.heap.IsTuple a' its'.toArray:=pt';exact ⟨.bool_tuple b pt' hu0,.bool_tuple b pt' hu0,.bool_tuple b pt' hu0⟩
   |lst ys=>
    obtain ⟨a',vs',hv,q',tt'⟩:=id h';subst hv;have hr:u'=Value.ref a':=r';subst hr;obtain ⟨its',rv',pl',_⟩:=I.list q'.sq;have pt':s.heap.IsList a' its'.toArray:=pl'.isList;exact ⟨.bool_list b pt' hu0,.bool_list b pt' hu0,.bool_list b pt' hu0⟩
  |int i=>
   have hv:v=.int i:=h;subst hv;obtain ⟨t,hr⟩:∃t,u=Value.int i t:=r;subst hr;cases d' with
   |ref a=>rw[nr]at n2;cases n2
   |scr a=>rw[nr]at n2;cases n2
   |exn a=>rw[nr]at n2;cases n2
   |obj _ _ _=>rw[nr]at n2;cases n2
   |non=>
    have hv:v'=.non:=h';subst hv;have hr:u'=Value.none:=r';subst hr;exact ⟨.int_none i t,.int_none i t,.int_none i t⟩
   |bl b'=>
    have hv:v'=.bl b':=h';subst hv;have hr:u'=Value.bool b':=r';subst hr;exact ⟨.int_bool i t b',.int_bool i t b',.int_bool i t b'⟩
   |int i'=>
    have hv:v'=.int i':=h';subst hv;obtain ⟨t',hr⟩:∃t',u'=Value.int i' t':=r';subst hr;exact ⟨.int_int i t i' t',.int_int i t i' t',.int_int i t i' t'⟩
   |str l'=>
    obtain ⟨hv,_⟩:=h';subst hv;obtain ⟨t',hr⟩:∃t',u'=Value.str (tx l') t':=r';subst hr;exact ⟨.int_str i t (tx l') t',.int_str i t (tx l') t',.int_str i t (tx l') t'⟩
   |tup ys=>
    obtain ⟨a',vs',hv,q',tt'⟩:=id h';subst hv;have hr:u'=Value.ref a':=r';subst hr;obtain ⟨its',rv',pt',_⟩:=I.tuple q'.sq;have pt':s.heap.IsTuple a' its'.toArray:=pt';exact ⟨.int_tuple i t pt' hu0,.int_tuple i t pt' hu0,.int_tuple i t pt' hu0⟩
   |lst ys=>
    obtain ⟨a',vs',hv,q',tt'⟩:=id h';subst hv;have hr:u'=Value.ref a':=r';subst hr;obtain ⟨its',rv',pl',_⟩:=I.list q'.sq;have pt':s.heap.IsList a' its'.toArray:=pl'.isList;exact ⟨.int_list i t pt' hu0,.int_list i t pt' hu0,.int_list i t pt' hu0⟩
  |str l=>
   obtain ⟨hv,_⟩:=h;subst hv;obtain ⟨t,hr⟩:∃t,u=Value.str (tx l) t:=r;subst hr;cases d' with
   |ref a=>rw[nr]at n2;cases n2
   |scr a=>rw[nr]at n2;cases n2
   |exn a=>rw[nr]at n2;cases n2
   |obj _ _ _=>rw[nr]at n2;cases n2
   |non=>
    have hv:v'=.non:=h';subst hv;have hr:u'=Value.none:=r';subst hr;exact ⟨.str_none (tx l) t,.str_none (tx l) t,.str_none (tx l) t⟩
   |bl b'=>
    have hv:v'=.bl b':=h';subst hv;have hr:u'=Value.bool b':=r';subst hr;exact ⟨.str_bool (tx l) t b',.str_bool (tx l) t b',.str_bool (tx l) t b'⟩
   |int i'=>
    have hv:v'=.int i':=h';subst hv;obtain ⟨t',hr⟩:∃t',u'=Value.int i' t':=r';subst hr;exact ⟨.str_int (tx l) t i' t',.str_int (tx l) t i' t',.str_int (tx l) t i' t'⟩
   |str l'=>
    obtain ⟨hv,_⟩:=h';subst hv;obtain ⟨t',hr⟩:∃t',u'=Value.str (tx l') t':=r';subst hr;rw[deq,<-Zv];exact ⟨.str_str (tx l) t (tx l') t',.str_str (tx l) t (tx l') t',.str_str (tx l) t (tx l') t'⟩
   |tup ys=>
    obtain ⟨a',vs',hv,q',tt'⟩:=id h';subst hv;have hr:u'=Value.ref a':=r';subst hr;obtain ⟨its',rv',pt',_⟩:=I.tuple q'.sq;have pt':s.heap.IsTuple a' its'.toArray:=pt';exact ⟨.str_tuple (tx l) t pt' hu0,.str_tuple (tx l) t pt' hu0,.str_tuple (tx l) t pt' hu0⟩
   |lst ys=>
    obtain ⟨a',vs',hv,q',tt'⟩:=id h';subst hv;have hr:u'=Value.ref a':=r';subst hr;obtain ⟨its',rv',pl',_⟩:=I.list q'.sq;have pt':s.heap.IsList a' its'.toArray:=pl'.isList;exact ⟨.str_list (tx l) t pt' hu0,.str_list (tx l) t pt' hu0,.str_list (tx l) t pt' hu0⟩
  |tup xs=>
   obtain ⟨a,vs,hv,q,tt⟩:=id h;subst hv;have hr:u=Value.ref a:=r;subst hr;obtain ⟨its,rv,pt,_⟩:=I.tuple q.sq;have pt:s.heap.IsTuple a its.toArray:=pt;cases d' with
   |ref a=>rw[nr]at n2;cases n2
   |scr a=>rw[nr]at n2;cases n2
   |exn a=>rw[nr]at n2;cases n2
   |obj _ _ _=>rw[nr]at n2;cases n2
   |non=>
    have hv:v'=.non:=h';subst hv;have hr:u'=Value.none:=r';subst hr;exact ⟨.tuple_none pt hu0,.tuple_none pt hu0,.tuple_none pt hu0⟩
   |bl b'=>
    have hv:v'=.bl b':=h';subst hv;have hr:u'=Value.bool b':=r';subst hr;exact ⟨.tuple_bool b' pt hu0,.tuple_bool b' pt hu0,.tuple_bool b' pt hu0⟩
   |int i'=>
    have hv:v'=.int i':=h';subst hv;obtain ⟨t',hr⟩:∃t',u'=Value.int i' t':=r';subst hr;exact ⟨.tuple_int i' t' pt hu0,.tuple_int i' t' pt hu0,.tuple_int i' t' pt hu0⟩
   |str l'=>
    obtain ⟨hv,_⟩:=h';subst hv;obtain ⟨t',hr⟩:∃t',u'=Value.str (tx l') t':=r';subst hr;exact ⟨.tuple_str (tx l') t' pt hu0,.tuple_str (tx l') t' pt hu0,.tuple_str (tx l') t' pt hu0⟩
   |tup ys=>
    obtain ⟨a',vs',hv,q',tt'⟩:=id h';subst hv;have hr:u'=Value.ref a':=r';subst hr;obtain ⟨its',rv',pt',_⟩:=I.tuple q'.sq;have pt':s.heap.IsTuple a' its'.toArray:=pt';exact Zw I ih hu hd n1 n2 h h' pt pt' rv rv' tt tt'
   |lst ys=>
    obtain ⟨a',vs',hv,q',tt'⟩:=id h';subst hv;have hr:u'=Value.ref a':=r';subst hr;obtain ⟨its',rv',pl',_⟩:=I.list q'.sq;have pt':s.heap.IsList a' its'.toArray:=pl'.isList;exact ⟨.tuple_list pt pt' hu0,.tuple_list pt pt' hu0,.tuple_list pt pt' hu0⟩
  |lst xs=>
   obtain ⟨a,vs,hv,q,tt⟩:=id h;subst hv;have hr:u=Value.ref a:=r;subst hr;obtain ⟨its,rv,pl,_⟩:=I.list q.sq;have pt:s.heap.IsList a its.toArray:=pl.isList;cases d' with
   |ref a=>rw[nr]at n2;cases n2
   |scr a=>rw[nr]at n2;cases n2
   |exn a=>rw[nr]at n2;cases n2
   |obj _ _ _=>rw[nr]at n2;cases n2
   |non=>
    have hv:v'=.non:=h';subst hv;have hr:u'=Value.none:=r';subst hr;exact ⟨.list_none pt hu0,.list_none pt hu0,.list_none pt hu0⟩
   |bl b'=>
    have hv:v'=.bl b':=h';subst hv;have hr:u'=Value.bool b':=r';subst hr;exact ⟨.list_bool b' pt hu0,.list_bool b' pt hu0,.list_bool b' pt hu0⟩
   |int i'=>
    have hv:v'=.int i':=h';subst hv;obtain ⟨t',hr⟩:∃t',u'=Value.int i' t':=r';subst hr;exact ⟨.list_int i' t' pt hu0,.list_int i' t' pt hu0,.list_int i' t' pt hu0⟩
   |str l'=>
    obtain ⟨hv,_⟩:=h';subst hv;obtain ⟨t',hr⟩:∃t',u'=Value.str (tx l') t':=r';subst hr;exact ⟨.list_str (tx l') t' pt hu0,.list_str (tx l') t' pt hu0,.list_str (tx l') t' pt hu0⟩
   |tup ys=>
    obtain ⟨a',vs',hv,q',tt'⟩:=id h';subst hv;have hr:u'=Value.ref a':=r';subst hr;obtain ⟨its',rv',pt',_⟩:=I.tuple q'.sq;have pt':s.heap.IsTuple a' its'.toArray:=pt';exact ⟨.list_tuple pt pt' hu0,.list_tuple pt pt' hu0,.list_tuple pt pt' hu0⟩
   |lst ys=>
    obtain ⟨a',vs',hv,q',tt'⟩:=id h';subst hv;have hr:u'=Value.ref a':=r';subst hr;obtain ⟨its',rv',pl',_⟩:=I.list q'.sq;have pt':s.heap.IsList a' its'.toArray:=pl'.isList;exact Zx I ih hu hd n1 n2 (λz=>by subst z;have e:=sV I n1 n2 h h';injection e) pt pt' rv rv' tt tt'
end
noncomputable def FA(F:FZ)(G:DH):FZ:=λa=>F a\/∃o,G a=some o
theorem Eb{H:Hp}{F:FZ}{G:DH}:Ext H F H (FA F G):=⟨λ_ f=>.inl f,λ_ _=>rfl,λ_ _ h=>h,λ_ _ _ h=>h⟩
theorem sX{K:PF}{H:Hp}{F:FZ}{G:DH}{d:D}{v:V}(r:R K H F G)(h:Rep K H F d v):Rep K H (FA F G) (view G d) v:=by
 cases d with
 |ref p=>
  have hv:v=.ref p:=h;cases g:G p with
  |none=>
   have e:view G (.ref p)=.ref p:=by simp only[view,g]
   rw[e];exact hv
  |some o=>
   cases o with
   |lst ds=>
    have e:view G (.ref p)=.lst ds:=by simp only[view,g]
    rw[e];obtain ⟨vs,q,t⟩:=r.lst g;exact ⟨p,vs,hv,⟨.inr ⟨_,g⟩,q⟩,Reps.ext Eb t⟩
 |_=>exact Rep.ext Eb h
noncomputable def rC2(K:PF)(f:D->D->(Bool->Prop)->Prop):R2:=λx y H Q=>∃F G a b,R K H F G/\Rep K H F a x/\Rep K H F b y/\f (view G a) (view G b) (λc=>PV K H F Q (.bl c) G)
section
variable {X:Cx}
theorem Ec(c:Nat)(l:List Nat):(!(Builtin.Str.occurrences (tx l) (tx [c]) 0 (tx l).length 1).isEmpty)=l.contains c:=by have:=StrLaws.found_one (tx l) c;rw[this,Bool.eq_iff_iff];simp
theorem Zy{pins:List (Addr×Obj)}{σ:L2.St}{H:Hp}{s:Shared}{F:FZ}(I:Inv X pins σ H s){A:Around}{x:D}{v:V}{u:Value}(hu:A.units+64 < cLine)(hx:nr x=true)(rx:Rep X.K H F x v)(ru:RelV v u):
  ∀{ds:List D}{vs:List V}{us:List Value},nrs ds=true->aV ds<=60->Reps X.K H F ds vs->Vals vs us->∃e:Value->Bool,(∀y∈us,SeqAt.EqAt A s y u (e y))/\us.any e=isIn x ds:=by
 intro ds vs us hn hd t r;let P:Value->D->Prop:=λy d=>nr d=true/\∃v,Rep X.K H F d v/\RelV v y
 have one:∀y d d',P y d->P y d'->d=d':=λy d d' ⟨n,v,q,z⟩ ⟨n',v',q',z'⟩=>by
  have e:=z.inj z';subst e;exact sV I n n' q q'
 have ⟨f,hf⟩:∃f:Value->D,∀y d,P y d->f y=d:=by refine ⟨λy=>Classical.epsilon (P y),λy d h=>?_⟩;exact one y _ _ (Classical.epsilon_spec ⟨d,h⟩) h
 refine ⟨λy=>deq (f y) x,?_,?_⟩
 ·skip;have key:∀{ds:List D}{vs:List V}{us:List Value},nrs ds=true->aV ds<=60->Reps X.K H F ds vs->Vals vs us->∀y∈us,SeqAt.EqAt A s y u (deq (f y) x):=by
   intro ds;induction ds with
   |nil=>
    intro vs us _ _ t r y hy;have t:vs=[]:=t;subst t;cases r;cases hy
   |cons d ds ih=>
    intro vs us hn hd t r y hy;obtain ⟨v1,r1,e,h1,t1⟩:=t;subst e;rw[nrs,ae]at hn;rw[aV]at hd;cases r with
    |cons p q=>
     rcases aS.mp hy with e |hy
     ·subst e;rw[hf _ d ⟨hn.1,_,h1,p⟩];exact (w5 I 60 A d x v1 v _ u (by omega) (by omega) hn.1 hx h1 rx p ru).2.1
     ·exact ih hn.2 (by omega) t1 q y hy
  exact key hn hd t r
 ·have key:∀{ds:List D}{vs:List V}{us:List Value},nrs ds=true->Reps X.K H F ds vs->Vals vs us->us.any (λy=>deq (f y) x)=isIn x ds:=by
   intro ds;induction ds with
   |nil=>
    intro vs us _ t r;have t:vs=[]:=t;subst t;cases r;rfl
   |cons d ds ih=>
    intro vs us hn t r;obtain ⟨v1,r1,e,h1,t1⟩:=t;subst e;rw[nrs,ae]at hn;cases r with
    |cons p q=>
     rw[List.any_cons,hf _ d ⟨hn.1,_,h1,p⟩,ih hn.2 t1 q];rfl
  exact key hn t r
theorem jq(op:CmpOp)(hu:X.A.units+100 < cLine):OpR X (compareOp op) (rC2 X.K (aW op)):=by
 intro pins s σ H x y v u Q I rx ry h;obtain ⟨F,G,a,b,r,ra,rb,h⟩:=h;have ra':=sX r ra;have rb':=sX r rb;generalize ea:view G a=va at h ra';generalize eb:view G b=vb at h rb';have fin:∀c:Bool,PV X.K H F Q (.bl c) G->EP X pins σ Q (.bool c) s:=λc q=>⟨.bl c,H,I,rfl,q.now r rfl⟩;have hin:∀(l:List D)(k:Bool->Prop),(nr va=true/\nrs l=true/\aV l<=60)->∀{vs:List V}{us:List Value},Reps X.K H (FA F G) l vs->Vals vs us->
   ∃e:Value->Bool,(∀z∈us,SeqAt.EqAt X.A.in1 s z v (e z))/\us.any e=isIn va l:=λl k hh {vs us} t rv=>
  Zy I (A:=X.A.in1) (by show X.A.units+1+64 < cLine;omega) hh.1 ra' rx hh.2.1 hh.2.2 t rv
 cases op with
 |Eq=>
  obtain ⟨⟨n1,n2,n3⟩,q⟩:=h;exact (w5 I 60 X.A _ _ x y v u (by omega) n3 n1 n2 ra' rb' rx ry).1 _ _ _ _ (fin _ q)
 |NotEq=>
  obtain ⟨⟨n1,n2,n3⟩,q⟩:=h;exact (w5 I 60 X.A _ _ x y v u (by omega) n3 n1 n2 ra' rb' rx ry).2.2 _ _ _ _ (fin _ q)
 |Lt=>
  have h:je va vb (λc=>PV X.K H F Q (.bl c) G):=h;unfold je at h;split at h
  ·have e1:x=.int _:=ra';have e2:y=.int _:=rb';subst e1;subst e2;obtain ⟨t,rfl⟩:=rx;obtain ⟨t',rfl⟩:=ry;exact lt_int (fin _ h)
  ·obtain ⟨e1,_⟩:=ra';obtain ⟨e2,_⟩:=rb';subst e1;subst e2;obtain ⟨t,rfl⟩:=rx;obtain ⟨t',rfl⟩:=ry;exact lt_str (fin _ h)
  ·exact h.elim
 |LtE=>
  have h:jf va vb (λc=>PV X.K H F Q (.bl c) G):=h;unfold jf at h;split at h
  ·have e1:x=.int _:=ra';have e2:y=.int _:=rb';subst e1;subst e2;obtain ⟨t,rfl⟩:=rx;obtain ⟨t',rfl⟩:=ry;exact le_int (fin _ h)
  ·obtain ⟨e1,_⟩:=ra';obtain ⟨e2,_⟩:=rb';subst e1;subst e2;obtain ⟨t,rfl⟩:=rx;obtain ⟨t',rfl⟩:=ry;exact PySem.P.le_str (fin _ h)
  ·exact h.elim
 |Gt=>
  have h:jg va vb (λc=>PV X.K H F Q (.bl c) G):=h;unfold jg at h;split at h
  ·have e1:x=.int _:=ra';have e2:y=.int _:=rb';subst e1;subst e2;obtain ⟨t,rfl⟩:=rx;obtain ⟨t',rfl⟩:=ry;exact gt_int (fin _ h)
  ·exact h.elim
 |GtE=>
  have h:jh va vb (λc=>PV X.K H F Q (.bl c) G):=h;unfold jh at h;split at h
  ·have e1:x=.int _:=ra';have e2:y=.int _:=rb';subst e1;subst e2;obtain ⟨t,rfl⟩:=rx;obtain ⟨t',rfl⟩:=ry;exact ge_int (fin _ h)
  ·exact h.elim
 |Is=>
  have h:ji va vb (λc=>PV X.K H F Q (.bl c) G):=h;unfold ji at h;split at h
  ·have e2:y=.non:=rb';subst e2;have q:∀c,(c=decide (x=.non))->PV X.K H F Q (.bl c) G->wpAny (model X.prog X.w) X.A (compareOp .Is v u) (EP X pins σ Q) X.xe s:=λc e q=>
    V1 pins s σ H _ _ v u Q I rx ry ⟨rfl,by rw[<-e];exact q.now r rfl⟩
   refine q _ ?_ h;have:qw va=decide (x=.non):=by
    cases va with
    |non=>have e1:x=.non:=ra';subst e1;rfl
    |bl _=>have e1:x=.bl _:=ra';subst e1;rfl
    |int _=>have e1:x=.int _:=ra';subst e1;rfl
    |str _=>obtain ⟨e1,_⟩:=ra';subst e1;rfl
    |tup _=>obtain ⟨_,_,e1,_⟩:=ra';subst e1;rfl
    |lst _=>obtain ⟨_,_,e1,_⟩:=ra';subst e1;rfl
    |ref _=>have e1:x=.ref _:=ra';subst e1;rfl
    |scr _=>obtain ⟨_,e1,_⟩:=ra';subst e1;rfl
    |exn _=>obtain ⟨_,_,e1,_⟩:=ra';subst e1;rfl
    |obj _ _ _=>obtain ⟨_,_,_,e1,_⟩:=ra';subst e1;rfl
   rw[this]
  ·split at h
   ·have e1:x=.bl _:=ra';have e2:y=.bl _:=rb';subst e1;subst e2;exact Yi pins s σ H _ _ v u Q I rx ry ⟨_,_,rfl,rfl,h.now r rfl⟩
   ·exact h.elim
  ·exact h.elim
 |IsNot=>
  have h:jj va vb (λc=>PV X.K H F Q (.bl c) G):=h;unfold jj at h;split at h
  ·have e2:y=.non:=rb';subst e2;have q:∀c,(c=!decide (x=.non))->PV X.K H F Q (.bl c) G->wpAny (model X.prog X.w) X.A (compareOp .IsNot v u) (EP X pins σ Q) X.xe s:=λc e q=>
    V2 pins s σ H _ _ v u Q I rx ry ⟨rfl,by rw[<-e];exact q.now r rfl⟩
   refine q _ ?_ h;have:qw va=decide (x=.non):=by
    cases va with
    |non=>have e1:x=.non:=ra';subst e1;rfl
    |bl _=>have e1:x=.bl _:=ra';subst e1;rfl
    |int _=>have e1:x=.int _:=ra';subst e1;rfl
    |str _=>obtain ⟨e1,_⟩:=ra';subst e1;rfl
    |tup _=>obtain ⟨_,_,e1,_⟩:=ra';subst e1;rfl
    |lst _=>obtain ⟨_,_,e1,_⟩:=ra';subst e1;rfl
    |ref _=>have e1:x=.ref _:=ra';subst e1;rfl
    |scr _=>obtain ⟨_,e1,_⟩:=ra';subst e1;rfl
    |exn _=>obtain ⟨_,_,e1,_⟩:=ra';subst e1;rfl
    |obj _ _ _=>obtain ⟨_,_,_,e1,_⟩:=ra';subst e1;rfl
   rw[this]
  ·split at h
   ·have e1:x=.bl _:=ra';have e2:y=.bl _:=rb';subst e1;subst e2;exact Ym pins s σ H _ _ v u Q I rx ry ⟨_,_,rfl,rfl,h.now r rfl⟩
   ·exact h.elim
  ·exact h.elim
 |In=>
  have h:fQ va vb (λc=>PV X.K H F Q (.bl c) G):=h;unfold fQ at h;split at h
  ·split at h
   ·obtain ⟨e1,_⟩:=ra';obtain ⟨e2,_⟩:=rb';subst e1;subst e2;obtain ⟨t,rfl⟩:=rx;obtain ⟨t',rfl⟩:=ry;exact in_str (by rw[Ec];exact fin _ h)
   ·exact h.elim
  ·obtain ⟨hh,q⟩:=h;obtain ⟨p,vs,e2,q2,t⟩:=rb';subst e2;cases ry;obtain ⟨its,rv,pl,hz⟩:=I.list q2.sq;obtain ⟨e,he,hany⟩:=hin _ (λ_=>True) hh t rv;refine SeqAt.in_listAt e pl.isList (λw hw=>he w (by simpa using hw)) ?_;rw[show its.toArray.any e=its.any e by simp,hany];exact fin _ q
  ·obtain ⟨hh,q⟩:=h;obtain ⟨p,vs,e2,q2,t⟩:=rb';subst e2;cases ry;obtain ⟨its,rv,pl,hz⟩:=I.tuple q2.sq;obtain ⟨e,he,hany⟩:=hin _ (λ_=>True) hh t rv;refine SeqAt.in_tupleAt e pl (λw hw=>he w (by simpa using hw)) ?_;rw[show its.toArray.any e=its.any e by simp,hany];exact fin _ q
  ·exact h.elim
 |NotIn=>
  have h:fQ va vb (λc=>PV X.K H F Q (.bl (!c)) G):=h;unfold fQ at h;split at h
  ·split at h
   ·obtain ⟨e1,_⟩:=ra';obtain ⟨e2,_⟩:=rb';subst e1;subst e2;obtain ⟨t,rfl⟩:=rx;obtain ⟨t',rfl⟩:=ry;exact notIn_str (by rw[Ec];exact fin _ h)
   ·exact h.elim
  ·obtain ⟨hh,q⟩:=h;obtain ⟨p,vs,e2,q2,t⟩:=rb';subst e2;cases ry;obtain ⟨its,rv,pl,hz⟩:=I.list q2.sq;obtain ⟨e,he,hany⟩:=hin _ (λ_=>True) hh t rv;refine SeqAt.notIn_listAt e pl.isList (λw hw=>he w (by simpa using hw)) ?_;rw[show its.toArray.any e=its.any e by simp,hany];exact fin _ q
  ·obtain ⟨hh,q⟩:=h;obtain ⟨p,vs,e2,q2,t⟩:=rb';subst e2;cases ry;obtain ⟨its,rv,pl,hz⟩:=I.tuple q2.sq;obtain ⟨e,he,hany⟩:=hin _ (λ_=>True) hh t rv;refine SeqAt.notIn_tupleAt e pl (λw hw=>he w (by simpa using hw)) ?_;rw[show its.toArray.any e=its.any e by simp,hany];exact fin _ q
  ·exact h.elim
end
section
variable {X:Cx}
noncomputable def Zz(K:PF):R2:=λx y H Q=>∃F G a b,R K H F G/\Rep K H F a x/\Rep K H F b y/\cg (view G a) b (λd=>PV K H F Q d G)
theorem Ed{K:PF}{H:Hp}{F:FZ}{ds:List D}{vs:List V}{i:Int}{d:D}(t:Reps K H F ds vs)(h:atI ds i=some d):∃v,atI vs i=some v/\Rep K H F d v:=by
 unfold atI at h ⊢;rw[<-t.length];cases e:ixN ds.length i with
 |none=>rw[e]at h;cases h
 |some j=>
  rw[e]at h;obtain ⟨v,e1,r⟩:=t.get (show ds[j]?=some d from h);exact ⟨v,e1,r⟩
theorem ZC:IxR X (Zz X.K):=by
 intro value slice pins s σ H x y v u Q I rx ry h hs;obtain ⟨F,G,a,b,r,ra,rb,h⟩:=h;generalize ea:view G a=va at h;unfold cg at h;split at h
 ·obtain ⟨p,vs,e,q,t⟩:=Rep.list r ra ea;subst e;have e2:y=.int _:=rb;subst e2;split at h
  ·rename_i d hd;obtain ⟨w,hw,rw'⟩:=Ed t hd;exact Xd value slice pins s σ H _ _ v u Q I rx ry ⟨p,vs,_,w,rfl,rfl,q,hw,h.now r rw'⟩ hs
  ·exact h.elim
 ·cases gm ea;obtain ⟨p,vs,e,q,t⟩:=ra;subst e;have e2:y=.int _:=rb;subst e2;split at h
  ·rename_i d hd;obtain ⟨w,hw,rw'⟩:=Ed t hd;exact Xe value slice pins s σ H _ _ v u Q I rx ry ⟨p,vs,_,w,rfl,rfl,q.sq,hw,h.now r rw'⟩ hs
  ·exact h.elim
 ·cases gn ea;obtain ⟨e,hl⟩:=ra;subst e;have e2:y=.int _:=rb;subst e2;split at h
  ·rename_i c hc;exact Xf value slice pins s σ H _ _ v u Q I rx ry ⟨_,_,c,rfl,rfl,by rw[bN];exact cO hl,hc,h.now r ⟨rfl,by show 1<=sz;decide⟩⟩ hs
  ·exact h.elim
 ·exact h.elim
theorem ZD(l:List Nat)(lo hi:Option Int):Txt.slice (tx l) lo hi=tx (cut l lo hi):=by
 have e:Builtin.Str.strSliceIndices lo hi 1 (tx l).length=sliceRange (sliceBounds lo hi none (tx l).length).1 (sliceBounds lo hi none (tx l).length).2.1 1:=by unfold Builtin.Str.strSliceIndices sliceBounds;cases lo <;> cases hi <;> rfl
 obtain ⟨h1,h2,h3⟩:=BP lo hi (tx l).length;rw[h1,h2,sliceRange_one]at e;have e2:((Builtin.Str.strSliceIndices lo hi 1 (tx l).length).filterMap ((tx l).cps[·]?))=cut l lo hi:=by rw[e,pick_run];unfold cut;rw[bN]
 unfold Txt.slice;split
 ·rename_i hh;rw[ae]at hh;have hl:=eq_of_beq hh.2;rw[e,ah,List.length_range,bN]at hl;have b1:HT.sIx l.length l.length hi<=l.length:=HT.Bv _ _ (ax _) hi;unfold cut;by_cases hz:l=[]
  ·subst hz;simp
  ·have hp:0 < l.length:=fv.mpr hz;have e3:HT.sIx l.length 0 lo=0:=by omega
   have e4:HT.sIx l.length l.length hi=l.length:=by omega
   rw[e3,e4];simp
 ·rw[e2]
theorem ZF{α:Type}(xs:List α)(lo hi:Option Int):(cut xs lo hi).length<=xs.length:=by unfold cut;rw[bo,ce];omega
theorem ZG{prog:Program}{w:World}{A:Around}{E:Value->Shared->Prop}{s:Shared}{t sl:Addr}{items:Array Value}{vl vu:Value}{lo hi:Option Int}{Q:Value->Shared->Prop}(ht:IsTup s.heap t items)(hs:s.heap.IsSliceOf sl vl vu .none)(pl:IsPart vl lo)(pu:IsPart vu hi)
  (hw:HT.sIx items.size 0 lo=0/\HT.sIx items.size items.size hi=items.size) (h:Q (.ref t) s):wpAny (model prog w) A (getItem (.ref t) (.ref sl)) Q E s:=by
 obtain ⟨os,hos,hcs,hds⟩:=id hs;have hTs:s.TypeIs (.ref sl) "slice":=⟨os,hos,hcs⟩;unfold getItem;try with_reducible refine ej ?_
 first |refine ag (bg ?_) |skip
 refine ag (wpAny_sequenceKey ht.typeIs (by decide) ?_);refine ag (eS (name:=Str.ofString "__getitem__") ht.typeIs eK
  (fR eK ht.typeIs entry_tuple_getitem ?_ (args_tuple_getitem _ _)))
 show wpAny _ _ (Builtin.Tuple.tupleItemsOf (.ref t) >>= _) _ _ s;refine ag (tupleItemsOf_ ht ?_);refine ag (wpAny_typeOf hTs ?_);rw[if_pos (by decide)];refine ag (HT.By hs pl pu ?_);have hyes:(((HT.sIx items.size 0 lo:Nat):Int)==0&&(1:Int)==1&&(HT.sIx items.size items.size hi - HT.sIx items.size 0 lo)==items.size)=true:=by rw[hw.1,hw.2];simp
 show wpAny _ _ (if (((HT.sIx items.size 0 lo:Nat):Int)==0&&(1:Int)==1&&(HT.sIx items.size items.size hi - HT.sIx items.size 0 lo)==items.size)=true then _ else _) _ _ s;rw[if_pos hyes];refine ag (m:=Builtin.Tuple.tupleIsExact _) (ag (wpAny_typeOf ht.typeIs (bg ?_)));rw[if_pos (by decide)];exact ag (wpAny_rule (bg ⟨_,rfl,bg h⟩))
theorem ZJ:SlR X (λx lo hi H Q=>∃a xs,x=.ref a/\SqT X.K H a xs/\(HT.sIx xs.length 0 lo=0/\HT.sIx xs.length xs.length hi=xs.length)/\Q (.ref a) H):=by
 intro pins s σ H x v vl vu lo hi sl Q I rx hs pl pu h;obtain ⟨a,xs,rfl,hx,hw,q⟩:=h;cases rx;obtain ⟨its,r,ht,hz⟩:=I.tuple hx;have hlen:its.toArray.size=xs.length:=by rw[ar];exact r.length.symm
 exact ⟨"tuple",_,eK.lookup,ht.typeIs,ZG ht hs pl pu (by rw[hlen];exact hw) ⟨.ref a,H,I,rfl,q⟩⟩
theorem Ef{K:PF}{H:Hp}{F:FZ}:∀ns:List Int,Reps K H F (ns.map D.int) (ns.map V.int)
 |[]=>rfl
 |n::ns=>⟨_,_,rfl,rfl,Ef ns⟩
noncomputable def ZK(K:PF)(fz:Bool):V->Option Int->Option Int->Hp->VK->Prop:=λx lo hi H Q=>∃F G a,R K H F G/\Rep K H F a x/\dO fz (view G a) lo hi G (PV K H F Q)
theorem Eg{K:PF}{H:Hp}{F:FZ}{ds:List D}{vs:List V}(t:Reps K H F ds vs)(lo hi:Option Int):Reps K H F (cut ds lo hi) (dM vs lo hi):=t.cut lo hi
theorem ZL(fz:Bool):SlR X (ZK X.K fz):=by
 intro pins s σ H x v vl vu lo hi sl Q I rx hs pl pu h;obtain ⟨F,G,a,r,ra,h⟩:=h;generalize ea:view G a=va at h;unfold dO at h;split at h
 ·obtain ⟨p,vs,e,q,t⟩:=Rep.list r ra ea;subst e;exact BR pins s σ H _ v vl vu lo hi sl Q I rx hs pl pu ⟨p,vs,rfl,q,eZ h r (Eg t lo hi)⟩
 ·rename_i ns;have ea':a=.scr ns:=by
   cases a with
   |ref p=>
    unfold view at ea;cases g:G p with
    |none=>simp only[g]at ea;cases ea
    |some o=>cases o;simp only[g]at ea;cases ea
   |_=>exact ea
  subst ea';obtain ⟨p,e,q⟩:=ra;subst e;refine BR pins s σ H _ v vl vu lo hi sl Q I rx hs pl pu ⟨p,_,rfl,q.sq,eZ h r ?_⟩;have e2:dM (ns.map V.int) lo hi=(cut ns lo hi).map V.int:=by unfold dM cut;rw[ah,List.map_take,List.map_drop]
  rw[e2];exact Ef (cut ns lo hi)
 ·cases gm ea;obtain ⟨p,vs,e,q,t⟩:=id ra;subst e;by_cases hw:HT.sIx vs.length 0 lo=0/\HT.sIx vs.length vs.length hi=vs.length
  ·refine ZJ pins s σ H _ v vl vu lo hi sl Q I rx hs pl pu ⟨p,vs,rfl,q.sq,hw,?_⟩;refine h.now r ?_;rename_i ds;have:cut ds lo hi=ds:=by
    unfold cut;rw[t.length,hw.1,hw.2];simp[<-t.length]
   rw[this];exact ra
  ·exact W6 pins s σ H _ v vl vu lo hi sl Q I rx hs pl pu ⟨p,vs,rfl,q.sq,hw,km h r (Eg t lo hi)⟩
 ·cases gn ea;obtain ⟨e,hl⟩:=ra;subst e;refine Yl pins s σ H _ v vl vu lo hi sl Q I rx hs pl pu ⟨_,rfl,by rw[bN];exact cO hl,?_⟩;rw[ZD];exact h.now r ⟨rfl,bv (ZF _ _ _) hl⟩
 ·exact h.elim
theorem Eh{K:PF}{H:Hp}{F:FZ}{G:DH}{d:D}{v:V}{b:Bool}(r:R K H F G)(h:Rep K H F d v)(e:truth (view G d)=some b):qe K v H b:=by
 have h':=sX r h;generalize view G d=w at e h';cases w with
 |non=>have e1:v=.non:=h';subst e1;simp only[truth,aT]at e;exact e.symm
 |bl x=>have e1:v=.bl x:=h';subst e1;simp only[truth,aT]at e;exact e.symm
 |int i=>have e1:v=.int i:=h';subst e1;simp only[truth,aT]at e;exact e.symm
 |str l=>
  obtain ⟨e1,hl⟩:=h';subst e1;simp only[truth,aT]at e;refine ⟨by rw[bN];exact cO hl,?_⟩;rw[bN,<-e];cases l with
  |nil=>rfl
  |cons c l=>simp;omega
 |tup l=>
  obtain ⟨a,vs,e1,q,t⟩:=h';subst e1;simp only[truth,aT]at e;refine .inr (.inl ⟨vs,q.sq,?_⟩);rw[<-e];cases l with
  |nil=>have t:vs=[]:=t;subst t;rfl
  |cons c l=>obtain ⟨_,_,e2,_⟩:=t;subst e2;rfl
 |lst l=>
  obtain ⟨a,vs,e1,q,t⟩:=h';subst e1;simp only[truth,aT]at e;refine .inl ⟨vs,q.sq,?_⟩;rw[<-e];cases l with
  |nil=>have t:vs=[]:=t;subst t;rfl
  |cons c l=>obtain ⟨_,_,e2,_⟩:=t;subst e2;rfl
 |ref a=>simp[truth]at e
 |scr a=>simp[truth]at e
 |exn a=>simp[truth]at e
 |obj _ _ _=>simp[truth]at e
theorem sY{K:PF}{H:Hp}{F:FZ}:∀{ds:List D}{vs:List V}{bs:List Bool},bools ds=some bs->Reps K H F ds vs->vs=bs.map V.bl
 |[],_,bs,e,h=>by
  simp only[bools,aT]at e;subst e;exact h
 |d::ds,_,bs,e,⟨v,w,e1,h,t⟩=>by
  cases d with
  |bl b=>
   simp only[bools]at e;cases q:bools ds with
   |none=>rw[q]at e;cases e
   |some s=>
    rw[q]at e;cases e;have hv:v=.bl b:=h;rw[e1,hv,sY q t];rfl
  |_=>simp[bools]at e
theorem bw{K:PF}{H:Hp}{F:FZ}{d:D}{vs:List V}(t:Reps K H F [d] vs):∃v,vs=[v]/\Rep K H F d v:=by obtain ⟨v,r,e,h,t⟩:=t;have t:r=[]:=t;subst t;exact ⟨v,e,h⟩
noncomputable def ik(K:PF)(f:Bf):List V->Hp->VK->Prop:=λvs H Q=>∃F G ds,R K H F G/\Reps K H F ds vs/\opB f (ds.map (view G)) (λd=>PV K H F Q d G)
theorem map_one{G:DH}{ds:List D}{x:D}(h:ds.map (view G)=[x]):∃d,ds=[d]/\view G d=x:=by
 match ds,h with
 |[d],h=>exact ⟨d,rfl,by simpa using h⟩
theorem ZM:bC X (.builtin "len") (ik X.K .len):=by
 intro pins s σ H xs us Q I rs h;obtain ⟨F,G,ds,r,t,h⟩:=h;generalize ea:ds.map (view G)=va at h;simp only[opB,vQ]at h;split at h
 ·obtain ⟨d,rfl,ev⟩:=map_one ea;obtain ⟨v,rfl,rv⟩:=bw t;obtain ⟨a,vs,e,q,t'⟩:=Rep.list r rv ev;subst e;exact BV pins s σ H _ us Q I rs ⟨a,vs,rfl,.inl q,by rw[<-t'.length];exact h.now r rfl⟩
 ·obtain ⟨d,rfl,ev⟩:=map_one ea;obtain ⟨v,rfl,rv⟩:=bw t;cases gm ev;obtain ⟨a,vs,e,q,t'⟩:=rv;subst e;exact BV pins s σ H _ us Q I rs ⟨a,vs,rfl,.inr q.sq,by rw[<-t'.length];exact h.now r rfl⟩
 ·obtain ⟨d,rfl,ev⟩:=map_one ea;obtain ⟨v,rfl,rv⟩:=bw t;cases gn ev;obtain ⟨e,hl⟩:=rv;subst e;exact Xk pins s σ H _ us Q I rs ⟨_,rfl,by rw[bN];exact cO hl,by rw[bN];exact h.now r rfl⟩
 ·exact h.elim
theorem ZP (hc:X.calm=true):bC X (.builtin "all") (ik X.K .all):=by
 intro pins s σ H xs us Q I rs h;obtain ⟨F,G,ds,r,t,h⟩:=h;generalize ea:ds.map (view G)=va at h;simp only[opB,qx]at h;split at h
 ·obtain ⟨d,rfl,ev⟩:=map_one ea;obtain ⟨v,rfl,rv⟩:=bw t;obtain ⟨a,vs,e,q,t'⟩:=Rep.list r rv ev;subst e;split at h
  ·rename_i bs hb;have e2:=sY hb t';subst e2;exact Yh hc pins s σ H _ us Q I rs ⟨a,bs,rfl,q,h.now r rfl⟩
  ·exact h.elim
 ·exact h.elim
theorem ZQ:bC X (.type "int") (ik X.K .int):=by
 intro pins s σ H xs us Q I rs h;obtain ⟨F,G,ds,r,t,h⟩:=h;generalize ea:ds.map (view G)=va at h;simp only[opB,qy]at h;split at h
 ·obtain ⟨d,rfl,ev⟩:=map_one ea;obtain ⟨v,rfl,rv⟩:=bw t;cases Zg ev;have e:v=.bl _:=rv;subst e;exact Bg pins s σ H _ us Q I rs (.inr ⟨_,rfl,h.now r rfl⟩)
 ·obtain ⟨d,rfl,ev⟩:=map_one ea;obtain ⟨v,rfl,rv⟩:=bw t;cases dN ev;have e:v=.int _:=rv;subst e;exact Bg pins s σ H _ us Q I rs (.inl ⟨_,rfl,h.now r rfl⟩)
 ·obtain ⟨d,rfl,ev⟩:=map_one ea;obtain ⟨v,rfl,rv⟩:=bw t;cases gn ev;obtain ⟨e,hl⟩:=rv;subst e;split at h
  ·rename_i n hn;exact Yj pins s σ H _ us Q I rs ⟨_,n,rfl,hn,by rw[bN];exact h.1,h.2.now r rfl⟩
  ·exact h.elim
 ·exact h.elim
theorem ZR:bC X (.type "tuple") (ik X.K .tuple):=by
 intro pins s σ H xs us Q I rs h;obtain ⟨F,G,ds,r,t,h⟩:=h;generalize ea:ds.map (view G)=va at h;simp only[opB,vR]at h;split at h
 ·obtain ⟨d,rfl,ev⟩:=map_one ea;obtain ⟨v,rfl,rv⟩:=bw t;obtain ⟨a,vs,e,q,t'⟩:=Rep.list r rv ev;subst e;exact BX pins s σ H _ us Q I rs ⟨a,vs,rfl,.inl ⟨q,km h r t'⟩⟩
 ·obtain ⟨d,rfl,ev⟩:=map_one ea;obtain ⟨v,rfl,rv⟩:=bw t;cases gm ev;obtain ⟨a,vs,e,q,t'⟩:=id rv;subst e;exact BX pins s σ H _ us Q I rs ⟨a,vs,rfl,.inr ⟨q.sq,h.now r rv⟩⟩
 ·exact h.elim
noncomputable def Ei(K:PF)(fz:Bool)(f:Lf):List V->Hp->VK->Prop:=λvs H Q=>∃F G ds,R K H F G/\Reps K H F ds vs/\cM f (ds.map (view G)) (λxs=>mk fz xs G (PV K H F Q))
theorem ZS(l:List Nat):∀(us:List Value),us.length=l.length->(∀(j:Nat)(v:Value),us[j]?=some v->∃(c:Nat)(u:Tok),l[j]?=some c/\v=Value.str ⟨#[c]⟩ u)->Vals (l.map λc=>V.str (tx [c])) us:=by
 induction l with
 |nil=>intro us h _;cases us with |nil=>exact .nil |cons _ _=>cases h
 |cons c l ih=>
  intro us h q;cases us with
  |nil=>cases h
  |cons u us=>
   obtain ⟨c',t,e1,e2⟩:=q 0 u (by simp);have e1:c=c':=by simpa using e1
   subst e1;exact .cons ⟨t,e2⟩ (ih us (by simpa using h) λj v hv=>by simpa using q (j+1) v (by simpa using hv))
theorem ZV (hc:X.calm=true):bC X (.type "list") (λxs H Q=>∃l:List Nat,xs=[.str (tx l)]/\l.length<=sizeLine/\∀p,H p=none->Q (.ref p) (upd H p (.lst (l.map λc=>V.str (tx [c]))))):=by
 intro pins s σ H xs us Q I r h;obtain ⟨l,rfl,hz,q⟩:=h;obtain ⟨u,rfl,t,rfl⟩:=vals1 r;have hz':(tx l).cps.size<=sizeLine:=by simpa using hz
 refine call_list_str (hn:=hz') (I.ok.hd hc) (tx l) t λh' tk acc' c' kp e hi=>?_;have hv:Vals (l.map λc=>V.str (tx [c])) acc'.toList:=by
  refine ZS l _ ?_ λj v hv=>?_
  ·rw[dL,hi.1];simp
  ·obtain ⟨c,u,e1,e2⟩:=hi.2 j v (by rw[<-fe];exact hv);exact ⟨c,u,by simpa using e1,e2⟩
 exact ⟨.ref s.heap.objs.size,_,I.laid (t':=tk) kp (ax _) (show ObjOk X.prog X.w _ h' _ (.lst _) from ⟨by rw[ah];exact hz,acc'.toList,c',hv,by rw[Array.toArray_toList];exact e⟩),rfl,q _ (I.hok.fresh (ax _))⟩
theorem xf{K:PF}{H:Hp}{F:FZ}:∀l:List Nat,Reps K H F (l.map λc=>D.str [c]) (l.map λc=>V.str (tx [c]))
 |[]=>rfl
 |c::l=>⟨_,_,rfl,⟨rfl,by show 1<=sz;decide⟩,xf l⟩
theorem ZW (hc:X.calm=true) (fz:Bool):bC X (.type "list") (Ei X.K fz .list):=by
 intro pins s σ H xs us Q I rs h;obtain ⟨F,G,ds,r,t,h⟩:=h;generalize ea:ds.map (view G)=va at h;simp only[cM,vW]at h;split at h
 ·obtain ⟨d,rfl,ev⟩:=map_one ea;obtain ⟨v,rfl,rv⟩:=bw t;obtain ⟨a,vs,e,q,t'⟩:=Rep.list r rv ev;subst e;exact BW pins s σ H _ us Q I rs ⟨a,vs,rfl,.inl q,eZ h r t'⟩
 ·obtain ⟨d,rfl,ev⟩:=map_one ea;obtain ⟨v,rfl,rv⟩:=bw t;cases gm ev;obtain ⟨a,vs,e,q,t'⟩:=id rv;subst e;exact BW pins s σ H _ us Q I rs ⟨a,vs,rfl,.inr q.sq,eZ h r t'⟩
 ·obtain ⟨d,rfl,ev⟩:=map_one ea;obtain ⟨v,rfl,rv⟩:=bw t;cases gn ev;obtain ⟨e,hl⟩:=rv;subst e;exact ZV hc pins s σ H _ us Q I rs ⟨_,rfl,cO hl,eZ h r (xf _)⟩
 ·exact h.elim
theorem xg{K:PF}{H:Hp}{F:FZ}:∀{ds:List D}{vs:List V}{ls:List (List Nat)},bh ds=some ls->Reps K H F ds vs->vs=(ls.map tx).map V.str
 |[],_,bs,e,h=>by
  simp only[bh,aT]at e;subst e;exact h
 |d::ds,_,bs,e,⟨v,w,e1,h,t⟩=>by
  cases d with
  |str b=>
   simp only[bh]at e;cases q:bh ds with
   |none=>rw[q]at e;cases e
   |some s=>
    rw[q]at e;cases e;obtain ⟨hv,_⟩:=h;rw[e1,hv,xg q t];rfl
  |_=>simp[bh]at e
theorem Ej{K:PF}{H:Hp}{F:FZ}:∀{ds:List D}{vs:List V}{ns:List Int},bV ds=some ns->Reps K H F ds vs->vs=ns.map V.int
 |[],vs,ns,e,t=>by
  simp only[bV,aT]at e;subst e;have t:vs=[]:=t;rw[t];rfl
 |d::ds,vs,ns,e,t=>by
  obtain ⟨v,r,e1,h,t⟩:=t;cases d with
  |int b=>
   simp only[bV]at e;cases q:bV ds with
   |none=>rw[q]at e;cases e
   |some s=>
    rw[q]at e;cases e;have hv:v=.int b:=h;rw[e1,hv,Ej q t];rfl
  |_=>simp[bV]at e
theorem Ek:∀{ns:List Int}{its:List Value},Vals (ns.map V.int) its->IntsAre its ns
 |[],its,h=>by cases h;exact .nil
 |n::ns,its,h=>by
  cases h with
  |cons a b=>
   obtain ⟨t,rfl⟩:=a;exact .cons n t (Ek b)
theorem El:∀{ls:List (List Nat)}{its:List Value},Vals ((ls.map tx).map V.str) its->StrsAre its (ls.map tx)
 |[],its,h=>by cases h;exact .nil
 |n::ns,its,h=>by
  cases h with
  |cons a b=>
   obtain ⟨t,rfl⟩:=a;exact .cons _ t (El b)
theorem Em{K:PF}{H:Hp}{F:FZ}:∀{ds:List D}{vs:List V}{ls:List (List Nat)},bh ds=some ls->Reps K H F ds vs->∀l∈ls,l.length<=sz
 |[],vs,ls,e,t=>by simp only[bh,aT]at e;subst e;intro l hl;cases hl
 |d::ds,vs,ls,e,t=>by
  obtain ⟨v,r,e1,h,t⟩:=t;cases d with
  |str b=>
   simp only[bh]at e;cases q:bh ds with
   |none=>rw[q]at e;cases e
   |some s=>
    rw[q]at e;cases e;intro l hl;rcases aS.mp hl with e |hl
    ·rw[e];exact h.2
    ·exact Em q t l hl
  |_=>simp[bh]at e
theorem Eo(val:Nat->List Nat):∀k,argBest (λi j=>decide (val i < val j)) k<=k/\∀j,j<=k->¬val j < val (argBest (λi j=>decide (val i < val j)) k)
 |0=>⟨ax _,λj hj=>by
  have:j=0:=by omega
  subst this;exact List.lt_irrefl _⟩
 |k+1=>by
  obtain ⟨h1,h2⟩:=Eo val k;simp only[argBest];by_cases hc:val (k+1) < val (argBest (λi j=>decide (val i < val j)) k)
  ·rw[if_pos (by simpa using hc)];refine ⟨ax _,λj hj=>?_⟩;rcases Nat.lt_or_ge j (k+1) with hlt |hge
   ·exact λh=>h2 j (by omega) (List.lt_trans h hc)
   ·have:j=k+1:=by omega
    subst this;exact List.lt_irrefl _
  ·rw[if_neg (by simpa using hc)];refine ⟨by omega,λj hj=>?_⟩;rcases Nat.lt_or_ge j (k+1) with hlt |hge
   ·exact h2 j (by omega)
   ·have:j=k+1:=by omega
    subst this;exact hc
section
variable {prog:Program} {w:World} {A:Around} {E:Value->Shared->Prop} {s:Shared} {l:Addr}
theorem sZ:∀{its:List Value}{ls:List (List Nat)}{i:Nat}{v:Value},StrsAre its (ls.map tx)->its[i]?=some v->∃t,v=.str (tx (ls.getD i [])) t
 |[],ls,i,v,_,h=>by simp at h
 |x::its,[],i,v,hs,h=>by cases hs
 |x::its,a::ls,0,v,hs,h=>by
  cases hs with
  |cons y t q=>exact ⟨t,by simpa using h.symm⟩
 |x::its,a::ls,i+1,v,hs,h=>by
  cases hs with
  |cons y t q=>
   have:=sZ (i:=i) (v:=v) q (by simpa using h);simpa using this
theorem ZX{Q:Value->Shared->Prop}{its:List Value}{ls:List (List Nat)}(hh:A.handled=none)(hl:s.heap.IsList l its.toArray)(hs:StrsAre its (ls.map tx))(hn:its.length=ls.length)(hne:0 < ls.length)
  (h:∀(m:List Nat)(t:Tok)(h':Heap)(tk:Nat),m∈ls->(∀a,a∈ls->¬a < m)->(∀b o,s.heap.get? b=some o->h'.get? b=some o)->Q (.str (tx m) t) { s with heap:=h',toks:=tk }):
  wpAny (model prog w) A (call (.builtin "min") [.ref l]) Q E s:=by
 have hlt:l < s.heap.objs.size:=by obtain ⟨_,e,_⟩:=hl;exact aI e
 refine call_min_walk (wpAny_pyIter_list hl ?_);refine ⟨_,_,_,_,_,_,λi j=>decide (ls.getD i [] < ls.getD j []),rfl,Walks.list (A:=A.in1) hh _ l (cm hlt) its.toArray,⟨⟨_,bd _ rfl,rfl,rfl⟩,hl.push _⟩,?_,?_,?_,?_⟩
 ·intro b hb;show b < (s.heap.push _).objs.size;rw[dE];rcases aS.mp hb with rfl |hb
  ·exact Nat.lt_succ_self _
  ·rcases aS.mp hb with rfl |hb
   ·exact Nat.lt_succ_of_lt hlt
   ·cases hb
 ·simpa [hn] using hne
 ·intro i j vi vj s Q E hi hj h;obtain ⟨t,rfl⟩:=sZ hs (by simpa using hi);obtain ⟨u,rfl⟩:=sZ hs (by simpa using hj);exact richCompare_gives (op:=.Lt) (typeIs_str s _ t) (typeIs_str s _ u) F.slot_str_lt F.entry_str_lt (F.args_str_lt_2 _ _) (gives_str_lt _ _ t u) (λe=>nomatch e) h
 ·intro v h' tk hP hk;obtain ⟨t,rfl⟩:=sZ hs (show its[_]?=some v by rw[<-List.getElem?_toArray];exact hP);obtain ⟨b1,b2⟩:=Eo (λi=>ls.getD i []) (its.toArray.size - 1);have hsz:its.toArray.size=ls.length:=by simpa using hn
  refine h _ t h' tk ?_ (λa ha=>?_) (old_kept hk)
  ·rw[eh,ba (by omega)];exact c9 _
  ·obtain ⟨j,hj,rfl⟩:=List.getElem_of_mem ha;have:=b2 j (by omega);rwa [show ls.getD j []=ls[j] by rw[eh,ba hj];rfl]at this
end
theorem ZZ (hc:X.calm=true):bC X (.builtin "min") (λxs H Q=>∃(p:Addr) (ns:List Int),xs=[.ref p]/\SqL X.K H p (ns.map V.int)/\ns≠[]/\∀m,m∈ns->(∀a,a∈ns->m<=a)->Q (.int m) H):=by
 intro pins s σ H xs us Q I r h;obtain ⟨p,ns,rfl,hq,hne,q⟩:=h;obtain ⟨u,rfl,ru⟩:=vals1 r;cases ru;obtain ⟨its,rv,pl,hz⟩:=I.list hq;have hi:=Ek rv;obtain ⟨xs,ex⟩:=hi.allInts.items;have hl:=pl.isList;rw[ex]at hl;have e1:xs.toList.map (·.1)=ns:=by rw[<-PySem.nums_intItems,<-ex];exact hi.numsOf
 have hsz:0 < xs.size:=by have:=fv.mpr hne;rw[<-e1,ah,dL]at this;exact this
 refine PySem.min_intList (I.ok.hd hc) hl hsz λv h' tk hv hk=>?_;obtain ⟨t,rfl⟩:=PySem.intItems_at hv;obtain ⟨b1,b2⟩:=PySem.argBest_lt (PySem.numAt xs) (xs.size - 1);refine ⟨.int _,H,I.kept hk,⟨t,rfl⟩,q _ ?_ λa ha=>?_⟩
 ·rw[<-e1,PySem.numAt_eq];exact PySem.getD_mem (by rw[ah,dL];omega)
 ·rw[<-e1]at ha;obtain ⟨j,hj,rfl⟩:=PySem.mem_getD ha;rw[ah,dL]at hj;rw[<-PySem.numAt_eq];exact b2 j (by omega)
theorem Z0 (hc:X.calm=true):bC X (.builtin "min") (λxs H Q=>∃(p:Addr) (ls:List (List Nat)),xs=[.ref p]/\SqL X.K H p ((ls.map tx).map V.str)/\ls≠[]/\∀m,m∈ls->(∀a,a∈ls->¬a < m)->Q (.str (tx m)) H):=by
 intro pins s σ H xs us Q I r h;obtain ⟨p,ls,rfl,hq,hne,q⟩:=h;obtain ⟨u,rfl,ru⟩:=vals1 r;cases ru;obtain ⟨its,rv,pl,hz⟩:=I.list hq;have hlen:its.length=ls.length:=by rw[<-rv.length];simp
 refine ZX (I.ok.hd hc) pl.isList (El rv) hlen (fv.mpr hne) λm t h' tk h1 h2 hk=>?_;exact ⟨.str (tx m),H,I.kept hk,⟨t,rfl⟩,q m h1 h2⟩
theorem Z1{ds:List D}{ls:List (List Nat)}(h0:bV ds=none)(h1:bh ds=some ls):ls≠[]:=by
 rintro rfl;cases ds with
 |nil=>simp[bV]at h0
 |cons x y=>cases x <;> simp only[bh]at h1 <;> first | (cases h1;done) | (cases hd:bh y <;> rw[hd]at h1 <;> cases h1)
theorem Z2 (hc:X.calm=true):bC X (.builtin "min") (ik X.K .min):=by
 intro pins s σ H xs us Q I rs h;obtain ⟨F,G,ds,r,t,h⟩:=h;generalize ea:ds.map (view G)=va at h;simp only[opB,j6]at h;split at h
 ·obtain ⟨d,rfl,ev⟩:=map_one ea;obtain ⟨v,rfl,rv⟩:=bw t;obtain ⟨a,vs,e,q,t'⟩:=Rep.list r rv ev;subst e;split at h
  ·rename_i ns hb;have e2:=Ej hb t';subst e2;exact ZZ hc pins s σ H _ us Q I rs ⟨a,ns,rfl,q,h.1,λm h1 h2=>(h.2 m h1 h2).now r rfl⟩
  ·split at h
   ·rename_i hb0 _ ls hb;have e2:=xg hb t';have hsz:=Em hb t';subst e2;refine Z0 hc pins s σ H _ us Q I rs ⟨a,ls,rfl,q,?_,λm h1 h2=>(h m h1 h2).now r ⟨rfl,hsz m h1⟩⟩;exact Z1 (by assumption) hb
   ·exact h.elim
 ·exact h.elim
theorem Z3:bootBuiltins "min"=some (.builtin "min"):=by ac_rfl
theorem Z4:bC X (.type "str") (ik X.K .str):=by
 intro pins s σ H xs us Q I r h;obtain ⟨F,G,ds,rr,t,h⟩:=h;generalize ea:ds.map (view G)=va at h;simp only[opB,vV]at h;split at h
 ·rename_i i;obtain ⟨d',rfl,ev⟩:=map_one ea;obtain ⟨v',rfl,rv⟩:=bw t;have e1:=dN ev;subst e1;have e2:v'=.int i:=rv;subst e2;obtain ⟨⟨h0,h1⟩,h2⟩:=h;have hm:(i.toNat:Int)=i:=Int.toNat_of_nonneg h0;have hl:(gA i.toNat).length<=3:=by
   have:=digits_le ⟨i.toNat,by omega⟩;unfold gA;rw[dL];exact this
  have hs:=h2.now rr (v:=.str (tx (gA i.toNat))) ⟨rfl,by have hz:sz=1000000:=rfl;omega⟩;have ht:tx (gA i.toNat)=vI i.toNat:=(vz _).symm;rw[ht]at hs;exact YK pins s σ H _ us Q I r ⟨i.toNat,by rw[hm],by omega,hs⟩
 ·exact h.elim
noncomputable def dF:D->Option String
 |.non=>some "NoneType"
 |.bl _=>some "bool"
 |.int _=>some "int"
 |.str _=>some "str"
 |.tup _=>some "tuple"
 |.lst _=>some "list"
 |_=>none
theorem Z5{K:PF}{H:Hp}{F:FZ}{G:DH}{d:D}{v:V}{T:String}(r:R K H F G)(h:Rep K H F d v)(e:dF (view G d)=some T):TyOf K H v (.type T):=by
 have h':=sX r h;generalize view G d=w at e h';cases w with
 |non=>have e1:v=.non:=h';subst e1;simp only[dF,aT]at e;subst e;exact .non
 |bl x=>have e1:v=.bl x:=h';subst e1;simp only[dF,aT]at e;subst e;exact .bl x
 |int i=>have e1:v=.int i:=h';subst e1;simp only[dF,aT]at e;subst e;exact .int i
 |str l=>obtain ⟨e1,hl⟩:=h';subst e1;simp only[dF,aT]at e;subst e;exact .str _
 |tup l=>obtain ⟨a,vs,e1,q,t⟩:=h';subst e1;simp only[dF,aT]at e;subst e;exact .tup q.it
 |lst l=>obtain ⟨a,vs,e1,q,t⟩:=h';subst e1;simp only[dF,aT]at e;subst e;exact .lst q.2
 |ref a=>simp[dF]at e
 |scr a=>simp[dF]at e
 |exn a=>simp[dF]at e
 |obj _ _ _=>simp[dF]at e
noncomputable def Z6 (K:PF):Prop:=∀T t:String,T∈["NoneType","bool","int","str","tuple","list"]->fU t=true->PySem.W.kitOne K (.type T) (.type t)=some (T==t||(T=="bool"&&t=="int"))
theorem Z7{K:PF}:Z6 K:=by intro T t hT ht;simp only[aS,eM,or_false]at hT;simp only[fU,cK,aE]at ht;rcases hT with rfl |rfl |rfl |rfl |rfl |rfl <;> rcases ht with (((rfl |rfl) |rfl) |rfl) |rfl <;> (with_unfolding_all rfl)
theorem Z8 {d:D} {t:String} {b:Bool} (e:isT t d=some b):∃T,dF d=some T/\T∈["NoneType","bool","int","str","tuple","list"]/\(fU t=true->b=(T==t||(T=="bool"&&t=="int"))):=by
 have comm:∀a b:String,(a==b)=(b==a):=λa b=>by rw[Bool.eq_iff_iff,aE,aE];exact ⟨Eq.symm,Eq.symm⟩
 cases d with
 |non=>
  refine ⟨"NoneType",rfl,by simp,λht=>?_⟩;simp only[isT,aT]at e;simp only[fU,cK,aE]at ht;subst e;rcases ht with (((rfl |rfl) |rfl) |rfl) |rfl <;> rfl
 |bl _=>
  refine ⟨"bool",rfl,by simp,λht=>?_⟩;simp only[isT,aT]at e;rw[<-e,comm t "bool"];rfl
 |int _=>
  refine ⟨"int",rfl,by simp,λht=>?_⟩;simp only[isT,aT]at e;rw[<-e,comm t "int"];simp
 |str _=>
  refine ⟨"str",rfl,by simp,λht=>?_⟩;simp only[isT,aT]at e;rw[<-e,comm t "str"];simp
 |tup _=>
  refine ⟨"tuple",rfl,by simp,λht=>?_⟩;simp only[isT,aT]at e;rw[<-e,comm t "tuple"];simp
 |lst _=>
  refine ⟨"list",rfl,by simp,λht=>?_⟩;simp only[isT,aT]at e;rw[<-e,comm t "list"];simp
 |ref a=>simp[isT]at e
 |scr a=>simp[isT]at e
 |exn a=>simp[isT]at e
 |obj _ _ _=>simp[isT]at e
theorem Ep(s:List Nat):∀ls:List (List Nat),Str.join (tx s) (ls.map tx)=tx (dR s ls)
 |[]=>rfl
 |[x]=>rfl
 |x::y::r=>by
  have ih:=Ep s (y::r);show tx x++tx s++Str.join (tx s) ((y::r).map tx)=_;rw[ih,qp,qp];rfl
theorem Er(s:List Nat):∀ls:List (List Nat),(dR s ls).length<=(ls.map (·.length)).sum+ls.length * s.length
 |[]=>by simp[dR]
 |[x]=>by simp[dR]
 |x::y::r=>by
  have ih:=Er s (y::r);simp only[dR,aw,bq,List.sum_cons,c5]at ih ⊢;have:(r.length+1+1) * s.length=(r.length+1) * s.length+s.length:=by rw[Nat.succ_mul]
  omega
noncomputable def il(K:PF)(m:Mf):V->List V->Hp->VK->Prop:=λx vs H Q=>∃F G d ds,R K H F G/\Rep K H F d x/\Reps K H F ds vs/\opM m d ds G (PV K H F Q)
theorem Z9:MtR X "str.join" (il X.K .join):=by
 intro pins s σ H x xs v us Q I rx rs h;obtain ⟨F,G,d,ds,r,rd,t,h⟩:=h;simp only[opM]at h;generalize ea:ds.map (view G)=va at h;simp only[qC]at h;split at h
 ·obtain ⟨d',rfl,ev⟩:=map_one ea;obtain ⟨v',rfl,rv⟩:=bw t;obtain ⟨a,vs,e,q,t'⟩:=Rep.list r rv ev;subst e;obtain ⟨e1,hl⟩:=rd;subst e1;split at h
  ·rename_i ls hls;have e2:=xg hls t';subst e2;refine XQ pins s σ H _ _ v us Q I rx rs ⟨_,a,_,rfl,rfl,q,?_,?_⟩
   ·have hz:=h.1;rw[List.map_map,ah,bN,show (λx:Str=>x.length)∘tx=λl=>l.length from funext bN];have:sz=1000000:=rfl;omega
   ·rw[Ep];exact h.2.now r ⟨rfl,bv (Er _ _) h.1⟩
  ·exact h.elim
 ·exact h.elim
theorem aaa:MtM X "list.append" (il X.K .append):=by
 intro pins s σ H x xs v us Q I rx rs h;obtain ⟨F,G,d,ds,r,rd,t,h⟩:=h;simp only[opM,qD]at h;split at h
 ·obtain ⟨v',rfl,rv⟩:=bw t;have e1:x=.ref _:=rd;subst e1;split at h
  ·rename_i ds0 hg;obtain ⟨vs,q,t'⟩:=r.lst hg;refine Xq pins s σ H _ _ v us Q I rx rs ⟨_,vs,v',rfl,rfl,q,?_,?_⟩
   ·rw[<-t'.length];exact bn h.1 szl
   ·exact h.2 _ _ _ (fP r hg) (r.write hg (t'.append (Reps.cons rv Reps.nil))) rfl
  ·exact h.elim
 ·exact h.elim
theorem aab:MtR X "list.count" (il X.K .count):=by
 intro pins s σ H x xs v us Q I rx rs h;obtain ⟨F,G,d,ds,r,rd,t,h⟩:=h;simp only[opM]at h;generalize ea:view G d=va at h;simp only[qH]at h;split at h
 ·obtain ⟨a,vs,e,q,t'⟩:=Rep.list r rd ea;subst e;obtain ⟨v',rfl,rv⟩:=bw t;have e2:v'=.bl true:=rv;subst e2;split at h
  ·rename_i bs hbs;have e3:=sY hbs t';subst e3;exact YD pins s σ H _ _ v us Q I rx rs ⟨a,bs,rfl,rfl,q,h.now r rfl⟩
  ·exact h.elim
 ·exact h.elim
theorem aac:MtR X "list.index" (il X.K .index):=by
 intro pins s σ H x xs v us Q I rx rs h;obtain ⟨F,G,d,ds,r,rd,t,h⟩:=h;simp only[opM]at h;generalize ea:view G d=va at h;simp only[qI]at h;split at h
 ·obtain ⟨a,vs,e,q,t'⟩:=Rep.list r rd ea;subst e;obtain ⟨v',rfl,rv⟩:=bw t;have e2:v'=.bl true:=rv;subst e2;split at h
  ·rename_i bs hbs;have e3:=sY hbs t';subst e3;exact YG pins s σ H _ _ v us Q I rx rs ⟨a,bs,rfl,rfl,q,h.1,h.2.now r rfl⟩
  ·exact h.elim
 ·exact h.elim
noncomputable def aad:V->List V->Hp->VK->Prop:=λx vs H Q=>∃(l:Addr)(xs:List V)(i:Int)(y:V),x=.ref l/\vs=[.int i,y]/\H l=some (.lst xs)/\xs.length < sizeLine/\0<=i/\i<=1000000/\Q .non (upd H l (.lst (xs.take i.toNat++y::xs.drop i.toNat)))
theorem aae{its:List Value}{i:Int}{u:Value}(h:0<=i):(its.toArray.extract 0 (if i < 0 then (i+(its.toArray.size:Int)).toNat else min i.toNat its.toArray.size)).push u++its.toArray.extract (if i < 0 then (i+(its.toArray.size:Int)).toNat else min i.toNat its.toArray.size)=(its.take i.toNat++u::its.drop i.toNat).toArray:=by
 rw[if_neg (by omega),PySem.W.kl_ins_eq,ar];by_cases hc:i.toNat<=its.length
 ·rw[Nat.min_eq_left hc]
 ·rw[Nat.min_eq_right (by omega),d6 (ax _),List.drop_of_length_le (ax _),d6 (by omega),List.drop_of_length_le (by omega)]
theorem aaf{i:Int}(h0:0<=i)(h1:i<=1000000):¬(!Builtin.List.listFitsIndex i)=true:=by
 have:Builtin.List.listFitsIndex i=true:=by unfold Builtin.List.listFitsIndex;rw[ae];exact ⟨cb (by omega),cb (by omega)⟩
 rw[this];decide
theorem aag:MtM X "list.insert" aad:=by
 intro pins s σ H x vs v us Q I rx rv h;obtain ⟨l,xs,i,y,rfl,rfl,hH,hz,h0,h1,q⟩:=h;cases rx;cases rv with
 |cons r1 rv=>
  obtain ⟨t,rfl⟩:=r1;obtain ⟨u,rfl,ru⟩:=L2.Vals.one rv;obtain ⟨z,its,m,r,hl,e⟩:=I.lstM hH;refine fi PySem.F.slot_list_insert ⟨_,e,rfl⟩ PySem.F.entry_list_insert (PySem.F.args_list_insert_3 _ _ _) (PySem.AutoSeq1.list_insert_list_int_val_1 l its.toArray m i t u (aaf h0 h1) (by rw[ar];omega)) ⟨e,?_⟩;refine ⟨.non,_,I.lset (its':=its.take i.toNat++u::its.drop i.toNat) hH e (aae h0) ((r.take _).append (.cons ru (r.drop _))) ?_,rfl,q⟩;rw[aw,c5,bo,ce];omega
theorem aah:MtM X "list.insert" (il X.K .insert):=by
 intro pins s σ H x xs v us Q I rx rs h;obtain ⟨F,G,d,ds,r,rd,t,h⟩:=h;simp only[opM,qG]at h;split at h
 ·rename_i i y;obtain ⟨v1,r1,rfl,rv1,t⟩:=t;obtain ⟨v',rfl,rv⟩:=bw t;have e1:x=.ref _:=rd;subst e1;have e2:v1=.int i:=rv1;subst e2;split at h
  ·rename_i ds0 hg;obtain ⟨h1,h2,h3,h4⟩:=h;obtain ⟨vs,q,t'⟩:=r.lst hg;refine aag pins s σ H _ _ v us Q I rx rs ⟨_,vs,i,v',rfl,rfl,q,?_,h2,h3,?_⟩
   ·rw[<-t'.length];exact bn h1 szl
   ·exact h4 _ _ _ (fP r hg) (r.write hg ((t'.take _).append (Reps.cons rv (t'.drop _)))) rfl
  ·exact h.elim
 ·exact h.elim
theorem aai:MtM X "list.pop" (il X.K .pop):=by
 intro pins s σ H x xs v us Q I rx rs h;obtain ⟨F,G,d,ds,r,rd,t,h⟩:=h;simp only[opM,vX]at h;split at h
 ·rename_i i;obtain ⟨v',rfl,rv⟩:=bw t;have e1:x=.ref _:=rd;subst e1;have e2:v'=.int i:=rv;subst e2;split at h
  ·rename_i ds0 hg;obtain ⟨h1,h2,h3⟩:=h;obtain ⟨vs,q,t'⟩:=r.lst hg;split at h3
   ·rename_i y hy;obtain ⟨u,hu,ru⟩:=t'.get hy;have hlt:i.toNat < vs.length:=(av.mp hu).1;refine Xy pins s σ H _ _ v us Q I rx rs ⟨_,vs,i,i.toNat,u,rfl,rfl,q,by omega,by omega,?_,hu,?_⟩
    ·unfold seqIndex?;have e3:¬i < 0:=by omega
     simp[e3];omega
    ·rw[List.eraseIdx_eq_take_drop_succ];rw[List.eraseIdx_eq_take_drop_succ]at h3;have rw2:=r.write hg ((t'.take i.toNat).append (t'.drop (i.toNat+1)));exact h3 _ _ _ (fP r hg) rw2 (Rep.ext (fP r hg) ru)
   ·exact h3.elim
  ·exact h.elim
 ·exact h.elim
noncomputable def aaj(K:PF):V->List V->Hp->VK->Prop:=λx xs H Q=>∃F G d,R K H F G/\Rep K H F d x/\xs=[]/\gD d G (PV K H F Q)
theorem aak:MtM X "list.pop" (aaj X.K):=by
 intro pins s σ H x xs v us Q I rx rs h;obtain ⟨F,G,d,r,rd,rfl,h⟩:=h;unfold gD at h;split at h
 ·have e1:x=.ref _:=rd;subst e1;split at h
  ·rename_i ds0 hg;obtain ⟨vs,q,t'⟩:=r.lst hg;split at h
   ·rename_i y hy;obtain ⟨u,hu,ru⟩:=t'.get hy;refine Xw pins s σ H _ _ v us Q I rx rs ⟨_,vs,u,rfl,rfl,q,by rw[<-t'.length];exact hu,?_⟩;rw[List.dropLast_eq_take];rw[List.dropLast_eq_take]at h;have e2:=t'.length;have rw2:=r.write hg (t'.take (ds0.length - 1));rw[<-e2];exact h _ _ _ (fP r hg) rw2 (Rep.ext (fP r hg) ru)
   ·exact h.elim
  ·exact h.elim
 ·exact h.elim
theorem aal{K:PF}{H:Hp}{F:FZ}{G:DH}{d:D}{v:V}{ds:List D}(r:R K H F G)(h:Rep K H F d v)(e:view G d=.lst ds):∃a vs,v=.ref a/\H a=some (.lst vs)/\Reps K H F ds vs:=by
 cases d with
 |lst xs=>
  have e':D.lst xs=.lst ds:=e;cases e';obtain ⟨a,vs,e1,q,t⟩:=h;exact ⟨a,vs,e1,q.2,t⟩
 |ref p=>
  have hv:v=.ref p:=h;unfold view at e;cases g:G p with
  |none=>simp only[g]at e;cases e
  |some o=>
   cases o with
   |lst xs=>
    simp only[g]at e;cases e;obtain ⟨vs,q,t⟩:=r.lst g;exact ⟨p,vs,hv,q,t⟩
 |_=>cases (show _=D.lst ds from e)
theorem aam:MtM X "list.extend" (il X.K .extend):=by
 intro pins s σ H x xs v us Q I rx rs h;obtain ⟨F,G,d,ds,r,rd,t,h⟩:=h;simp only[opM]at h;generalize ea:ds.map (view G)=va at h;simp only[qF]at h;split at h
 ·obtain ⟨d',rfl,ev⟩:=map_one ea;obtain ⟨v',rfl,rv⟩:=bw t;obtain ⟨b,vs2,e2,q2,t2⟩:=aal r rv ev;subst e2;have e1:x=.ref _:=rd;subst e1;split at h
  ·rename_i ds0 hg;obtain ⟨vs,q,t'⟩:=r.lst hg;refine Xu pins s σ H _ _ v us Q I rx rs ⟨_,b,vs,vs2,rfl,rfl,q,q2,?_,?_⟩
   ·rw[<-t'.length,<-t2.length];exact Nat.le_of_lt (bn h.1 szl)
   ·exact h.2 _ _ _ (fP r hg) (r.write hg (t'.append t2)) rfl
  ·exact h.elim
 ·exact h.elim
theorem aan:u9 X (λo i x H Q=>∃F G a b c,R X.K H F G/\Rep X.K H F a o/\Rep X.K H F b i/\Rep X.K H F c x/\dU a b c G (λG'=>∀H' F',Ext H F H' F'->R X.K H' F' G'->Q H')):=by
 intro pins s σ H o i v ov iv u Q I ro ri rv h;obtain ⟨F,G,a,b,c,r,ra,rb,rc,h⟩:=h;unfold dU at h;split at h
 ·have e1:o=.ref _:=ra;have e2:i=.int _:=rb;subst e1;subst e2;split at h
  ·rename_i ds hg;obtain ⟨vs,q,t⟩:=r.lst hg;split at h
   ·rename_i j hj;refine set_list pins s σ H _ _ v ov iv u Q I ro ri rv ⟨_,vs,_,j,rfl,rfl,q,by rw[<-t.length];exact hj,?_⟩;exact h _ _ (fP r hg) (r.write hg (t.set rc j))
   ·exact h.elim
  ·exact h.elim
 ·exact h.elim
theorem aao(op:Operator):PIp X op (λx y H Q=>∃F G a b,R X.K H F G/\Rep X.K H F a x/\Rep X.K H F b y/\dD op a b (λd=>PV X.K H F Q d G)):=by
 intro pins s σ H x y v u Q I rx ry h;obtain ⟨F,G,a,b,r,ra,rb,h⟩:=h;unfold dD at h;split at h
 ·have e1:x=.int _:=ra;have e2:y=.int _:=rb;subst e1;subst e2;exact VR pins s σ H _ _ v u Q I rx ry ⟨_,_,rfl,rfl,h.now r rfl⟩
 ·obtain ⟨e1,l1⟩:=ra;obtain ⟨e2,l2⟩:=rb;subst e1;subst e2;refine Wa pins s σ H _ _ v u Q I rx ry ⟨_,_,rfl,rfl,by rw[bN,bN];exact cO h.1,?_⟩;rw[qp];exact h.2.now r ⟨rfl,by rw[aw];exact h.1⟩
 ·have e1:x=.int _:=ra;have e2:y=.int _:=rb;subst e1;subst e2;exact VV pins s σ H _ _ v u Q I rx ry ⟨_,_,rfl,rfl,h.now r rfl⟩
 ·exact h.elim
end
inductive SK where
 |lst (a:Addr) |tup (a:Addr) |str (x:Str) (t:Tok)
noncomputable def SK.val:SK->Value
 |.lst a=>.ref a
 |.tup a=>.ref a
 |.str x t=>.str x t
noncomputable def SK.cls:SK->String
 |.lst _=>"list_iterator"
 |.tup _=>"tuple_iterator"
 |.str x _=>strIterType x
noncomputable def SK.obj(k:SK):Obj:={ cls:=.type k.cls,data:=.fields #[k.val,.int 0 0] }
noncomputable def SK.pos(k:SK)(it:Addr)(i:Nat)(h:Heap):Prop:=∃o,h.get? it=some o/\o.cls=.type k.cls/\o.data=.fields #[k.val,.int i 0]
noncomputable def SK.Sat(H:Hp)(vs:List V):SK->Prop
 |.lst a=>H a=some (.lst vs)
 |.tup a=>H a=some (.tup vs)
 |.str x _=>vs=x.cps.toList.map λc=>V.str ⟨#[c]⟩
noncomputable def SK.No(e:Addr):SK->Prop
 |.lst a=>a≠e
 |.tup a=>a≠e
 |.str _ _=>True
theorem SK.Sat.no{H:Hp}{vs:List V}{k:SK}{e:Addr}(h:k.Sat H vs)(he:H e=none):k.No e:=by
 cases k with
 |lst a=>exact bf (show H a=some _ from h) he
 |tup a=>exact bf (show H a=some _ from h) he
 |str x t=>trivial
noncomputable def SK.On(its:Array Value)(h:Heap):SK->Prop
 |.lst a=>h.IsList a its
 |.tup a=>h.IsTuple a its
 |.str _ _=>True
theorem SK.On.keeps{its:Array Value}{h h':Heap}{k:SK}(x:k.On its h)(kk:∀b o,k.val=.ref b->h.get? b=some o->h'.get? b=some o):k.On its h':=by
 cases k with
 |lst a=>obtain ⟨o,e,r⟩:=x;exact ⟨o,kk a o rfl e,r⟩
 |tup a=>obtain ⟨o,e,r⟩:=x;exact ⟨o,kk a o rfl e,r⟩
 |str _ _=>trivial
section
variable {prog:Program} {w:World} {A:Around} {E:Value->Shared->Prop} {s:Shared}
theorem SK.iter{k:SK}{its:Array Value}{Q:Value->Shared->Prop}(h:k.On its s.heap)(q:Q (.ref s.heap.objs.size) { s with heap:=s.heap.push k.obj }):wpAny (model prog w) A (pyIter k.val) Q E s:=by
 cases k with
 |lst a=>exact wpAny_pyIter_list h q
 |tup a=>exact wpAny_pyIter_tuple h q
 |str x t=>exact wpAny_pyIter_strU q
theorem SK.pos0{k:SK}{h:Heap}:k.pos h.objs.size 0 (h.push k.obj):=⟨_,bd _ rfl,rfl,rfl⟩
theorem SK.pos.keep{k:SK}{it:Addr}{i:Nat}{h h':Heap}(x:k.pos it i h)(kk:∀o,h.get? it=some o->h'.get? it=some o):k.pos it i h':=let ⟨o,e,r⟩:=x;⟨o,kk o e,r⟩
theorem aap{it t:Addr}{i:Nat}{items}{x:Value}{Q:Value->Shared->Prop}(hit:s.heap.IsTupleIter it t i)
  (ht:s.heap.IsTuple t items) (hx:items[i]?=some x)
  (hQ:∀h',h'.IsTupleIter it t (i+1)->Heap.SameBut it s.heap h'->Q x { s with heap:=h' }):
  wpAny (model prog w) A (Builtin.SmallTypes.nextOf (.ref it)) Q E s:=by
 obtain ⟨o,ho,hc,hd⟩:=id hit;obtain ⟨ol,hol,_,nl,hdl⟩:=ht;unfold Builtin.SmallTypes.nextOf;refine ag (eS (name:=Str.ofString "__next__") hit.typeIs fw
  (fR fw hit.typeIs F.entry_tuple_iterator_next ?_ (F.args_tuple_iterator_next_1 _)))
 show wpAny _ _ (field (.ref it) 0 >>= _) _ _ s;refine ag (dv ho hd (x:=.ref t) rfl ?_);show wpAny _ _ (if (Value.ref t==Value.none)=true then _ else _) _ _ s;rw[if_neg (show ¬((Value.ref t==Value.none)=true) from b6)];show wpAny _ _ (field (.ref it) 1 >>= _) _ _ s;refine ag (dv ho hd (x:=.int i 0) rfl ?_);show wpAny _ _ (seqItems? (.ref t) >>= _) _ _ s;refine ag (ey hol hdl ?_);simp only[dP,hx];refine ag (wpAny_setField ho hd (by simp) (bg ⟨x,rfl,bg (hQ _ ?_ (Heap.SameBut.update ..))⟩));exact ⟨_,Heap.get?_update_self _ ho (Obj.isFreed_of_fields (Obj.data_mapFields hd _)),(Obj.cls_mapFields ..).trans hc,by
  rw[Obj.data_mapFields hd];simp[rawInt]⟩
theorem aaq{it t:Addr}{i:Nat}{items}{Q:Value->Shared->Prop}(hh:A.handled=none)
  (hit:s.heap.IsTupleIter it t i) (ht:s.heap.IsTuple t items) (hx:items[i]?=none)
  (hE:∀h' e,Heap.ExtBut it s.heap h'->(∃o,h'.get? e=some o/\o.cls=.type "StopIteration")->E (.ref e) { s with heap:=h' }):
  wpAny (model prog w) A (Builtin.SmallTypes.nextOf (.ref it)) Q E s:=by
 obtain ⟨o,ho,hc,hd⟩:=id hit;obtain ⟨ol,hol,_,nl,hdl⟩:=ht;unfold Builtin.SmallTypes.nextOf;refine ag (eS (name:=Str.ofString "__next__") hit.typeIs fw
  (fR fw hit.typeIs F.entry_tuple_iterator_next ?_ (F.args_tuple_iterator_next_1 _)))
 show wpAny _ _ (field (.ref it) 0 >>= _) _ _ s;refine ag (dv ho hd (x:=.ref t) rfl ?_);show wpAny _ _ (if (Value.ref t==Value.none)=true then _ else _) _ _ s;rw[if_neg (show ¬((Value.ref t==Value.none)=true) from b6)];show wpAny _ _ (field (.ref it) 1 >>= _) _ _ s;refine ag (dv ho hd (x:=.int i 0) rfl ?_);show wpAny _ _ (seqItems? (.ref t) >>= _) _ _ s;refine ag (ey hol hdl ?_);simp only[dP,hx];refine ag (wpAny_rule (ag (wpAny_setField ho hd (by simp) ?_)));show wpAny _ _ (newExc (.type "StopIteration") [] >>= _) _ _ _;refine ag ?_;simp only[newExc,newTuple];refine ag (wpAny_newObj_type ?_ (by size_fits));refine ag (m:=firstArgMember _ _) (wpAny_of_eq (a:=Value.none) (by first |rfl | (simp only[firstArgMember];rfl)) ?_);refine wpAny_newObj_type ?_ (by size_fits);simp only[raiseNew];refine ag (wpAny_handled ?_);first |rw[show A.in1.handled=none from hh] |rw[hh]
 refine ag (bg (wpAny_throw ?_));exact hE _ _ (((Heap.SameBut.update ..).extBut.push _).push _) ⟨_,bd _ rfl,rfl⟩
theorem aar(hh:A.handled=none)(it l:Addr)(hne:l≠it)(items:Array Value):
  Draws prog w A it [it,l] items.size (λi v=>items[i]?=some v) (λi h=>h.IsTupleIter it l i/\h.IsTuple l items) where
 live:=λ_ _ st=>let ⟨o,ho,_⟩:=st.1;⟨o,ho⟩
 frame:=λ_ _ _ st hk=>⟨let ⟨o,e,r⟩:=st.1;⟨o,hk it (by simp) o e,r⟩,let ⟨o,e,r⟩:=st.2;⟨o,hk l (by simp) o e,r⟩⟩
 item:=λi s Q E hi st hQ=>by
  refine aap st.1 st.2 (x:=items[i]) (by simp[hi]) λh' hit' hs'=>?_;exact hQ _ h' s.toks (by simp[hi]) ⟨hit',let ⟨o,e,r⟩:=st.2;⟨o,hs'.extBut l o hne e,r⟩⟩ hs'
 done:=λs Q E st hE=>aaq hh st.1 st.2 (by simp) hE
end
structure Drawn(P:Program)(w:World)(A:Around)(k:SK)(it:Addr)(i:Nat)(vs:List V)(h:Heap)(fp:List Addr)(Pd:Nat->Value->Prop)(S:Nat->Heap->Prop):Prop where
 D:Draws P w A it fp vs.length Pd S
 st:S i h
 val:∀j v,Pd j v->∃x,vs[j]?=some x/\RelV x v
 pos:∀j h,S j h->k.pos it j h
 fp:∀b∈fp,b=it\/k.val=.ref b
theorem drawn{X:Cx}{pins:List (Addr×Obj)}{σ:L2.St}{H:Hp}{s:Shared}{A:Around}(hh:A.handled=none)(I:Inv X pins σ H s){k:SK}{it:Addr}{i:Nat}{vs:List V}(sat:k.Sat H vs)(hit:H it=none)(p:k.pos it i s.heap):
  ∃fp Pd S,Drawn X.prog X.w A k it i vs s.heap fp Pd S:=by
 cases k with
 |lst a=>
  have sat:H a=some (.lst vs):=sat;obtain ⟨its,r,pl,_⟩:=I.list (SqL.of sat);refine ⟨[it,a],λj v=>its.toArray[j]?=some v,λj h=>h.IsListIter it a j/\h.IsList a its.toArray,?_,⟨p,pl.isList⟩,?_,λj h st=>st.1,?_⟩
  ·have D:=Draws.list (prog:=X.prog) (w:=X.w) hh it a (bf sat hit) its.toArray;rw[ar,<-r.length]at D;exact D
  ·intro j v e;have e:its.toArray[j]?=some v:=e;have hj:j < vs.length:=by
    rw[r.length];have:=(Array.getElem?_eq_some_iff.mp e).1;simpa using this
   obtain ⟨u,e2,r2⟩:=r.get (show vs[j]?=some vs[j] by simp[hj]);refine ⟨vs[j],by simp[hj],?_⟩;have:its[j]?=some v:=by simpa using e
   rw[this]at e2;cases e2;exact r2
  ·intro b hb;have hb:b=it\/b=a:=by simpa using hb
   rcases hb with e |e
   ·exact .inl e
   ·exact .inr (by rw[e];rfl)
 |tup a=>
  have sat:H a=some (.tup vs):=sat;obtain ⟨its,r,pl,_⟩:=I.tuple (SqT.of sat);refine ⟨[it,a],λj v=>its.toArray[j]?=some v,λj h=>h.IsTupleIter it a j/\h.IsTuple a its.toArray,?_,⟨p,pl⟩,?_,λj h st=>st.1,?_⟩
  ·have D:=aar (prog:=X.prog) (w:=X.w) hh it a (bf sat hit) its.toArray;rw[ar,<-r.length]at D;exact D
  ·intro j v e;have e:its.toArray[j]?=some v:=e;have hj:j < vs.length:=by
    rw[r.length];have:=(Array.getElem?_eq_some_iff.mp e).1;simpa using this
   obtain ⟨u,e2,r2⟩:=r.get (show vs[j]?=some vs[j] by simp[hj]);refine ⟨vs[j],by simp[hj],?_⟩;have:its[j]?=some v:=by simpa using e
   rw[this]at e2;cases e2;exact r2
  ·intro b hb;have hb:b=it\/b=a:=by simpa using hb
   rcases hb with e |e
   ·exact .inl e
   ·exact .inr (by rw[e];rfl)
 |str x t=>
  have sat:vs=x.cps.toList.map λc=>V.str ⟨#[c]⟩:=sat;refine ⟨[it],λi v=>∃c u,x.cps[i]?=some c/\v=.str ⟨#[c]⟩ u,λi h=>h.IsStrIter it (strIterType x) x t i,?_,p,?_,λj h st=>st,?_⟩
  ·have D:=Yd (prog:=X.prog) (w:=X.w) hh it x t;have e:x.cps.size=vs.length:=by rw[sat,ah,dL]
   rw[e]at D;exact D
  ·rintro j v ⟨c,u,e1,e2⟩;refine ⟨V.str ⟨#[c]⟩,?_,u,e2⟩;rw[sat,bS,fe,e1];rfl
  ·intro b hb;exact .inl (by simpa using hb)
noncomputable def Jk(k:SK):It:=⟨λi H=>∃vs,k.Sat H vs/\i < vs.length,λi H x H'=>H'=H/\∀vs,k.Sat H vs->vs[i]?=some x,λi H=>∃vs,k.Sat H vs/\vs.length=i⟩
noncomputable def Je(k:SK):It:=⟨λi H=>∃vs,k.Sat H vs/\i < vs.length,λi H x H'=>∃T y,H T=none/\x=.ref T/\H'=upd H T (.tup [.int i,y])/\∀vs,k.Sat H vs->vs[i]?=some y,λi H=>∃vs,k.Sat H vs/\vs.length=i⟩
theorem xj{H:Hp}{k:SK}{vs ws:List V}(h:k.Sat H vs)(h':k.Sat H ws):vs=ws:=by
 cases k with
 |lst a=>have e:=(show H a=some _ from h).symm.trans h';cases e;rfl
 |tup a=>have e:=(show H a=some _ from h).symm.trans h';cases e;rfl
 |str x t=>exact (show vs=_ from h).trans (show ws=_ from h').symm
theorem aas{P:Program}{w:World}{K:PF}{elts:List Expr}{x1:Nat}{pos:Pos}(k:SK)(e it:Addr)(hne:e≠it):
  Turn P w K (.Tuple elts x1 pos) (Je k) [e,it] e (λi h=>(∃old,IsEnum h e it i old)/\k.pos it i h) where
 mem:=by simp
 obj:=λi h st b hb=>by
  obtain ⟨⟨old,he⟩,o,ho,c,d⟩:=st;have hb:b=e\/b=it:=by simpa using hb
  rcases hb with rfl |rfl
  ·exact ⟨_,he,λv z=>by have z':Data.fields _=Data.cell v:=z;cases z'⟩
  ·exact ⟨o,ho,λv z=>by rw[d]at z;cases z⟩
 keep:=λi h h' st kk=>⟨let ⟨old,he⟩:=st.1;⟨old,kk e (by simp) _ he⟩,st.2.keep λo ho=>kk it (by simp) o ho⟩
 item:=by
  intro X hP hw hK hc i pins s σ H E I hf st hg;subst hP hw hK;obtain ⟨vs,sat,hi⟩:=hg;obtain ⟨⟨old,he⟩,hit⟩:=st;have hfe:=hf e (by simp);have hfi:=hf it (by simp);obtain ⟨fp,Pd,S,Dr⟩:=drawn (A:=X.A.in1) (I.ok.hd hc) I sat hfi.1 hit;have helt:e < s.heap.objs.size:=aI he;have hef:e∉fp:=λhb=>by
   rcases Dr.fp e hb with z |z
   ·exact hne z
   ·have:=sat.no hfe.1;cases k with
    |lst a=>cases z;exact this rfl
    |tup a=>cases z;exact this rfl
    |str _ _=>cases z
  refine wpAny_pyNext_enum_itemD Dr.D he Dr.st hi hne hef λu h1 tk hu heo hit1 ht1 hz1 hk1=>?_;obtain ⟨x,hx,ru⟩:=Dr.val _ _ hu;refine ⟨_,rfl,?_⟩;refine wpAny_letOwnedTupleGo_enum heo λh2 he2 hs2=>?_;have hs2':Heap.SameBut e h1 h2:=hs2;have hn:H s.heap.objs.size=none:=I.hok.fresh (ax _);have k2:∀b o,b∉[e,it]->s.heap.get? b=some o->h2.get? b=some o:=λb o hb q=>by
   have hb':b≠e/\b≠it:=by simpa using hb
   exact hs2'.extBut b o hb'.1 (hk1 b o hb'.1 hb'.2 q)
  have I2:Inv X pins σ H { s with heap:=h2,toks:=tk+1 }:=I.turnedL hf k2;have ht2:h2.get? s.heap.objs.size=some { cls:=.type "tuple",data:=.seq #[.int i tk,u] }:=hs2'.extBut _ _ (fE helt) ht1;have ob:ObjOk X.prog X.w (upd H s.heap.objs.size (.tup [.int i,x])) h2 s.heap.objs.size (.tup [.int i,x]):=
   ⟨by rw[fI];simp,[.int i tk,u],.cons ⟨_,rfl⟩ (.cons ru .nil),⟨_,ht2,rfl,_,rfl⟩⟩
  have I3:=I2.track (I.fpOk (ax _) hn) ob;have nee:s.heap.objs.size≠e:=fE helt;have nei:s.heap.objs.size≠it:=by obtain ⟨o,ho,_⟩:=hit;exact fE (aI ho)
  refine ⟨.ref s.heap.objs.size,_,I3,rfl,⟨s.heap.objs.size,x,hn,rfl,rfl,λys hy=>by rw[xj hy sat];exact hx⟩,⟨⟨u,?_⟩,?_⟩,λb hb=>?_⟩
  ·show IsEnum h2 e it (((i+1:Nat)):Int) u;rw[show (((i+1:Nat):Int))=(i:Int)+1 by omega];exact he2
  ·exact (Dr.pos _ _ hit1).keep λo ho=>hs2'.extBut _ _ (Ne.symm hne) ho
  ·have hb':b=e\/b=it:=by simpa using hb
   rw[aJ (by rcases hb' with rfl |rfl;exact Ne.symm nee;exact Ne.symm nei)];exact (hf b hb).1
 done:=by
  intro X hP hw hK hc i pins s σ H E I hf st hg;subst hP hw hK;obtain ⟨vs,sat,hi⟩:=hg;subst hi;obtain ⟨⟨old,he⟩,hit⟩:=st;have hfi:=hf it (by simp);obtain ⟨fp,Pd,S,Dr⟩:=drawn (A:=X.A.in1) (I.ok.hd hc) I sat hfi.1 hit;refine wpAny_pyNext_enum_endD Dr.D he Dr.st λh' eb=>⟨rfl,I.turnedL (t':=s.toks) hf λb o hb q=>?_⟩;have hb':b≠e/\b≠it:=by simpa using hb
  exact eb b o hb'.2 q
 self:=λA i s Q E st h=>by
  obtain ⟨⟨old,he⟩,_⟩:=st;exact wpAny_pyIter_enum he h
theorem aat{P:Program}{w:World}{K:PF}{tg:Expr}(k:SK)(it:Addr):Turn P w K tg (Jk k) [it] it (λi h=>k.pos it i h) where
 mem:=by simp
 obj:=λi h st b hb=>by
  have e:b=it:=by simpa using hb
  subst e;obtain ⟨o,e,c,d⟩:=st;exact ⟨o,e,λv z=>by rw[d]at z;cases z⟩
 keep:=λi h h' st kk=>st.keep λo e=>kk it (by simp) o e
 item:=by
  intro X hP hw hK hc i pins s σ H E I hf st hg;obtain ⟨vs,sat,hi⟩:=hg;have hfi:=hf it (by simp);cases k with
  |lst a=>
   have sat':H a=some (.lst vs):=sat;refine cw ((Az (tg:=tg) a it).item X hP hw hK hc i pins s σ H E I hf st ⟨vs,vs[i],SqL.of sat',by simp[hi]⟩) ?_ (λ_ _ e=>e);rintro r s1 ⟨u,hr,h1⟩;refine ⟨u,hr,cw h1 ?_ (λ_ _ e=>e)⟩;rintro _ s2 ⟨x,H',I',rx,⟨e1,e2⟩,st',fr⟩;exact ⟨x,H',I',rx,⟨e1,λws hw'=>e2 ws (SqL.of (show H a=some (.lst ws) from hw'))⟩,st',fr⟩
  |tup a=>
   have sat':H a=some (.tup vs):=sat;refine cw ((Ba (tg:=tg) a it).item X hP hw hK hc i pins s σ H E I hf st ⟨vs,vs[i],SqT.of sat',by simp[hi]⟩) ?_ (λ_ _ e=>e);rintro r s1 ⟨u,hr,h1⟩;refine ⟨u,hr,cw h1 ?_ (λ_ _ e=>e)⟩;rintro _ s2 ⟨x,H',I',rx,⟨e1,e2⟩,st',fr⟩;exact ⟨x,H',I',rx,⟨e1,λws hw'=>e2 ws (SqT.of (show H a=some (.tup ws) from hw'))⟩,st',fr⟩
  |str y t=>
   have sat':vs=y.cps.toList.map λc=>V.str ⟨#[c]⟩:=sat;have hlen:vs.length=y.cps.size:=by rw[sat',ah,dL]
   refine cw ((vq (tg:=tg) it y t).item X hP hw hK hc i pins s σ H E I hf st (show i < y.cps.size by omega)) ?_ (λ_ _ e=>e);rintro r s1 ⟨u,hr,h1⟩;refine ⟨u,hr,cw h1 ?_ (λ_ _ e=>e)⟩;rintro _ s2 ⟨x,H',I',rx,⟨e1,c,e2,e3⟩,st',fr⟩;refine ⟨x,H',I',rx,⟨e1,λws hw'=>?_⟩,st',fr⟩;have hw':ws=y.cps.toList.map λc=>V.str ⟨#[c]⟩:=hw';rw[hw',e3,bS,fe,e2];rfl
 done:=by
  intro X hP hw hK hc i pins s σ H E I hf st hg;obtain ⟨vs,sat,hi⟩:=hg;cases k with
  |lst a=>exact (Az (tg:=tg) a it).done X hP hw hK hc i pins s σ H E I hf st ⟨vs,SqL.of (show H a=some (.lst vs) from sat),by omega⟩
  |tup a=>exact (Ba (tg:=tg) a it).done X hP hw hK hc i pins s σ H E I hf st ⟨vs,SqT.of (show H a=some (.tup vs) from sat),by omega⟩
  |str y t=>
   have sat':vs=y.cps.toList.map λc=>V.str ⟨#[c]⟩:=sat;have hlen:vs.length=y.cps.size:=by rw[sat',ah,dL]
   exact (vq (tg:=tg) it y t).done X hP hw hK hc i pins s σ H E I hf st (show i=y.cps.size by omega)
 self:=λA i s Q E st h=>by
  cases k with
  |lst a=>exact wpAny_pyIter_listiter st h
  |tup a=>exact wpAny_pyIter_tupleiter st h
  |str y t=>exact (vq (K:=K) (tg:=tg) it y t).self A i s Q E st h
open Builtin Builtin.Str
section
variable {prog:Program} {w:World} {A:Around} {E:Value->Shared->Prop} {s:Shared}
theorem aau{z TI TO i1 i2:Addr}{k n1 n2:Nat}{fp1 fp2:List Addr}{P1 P2:Nat->Value->Prop}{S1 S2:Nat->Heap->Prop}{a b:Value}{Q:Value->Shared->Prop}(D:ZApart z TI TO i1 i2)
  (D1:Draws prog w A i1 fp1 n1 P1 S1) (D2:Draws prog w A i2 fp2 n2 P2 S2) (f1:∀c∈fp1,c≠z/\c≠TO/\c≠i2) (f2:∀c∈fp2,c≠z/\c≠TO/\c≠i1)
  (hz:IsZip s.heap z TI TO .none) (hTI:IsPair s.heap TI (.ref i1) (.ref i2)) (hTO:IsPair s.heap TO a b)
  (h1:S1 k s.heap) (h2:S2 k s.heap) (hx:k < n1) (hy:k < n2)
  (hQ:∀h' tk c d,P1 k c->P2 k d->IsZip h' z TI TO (rawInt s.heap.objs.size)->IsPair h' TO c d->S1 (k+1) h'->S2 (k+1) h'->
   IsPair h' s.heap.objs.size c d->h'.objs.size=s.heap.objs.size+1->
   (∀c o,c≠z->c≠TO->c≠i1->c≠i2->s.heap.get? c=some o->h'.get? c=some o)->Q (.ref s.heap.objs.size) { s with heap:=h',toks:=tk }):
  wpAny (model prog w) A (Builtin.«zip.__next__» ⟨[.ref z],[]⟩) (λfin s'=>∃v,fin=.done (.ret v)/\Q v s') E s:=by
 have e1:∀{h h':Heap}{c:Addr}{j:Nat},S1 j h->Heap.ExtBut c h h'->(∀b∈fp1,b≠c)->S1 j h':=λq e n=>D1.frame _ _ _ q λb hb o y=>e b o (n b hb) y;have e2:∀{h h':Heap}{c:Addr}{j:Nat},S2 j h->Heap.ExtBut c h h'->(∀b∈fp2,b≠c)->S2 j h':=λq e n=>D2.frame _ _ _ q λb hb o y=>e b o (n b hb) y;have z1:∀b∈fp1,b≠z:=λb hb=>(f1 b hb).1;have t1:∀b∈fp1,b≠TO:=λb hb=>(f1 b hb).2.1;have j1:∀b∈fp1,b≠i2:=λb hb=>(f1 b hb).2.2;have z2:∀b∈fp2,b≠z:=λb hb=>(f2 b hb).1;have t2:∀b∈fp2,b≠TO:=λb hb=>(f2 b hb).2.1;have j2:∀b∈fp2,b≠i1:=λb hb=>(f2 b hb).2.2;show wpAny _ _ (field (.ref z) 2 >>= _) _ _ _;refine ag (dv hz rfl (x:=.bool false) rfl ?_);show wpAny _ _ (field (.ref z) 3 >>= _) _ _ _;refine ag (dv hz rfl (x:=.ref TI) rfl ?_);refine ag (ey hTI rfl ?_);show wpAny _ _ (Builtin.SmallTypes.ownedTupleIsFree (.ref z) >>= _) _ _ _;refine ag ?_;unfold Builtin.SmallTypes.ownedTupleIsFree;refine ag (dv hz rfl (x:=.none) rfl (bg ?_));simp only[if_true];refine ag (wpAny_rule ?_);refine ag (dv hz rfl (x:=.ref TO) rfl ?_);refine ag (et hz (by simp) λh₁ hz₁ hs₁=>?_);replace hz₁:IsZip h₁ z TI TO .ellipsis:=hz₁;replace hs₁:Heap.SameBut z s.heap h₁:=hs₁;refine ag ?_;simp only[List.zipIdx_cons,List.zipIdx_nil,List.forIn_cons,List.forIn_nil];refine ag (ag (wpAny_onRaise ?_));show wpAny _ _ (Builtin.SmallTypes.nextOf (.ref i1) >>= _) _ _ _;refine ag (D1.item k _ _ _ hx (e1 h1 hs₁.extBut z1) λc h₂ tk₂ hc h1₂ hs₂=>bg ?_);replace hs₂:Heap.SameBut i1 h₁ h₂:=hs₂;have hTO₂:IsPair h₂ TO a b:=hs₂.extBut _ _ D.TOi1 (hs₁.extBut _ _ D.TOz hTO);refine ag (ey hTO₂ rfl ?_);refine ag (wpAny_updateSeq_pair hTO₂ λh₃ hTO₃ hs₃=>?_);replace hTO₃:IsPair h₃ TO c b:=hTO₃;replace hs₃:Heap.SameBut TO h₂ h₃:=hs₃;refine ag (wpAny_letGo (bg ?_));refine ag (ag (wpAny_onRaise ?_));show wpAny _ _ (Builtin.SmallTypes.nextOf (.ref i2) >>= _) _ _ _;refine ag (D2.item k _ _ _ hy (e2 (e2 (e2 h2 hs₁.extBut z2) hs₂.extBut j2) hs₃.extBut t2) λd h₄ tk₄ hd h2₄ hs₄=>bg ?_);replace hs₄:Heap.SameBut i2 h₃ h₄:=hs₄;have hTO₄:IsPair h₄ TO c b:=hs₄.extBut _ _ D.TOi2 hTO₃;refine ag (ey hTO₄ rfl ?_);refine ag (wpAny_updateSeq_pair hTO₄ λh₅ hTO₅ hs₅=>?_);replace hTO₅:IsPair h₅ TO c d:=hTO₅;replace hs₅:Heap.SameBut TO h₄ h₅:=hs₅;refine ag (wpAny_letGo (bg (bg ?_)));refine ag (ey hTO₅ rfl ?_);refine ag (wpAny_newTuple ?_);have hsz:h₅.objs.size=s.heap.objs.size:=by rw[hs₅.1,hs₄.1,hs₃.1,hs₂.1,hs₁.1]
 have hz₅:IsZip h₅ z TI TO .ellipsis:=hs₅.extBut _ _ D.TOz.symm (hs₄.extBut _ _ D.i2z.symm (hs₃.extBut _ _ D.TOz.symm (hs₂.extBut _ _ D.i1z.symm hz₁)));have hk₅:∀c o,c≠z->c≠TO->c≠i1->c≠i2->s.heap.get? c=some o->h₅.get? c=some o:=λc o c1 c2 c3 c4 e=>
  hs₅.extBut _ _ c2 (hs₄.extBut _ _ c4 (hs₃.extBut _ _ c2 (hs₂.extBut _ _ c3 (hs₁.extBut _ _ c1 e))))
 have h1₅:S1 (k+1) h₅:=e1 (e1 (e1 h1₂ hs₃.extBut t1) hs₄.extBut j1) hs₅.extBut t1;have h2₅:S2 (k+1) h₅:=e2 h2₄ hs₅.extBut t2;have hzlt:z < h₅.objs.size:=aI hz₅;show wpAny _ _ (Builtin.SmallTypes.ownedTupleHandOut (.ref z) (.ref h₅.objs.size) >>= _) _ _ _;refine ag ?_;unfold Builtin.SmallTypes.ownedTupleHandOut;have hz₆:IsZip (h₅.push { cls:=.type "tuple",data:=.seq #[c,d] }) z TI TO .ellipsis:=am _ hz₅;refine ag (et hz₆ (by simp) λh₇ hz₇ hs₇=>?_);replace hz₇:IsZip h₇ z TI TO (rawInt h₅.objs.size):=hz₇;refine et hz₇ (by simp) λh₈ hz₈ hs₈=>?_;replace hz₈:IsZip h₈ z TI TO (rawInt h₅.objs.size):=hz₈;have up:∀c o,c≠z->h₅.get? c=some o->h₈.get? c=some o:=λc o c1 e=>hs₈.extBut _ _ c1 (hs₇.extBut _ _ c1 (am _ e));have hT₈:IsPair h₈ h₅.objs.size c d:=hs₈.extBut _ _ (fE hzlt) (hs₇.extBut _ _ (fE hzlt) (bd _ rfl));have hz8:h₈.objs.size=h₅.objs.size+1:=by rw[hs₈.1,hs₇.1,dE]
 rw[hsz]at hz₈ hT₈ hz8;refine bg ⟨_,rfl,?_⟩;show Q (.ref h₅.objs.size) _;rw[hsz];exact hQ h₈ tk₄ c d hc hd hz₈ (up _ _ D.TOz hTO₅) (D1.frame _ _ _ h1₅ λb hb o y=>up b o (z1 b hb) y) (D2.frame _ _ _ h2₅ λb hb o y=>up b o (z2 b hb) y) hT₈ hz8 λc o c1 c2 c3 c4 e=>up c o c1 (hk₅ c o c1 c2 c3 c4 e)
theorem aav{z TI TO i1 i2:Addr}{n1:Nat}{fp1:List Addr}{P1:Nat->Value->Prop}{S1:Nat->Heap->Prop}{a b:Value}{Q:Fin->Shared->Prop}(D:ZApart z TI TO i1 i2)
  (D1:Draws prog w A i1 fp1 n1 P1 S1) (f1:∀c∈fp1,c≠z)
  (hz:IsZip s.heap z TI TO .none) (hTI:IsPair s.heap TI (.ref i1) (.ref i2)) (hTO:IsPair s.heap TO a b) (h1:S1 n1 s.heap)
  (hE:∀h' e,(∀c o,c≠z->c≠TO->c≠i1->c≠i2->s.heap.get? c=some o->h'.get? c=some o)->(∃o,h'.get? e=some o/\o.cls=.type "StopIteration")->E (.ref e) { s with heap:=h' }):
  wpAny (model prog w) A (Builtin.«zip.__next__» ⟨[.ref z],[]⟩) Q E s:=by
 show wpAny _ _ (field (.ref z) 2 >>= _) _ _ _;refine ag (dv hz rfl (x:=.bool false) rfl ?_);show wpAny _ _ (field (.ref z) 3 >>= _) _ _ _;refine ag (dv hz rfl (x:=.ref TI) rfl ?_);refine ag (ey hTI rfl ?_);show wpAny _ _ (Builtin.SmallTypes.ownedTupleIsFree (.ref z) >>= _) _ _ _;refine ag ?_;unfold Builtin.SmallTypes.ownedTupleIsFree;refine ag (dv hz rfl (x:=.none) rfl (bg ?_));simp only[if_true];refine ag (wpAny_rule ?_);refine ag (dv hz rfl (x:=.ref TO) rfl ?_);refine ag (et hz (by simp) λh₁ hz₁ hs₁=>?_);replace hz₁:IsZip h₁ z TI TO .ellipsis:=hz₁;replace hs₁:Heap.SameBut z s.heap h₁:=hs₁;refine ag ?_;simp only[List.zipIdx_cons,List.zipIdx_nil,List.forIn_cons,List.forIn_nil];refine ag (ag (wpAny_onRaise ?_));show wpAny _ _ (Builtin.SmallTypes.nextOf (.ref i1) >>= _) _ _ _;refine ag (D1.done _ _ _ (D1.frame _ _ _ h1 λb hb o y=>hs₁.extBut b o (f1 b hb) y) λh₂ e hs₂ he=>?_);obtain ⟨oe,hoe,hce⟩:=he;have hz₂:IsZip h₂ z TI TO .ellipsis:=hs₂ _ _ D.i1z.symm hz₁;have hez:e≠z:=λx=>by subst x;rw[hz₂]at hoe;cases hoe;simp at hce
 refine et hz₂ (by simp) λh₃ _ hs₃=>hE h₃ e (λc o c1 _ c3 _ x=>hs₃.extBut _ _ c1 (hs₂ _ _ c3 (hs₁.extBut _ _ c1 x))) ⟨oe,hs₃.extBut _ _ hez hoe,hce⟩
theorem aaw{z TI TO i1 i2:Addr}{k n1 n2:Nat}{fp1 fp2:List Addr}{P1 P2:Nat->Value->Prop}{S1 S2:Nat->Heap->Prop}{a b:Value}{Q:Fin->Shared->Prop}(D:ZApart z TI TO i1 i2)
  (D1:Draws prog w A i1 fp1 n1 P1 S1) (D2:Draws prog w A i2 fp2 n2 P2 S2) (f1:∀c∈fp1,c≠z/\c≠TO/\c≠i2) (f2:∀c∈fp2,c≠z/\c≠TO/\c≠i1)
  (hz:IsZip s.heap z TI TO .none) (hTI:IsPair s.heap TI (.ref i1) (.ref i2)) (hTO:IsPair s.heap TO a b) (h1:S1 k s.heap) (h2:S2 k s.heap) (hx:k < n1) (hy:k=n2)
  (hE:∀h' tk e,(∀c o,c≠z->c≠TO->c≠i1->c≠i2->s.heap.get? c=some o->h'.get? c=some o)->(∃o,h'.get? e=some o/\o.cls=.type "StopIteration")->E (.ref e) { s with heap:=h',toks:=tk }):
  wpAny (model prog w) A (Builtin.«zip.__next__» ⟨[.ref z],[]⟩) Q E s:=by
 have e1:∀{h h':Heap}{c:Addr}{j:Nat},S1 j h->Heap.ExtBut c h h'->(∀b∈fp1,b≠c)->S1 j h':=λq e n=>D1.frame _ _ _ q λb hb o y=>e b o (n b hb) y;have e2:∀{h h':Heap}{c:Addr}{j:Nat},S2 j h->Heap.ExtBut c h h'->(∀b∈fp2,b≠c)->S2 j h':=λq e n=>D2.frame _ _ _ q λb hb o y=>e b o (n b hb) y;have z1:∀b∈fp1,b≠z:=λb hb=>(f1 b hb).1;have z2:∀b∈fp2,b≠z:=λb hb=>(f2 b hb).1;have t2:∀b∈fp2,b≠TO:=λb hb=>(f2 b hb).2.1;have j2:∀b∈fp2,b≠i1:=λb hb=>(f2 b hb).2.2;show wpAny _ _ (field (.ref z) 2 >>= _) _ _ _;refine ag (dv hz rfl (x:=.bool false) rfl ?_);show wpAny _ _ (field (.ref z) 3 >>= _) _ _ _;refine ag (dv hz rfl (x:=.ref TI) rfl ?_);refine ag (ey hTI rfl ?_);show wpAny _ _ (Builtin.SmallTypes.ownedTupleIsFree (.ref z) >>= _) _ _ _;refine ag ?_;unfold Builtin.SmallTypes.ownedTupleIsFree;refine ag (dv hz rfl (x:=.none) rfl (bg ?_));simp only[if_true];refine ag (wpAny_rule ?_);refine ag (dv hz rfl (x:=.ref TO) rfl ?_);refine ag (et hz (by simp) λh₁ hz₁ hs₁=>?_);replace hz₁:IsZip h₁ z TI TO .ellipsis:=hz₁;replace hs₁:Heap.SameBut z s.heap h₁:=hs₁;refine ag ?_;simp only[List.zipIdx_cons,List.zipIdx_nil,List.forIn_cons,List.forIn_nil];refine ag (ag (wpAny_onRaise ?_));show wpAny _ _ (Builtin.SmallTypes.nextOf (.ref i1) >>= _) _ _ _;refine ag (D1.item k _ _ _ hx (e1 h1 hs₁.extBut z1) λc h₂ tk₂ hc h1₂ hs₂=>bg ?_);replace hs₂:Heap.SameBut i1 h₁ h₂:=hs₂;have hTO₂:IsPair h₂ TO a b:=hs₂.extBut _ _ D.TOi1 (hs₁.extBut _ _ D.TOz hTO);refine ag (ey hTO₂ rfl ?_);refine ag (wpAny_updateSeq_pair hTO₂ λh₃ hTO₃ hs₃=>?_);replace hs₃:Heap.SameBut TO h₂ h₃:=hs₃;refine ag (wpAny_letGo (bg ?_));refine ag (ag (wpAny_onRaise ?_));show wpAny _ _ (Builtin.SmallTypes.nextOf (.ref i2) >>= _) _ _ _;subst hy;refine ag (D2.done _ _ _ (e2 (e2 (e2 h2 hs₁.extBut z2) hs₂.extBut j2) hs₃.extBut t2) λh₄ e hs₄ he=>?_);obtain ⟨oe,hoe,hce⟩:=he;have hz₄:IsZip h₄ z TI TO .ellipsis:=hs₄ _ _ D.i2z.symm (hs₃.extBut _ _ D.TOz.symm (hs₂.extBut _ _ D.i1z.symm hz₁));have hez:e≠z:=λx=>by subst x;rw[hz₄]at hoe;cases hoe;simp at hce
 refine et hz₄ (by simp) λh₅ _ hs₅=>hE h₅ tk₂ e (λc o c1 c2 c3 c4 x=>hs₅.extBut _ _ c1 (hs₄ _ _ c4 (hs₃.extBut _ _ c2 (hs₂.extBut _ _ c3 (hs₁.extBut _ _ c1 x))))) ⟨oe,hs₅.extBut _ _ hez hoe,hce⟩
end
noncomputable def Jz(k l:SK):It:=⟨λi H=>∃vs ws,k.Sat H vs/\l.Sat H ws/\i < vs.length/\i < ws.length,
 λi H x H'=>∃T y z,H T=none/\x=.ref T/\H'=upd H T (.tup [y,z])/\(∀vs,k.Sat H vs->vs[i]?=some y)/\(∀ws,l.Sat H ws->ws[i]?=some z),
 λi H=>∃vs ws,k.Sat H vs/\l.Sat H ws/\(vs.length=i/\i<=ws.length\/i < vs.length/\ws.length=i)⟩
theorem aax{P:Program}{w:World}{K:PF}{elts:List Expr}{x1:Nat}{pos:Pos}(k l:SK)(z TI TO i1 i2:Addr)(D:ZApart z TI TO i1 i2):
  Turn P w K (.Tuple elts x1 pos) (Jz k l) [z,TI,TO,i1,i2] z
   (λi h=>IsZip h z TI TO .none/\IsPair h TI (.ref i1) (.ref i2)/\(∃a b,IsPair h TO a b)/\k.pos i1 i h/\l.pos i2 i h) where
 mem:=by simp
 obj:=λi h st b hb=>by
  obtain ⟨hz,hTI,⟨a,c,hTO⟩,⟨o1,e1,_,d1⟩,⟨o2,e2,_,d2⟩⟩:=st;have hb':b=z\/b=TI\/b=TO\/b=i1\/b=i2:=by simpa using hb
  rcases hb' with rfl |rfl |rfl |rfl |rfl
  ·exact ⟨_,hz,λv q=>by have q':Data.fields _=Data.cell v:=q;cases q'⟩
  ·exact ⟨_,hTI,λv q=>by have q':Data.seq _ _=Data.cell v:=q;cases q'⟩
  ·exact ⟨_,hTO,λv q=>by have q':Data.seq _ _=Data.cell v:=q;cases q'⟩
  ·exact ⟨o1,e1,λv q=>by rw[d1]at q;cases q⟩
  ·exact ⟨o2,e2,λv q=>by rw[d2]at q;cases q⟩
 keep:=λi h h' st kk=>by
  obtain ⟨hz,hTI,⟨a,c,hTO⟩,p1,p2⟩:=st;exact ⟨kk z (by simp) _ hz,kk TI (by simp) _ hTI,⟨a,c,kk TO (by simp) _ hTO⟩,p1.keep λo e=>kk i1 (by simp) o e,p2.keep λo e=>kk i2 (by simp) o e⟩
 item:=by
  intro X hP hw hK hc i pins s σ H E I hf st hg;subst hP hw hK;obtain ⟨vs,ws,sat1,sat2,l1,l2⟩:=hg;obtain ⟨hz,hTI,⟨a,b,hTO⟩,h1,h2⟩:=st;have hT:s.TypeIs (.ref z) "zip":=⟨_,hz,rfl⟩;have fz:=hf z (by simp);have fTO:=hf TO (by simp);have fi1:=hf i1 (by simp);have fi2:=hf i2 (by simp);obtain ⟨fp1,P1,S1,Dr1⟩:=drawn (A:=X.A.in1) (I.ok.hd hc) I sat1 fi1.1 h1;obtain ⟨fp2,P2,S2,Dr2⟩:=drawn (A:=X.A.in1) (I.ok.hd hc) I sat2 fi2.1 h2;have no1:∀e,H e=none->e≠i1->∀c∈fp1,c≠e:=λe he hei c hc z=>by
   rcases Dr1.fp c hc with q |q
   ·exact hei (z.symm.trans q)
   ·have:=sat1.no he;cases k with
    |lst a=>injection q with q;exact this (q.trans z)
    |tup a=>injection q with q;exact this (q.trans z)
    |str _ _=>cases q
  have no2:∀e,H e=none->e≠i2->∀c∈fp2,c≠e:=λe he hei c hc z=>by
   rcases Dr2.fp c hc with q |q
   ·exact hei (z.symm.trans q)
   ·have:=sat2.no he;cases l with
    |lst a=>injection q with q;exact this (q.trans z)
    |tup a=>injection q with q;exact this (q.trans z)
    |str _ _=>cases q
  have f1:∀c∈fp1,c≠z/\c≠TO/\c≠i2:=λc hc=>⟨no1 z fz.1 D.i1z.symm c hc,no1 TO fTO.1 D.TOi1 c hc,no1 i2 fi2.1 D.i12.symm c hc⟩;have f2:∀c∈fp2,c≠z/\c≠TO/\c≠i1:=λc hc=>⟨no2 z fz.1 D.i2z.symm c hc,no2 TO fTO.1 D.TOi2 c hc,no2 i1 fi1.1 D.i12 c hc⟩;have ltz:z < s.heap.objs.size:=aI hz;have ltTI:TI < s.heap.objs.size:=aI hTI;have ltTO:TO < s.heap.objs.size:=aI hTO;have lti1:i1 < s.heap.objs.size:=by obtain ⟨_,e,_⟩:=h1;exact aI e
  have lti2:i2 < s.heap.objs.size:=by obtain ⟨_,e,_⟩:=h2;exact aI e
  unfold pyNext;refine ag (wpAny_attempt (eS (name:=Str.ofString "__next__") hT F.slot_zip_next
   (fR F.slot_zip_next hT F.entry_zip_next (aau D Dr1.D Dr2.D f1 f2 hz hTI hTO Dr1.st Dr2.st l1 l2 λh' tk c d pc pd a1 a2 a3 a4 a5 a6 hk=>bg ?_) (F.args_zip_next_1 _))))
  obtain ⟨y,hy,ry⟩:=Dr1.val _ _ pc;obtain ⟨y',hy',ry'⟩:=Dr2.val _ _ pd;refine ⟨_,rfl,?_⟩;refine wpAny_letOwnedTupleGo_zip a1 λh2' hz2 hs2=>?_;have hs2':Heap.SameBut z h' h2':=hs2;have hn:H s.heap.objs.size=none:=I.hok.fresh (ax _);have k2:∀b o,b∉[z,TI,TO,i1,i2]->s.heap.get? b=some o->h2'.get? b=some o:=λb o hb q=>by
   have hb':b≠z/\b≠TI/\b≠TO/\b≠i1/\b≠i2:=by simpa using hb
   exact hs2'.extBut b o hb'.1 (hk b o hb'.1 hb'.2.2.1 hb'.2.2.2.1 hb'.2.2.2.2 q)
  have I2:Inv X pins σ H { s with heap:=h2',toks:=tk }:=I.turnedL hf k2;have ht2:h2'.get? s.heap.objs.size=some { cls:=.type "tuple",data:=.seq #[c,d] }:=hs2'.extBut _ _ (fE ltz) a5;have ob:ObjOk X.prog X.w (upd H s.heap.objs.size (.tup [y,y'])) h2' s.heap.objs.size (.tup [y,y']):=
   ⟨by rw[fI];simp,[c,d],.cons ry (.cons ry' .nil),⟨_,ht2,rfl,_,rfl⟩⟩
  have I3:=I2.track (I.fpOk (ax _) hn) ob;refine ⟨.ref s.heap.objs.size,_,I3,rfl,⟨s.heap.objs.size,y,y',hn,rfl,rfl,λus hu=>by rw[xj hu sat1];exact hy,λus hu=>by rw[xj hu sat2];exact hy'⟩,
   ⟨hz2,hs2'.extBut _ _ D.TIz (hk _ _ D.TIz D.TITO D.TIi1 D.TIi2 hTI),⟨_,_,hs2'.extBut _ _ D.TOz a2⟩,(Dr1.pos _ _ a3).keep λo e=>hs2'.extBut _ _ D.i1z e,(Dr2.pos _ _ a4).keep λo e=>hs2'.extBut _ _ D.i2z e⟩,λb hb=>?_⟩
  have hb':b=z\/b=TI\/b=TO\/b=i1\/b=i2:=by simpa using hb
  rw[aJ (by rcases hb' with rfl |rfl |rfl |rfl |rfl <;> exact cm ‹_›)];exact (hf b hb).1
 done:=by
  intro X hP hw hK hc i pins s σ H E I hf st hg;subst hP hw hK;obtain ⟨vs,ws,sat1,sat2,hend⟩:=hg;obtain ⟨hz,hTI,⟨a,b,hTO⟩,h1,h2⟩:=st;have hT:s.TypeIs (.ref z) "zip":=⟨_,hz,rfl⟩;have fz:=hf z (by simp);have fTO:=hf TO (by simp);have fi1:=hf i1 (by simp);have fi2:=hf i2 (by simp);obtain ⟨fp1,P1,S1,Dr1⟩:=drawn (A:=X.A.in1) (I.ok.hd hc) I sat1 fi1.1 h1;obtain ⟨fp2,P2,S2,Dr2⟩:=drawn (A:=X.A.in1) (I.ok.hd hc) I sat2 fi2.1 h2;have no1:∀e,H e=none->e≠i1->∀c∈fp1,c≠e:=λe he hei c hc z=>by
   rcases Dr1.fp c hc with q |q
   ·exact hei (z.symm.trans q)
   ·have:=sat1.no he;cases k with
    |lst a=>injection q with q;exact this (q.trans z)
    |tup a=>injection q with q;exact this (q.trans z)
    |str _ _=>cases q
  have no2:∀e,H e=none->e≠i2->∀c∈fp2,c≠e:=λe he hei c hc z=>by
   rcases Dr2.fp c hc with q |q
   ·exact hei (z.symm.trans q)
   ·have:=sat2.no he;cases l with
    |lst a=>injection q with q;exact this (q.trans z)
    |tup a=>injection q with q;exact this (q.trans z)
    |str _ _=>cases q
  have f1:∀c∈fp1,c≠z/\c≠TO/\c≠i2:=λc hc=>⟨no1 z fz.1 D.i1z.symm c hc,no1 TO fTO.1 D.TOi1 c hc,no1 i2 fi2.1 D.i12.symm c hc⟩;have f2:∀c∈fp2,c≠z/\c≠TO/\c≠i1:=λc hc=>⟨no2 z fz.1 D.i2z.symm c hc,no2 TO fTO.1 D.TOi2 c hc,no2 i1 fi1.1 D.i12 c hc⟩;have fin:∀(h':Heap)(tk:Nat)(e:Addr),(∀c o,c≠z->c≠TO->c≠i1->c≠i2->s.heap.get? c=some o->h'.get? c=some o)->Inv X pins σ H { s with heap:=h',toks:=tk }:=λh' tk e hk=>I.turnedL (t':=tk) hf λb o hb q=>by
   have hb':b≠z/\b≠TI/\b≠TO/\b≠i1/\b≠i2:=by simpa using hb
   exact hk b o hb'.1 hb'.2.2.1 hb'.2.2.2.1 hb'.2.2.2.2 q
  unfold pyNext;refine ag (wpAny_attempt (eS (name:=Str.ofString "__next__") hT F.slot_zip_next
   (fR F.slot_zip_next hT F.entry_zip_next ?_ (F.args_zip_next_1 _))))
  rcases hend with ⟨e1,_⟩ |⟨e1,e2⟩
  ·subst e1;refine aav D Dr1.D (λc hc=>(f1 c hc).1) hz hTI hTO Dr1.st λh' e hk he=>?_;obtain ⟨o,ho,hc'⟩:=he;refine ag (wpAny_isInstance (T:="StopIteration") (b:=true) ⟨o,ho,hc'⟩ isSubtype_stop ?_);exact bg ⟨rfl,fin h' s.toks e hk⟩
  ·refine aaw D Dr1.D Dr2.D f1 f2 hz hTI hTO Dr1.st Dr2.st e1 e2.symm λh' tk e hk he=>?_;obtain ⟨o,ho,hc'⟩:=he;refine ag (wpAny_isInstance (T:="StopIteration") (b:=true) ⟨o,ho,hc'⟩ isSubtype_stop ?_);exact bg ⟨rfl,fin h' tk e hk⟩
 self:=λA i s Q E st h=>wpAny_pyIter_zip st.1 h
open Sem (wp)
open AutoSeq1 (wpAny_loadPart')
set_option maxHeartbeats 1000000 in
theorem aay(l:Addr)(items:Array Value)(n:Nat)(dct:Option Addr)(sl:Array (Option Value)):
  Meets (Builtin.«enumerate.__new__» ⟨[.type "enumerate",.ref l],[]⟩) (λ_ R s=>s.heap.get? l=some { cls:=.type "tuple",dict:=dct,data:=.seq items n,slots:=sl }/\
   R (.ok (.ret (.ref (s.heap.push { cls:=.type "tuple_iterator",data:=.fields #[.ref l,.int 0 0] }).objs.size)))
    { s with heap:=(s.heap.push { cls:=.type "tuple_iterator",data:=.fields #[.ref l,.int 0 0] }).push { cls:=.type "enumerate",data:=.fields #[.none,.bool false,.ref s.heap.objs.size,rawInt 0,.none,.none] } }):=
 .of_wp λprog w A R s h=>by
  obtain ⟨hp,g,d,tk,os⟩:=s;obtain ⟨hl,h⟩:=h;have hsub:=sub_enumerate;have hL:Heap.IsTuple (Shared.heap ⟨hp,g,d,tk,os⟩) l items:=⟨_,hl,rfl,n,rfl⟩;wp_walk using wpAny_loadPart' hl
  refine wpAny_stack_any λst=>bg ?_;split
  ·rename_i c _ _ _ _ _;cases (c==Value.type "enumerate")
   ·wp_walk using wpAny_loadPart' hl,wpAny_pyIter_tuple hL
    exact ⟨_,rfl,h⟩
   ·wp_walk using wpAny_loadPart' hl,wpAny_pyIter_tuple hL
    exact ⟨_,rfl,h⟩
  ·wp_walk using wpAny_loadPart' hl,wpAny_pyIter_tuple hL
   exact ⟨_,rfl,h⟩
noncomputable abbrev tu(h:Heap)(k:SK):Heap:=h.push k.obj
noncomputable abbrev tB(h:Heap)(k l:SK):Heap:=(tu h k).push l.obj
noncomputable abbrev tH (h:Heap) (k l:SK):Heap:=(tB h k l).push { cls:=.type "tuple",data:=.seq #[.ref h.objs.size,.ref (tu h k).objs.size] }
noncomputable abbrev tM (h:Heap) (k l:SK):Heap:=(tH h k l).push { cls:=.type "tuple",data:=.seq #[.none,.none] }
noncomputable abbrev ir (h:Heap) (k l:SK):Heap:=(tM h k l).push { cls:=.type "zip",data:=.fields #[.none,.bool false,.bool false,.ref (tB h k l).objs.size,.ref (tH h k l).objs.size] }
theorem aaz(k l:SK)(xs ys:Array Value):
  Meets (Builtin.«zip.__new__» ⟨[.type "zip",k.val,l.val],[]⟩) (λ_ R s=>k.On xs s.heap/\l.On ys s.heap/\R (.ok (.ret (.ref (tM s.heap k l).objs.size))) { s with heap:=ir s.heap k l }):=
 .of_wp λprog w A R s h=>by
  obtain ⟨hp,g,d,tk,os⟩:=s;obtain ⟨h1,h2,h⟩:=h;have hsub:=sub_zip;have h1':k.On xs (Shared.heap ⟨hp,g,d,tk,os⟩):=h1;have h2':l.On ys (Shared.heap ⟨hp.push k.obj,g,d,tk,os⟩):=SK.On.keeps h2 λb o _ e=>am _ e;wp_walk using SK.iter h1',SK.iter h2'
  exact ⟨_,rfl,h⟩
section
variable {prog:Program} {w:World} {A:Around} {E:Value->Shared->Prop} {s:Shared}
theorem aaA{k l:SK}{xs ys:Array Value}{Q:Value->Shared->Prop}(h1:k.On xs s.heap)(h2:l.On ys s.heap)
  (h:∀h',IsZip h' (s.heap.objs.size+4) (s.heap.objs.size+2) (s.heap.objs.size+3) .none->IsPair h' (s.heap.objs.size+2) (.ref s.heap.objs.size) (.ref (s.heap.objs.size+1))->
   IsPair h' (s.heap.objs.size+3) .none .none->k.pos s.heap.objs.size 0 h'->l.pos (s.heap.objs.size+1) 0 h'->h'.objs.size=s.heap.objs.size+5->
   (∀c o,s.heap.get? c=some o->h'.get? c=some o)->Q (.ref (s.heap.objs.size+4)) { s with heap:=h' }):
  wpAny (model prog w) A (call (.type "zip") [k.val,l.val]) Q E s:=by
 refine callType_new F.called_zip (by decide) (F.typeCall_zip_2 _ _) (F.newCall_zip_2 _ _) (λobj=>F.args_object_init_3 obj _ _) F.entry_zip_new
  (aaz k l xs ys) ⟨h1,h2,?_⟩
 have z1:(tu s.heap k).objs.size=s.heap.objs.size+1:=dE ..;have z2:(tB s.heap k l).objs.size=s.heap.objs.size+2:=by rw[dE,z1]
 have z3:(tH s.heap k l).objs.size=s.heap.objs.size+3:=by rw[dE,z2]
 have z4:(tM s.heap k l).objs.size=s.heap.objs.size+4:=by rw[dE,z3]
 have z5:(ir s.heap k l).objs.size=s.heap.objs.size+5:=by rw[dE,z4]
 have g5:(ir s.heap k l).get? (tM s.heap k l).objs.size=some _:=bd _ rfl;have g4:(ir s.heap k l).get? (tH s.heap k l).objs.size=some _:=am _ (bd _ rfl);have g3:(ir s.heap k l).get? (tB s.heap k l).objs.size=some _:=am _ (am _ (bd _ rfl));have g2:(ir s.heap k l).get? (tu s.heap k).objs.size=some _:=am _ (am _ (am _ (bd _ rfl)));have g1:(ir s.heap k l).get? s.heap.objs.size=some _:=am _ (am _ (am _ (am _ (bd _ rfl))));show _/\_;rw[z2,z3,z4]at g5;rw[z1,z2]at g3;rw[z3]at g4;rw[z1]at g2;rw[z4];exact ⟨⟨_,g5,rfl⟩,h _ g5 g3 g4 ⟨_,g1,rfl,rfl⟩ ⟨_,g2,rfl,rfl⟩ z5 λc o x=>
  am _ (am _ (am _ (am _ (am _ x))))⟩
theorem aaB{l:Addr}{items:Array Value}{Q:Value->Shared->Prop}(hL:s.heap.IsTuple l items)
  (h:∀h',IsEnum h' (s.heap.objs.size+1) s.heap.objs.size 0 .none->h'.IsTupleIter s.heap.objs.size l 0->h'.objs.size=s.heap.objs.size+2->
   (∀b o,s.heap.get? b=some o->h'.get? b=some o)->Q (.ref (s.heap.objs.size+1)) { s with heap:=h' }):
  wpAny (model prog w) A (call (.type "enumerate") [.ref l]) Q E s:=by
 obtain ⟨⟨c,dct,dt,sl⟩,hl,hc,n,hd⟩:=hL;replace hc:c=.type "tuple":=hc;replace hd:dt=.seq items n:=hd;subst hc hd;refine callType_new F.called_enumerate (by decide) (F.typeCall_enumerate_1 _) (F.newCall_enumerate_1 _) (λobj=>F.args_object_init_2 obj _) F.entry_enumerate_new
  (aay l items n dct sl) ⟨hl,?_⟩
 have hz:(s.heap.push { cls:=.type "tuple_iterator",data:=.fields #[.ref l,.int 0 0] }).objs.size=s.heap.objs.size+1:=dE ..;show _/\_;rw[hz];have he:IsEnum ((s.heap.push { cls:=.type "tuple_iterator",data:=.fields #[.ref l,.int 0 0] }).push
   { cls:=.type "enumerate",data:=.fields #[.none,.bool false,.ref s.heap.objs.size,rawInt 0,.none,.none] }) (s.heap.objs.size+1) s.heap.objs.size 0 .none:=by
  have:=bd (s.heap.push { cls:=.type "tuple_iterator",data:=.fields #[.ref l,.int 0 0] })
   (o:={ cls:=.type "enumerate",data:=.fields #[.none,.bool false,.ref s.heap.objs.size,rawInt 0,.none,.none] }) rfl
  rw[hz]at this;exact this
 refine ⟨⟨_,he,rfl⟩,h _ he ⟨_,am _ (bd _ rfl),rfl,rfl⟩ (by rw[dE,hz]) λb o x=>am _ (am _ x)⟩
theorem aaC{k:SK}{xs:Array Value}{Q:Value->Shared->Prop}(h1:k.On xs s.heap)
  (h:∀h',IsEnum h' (s.heap.objs.size+1) s.heap.objs.size 0 .none->k.pos s.heap.objs.size 0 h'->h'.objs.size=s.heap.objs.size+2->
   (∀b o,s.heap.get? b=some o->h'.get? b=some o)->Q (.ref (s.heap.objs.size+1)) { s with heap:=h' }):
  wpAny (model prog w) A (call (.type "enumerate") [k.val]) Q E s:=by
 cases k with
 |lst a=>exact call_enumerate_list h1 h
 |tup a=>exact aaB h1 h
 |str x t=>exact call_enumerate_str h
end
structure OT where
 ms:List (String×String×String×Nat):=[]
 ks:List (String×Nat):=[]
 fl:List (String×String):=[]
structure CT where
 N:List Str
 kd:List (Str×NameKind)
 fn:Bool
 fs:List (String×Nat)
 bt:List String
 cn:List (String×D)
 xs:List (String×Bool):=[]
 ot:OT:={}
noncomputable def iu:Option NameKind->Bool
 |some .local=>true
 |some .cell=>true
 |some .free=>true
 |_=>false
noncomputable def CT.sto(c:CT)(x:Str):Bool:=c.kd.lookup x==some .local||(c.fn&&c.kd.lookup x==some .cell)
noncomputable def okN (x:Str):Bool:=!(x==("__debug__":Str))&&!(x==("__classdict__":Str))&&!(x==("__name__":Str))
noncomputable def CT.glo(c:CT)(x:Str):Bool:=c.kd.lookup x==some .globalImplicit&&okN x
noncomputable def sEq:D->D->Bool
 |.non,.non=>true
 |.bl a,.bl b=>a==b
 |.int a,.int b=>a==b
 |.str a,.str b=>a==b
 |_,_=>false
theorem aaD{a b:D}(h:sEq a b=true):a=b:=by cases a <;> cases b <;> simp_all [sEq]
noncomputable def tQ(d:D)(k:Const):Bool:=
 match d,k with
 |.non,.none=>true
 |.bl a,.bool b=>a==b
 |.int a,.int b=>a==b
 |.str a,.str b=>a==b.cps.toList&&decide (a.length<=sz)
 |_,_=>false
noncomputable def Bf.name:Bf->String
 |.len=>"len"
 |.all=>"all"
 |.int=>"int"
 |.tuple=>"tuple"
 |.sum=>"sum"
 |.min=>"min"
 |.max=>"max"
 |.abs=>"abs"
 |.min2=>"min"
 |.str=>"str"
noncomputable def xm:Bf->Bool
 |.sum=>false
 |.min=>true
 |.max=>false
 |.abs=>false
 |.min2=>false
 |.str=>true
 |_=>true
noncomputable def xq:Lf->Bool
 |.sorted=>false
 |_=>true
noncomputable def Lf.name:Lf->String
 |.list=>"list"
 |.sorted=>"sorted"
noncomputable def Mf.name:Mf->String
 |.join=>"join"
 |.append=>"append"
 |.extend=>"extend"
 |.insert=>"insert"
 |.pop=>"pop"
 |.count=>"count"
 |.index=>"index"
noncomputable def tR:Expr->Bool
 |.Name _ _=>true
 |.Subscript _ _ _=>true
 |_=>false
theorem Es{v:Expr}(h:tR v=true)(name:Str)(env:Env):attributeBase v name env (eval v env)=eval v env:=by cases v <;> first |rfl |cases h
noncomputable def fj:Expr->Bool
 |.Call (.Name _ _) [] [] _=>true
 |_=>false
noncomputable def cP:Expr->Bool
 |.ListComp ..=>true
 |.SetComp ..=>true
 |.DictComp ..=>true
 |_=>false
noncomputable def iw:Expr->Bool
 |.UnaryOp .Not _ _=>false
 |.BoolOp ..=>false
 |.IfExp ..=>false
 |.Compare ..=>false
 |_=>true
noncomputable def gJ(N:List Str)(scope:Scope):List Str->List (Option Nat)->Bool
 |[],[]=>true
 |_::N',none::cap=>gJ N scope N' cap
 |x::N',some j::cap=>(N[j]?==some x)&&(scope.names.lookup x==some NameKind.free)&&gJ N scope N' cap
 |_,_=>false
noncomputable def jr(c:CT)(scope:Scope):Bool:=
 scope.names.all (λy=>y.2 != NameKind.cell)&&scope.names.all (λy=>y.2 != NameKind.local||scope.names.lookup y.1==some NameKind.local) &&
 scope.names.all (λy=>y.2 != NameKind.free||(c.kd.lookup y.1==some NameKind.cell||c.kd.lookup y.1==some NameKind.free))&&decide (scope.kind=.function)&&decide (c.kd=c.kd)
noncomputable def CT.comp(c:CT)(N:List Str)(scope:Scope):CT:={ N:=N,kd:=scope.names,fn:=false,fs:=c.fs,bt:=c.bt,cn:=c.cn,ot:=c.ot }
noncomputable def dX:List Str->Bool
 |[]=>true
 |x::r=>!r.contains x&&dX r
noncomputable def asName(e:Expr):Option { t:Str×Pos // e=.Name t.1 t.2 }:=match e with
 |.Name a0 a1=>some ⟨(a0,a1),rfl⟩
 |_=>none
noncomputable def tU(e:Expr):Option { t:Const×Nat×Pos // e=.Constant t.1 t.2.1 t.2.2 }:=match e with
 |.Constant a0 a1 a2=>some ⟨(a0,a1,a2),rfl⟩
 |_=>none
noncomputable def Et(e:Expr):Option { t:Expr×Operator×Expr×Pos // e=.BinOp t.1 t.2.1 t.2.2.1 t.2.2.2 }:=match e with
 |.BinOp a0 a1 a2 a3=>some ⟨(a0,a1,a2,a3),rfl⟩
 |_=>none
noncomputable def jt(e:Expr):Option { t:UnaryOp×Expr×Pos // e=.UnaryOp t.1 t.2.1 t.2.2 }:=match e with
 |.UnaryOp a0 a1 a2=>some ⟨(a0,a1,a2),rfl⟩
 |_=>none
noncomputable def kJ(e:Expr):Option { t:Expr×List CmpOp×List Expr×Pos // e=.Compare t.1 t.2.1 t.2.2.1 t.2.2.2 }:=match e with
 |.Compare a0 a1 a2 a3=>some ⟨(a0,a1,a2,a3),rfl⟩
 |_=>none
noncomputable def tV(e:Expr):Option { t:BoolOp×List Expr×Pos // e=.BoolOp t.1 t.2.1 t.2.2 }:=match e with
 |.BoolOp a0 a1 a2=>some ⟨(a0,a1,a2),rfl⟩
 |_=>none
noncomputable def Eu(e:Expr):Option { t:Expr×Expr×Expr×Pos // e=.IfExp t.1 t.2.1 t.2.2.1 t.2.2.2 }:=match e with
 |.IfExp a0 a1 a2 a3=>some ⟨(a0,a1,a2,a3),rfl⟩
 |_=>none
noncomputable def gK(e:Expr):Option { t:List Expr×Nat×Pos // e=.Tuple t.1 t.2.1 t.2.2 }:=match e with
 |.Tuple a0 a1 a2=>some ⟨(a0,a1,a2),rfl⟩
 |_=>none
noncomputable def asList(e:Expr):Option { t:List Expr×Pos // e=.List t.1 t.2 }:=match e with
 |.List a0 a1=>some ⟨(a0,a1),rfl⟩
 |_=>none
noncomputable def ju(e:Expr):Option { t:Expr×Expr×Pos // e=.Subscript t.1 t.2.1 t.2.2 }:=match e with
 |.Subscript a0 a1 a2=>some ⟨(a0,a1,a2),rfl⟩
 |_=>none
noncomputable def Ew(e:Expr):Option { t:Option Expr×Option Expr×Option Expr×Pos // e=.Slice t.1 t.2.1 t.2.2.1 t.2.2.2 }:=match e with
 |.Slice a0 a1 a2 a3=>some ⟨(a0,a1,a2,a3),rfl⟩
 |_=>none
noncomputable def iy(e:Expr):Option { t:Expr×List Expr×List Keyword×Pos // e=.Call t.1 t.2.1 t.2.2.1 t.2.2.2 }:=match e with
 |.Call a0 a1 a2 a3=>some ⟨(a0,a1,a2,a3),rfl⟩
 |_=>none
noncomputable def fW(e:Expr):Option { t:Expr×Str×Pos // e=.Attribute t.1 t.2.1 t.2.2 }:=match e with
 |.Attribute a0 a1 a2=>some ⟨(a0,a1,a2),rfl⟩
 |_=>none
noncomputable def Ey(e:Expr):Option { t:Expr×List Comprehension×Scope×Pos // e=.ListComp t.1 t.2.1 t.2.2.1 t.2.2.2 }:=match e with
 |.ListComp a0 a1 a2 a3=>some ⟨(a0,a1,a2,a3),rfl⟩
 |_=>none
noncomputable def kO(e:Stmt):Option { t:Expr×Pos // e=.Expr t.1 t.2 }:=match e with
 |.Expr a0 a1=>some ⟨(a0,a1),rfl⟩
 |_=>none
noncomputable def jw(e:Stmt):Option { t:List Expr×Expr×Pos // e=.Assign t.1 t.2.1 t.2.2 }:=match e with
 |.Assign a0 a1 a2=>some ⟨(a0,a1,a2),rfl⟩
 |_=>none
noncomputable def Ez(e:Stmt):Option { t:Expr×Operator×Expr×Pos // e=.AugAssign t.1 t.2.1 t.2.2.1 t.2.2.2 }:=match e with
 |.AugAssign a0 a1 a2 a3=>some ⟨(a0,a1,a2,a3),rfl⟩
 |_=>none
noncomputable def EY(e:Stmt):Option { t:Option Expr×Option Expr×Pos // e=.Raise t.1 t.2.1 t.2.2 }:=match e with
 |.Raise a0 a1 a2=>some ⟨(a0,a1,a2),rfl⟩
 |_=>none
noncomputable def ahP(e:Stmt):Option { t:List Stmt×List ExceptHandler×List Stmt×List Stmt×Pos // e=.Try t.1 t.2.1 t.2.2.1 t.2.2.2.1 t.2.2.2.2 }:=match e with
 |.Try a0 a1 a2 a3 a4=>some ⟨(a0,a1,a2,a3,a4),rfl⟩
 |_=>none
noncomputable def ahQ(e:ExceptHandler):Option { t:Option Expr×Option Str×List Stmt×Pos // e=.ExceptHandler t.1 t.2.1 t.2.2.1 t.2.2.2 }:=match e with
 |.ExceptHandler a0 a1 a2 a3=>some ⟨(a0,a1,a2,a3),rfl⟩
noncomputable def xr(e:Expr):Option { t:Expr×Int×Option Expr×Pos // e=.FormattedValue t.1 t.2.1 t.2.2.1 t.2.2.2 }:=match e with
 |.FormattedValue a0 a1 a2 a3=>some ⟨(a0,a1,a2,a3),rfl⟩
 |_=>none
noncomputable def aaE(e:Expr):Option { t:List Expr×Pos // e=.JoinedStr t.1 t.2 }:=match e with
 |.JoinedStr a0 a1=>some ⟨(a0,a1),rfl⟩
 |_=>none
noncomputable def aaF(k:Const):Option { x:Str // k=.str x }:=match k with
 |.str x=>some ⟨x,rfl⟩
 |_=>none
noncomputable def ahR(b:Bool)(k:Const):Bool:=match k with
 |.bool c=>c==b
 |_=>false
noncomputable def tW(e:Stmt):Option { t:Option Expr×Pos // e=.Return t.1 t.2 }:=match e with
 |.Return a0 a1=>some ⟨(a0,a1),rfl⟩
 |_=>none
noncomputable def xu(e:Stmt):Option { t:Expr×List Stmt×List Stmt×Pos // e=.If t.1 t.2.1 t.2.2.1 t.2.2.2 }:=match e with
 |.If a0 a1 a2 a3=>some ⟨(a0,a1,a2,a3),rfl⟩
 |_=>none
noncomputable def Fb(e:Stmt):Option { t:Expr×Expr×List Stmt×List Stmt×Pos // e=.For t.1 t.2.1 t.2.2.1 t.2.2.2.1 t.2.2.2.2 }:=match e with
 |.For a0 a1 a2 a3 a4=>some ⟨(a0,a1,a2,a3,a4),rfl⟩
 |_=>none
noncomputable def ahS(e:Stmt):Option { t:Expr×List Stmt×List Stmt×Pos // e=.While t.1 t.2.1 t.2.2.1 t.2.2.2 }:=match e with
 |.While a0 a1 a2 a3=>some ⟨(a0,a1,a2,a3),rfl⟩
 |_=>none
noncomputable def Fd(e:Stmt):Option { t:Pos // e=.Pass t }:=match e with
 |.Pass a0=>some ⟨a0,rfl⟩
 |_=>none
noncomputable def Fe(e:Stmt):Option { t:Pos // e=.Break t }:=match e with
 |.Break a0=>some ⟨a0,rfl⟩
 |_=>none
noncomputable def Ff(e:Stmt):Option { t:Pos // e=.Continue t }:=match e with
 |.Continue a0=>some ⟨a0,rfl⟩
 |_=>none
noncomputable def one{α:Type}:List α->Option α
 |[a]=>some a
 |_=>none
noncomputable def three{α:Type}:List α->Option (α×α×α)
 |[x,y,z]=>some (x,y,z)
 |_=>none
theorem ahT{α:Type}{l:List α}{v:α×α×α}(h:three l=some v):l=[v.1,v.2.1,v.2.2]:=by
 unfold three at h;split at h
 ·cases h;rfl
 ·cases h
noncomputable def two{α:Type}:List α->Option (α×α)
 |[a,b]=>some (a,b)
 |_=>none
noncomputable def hdT{α:Type}:List α->Option (α×List α)
 |a::r=>some (a,r)
 |[]=>none
theorem fu{α:Type}{l:List α}{a:α}(h:one l=some a):l=[a]:=by
 cases l with
 |nil=>cases h
 |cons x r=>cases r with
  |nil=>cases h;rfl
  |cons _ _=>cases h
theorem kW{α:Type}{l:List α}{a:α×α}(h:two l=some a):l=[a.1,a.2]:=by
 cases l with
 |nil=>cases h
 |cons x r=>cases r with
  |nil=>cases h
  |cons y r=>cases r with
   |nil=>cases h;rfl
   |cons _ _=>cases h
theorem Fg{α:Type}{l:List α}{a:α×List α}(h:hdT l=some a):l=a.1::a.2:=by
 cases l with
 |nil=>cases h
 |cons x r=>cases h;rfl
theorem aY{α:Type}{o:Option α}{p:α->Bool}(h:o.any p=true):∃t,o=some t/\p t=true:=by
 cases o with
 |none=>cases h
 |some t=>exact ⟨t,rfl,h⟩
noncomputable def xF:UnaryOp->Bool
 |.USub=>true
 |_=>false
noncomputable def kY:UnaryOp->Bool
 |.Not=>true
 |_=>false
theorem aaG{o:UnaryOp}(h:xF o=true):o=.USub:=by cases o <;> first |rfl |cases h
theorem Fi{o:UnaryOp}(h:kY o=true):o=.Not:=by cases o <;> first |rfl |cases h
noncomputable def bI(e:Expr):Option (Str×Pos×List Expr×Pos):=(iy e).bind λt=>(asName t.1.1).bind λn=>match t.1.2.2.1 with |[]=>some (n.1.1,n.1.2,t.1.2.1,t.1.2.2.2) |_::_=>none
noncomputable def az{α:Type}{q:α->Prop}(o:Option { t:α // q t })(P:α->Bool):Bool:=match o with |some t=>P t.1 |none=>false
theorem aL{α:Type}{q:α->Prop}{o:Option { t:α // q t }}{P:α->Bool}(h:az o P=true):∃t,q t/\P t=true:=by
 cases o with
 |none=>cases h
 |some t=>exact ⟨t.1,t.2,h⟩
theorem Fj{α β:Type}{o:Option α}{f:α->Option β}{b:β}(h:o.bind f=some b):∃t,o=some t/\f t=some b:=by
 cases o with
 |none=>cases h
 |some t=>exact ⟨t,rfl,h⟩
theorem fX{e:Expr}{t:Str×Pos×List Expr×Pos}(h:bI e=some t):e=.Call (.Name t.1 t.2.1) t.2.2.1 [] t.2.2.2:=by
 obtain ⟨⟨⟨f,as,ks,p⟩,hu⟩,_,h⟩:=Fj h;obtain ⟨⟨⟨x,p'⟩,hn⟩,_,h⟩:=Fj h;dsimp only at h hn hu;cases ks with
 |nil=>cases h;rw[hu,hn]
 |cons _ _=>cases h
noncomputable def kZ(e:Expr):Bool:=(kJ e).isSome
noncomputable def Fl:Ex->Bool
 |.frz _=>false
 |_=>true
noncomputable def xG:Tx->Bool
 |.yes=>true
 |_=>false
mutual
noncomputable def bO(c:CT):Tg->Expr->Bool
 |.nm i,e=>az (asName e) λt=>(c.N[i]?==some t.1)&&c.sto t.1
 |.tp ts,e=>az (gK e) λt=>cu c ts t.1
noncomputable def cu(c:CT):Tgs->List Expr->Bool
 |.nil,es=>es.isEmpty
 |.cons t r,es=>match es with
  |e::es=>bO c t e&&cu c r es
  |[]=>false
end
noncomputable def xH(e:Expr):Bool:=az (tU e) λt=>az (aaF t.1) λx=>decide (x.length<=1000)
noncomputable def unF(e:Expr):Expr:=match xr e with |some t=>t.1.1 |none=>e
noncomputable def aaH:Ex->Bool
 |.cst (.str _)=>true
 |_=>false
noncomputable def aaI:Exs->List Expr->Bool
 |.cons x xs,p::ps=>(match xr p with |some t=>decide (t.1.2.1=-1)&&t.1.2.2.1.isNone |none=>aaH x)&&aaI xs ps
 |.nil,ps=>ps.isEmpty
 |_,[]=>false
mutual
noncomputable def aj(c:CT):Ex->Expr->Bool
 |.var i,e=>az (asName e) λt=>(c.N[i]?==some t.1)&&iu (c.kd.lookup t.1)&&okN t.1
 |.cst d,e=>az (tU e) λt=>tQ d t.1
 |.glb x d,e=>az (asName e) λt=>t.1==Str.ofString x&&c.glo t.1&&c.cn.any (λp=>p.1==x&&sEq p.2 d)
 |.bin op _ a b,e=>az (Et e) λt=>t.2.1==op&&aj c a t.1&&aj c b t.2.2.1
 |.neg a,e=>az (jt e) λt=>xF t.1&&aj c a t.2.1
 |.cmp op a b,e=>az (kJ e) λt=>(one t.2.1).any λo=>(one t.2.2.1).any λr=>o==op&&aj c a t.1&&aj c b r
 |.chn op op' a b d,e=>az (kJ e) λt=>(two t.2.1).any λo=>(two t.2.2.1).any λr=>o.1==op&&o.2==op'&&aj c a t.1&&aj c b r.1&&aj c d r.2
 |.not a,e=>az (jt e) λt=>kY t.1&&aj c a t.2.1
 |.boo isAnd x es,e=>az (tV e) λt=>(hdT t.2.1).any λv=>t.1==(if isAnd then .And else .Or)&&aj c x v.1&&aK c es v.2
 |.ife t a b,e=>az (Eu e) λu=>bA c t u.1&&aj c a u.2.1&&aj c b u.2.2.1
 |.tup es,e=>az (gK e) λt=>aK c es t.1
 |.lst _ es,e=>az (asList e) λt=>aK c es t.1
 |.idx a i,e=>az (ju e) λt=>aj c a t.1&&aj c i t.2.1
 |.slc _ a lo hi,e=>az (ju e) λt=>az (Ew t.2.1) λs=>s.2.2.1.isNone&&(aj c a t.1&&fY c lo s.1&&fY c hi s.2.1)
 |.rvs _ _ _,_=>false
 |.call f es,e=>(bI e).any λt=>t.1==Str.ofString f&&c.glo t.1&&(c.fs.any λp=>p.1==f&&p.2==t.2.2.1.length)&&!t.2.2.1.isEmpty&&aK c es t.2.2.1
 |.bcl f es,e=>(bI e).any λt=>t.1==Str.ofString f.name&&xm f&&c.glo t.1&&c.bt.contains f.name&&!t.2.2.1.isEmpty&&aK c es t.2.2.1
 |.lcl _ f es,e=>(bI e).any λt=>t.1==Str.ofString f.name&&xq f&&c.glo t.1&&c.bt.contains f.name&&!t.2.2.1.isEmpty&&aK c es t.2.2.1
 |.isi a t,e=>(bI e).any λu=>(two u.2.2.1).any λv=>az (asName v.2) λy=>u.1==Str.ofString "isinstance"&&c.glo u.1&&c.bt.contains "isinstance"&&aj c a v.1&&y.1==Str.ofString t&&c.glo y.1&&c.bt.contains t&&fU t
 |.isx _ _ _,_=>false
 |.fst _,_=>false
 |.rgl _ _,_=>false
 |.rgt _,_=>false
 |.rpl _ _ _ _,_=>false
 |.fld C f o,e=>az (fW e) λv=>v.2.1==Str.ofString f&&!fj v.1&&c.ot.fl.contains (C,f)&&aj c o v.1
 |.mcl f C m o es,e=>az (iy e) λt=>az (fW t.1) λv=>t.2.2.1.isEmpty&&(tR v.1&&(v.2.1==Str.ofString m&&(v.2.2.endLine==t.2.2.2.line)&&decide (t.2.1.length < 29)&&c.ot.ms.contains (f,C,m,t.2.1.length+1)&&aj c o v.1&&aK c es t.2.1))
 |.mko C es,e=>(bI e).any λt=>t.1==Str.ofString C&&c.glo t.1&&c.ot.ks.contains (C,t.2.2.1.length)&&!t.2.2.1.isEmpty&&aK c es t.2.2.1
 |.pp0 o,e=>az (iy e) λt=>az (fW t.1) λv=>t.2.2.1.isEmpty&&(t.2.1.isEmpty&&(v.2.1==Str.ofString "pop"&&!fj v.1&&(v.2.2.endLine==t.2.2.2.line)&&aj c o v.1))
 |.mth m o es,e=>az (iy e) λt=>az (fW t.1) λv=>t.2.2.1.isEmpty&&(v.2.1==Str.ofString m.name&&aj c o v.1&&!fj v.1&&(v.2.2.endLine==t.2.2.2.line)&&decide (t.2.1.length < 29)&&!t.2.1.isEmpty&&aK c es t.2.1)
 |.comp _ elt tg it cond N cap,e=>az (Ey e) λt=>(one t.2.1).any λg=>decide (g.is_async=0)&&bF c it g.target g.iter&&gJ c.N t.2.2.1 (N.map Str.ofString) cap&&jr c t.2.2.1&&dX (N.map Str.ofString) &&
    bO (c.comp (N.map Str.ofString) t.2.2.1) tg g.target&&((xG cond&&g.ifs.isEmpty)||(one g.ifs).any λf=>bA (c.comp (N.map Str.ofString) t.2.2.1) cond f)&&aj (c.comp (N.map Str.ofString) t.2.2.1) elt t.1
 |.cm3 _ _ _ _ _ _ _ _ _,_=>false
 |.frz a,e=>aj c a e
noncomputable def bA(c:CT):Tx->Expr->Bool
 |.val x,e=>(iw e||kZ e)&&aj c x e&&Fl x
 |.not t,e=>az (jt e) λu=>kY u.1&&bA c t u.2.1
 |.boo isAnd t ts,e=>az (tV e) λu=>(hdT u.2.1).any λv=>u.1==(if isAnd then .And else .Or)&&bA c t v.1&&iz c ts v.2
 |.yes,_=>false
noncomputable def iz(c:CT):Txs->List Expr->Bool
 |.nil,es=>es.isEmpty
 |.cons t r,es=>match es with
  |e::es=>bA c t e&&iz c r es
  |[]=>false
noncomputable def aK(c:CT):Exs->List Expr->Bool
 |.nil,es=>es.isEmpty
 |.cons t r,es=>match es with
  |e::es=>aj c t e&&aK c r es
  |[]=>false
noncomputable def fY(c:CT):Ox->Option Expr->Bool
 |.no,e=>e.isNone
 |.ob x,e=>match e with
  |some e=>aj c x e
  |none=>false
noncomputable def bF(c:CT):It'->Expr->Expr->Bool
 |.seq x,_,e=>aj c x e
 |.rng a,_,e=>(bI e).any λt=>(one t.2.2.1).any λv=>t.1==Str.ofString "range"&&c.glo t.1&&c.bt.contains "range"&&aj c a v
 |.rng2 _ _,_,_=>false
 |.rev _,_,_=>false
 |.dwn _ _ _,_,_=>false
 |.enm a,tg,e=>az (gK tg) λ_=>(bI e).any λt=>(one t.2.2.1).any λv=>t.1==Str.ofString "enumerate"&&c.glo t.1&&c.bt.contains "enumerate"&&aj c a v
 |.zip a b,tg,e=>az (gK tg) λ_=>(bI e).any λt=>(two t.2.2.1).any λv=>t.1==Str.ofString "zip"&&c.glo t.1&&c.bt.contains "zip"&&aj c a v.1&&aj c b v.2
end
noncomputable def lg(c:CT)(cond:Tx)(ifs:List Expr):Bool:=(xG cond&&ifs.isEmpty)||(one ifs).any λf=>bA c cond f
noncomputable def Fp:Ex->Bool
 |.comp ..=>true
 |.cm3 ..=>true
 |_=>false
noncomputable def Fq:Expr->Bool
 |.Tuple ..=>true
 |_=>false
noncomputable def xJ(g:Tg)(x:Ex)(e:Expr):Bool:=match g with |.nm _=>!cP e||Fp x |.tp _=>!Fq e&&!cP e
noncomputable def lq(c:CT):Exs->List Expr->Bool
 |es,[]=>(match es with |.nil=>true |_=>false)
 |es,p::ps=>match xH p with
  |true=>lq c es ps
  |false=>(match es with |.cons x r=>(az (xr p) λt=>decide (t.2.1=-1)&&t.2.2.1.isNone&&aj c x t.1)&&lq c r ps |.nil=>false)
noncomputable def tX(c:CT)(es:Exs)(e:Expr):Bool:=(match es with |.nil=>xH e |_=>false)||az (aaE e) λt=>decide (2<=t.1.length)&&decide (t.1.length<=50)&&lq c es t.1
noncomputable def Ft(c:CT):Tb->List Stmt->Bool
 |.call f es,sts=>(one sts).any λs0=>az (kO s0) λe0=>(bI e0.1).any λu=>(u.1==Str.ofString f&&c.glo u.1&&(c.fs.any λp=>p.1==f&&p.2==u.2.2.1.length)&&!u.2.2.1.isEmpty&&aK c es u.2.2.1)
 |.pick _ _ _ _,_=>false
 |.asg i f es,sts=>(one sts).any λs0=>az (jw s0) λa=>(one a.1).any λtg=>az (asName tg) λy=>(bI a.2.1).any λu=>(c.N[i]?==some y.1&&c.sto y.1&&okN y.1)&&(u.1==Str.ofString f&&c.glo u.1&&(c.fs.any λp=>p.1==f&&p.2==u.2.2.1.length)&&!u.2.2.1.isEmpty&&aK c es u.2.2.1)
 |.ite t a b,sts=>(one sts).any λs0=>az (xu s0) λu=>bA c t u.1&&Ft c a u.2.1&&Ft c b u.2.2.1
 |.mcl f C m o es,sts=>(one sts).any λs0=>az (kO s0) λe0=>aj c (.mcl f C m o es) e0.1
 |.mko C es,sts=>(one sts).any λs0=>az (kO s0) λe0=>aj c (.mko C es) e0.1
noncomputable def aaJ(b:Bool):Const->Bool
 |.bool x=>x==b
 |_=>false
noncomputable def ahU(c:CT)(h:Hd)(nm:Option Str)(y:Str)(e:Expr):Bool:=(match h with
 |.flag i b=>nm.isNone&&(c.N[i]?==some y)&&az (tU e) λk=>aaJ b k.1
 |.bind n i=>nm.any λx=>(c.N[i]?==some y)&&(c.N[n]?==some x)&&(c.kd.lookup x==some .local)&&okN x&&az (asName e) λz=>z.1==x)&&c.sto y&&okN y
mutual
noncomputable def aX(c:CT):Sx->Stmt->Bool
 |.exp x,st=>az (kO st) λt=>!cP t.1&&aj c x t.1
 |.asg g x,st=>az (jw st) λt=>(one t.1).any λtg=>bO c g tg&&aj c x t.2.1&&xJ g x t.2.1
 |.set o i x,st=>az (jw st) λt=>(one t.1).any λtg=>az (ju tg) λu=>aj c o u.1&&aj c i u.2.1&&aj c x t.2.1&&!cP t.2.1
 |.aug i op x,st=>az (Ez st) λt=>az (asName t.1) λy=>t.2.1==op&&(c.N[i]?==some y.1)&&c.sto y.1&&okN y.1&&aj c x t.2.2.1
 |.augs _ _ _ _,_=>false
 |.ret x,st=>az (tW st) λt=>t.1.any λe=>aj c x e
 |.rtn,st=>az (tW st) λt=>t.1.isNone
 |.ite t a b,st=>az (xu st) λu=>bA c t u.1&&aD c a u.2.1&&aD c b u.2.2.1
 |.for_ g it b,st=>az (Fb st) λt=>t.2.2.2.1.isEmpty&&(bO c g t.1&&bF c it t.1 t.2.1&&aD c b t.2.2.1)
 |.whl _ _,_=>false
 |.pas,st=>(Fd st).isSome
 |.brk,st=>(Fe st).isSome
 |.cnt,st=>(Ff st).isSome
 |.nev,_=>true
 |.rse C es,st=>az (EY st) λt=>t.2.1.isNone&&t.1.any λe=>(bI e).any λu=>u.1==Str.ofString C&&c.glo u.1&&c.xs.contains (C,true)&&(one u.2.2.1).any λm=>tX c es m
 |.tryc _ _ _ _ _,_=>false
 |.tryx _ _ _ _,_=>false
noncomputable def aD(c:CT):Sxs->List Stmt->Bool
 |.nil,es=>es.isEmpty
 |.cons t r,es=>match es with
  |e::es=>aX c t e&&aD c r es
  |[]=>false
end
theorem xK{c:CT}{i:Nat}{e:Expr}(h:bO c (.nm i) e=true):∃x p,e=.Name x p/\((c.N[i]?==some x)&&c.sto x)=true:=by have h:(az (asName e) λt=>(c.N[i]?==some t.1)&&c.sto t.1)=true:=h;obtain ⟨t,ht,h⟩:=aL h;exact ⟨_,_,ht,h⟩
theorem xM{c:CT}{ts:Tgs}{e:Expr}(h:bO c (.tp ts) e=true):∃es k p,e=.Tuple es k p/\(cu c ts es)=true:=by have h:(az (gK e) λt=>cu c ts t.1)=true:=h;obtain ⟨t,ht,h⟩:=aL h;exact ⟨_,_,_,ht,h⟩
theorem Fv{c:CT}{i:Nat}{e:Expr}(h:aj c (.var i) e=true):∃x p,e=.Name x p/\((c.N[i]?==some x)&&iu (c.kd.lookup x)&&okN x)=true:=by have h:(az (asName e) λt=>(c.N[i]?==some t.1)&&iu (c.kd.lookup t.1)&&okN t.1)=true:=h;obtain ⟨t,ht,h⟩:=aL h;exact ⟨_,_,ht,h⟩
theorem Fw{c:CT}{d:D}{e:Expr}(h:aj c (.cst d) e=true):∃k n p,e=.Constant k n p/\(tQ d k)=true:=by have h:(az (tU e) λt=>tQ d t.1)=true:=h;obtain ⟨t,ht,h⟩:=aL h;exact ⟨_,_,_,ht,h⟩
theorem Fx{c:CT}{x:String}{d:D}{e:Expr}(h:aj c (.glb x d) e=true):∃y p,e=.Name y p/\(y==Str.ofString x&&c.glo y&&c.cn.any (λp=>p.1==x&&sEq p.2 d))=true:=by have h:(az (asName e) λt=>t.1==Str.ofString x&&c.glo t.1&&c.cn.any (λp=>p.1==x&&sEq p.2 d))=true:=h;obtain ⟨t,ht,h⟩:=aL h;exact ⟨_,_,ht,h⟩
theorem Fy{c:CT}{op:Operator}{fz:Bool}{a b:Ex}{e:Expr}(h:aj c (.bin op fz a b) e=true):∃l o r p,e=.BinOp l o r p/\(o==op&&aj c a l&&aj c b r)=true:=by have h:(az (Et e) λt=>t.2.1==op&&aj c a t.1&&aj c b t.2.2.1)=true:=h;obtain ⟨t,ht,h⟩:=aL h;exact ⟨_,_,_,_,ht,h⟩
theorem FJ{c:CT}{a:Ex}{e:Expr}(h:aj c (.neg a) e=true):∃x p,e=.UnaryOp .USub x p/\(aj c a x)=true:=by have h:(az (jt e) λt=>xF t.1&&aj c a t.2.1)=true:=h;obtain ⟨t,ht,h⟩:=aL h;rw[ae]at h;exact ⟨_,_,by rw[ht,aaG h.1],h.2⟩
theorem FN{c:CT}{a:Ex}{e:Expr}(h:aj c (.not a) e=true):∃x p,e=.UnaryOp .Not x p/\(aj c a x)=true:=by have h:(az (jt e) λt=>kY t.1&&aj c a t.2.1)=true:=h;obtain ⟨t,ht,h⟩:=aL h;rw[ae]at h;exact ⟨_,_,by rw[ht,Fi h.1],h.2⟩
theorem FP{c:CT}{op:CmpOp}{a b:Ex}{e:Expr}(h:aj c (.cmp op a b) e=true):∃l o r p,e=.Compare l [o] [r] p/\(o==op&&aj c a l&&aj c b r)=true:=by have h:(az (kJ e) λt=>(one t.2.1).any λo=>(one t.2.2.1).any λr=>o==op&&aj c a t.1&&aj c b r)=true:=h;obtain ⟨t,ht,h⟩:=aL h;obtain ⟨o,ho,h⟩:=aY h;obtain ⟨r,hr,h⟩:=aY h;exact ⟨_,_,_,_,by rw[ht,fu ho,fu hr],h⟩
theorem FQ{c:CT}{op op':CmpOp}{a b d:Ex}{e:Expr}(h:aj c (.chn op op' a b d) e=true):∃l o o' m r p,e=.Compare l [o,o'] [m,r] p/\(o==op&&o'==op'&&aj c a l&&aj c b m&&aj c d r)=true:=by have h:(az (kJ e) λt=>(two t.2.1).any λo=>(two t.2.2.1).any λr=>o.1==op&&o.2==op'&&aj c a t.1&&aj c b r.1&&aj c d r.2)=true:=h;obtain ⟨t,ht,h⟩:=aL h;obtain ⟨o,ho,h⟩:=aY h;obtain ⟨r,hr,h⟩:=aY h;exact ⟨_,_,_,_,_,_,by rw[ht,kW ho,kW hr],h⟩
theorem FT{c:CT}{isAnd:Bool}{x:Ex}{es:Exs}{e:Expr}(h:aj c (.boo isAnd x es) e=true):∃op v vs p,e=.BoolOp op (v::vs) p/\(op==(if isAnd then .And else .Or)&&aj c x v&&aK c es vs)=true:=by have h:(az (tV e) λt=>(hdT t.2.1).any λv=>t.1==(if isAnd then .And else .Or)&&aj c x v.1&&aK c es v.2)=true:=h;obtain ⟨t,ht,h⟩:=aL h;obtain ⟨v,hv,h⟩:=aY h;exact ⟨_,_,_,_,by rw[ht,Fg hv],h⟩
theorem FW{c:CT}{t:Tx}{a b:Ex}{e:Expr}(h:aj c (.ife t a b) e=true):∃t' a' b' p,e=.IfExp t' a' b' p/\(bA c t t'&&aj c a a'&&aj c b b')=true:=by have h:(az (Eu e) λu=>bA c t u.1&&aj c a u.2.1&&aj c b u.2.2.1)=true:=h;obtain ⟨u,ht,h⟩:=aL h;exact ⟨_,_,_,_,ht,h⟩
theorem Ge{c:CT}{es:Exs}{e:Expr}(h:aj c (.tup es) e=true):∃vs k p,e=.Tuple vs k p/\(aK c es vs)=true:=by have h:(az (gK e) λt=>aK c es t.1)=true:=h;obtain ⟨t,ht,h⟩:=aL h;exact ⟨_,_,_,ht,h⟩
theorem Gf{c:CT}{fz:Bool}{es:Exs}{e:Expr}(h:aj c (.lst fz es) e=true):∃vs p,e=.List vs p/\(aK c es vs)=true:=by have h:(az (asList e) λt=>aK c es t.1)=true:=h;obtain ⟨t,ht,h⟩:=aL h;exact ⟨_,_,ht,h⟩
theorem Gg{c:CT}{a i:Ex}{e:Expr}(h:aj c (.idx a i) e=true):∃v s p,e=.Subscript v s p/\(aj c a v&&aj c i s)=true:=by have h:(az (ju e) λt=>aj c a t.1&&aj c i t.2.1)=true:=h;obtain ⟨t,ht,h⟩:=aL h;exact ⟨_,_,_,ht,h⟩
theorem Gi{c:CT}{fz:Bool}{a:Ex}{lo hi:Ox}{e:Expr}(h:aj c (.slc fz a lo hi) e=true):∃v l u p' p,e=.Subscript v (.Slice l u none p') p/\(aj c a v&&fY c lo l&&fY c hi u)=true:=by have h:(az (ju e) λt=>az (Ew t.2.1) λs=>s.2.2.1.isNone&&(aj c a t.1&&fY c lo s.1&&fY c hi s.2.1))=true:=h;obtain ⟨t,ht,h⟩:=aL h;obtain ⟨s,hs,h⟩:=aL h;rw[ae,ft]at h;exact ⟨_,_,_,_,_,by rw[ht,hs,h.1],h.2⟩
theorem Gj{c:CT}{f:String}{es:Exs}{e:Expr}(h:aj c (.call f es) e=true):∃x p args pos,e=.Call (.Name x p) args [] pos/\(x==Str.ofString f&&c.glo x&&(c.fs.any λp=>p.1==f&&p.2==args.length)&&!args.isEmpty&&aK c es args)=true:=by have h:((bI e).any λt=>t.1==Str.ofString f&&c.glo t.1&&(c.fs.any λp=>p.1==f&&p.2==t.2.2.1.length)&&!t.2.2.1.isEmpty&&aK c es t.2.2.1)=true:=h;obtain ⟨t,ht,h⟩:=aY h;exact ⟨_,_,_,_,fX ht,h⟩
theorem Gk{c:CT}{f:Bf}{es:Exs}{e:Expr}(h:aj c (.bcl f es) e=true):∃x p args pos,e=.Call (.Name x p) args [] pos/\(x==Str.ofString f.name&&xm f&&c.glo x&&c.bt.contains f.name&&!args.isEmpty&&aK c es args)=true:=by have h:((bI e).any λt=>t.1==Str.ofString f.name&&xm f&&c.glo t.1&&c.bt.contains f.name&&!t.2.2.1.isEmpty&&aK c es t.2.2.1)=true:=h;obtain ⟨t,ht,h⟩:=aY h;exact ⟨_,_,_,_,fX ht,h⟩
theorem Gm{c:CT}{fz:Bool}{f:Lf}{es:Exs}{e:Expr}(h:aj c (.lcl fz f es) e=true):∃x p args pos,e=.Call (.Name x p) args [] pos/\(x==Str.ofString f.name&&xq f&&c.glo x&&c.bt.contains f.name&&!args.isEmpty&&aK c es args)=true:=by have h:((bI e).any λt=>t.1==Str.ofString f.name&&xq f&&c.glo t.1&&c.bt.contains f.name&&!t.2.2.1.isEmpty&&aK c es t.2.2.1)=true:=h;obtain ⟨t,ht,h⟩:=aY h;exact ⟨_,_,_,_,fX ht,h⟩
theorem Gn {c:CT} {a:Ex} {t:String} {e:Expr} (h:aj c (.isi a t) e=true):∃x p v y p' pos,e=.Call (.Name x p) [v,.Name y p'] [] pos/\(x==Str.ofString "isinstance"&&c.glo x&&c.bt.contains "isinstance"&&aj c a v&&y==Str.ofString t&&c.glo y&&c.bt.contains t&&fU t)=true:=by have h:((bI e).any λu=>(two u.2.2.1).any λv=>az (asName v.2) λy=>u.1==Str.ofString "isinstance"&&c.glo u.1&&c.bt.contains "isinstance"&&aj c a v.1&&y.1==Str.ofString t&&c.glo y.1&&c.bt.contains t&&fU t)=true:=h;obtain ⟨u,hu,h⟩:=aY h;obtain ⟨v,hv,h⟩:=aY h;obtain ⟨y,hy,h⟩:=aL h;exact ⟨_,_,_,_,_,_,by rw[fX hu,kW hv,hy],h⟩
theorem Gp{c:CT}{C f:String}{o:Ex}{e:Expr}(h:aj c (.fld C f o) e=true):∃v n p,e=.Attribute v n p/\(n==Str.ofString f&&!fj v&&c.ot.fl.contains (C,f)&&aj c o v)=true:=by have h:(az (fW e) λv=>v.2.1==Str.ofString f&&!fj v.1&&c.ot.fl.contains (C,f)&&aj c o v.1)=true:=h;obtain ⟨v,hv,h⟩:=aL h;exact ⟨_,_,_,hv,h⟩
theorem Gq{c:CT}{f C m:String}{o:Ex}{es:Exs}{e:Expr}(h:aj c (.mcl f C m o es) e=true):∃v n apos args cpos,e=.Call (.Attribute v n apos) args [] cpos/\tR v=true/\(n==Str.ofString m&&(apos.endLine==cpos.line)&&decide (args.length < 29)&&c.ot.ms.contains (f,C,m,args.length+1)&&aj c o v&&aK c es args)=true:=by have h:(az (iy e) λt=>az (fW t.1) λv=>t.2.2.1.isEmpty&&(tR v.1&&(v.2.1==Str.ofString m&&(v.2.2.endLine==t.2.2.2.line)&&decide (t.2.1.length < 29)&&c.ot.ms.contains (f,C,m,t.2.1.length+1)&&aj c o v.1&&aK c es t.2.1)))=true:=h;obtain ⟨t,ht,h⟩:=aL h;obtain ⟨v,hv,h⟩:=aL h;rw[ae,fo,ae]at h;exact ⟨_,_,_,_,_,by rw[ht,hv,h.1],h.2.1,h.2.2⟩
theorem Gs{c:CT}{C:String}{es:Exs}{e:Expr}(h:aj c (.mko C es) e=true):∃x p args pos,e=.Call (.Name x p) args [] pos/\(x==Str.ofString C&&c.glo x&&c.ot.ks.contains (C,args.length)&&!args.isEmpty&&aK c es args)=true:=by have h:((bI e).any λt=>t.1==Str.ofString C&&c.glo t.1&&c.ot.ks.contains (C,t.2.2.1.length)&&!t.2.2.1.isEmpty&&aK c es t.2.2.1)=true:=h;obtain ⟨t,ht,h⟩:=aY h;exact ⟨_,_,_,_,fX ht,h⟩
theorem Gu {c:CT} {o:Ex} {e:Expr} (h:aj c (.pp0 o) e=true):∃v n apos cpos,e=.Call (.Attribute v n apos) [] [] cpos/\(n==Str.ofString "pop"&&!fj v&&(apos.endLine==cpos.line)&&aj c o v)=true:=by have h:(az (iy e) λt=>az (fW t.1) λv=>t.2.2.1.isEmpty&&(t.2.1.isEmpty&&(v.2.1==Str.ofString "pop"&&!fj v.1&&(v.2.2.endLine==t.2.2.2.line)&&aj c o v.1)))=true:=h;obtain ⟨t,ht,h⟩:=aL h;obtain ⟨v,hv,h⟩:=aL h;rw[ae,fo,ae,fo]at h;exact ⟨_,_,_,_,by rw[ht,hv,h.1,h.2.1],h.2.2⟩
theorem Gv{c:CT}{m:Mf}{o:Ex}{es:Exs}{e:Expr}(h:aj c (.mth m o es) e=true):∃v x apos args cpos,e=.Call (.Attribute v x apos) args [] cpos/\(x==Str.ofString m.name&&aj c o v&&!fj v&&(apos.endLine==cpos.line)&&decide (args.length < 29)&&!args.isEmpty&&aK c es args)=true:=by have h:(az (iy e) λt=>az (fW t.1) λv=>t.2.2.1.isEmpty&&(v.2.1==Str.ofString m.name&&aj c o v.1&&!fj v.1&&(v.2.2.endLine==t.2.2.2.line)&&decide (t.2.1.length < 29)&&!t.2.1.isEmpty&&aK c es t.2.1))=true:=h;obtain ⟨t,ht,h⟩:=aL h;obtain ⟨v,hv,h⟩:=aL h;rw[ae,fo]at h;exact ⟨_,_,_,_,_,by rw[ht,hv,h.1],h.2⟩
theorem Gw{c:CT}{fz:Bool}{elt:Ex}{tg:Tg}{it:It'}{cond:Tx}{N:List String}{cap:List (Option Nat)}{e:Expr}(h:aj c (.comp fz elt tg it cond N cap) e=true):∃elt' tg' iter ifs as scope pos,e=.ListComp elt' [⟨tg',iter,ifs,as⟩] scope pos/\(decide (as=0)&&bF c it tg' iter&&gJ c.N scope (N.map Str.ofString) cap&&jr c scope&&dX (N.map Str.ofString)&&bO (c.comp (N.map Str.ofString) scope) tg tg'&&lg (c.comp (N.map Str.ofString) scope) cond ifs&&aj (c.comp (N.map Str.ofString) scope) elt elt')=true:=by have h:(az (Ey e) λt=>(one t.2.1).any λg=>decide (g.is_async=0)&&bF c it g.target g.iter&&gJ c.N t.2.2.1 (N.map Str.ofString) cap&&jr c t.2.2.1&&dX (N.map Str.ofString)&&bO (c.comp (N.map Str.ofString) t.2.2.1) tg g.target&&((xG cond&&g.ifs.isEmpty)||(one g.ifs).any λf=>bA (c.comp (N.map Str.ofString) t.2.2.1) cond f)&&aj (c.comp (N.map Str.ofString) t.2.2.1) elt t.1)=true:=h;obtain ⟨t,ht,h⟩:=aL h;obtain ⟨⟨tg',iter,ifs,as⟩,hg,h⟩:=aY h;exact ⟨t.1,tg',iter,ifs,as,t.2.2.1,t.2.2.2,(ht).trans (by rw[fu hg]),h⟩
theorem aaK{c:CT}{t:Tx}{e:Expr}(h:bA c (.not t) e=true):∃x p,e=.UnaryOp .Not x p/\(bA c t x)=true:=by have h:(az (jt e) λu=>kY u.1&&bA c t u.2.1)=true:=h;obtain ⟨u,ht,h⟩:=aL h;rw[ae]at h;exact ⟨_,_,by rw[ht,Fi h.1],h.2⟩
theorem aaL{c:CT}{isAnd:Bool}{x:Tx}{es:Txs}{e:Expr}(h:bA c (.boo isAnd x es) e=true):∃op v vs p,e=.BoolOp op (v::vs) p/\(op==(if isAnd then .And else .Or)&&bA c x v&&iz c es vs)=true:=by have h:(az (tV e) λu=>(hdT u.2.1).any λv=>u.1==(if isAnd then .And else .Or)&&bA c x v.1&&iz c es v.2)=true:=h;obtain ⟨t,ht,h⟩:=aL h;obtain ⟨v,hv,h⟩:=aY h;exact ⟨_,_,_,_,by rw[ht,Fg hv],h⟩
theorem Gx {c:CT} {a:Ex} {tg e:Expr} (h:bF c (.rng a) tg e=true):∃x p v pos,e=.Call (.Name x p) [v] [] pos/\(x==Str.ofString "range"&&c.glo x&&c.bt.contains "range"&&aj c a v)=true:=by have h:((bI e).any λt=>(one t.2.2.1).any λv=>t.1==Str.ofString "range"&&c.glo t.1&&c.bt.contains "range"&&aj c a v)=true:=h;obtain ⟨t,ht,h⟩:=aY h;obtain ⟨v,hv,h⟩:=aY h;exact ⟨_,_,_,_,by rw[fX ht,fu hv],h⟩
theorem Gy {c:CT} {a:Ex} {tg e:Expr} (h:bF c (.enm a) tg e=true):∃ts k p0 x p v pos,tg=.Tuple ts k p0/\e=.Call (.Name x p) [v] [] pos/\(x==Str.ofString "enumerate"&&c.glo x&&c.bt.contains "enumerate"&&aj c a v)=true:=by have h:(az (gK tg) λ_=>(bI e).any λt=>(one t.2.2.1).any λv=>t.1==Str.ofString "enumerate"&&c.glo t.1&&c.bt.contains "enumerate"&&aj c a v)=true:=h;obtain ⟨g,hg,h⟩:=aL h;obtain ⟨t,ht,h⟩:=aY h;obtain ⟨v,hv,h⟩:=aY h;exact ⟨_,_,_,_,_,_,_,hg,by rw[fX ht,fu hv],h⟩
theorem Gz {c:CT} {a b:Ex} {tg e:Expr} (h:bF c (.zip a b) tg e=true):∃ts k p0 x p v v' pos,tg=.Tuple ts k p0/\e=.Call (.Name x p) [v,v'] [] pos/\(x==Str.ofString "zip"&&c.glo x&&c.bt.contains "zip"&&aj c a v&&aj c b v')=true:=by have h:(az (gK tg) λ_=>(bI e).any λt=>(two t.2.2.1).any λv=>t.1==Str.ofString "zip"&&c.glo t.1&&c.bt.contains "zip"&&aj c a v.1&&aj c b v.2)=true:=h;obtain ⟨g,hg,h⟩:=aL h;obtain ⟨t,ht,h⟩:=aY h;obtain ⟨v,hv,h⟩:=aY h;exact ⟨_,_,_,_,_,_,_,_,hg,by rw[fX ht,kW hv],h⟩
theorem aaM{c:CT}{x:Ex}{st:Stmt}(h:aX c (.exp x) st=true):∃e pos,st=.Expr e pos/\(!cP e&&aj c x e)=true:=by have h:(az (kO st) λt=>!cP t.1&&aj c x t.1)=true:=h;obtain ⟨t,ht,h⟩:=aL h;exact ⟨_,_,ht,h⟩
theorem GC{c:CT}{g:Tg}{x:Ex}{st:Stmt}(h:aX c (.asg g x) st=true):∃tg e pos,st=.Assign [tg] e pos/\(bO c g tg&&aj c x e&&xJ g x e)=true:=by have h:(az (jw st) λt=>(one t.1).any λtg=>bO c g tg&&aj c x t.2.1&&xJ g x t.2.1)=true:=h;obtain ⟨t,ht,h⟩:=aL h;obtain ⟨g,hg,h⟩:=aY h;exact ⟨_,_,_,by rw[ht,fu hg],h⟩
theorem aaN{c:CT}{o i x:Ex}{st:Stmt}(h:aX c (.set o i x) st=true):∃o' i' tpos e pos,st=.Assign [.Subscript o' i' tpos] e pos/\(aj c o o'&&aj c i i'&&aj c x e&&!cP e)=true:=by have h:(az (jw st) λt=>(one t.1).any λtg=>az (ju tg) λu=>aj c o u.1&&aj c i u.2.1&&aj c x t.2.1&&!cP t.2.1)=true:=h;obtain ⟨t,ht,h⟩:=aL h;obtain ⟨g,hg,h⟩:=aY h;obtain ⟨u,hu,h⟩:=aL h;exact ⟨_,_,_,_,_,by rw[ht,fu hg,hu],h⟩
theorem aaO{c:CT}{i:Nat}{op:Operator}{x:Ex}{st:Stmt}(h:aX c (.aug i op x) st=true):∃y py o e pos,st=.AugAssign (.Name y py) o e pos/\(o==op&&(c.N[i]?==some y)&&c.sto y&&okN y&&aj c x e)=true:=by have h:(az (Ez st) λt=>az (asName t.1) λy=>t.2.1==op&&(c.N[i]?==some y.1)&&c.sto y.1&&okN y.1&&aj c x t.2.2.1)=true:=h;obtain ⟨t,ht,h⟩:=aL h;obtain ⟨u,hu,h⟩:=aL h;exact ⟨_,_,_,_,_,by rw[ht,hu],h⟩
theorem aaP{c:CT}{C:String}{es:Exs}{st:Stmt}(h:aX c (.rse C es) st=true):∃x np m cpos pos,st=.Raise (some (.Call (.Name x np) [m] [] cpos)) none pos/\(x==Str.ofString C&&c.glo x&&c.xs.contains (C,true)&&tX c es m)=true:=by have h:(az (EY st) λt=>t.2.1.isNone&&t.1.any λe=>(bI e).any λu=>u.1==Str.ofString C&&c.glo u.1&&c.xs.contains (C,true)&&(one u.2.2.1).any λm=>tX c es m)=true:=h;obtain ⟨t,ht,h⟩:=aL h;rw[ae,ft]at h;obtain ⟨e,he,h2⟩:=aY h.2;obtain ⟨u,hu,h3⟩:=aY h2;rw[ae]at h3;obtain ⟨m,hm,h4⟩:=aY h3.2;exact ⟨_,_,m,_,_,by rw[ht,h.1,he,fX hu,fu hm],by rw[ae];exact ⟨h3.1,h4⟩⟩
theorem aaQ{c:CT}{x:Ex}{st:Stmt}(h:aX c (.ret x) st=true):∃e pos,st=.Return (some e) pos/\(aj c x e)=true:=by have h:(az (tW st) λt=>t.1.any λe=>aj c x e)=true:=h;obtain ⟨t,ht,h⟩:=aL h;obtain ⟨e,he,h⟩:=aY h;exact ⟨_,_,by rw[ht,he],h⟩
theorem aaR{c:CT}{st:Stmt}(h:aX c .rtn st=true):∃pos,st=.Return none pos/\(true)=true:=by have h:(az (tW st) λt=>t.1.isNone)=true:=h;obtain ⟨t,ht,h⟩:=aL h;rw[ft]at h;exact ⟨_,by rw[ht,h],rfl⟩
theorem aaS{c:CT}{t:Tx}{a b:Sxs}{st:Stmt}(h:aX c (.ite t a b) st=true):∃t' a' b' pos,st=.If t' a' b' pos/\(bA c t t'&&aD c a a'&&aD c b b')=true:=by have h:(az (xu st) λu=>bA c t u.1&&aD c a u.2.1&&aD c b u.2.2.1)=true:=h;obtain ⟨u,ht,h⟩:=aL h;exact ⟨_,_,_,_,ht,h⟩
theorem aaT{c:CT}{g:Tg}{it:It'}{b:Sxs}{st:Stmt}(h:aX c (.for_ g it b) st=true):∃tg iter body pos,st=.For tg iter body [] pos/\(bO c g tg&&bF c it tg iter&&aD c b body)=true:=by have h:(az (Fb st) λt=>t.2.2.2.1.isEmpty&&(bO c g t.1&&bF c it t.1 t.2.1&&aD c b t.2.2.1))=true:=h;obtain ⟨t,ht,h⟩:=aL h;rw[ae,fo]at h;exact ⟨_,_,_,_,by rw[ht,h.1],h.2⟩
theorem aaU{c:CT}{st:Stmt}(h:aX c .pas st=true):∃pos,st=.Pass pos/\(true)=true:=by obtain ⟨⟨t,ht⟩,_⟩:=cp.mp (show (Fd st).isSome=true from h);exact ⟨t,ht,rfl⟩
theorem aaV{c:CT}{st:Stmt}(h:aX c .brk st=true):∃pos,st=.Break pos/\(true)=true:=by obtain ⟨⟨t,ht⟩,_⟩:=cp.mp (show (Fe st).isSome=true from h);exact ⟨t,ht,rfl⟩
theorem aaW{c:CT}{st:Stmt}(h:aX c .cnt st=true):∃pos,st=.Continue pos/\(true)=true:=by obtain ⟨⟨t,ht⟩,_⟩:=cp.mp (show (Ff st).isSome=true from h);exact ⟨t,ht,rfl⟩
noncomputable def lr:Expr->Bool
 |.Starred ..=>false
 |.Set ..=>false
 |.Slice ..=>false
 |_=>true
theorem bL{c:CT}:∀(x:Ex){e:Expr},aj c x e=true->lr e=true
 |.frz a,e,h=>bL a (show aj c a e=true from h)
 |.var _,e,h=>by obtain ⟨_,_,rfl,_⟩:=Fv h;rfl
 |.cst _,e,h=>by obtain ⟨_,_,_,rfl,_⟩:=Fw h;rfl
 |.glb _ _,e,h=>by obtain ⟨_,_,rfl,_⟩:=Fx h;rfl
 |.bin _ _ _ _,e,h=>by obtain ⟨_,_,_,_,rfl,_⟩:=Fy h;rfl
 |.neg _,e,h=>by obtain ⟨_,_,rfl,_⟩:=FJ h;rfl
 |.cmp _ _ _,e,h=>by obtain ⟨_,_,_,_,rfl,_⟩:=FP h;rfl
 |.chn _ _ _ _ _,e,h=>by obtain ⟨_,_,_,_,_,_,rfl,_⟩:=FQ h;rfl
 |.not _,e,h=>by obtain ⟨_,_,rfl,_⟩:=FN h;rfl
 |.boo _ _ _,e,h=>by obtain ⟨_,_,_,_,rfl,_⟩:=FT h;rfl
 |.ife _ _ _,e,h=>by obtain ⟨_,_,_,_,rfl,_⟩:=FW h;rfl
 |.tup _,e,h=>by obtain ⟨_,_,_,rfl,_⟩:=Ge h;rfl
 |.lst _ _,e,h=>by obtain ⟨_,_,rfl,_⟩:=Gf h;rfl
 |.idx _ _,e,h=>by obtain ⟨_,_,_,rfl,_⟩:=Gg h;rfl
 |.slc _ _ _ _,e,h=>by obtain ⟨_,_,_,_,_,rfl,_⟩:=Gi h;rfl
 |.rvs _ _ _,_,h=>nomatch (show false=true from h)
 |.call _ _,e,h=>by obtain ⟨_,_,_,_,rfl,_⟩:=Gj h;rfl
 |.bcl _ _,e,h=>by obtain ⟨_,_,_,_,rfl,_⟩:=Gk h;rfl
 |.lcl _ _ _,e,h=>by obtain ⟨_,_,_,_,rfl,_⟩:=Gm h;rfl
 |.isi _ _,e,h=>by obtain ⟨_,_,_,_,_,_,rfl,_⟩:=Gn h;rfl
 |.rgl _ _,_,h=>nomatch (show false=true from h)
 |.rgt _,_,h=>nomatch (show false=true from h)
 |.fst _,_,h=>nomatch (show false=true from h)
 |.isx _ _ _,_,h=>nomatch (show false=true from h)
 |.rpl _ _ _ _,_,h=>nomatch (show false=true from h)
 |.fld _ _ _,e,h=>by obtain ⟨_,_,_,rfl,_⟩:=Gp h;rfl
 |.mcl _ _ _ _ _,e,h=>by obtain ⟨_,_,_,_,_,rfl,_⟩:=Gq h;rfl
 |.mko _ _,e,h=>by obtain ⟨_,_,_,_,rfl,_⟩:=Gs h;rfl
 |.pp0 _,e,h=>by obtain ⟨_,_,_,_,rfl,_⟩:=Gu h;rfl
 |.mth _ _ _,e,h=>by obtain ⟨_,_,_,_,_,rfl,_⟩:=Gv h;rfl
 |.comp _ _ _ _ _ _ _,e,h=>by obtain ⟨_,_,_,_,_,_,_,rfl,_⟩:=Gw h;rfl
 |.cm3 _ _ _ _ _ _ _ _ _,_,h=>nomatch (show false=true from h)
theorem cX{e:Expr}(h:lr e=true):noStar e=true:=by cases e <;> first |rfl |exact nomatch (show false=true from h)
theorem GD{e:Expr}(h:lr e=true)(op:CmpOp):behindInMarks op e=false:=by cases e <;> first |rfl |exact nomatch (show false=true from h)
theorem aaX{e:Expr}(h:lr e=true)(env:Env)(x:Value):foldedSetIterable e env x=pure x:=by cases e <;> first |rfl |exact nomatch (show false=true from h)
theorem aaY{e:Expr}(h:lr e=true):BL e:=by intro o i;cases e <;> first |rfl |exact nomatch (show false=true from h)
theorem aaZ{e:Expr}(h:iw e=true)(env:Env)(whole:Sem Value):isTrue e env whole=(do let v <-whole;standAt e.pos;holding [v] (truthy v)):=by
 cases e with
 |UnaryOp op x p=>cases op <;> first |rfl |exact nomatch (show false=true from h)
 |_=>first |rfl |exact nomatch (show false=true from h)
noncomputable def XV(K:PF)(H:Hp)(F:FZ)(x:Xn)(cv:Value)(od:Option Addr):Prop:=
 ∃C,cv=.ref C/\PySem.W.nsIn K mainGlobals (Str.ofString x.cls)=some (some (.ref C))/\
  match x.fld with
  |.non=>True
  |d=>∃a f v,od=some a/\H a=some (.xd [(f,v)])/\Rep K H F d v
noncomputable def XR(K:PF)(H:Hp)(F:FZ)(x:Xn)(EX:XK):Prop:=∀cv od,XV K H F x cv od->EX cv od H
noncomputable def PX(K:PF)(H:Hp)(F:FZ)(EX:XK):EK:=λx G'=>∀H' F',Ext H F H' F'->R K H' F' G'->XR K H' F' x EX
theorem el{α β γ:Type}{p q r s:α->β->γ->Prop}{C:Prop}(h:∃x y z,p x y z/\q x y z/\r x y z/\s x y z)(k:∀x y z,p x y z->q x y z->r x y z->s x y z->C):C:=by obtain ⟨x,y,z,h1,h2,h3,h4⟩:=h;exact k x y z h1 h2 h3 h4
noncomputable def lift(K:PF)(n:Nat)(S:RF.Spec):Sp:=λvs H Q EX=>vs.length=n/\∃F G ds,R K H F G/\Reps K H F ds vs/\S.t ds G (PV K H F Q) (PX K H F EX)
noncomputable def CV(K:PF)(mg:Str->Option Value)(C':String)(cv:V):Prop:=
 (∃a,cv=.ref a/\mg (Str.ofString C')=some (.ref a)/\Dh K a=true)\/(C'="ValueError"/\cv=.ty "ValueError"/\mg (Str.ofString C')=none)
noncomputable def XI(K:PF)(C C':String)(cv:V):Prop:=
 ∃c,PySem.W.nsIn K mainGlobals (Str.ofString C)=some (some (.ref c))/\Dg K c=true/\PySem.W.mroIn K c (valOf cv)=some (gB C C')/\(gB C C'=false->(Value.ref c==valOf cv)=false)
structure Bs where
 H:Hp
 F:FZ
noncomputable def xN(K:PF)(C f:String):Prop:=∃c,PySem.W.nsIn K mainGlobals (Str.ofString C)=some (some (.ref c))/\Cls K c/\NoAttr K c (Str.ofString f)
noncomputable def MthOk(Φ:aa)(P:Program)(w:World)(K:PF)(mg:Str->Option Value)(base:Heap)(CX:CXT)(k:Nat)(f C m:String)(n:Nat):Prop:=
 ∃c fa fd ps,PySem.W.nsIn K mainGlobals (Str.ofString C)=some (some (.ref c))/\Cls K c/\Meth K c (Str.ofString m) fa/\Binds K fd ps []/\FnOk P w K mg base CX k fa fd ps (lift K n (Φ f))
noncomputable def MkoOk(Φ:aa)(P:Program)(w:World)(K:PF)(mg:Str->Option Value)(base:Heap)(CX:CXT)(k:Nat)(C:String)(n:Nat):Prop:=
 ∃c fa fd ps sp j,j+1<=k/\mg (Str.ofString C)=some (.ref c)/\Mk K c fa/\Binds K fd ps []/\FnOk P w K mg base CX j fa fd ps sp/\
  ∀vs H Q E,lift K n (Φ C) vs H Q E->∀x dx,H x=none->H dx=none->dx≠x->sp (.ref x::vs) (upd (upd H dx (.own x)) x (.ins c dx [])) (λv H2=>v=.non/\Q (.ref x) H2) E
structure Stat(Φ:aa)(CX:CXT)(k:Nat)(c:CT)(E:EK)(B:Bs)(X:Cx):Prop where
 N:X.N=c.N
 nd:X.N.Nodup
 calm:X.calm=true
 own:PassesOwn (model X.prog X.w) X.A X.env X.xe
 kd:X.env.kindOf=λx=>X.env.scope.names.lookup x
 vis:∀x,iu (c.kd.lookup x)=true->Vis X.env.scope x
 cel:∀x,(c.kd.lookup x=some .cell\/c.kd.lookup x=some .free)->(X.env.kindOf x=some .cell\/X.env.kindOf x=some .free)
 glo:∀x,c.kd.lookup x=some .globalImplicit->Gl X x
 sto:∀x,c.sto x=true->Loc X.env.scope x/\(X.fn x=true\/X.env.scope.names.lookup x=some .local)
 room:Room k X.A
 call:∀f n,(f,n)∈c.fs->∃fa fd ps,FnOk X.prog X.w X.K X.mg X.base CX k fa fd ps (lift X.K n (Φ f))/\PySem.W.keepIn X.K (.ref fa)=true/\Binds X.K fd ps []/\X.mg (Str.ofString f)=some (.ref fa)
 blt:∀f,f∈c.bt->X.mg (Str.ofString f)=none
 con:∀x d,(x,d)∈c.cn->∃u v,X.mg (Str.ofString x)=some u/\RelV v u/\∀H F,Rep X.K H F d v
 exc:∃EX,eV CX X EX/\Throws X EX/\∀x G' H' F',E x G'->Ext B.H B.F H' F'->R X.K H' F' G'->XR X.K H' F' x EX
 nox:∀(Y:Cx),eV CX Y λ_ _ _=>False
 xcl:∀C,c.xs.contains (C,true)=true->∃a,X.mg (Str.ofString C)=some (.ref a)/\gZ X.K a=true/\PySem.W.nsIn X.K mainGlobals (Str.ofString C)=some (some (.ref a))
 loc:∀x,c.kd.lookup x=some .local->X.env.scope.names.lookup x=some .local
 xis:∀C',c.xs.contains (C',false)=true->∃cv,CV X.K X.mg C' cv/\∀C,c.xs.contains (C,true)=true->XI X.K C C' cv
 mth:∀f C m n,(f,C,m,n)∈c.ot.ms->MthOk Φ X.prog X.w X.K X.mg X.base CX k f C m n
 mko:∀C n,(C,n)∈c.ot.ks->MkoOk Φ X.prog X.w X.K X.mg X.base CX k C n
 fld:∀C f,(C,f)∈c.ot.fl->xN X.K C f
 trc:c.xs≠[]->CX=CX1 X.prog X.w/\X.stack=X.env::X.outer/\X.ex=[]
noncomputable def tE(K:PF)(B:Bs)(w:ak->DH->(D->DH->Prop)->Prop):TE:=λσ H Q=>∃ρ F G,Ext B.H B.F H F/\EnvR K H F ρ σ/\R K H F G/\w ρ G (PV K H F Q)
noncomputable def tB'(K:PF)(B:Bs)(w:ak->DH->(Bool->DH->Prop)->Prop):TT:=λσ H Q=>∃ρ F G,Ext B.H B.F H F/\EnvR K H F ρ σ/\R K H F G/\w ρ G (PB K H F Q)
noncomputable def tL(K:PF)(B:Bs)(w:ak->DH->(List D->DH->Prop)->Prop):TA:=λσ H Q=>∃ρ F G,Ext B.H B.F H F/\EnvR K H F ρ σ/\R K H F G/\w ρ G (PLs K H F Q)
noncomputable def POp(K:PF)(H:Hp)(F:FZ)(Q:Option Int->Hp->Prop):Option Int->DH->Prop:=λb G'=>∀H' F',Ext H F H' F'->R K H' F' G'->Q b H'
noncomputable def GF(K:PF)(B:Bs)(w:ak->DH->(Option Int->DH->Prop)->Prop):TO:=λσ H Q=>∃ρ F G,Ext B.H B.F H F/\EnvR K H F ρ σ/\R K H F G/\w ρ G (POp K H F Q)
theorem peI{X:Cx}{e:Expr}{t t':TE}(h:PE X e t)(i:∀σ H Q,t' σ H Q->t σ H Q):PE X e t':=λpins s σ H Q I q=>h pins s σ H Q I (i σ H Q q)
theorem ptI{X:Cx}{e:Expr}{t t':TT}(h:PT X e t)(i:∀σ H Q,t' σ H Q->t σ H Q):PT X e t':=λpins s σ H Q I q=>h pins s σ H Q I (i σ H Q q)
theorem pwI{X:Cx}{e:Expr}{t t':TT}(h:PW X e t)(i:∀σ H Q,t' σ H Q->t σ H Q):PW X e t':=λwh pins s σ H Q I q=>h wh pins s σ H Q I (i σ H Q q)
theorem paI{X:Cx}{e:List Expr}{t t':TA}(h:PA X e t)(i:∀σ H Q,t' σ H Q->t σ H Q):PA X e t':=λpos pins s σ H Q I q=>h pos pins s σ H Q I (i σ H Q q)
section
variable {Φ:aa} {CX:CXT} {k:Nat} {c:CT} {E:EK} {B:Bs} {X:Cx}
theorem aN{K:PF}{x:Ex}{σ:L2.St}{H:Hp}{F:FZ}{G:DH}{ρ:ak}{W:D->DH->Prop}{Q:VK}(e0:Ext B.H B.F H F)(he:EnvR K H F ρ σ)(r:R K H F G)(hw:wpE Φ x E ρ G W)
  (h:∀d G1 H1 F1 v,W d G1->Ext B.H B.F H1 F1->Ext H F H1 F1->EnvR K H1 F1 ρ σ->R K H1 F1 G1->Rep K H1 F1 d v->Q v H1):tE K B (wpE Φ x E) σ H Q:=
 ⟨ρ,F,G,e0,he,r,aC x (λd G1 q H1 F1 v x1 r1 rv=>h d G1 H1 F1 v q (e0.trans x1) x1 (he.ext x1) r1 rv) hw⟩
theorem cz{K:PF}{x:Exs}{σ:L2.St}{H:Hp}{F:FZ}{G:DH}{ρ:ak}{W:List D->DH->Prop}{Q:List V->Hp->Prop}(e0:Ext B.H B.F H F)(he:EnvR K H F ρ σ)(r:R K H F G)(hw:aM Φ x E ρ G W)
  (h:∀d G1 H1 F1 v,W d G1->Ext B.H B.F H1 F1->Ext H F H1 F1->EnvR K H1 F1 ρ σ->R K H1 F1 G1->Reps K H1 F1 d v->Q v H1):tL K B (aM Φ x E) σ H Q:=
 ⟨ρ,F,G,e0,he,r,cj x (λd G1 q H1 F1 v x1 r1 rv=>h d G1 H1 F1 v q (e0.trans x1) x1 (he.ext x1) r1 rv) hw⟩
theorem jx{K:PF}{x:Tx}{σ:L2.St}{H:Hp}{F:FZ}{G:DH}{ρ:ak}{W:Bool->DH->Prop}{Q:Bool->Hp->Prop}(e0:Ext B.H B.F H F)(he:EnvR K H F ρ σ)(r:R K H F G)(hw:wpT Φ x E ρ G W)
  (h:∀d G1 H1 F1,W d G1->Ext B.H B.F H1 F1->Ext H F H1 F1->EnvR K H1 F1 ρ σ->R K H1 F1 G1->Q d H1):tB' K B (wpT Φ x E) σ H Q:=
 ⟨ρ,F,G,e0,he,r,dh x (λd G1 q H1 F1 x1 r1=>h d G1 H1 F1 q (e0.trans x1) x1 (he.ext x1) r1) hw⟩
theorem GJ{K:PF}{x:Ox}{σ:L2.St}{H:Hp}{F:FZ}{G:DH}{ρ:ak}{W:Option Int->DH->Prop}{Q:Option Int->Hp->Prop}(e0:Ext B.H B.F H F)(he:EnvR K H F ρ σ)(r:R K H F G)(hw:wpO Φ x E ρ G W)
  (h:∀d G1 H1 F1,W d G1->Ext B.H B.F H1 F1->Ext H F H1 F1->EnvR K H1 F1 ρ σ->R K H1 F1 G1->Q d H1):GF K B (wpO Φ x E) σ H Q:=
 ⟨ρ,F,G,e0,he,r,wU x (λd G1 q H1 F1 x1 r1=>h d G1 H1 F1 q (e0.trans x1) x1 (he.ext x1) r1) hw⟩
theorem PV.later{K:PF}{H H1:Hp}{F F1:FZ}{Q:VK}{d:D}{G:DH}(h:PV K H F Q d G)(x:Ext H F H1 F1):PV K H1 F1 Q d G:=λH' F' v x1=>h H' F' v (x.trans x1)
theorem PB.later{K:PF}{H H1:Hp}{F F1:FZ}{Q:Bool->Hp->Prop}{d:Bool}{G:DH}(h:PB K H F Q d G)(x:Ext H F H1 F1):PB K H1 F1 Q d G:=λH' F' x1=>h H' F' (x.trans x1)
theorem PB.now{K:PF}{H:Hp}{F:FZ}{Q:Bool->Hp->Prop}{d:Bool}{G:DH}(h:PB K H F Q d G)(r:R K H F G):Q d H:=h H F (Ext.refl H F) r
theorem jy(S:Stat Φ CX k c E B X):X.A.units+100 < cLine:=by have:=S.room.un;omega
theorem cA {x:Str} (h:okN x=true):(x==("__debug__":Str))=false:=by
 unfold okN at h;cases e:x==("__debug__":Str) with
 |false=>rfl
 |true=>rw[e]at h;simp at h
theorem aa0 {x:Str} (h:okN x=true):(x==("__classdict__":Str))=false:=by
 unfold okN at h;cases e:x==("__classdict__":Str) with
 |false=>rfl
 |true=>rw[e]at h;simp at h
theorem dY {x:Str} (h:okN x=true):x≠"__name__":=by unfold okN at h;intro e;rw[aE.mpr e]at h;simp at h
theorem dZ{x:Str}(h:c.glo x=true):c.kd.lookup x=some .globalImplicit/\okN x=true:=by unfold CT.glo at h;rw[ae,aE]at h;exact h
theorem aa1(S:Stat Φ CX k c E B X){i:Nat}{e:Expr}(h:aj c (.var i) e=true):PE X e (tE X.K B (wpE Φ (.var i) E)):=by
 replace h:=Fv h;obtain ⟨x,pos,rfl,h⟩:=h
 ·rw[ae,ae,aE]at h;refine peI (Ao (i:=i) (by rw[S.N];exact h.1.1) (S.vis x h.1.2) (cA h.2) (aa0 h.2)) λσ H Q q=>?_;obtain ⟨ρ,F,G,_,he,r,hw⟩:=q;rw[qX]at hw;split at hw
  ·rename_i d hd;obtain ⟨v,e1,rv⟩:=he.get hd;exact ⟨v,e1,hw.now r rv⟩
  ·exact hw.elim
theorem aa2(S:Stat Φ CX k c E B X){d:D}{e:Expr}(h:aj c (.cst d) e=true):PE X e (tE X.K B (wpE Φ (.cst d) E)):=by
 replace h:=Fw h;obtain ⟨kk,_,_,rfl,h⟩:=h
 ·unfold tQ at h;split at h
  ·exact peI Ur λσ H Q hq=>el hq λρ F G _ he r hw=>by rw[ie]at hw;exact hw.now r rfl
  ·rw[aE]at h;subst h;exact peI Uq λσ H Q hq=>el hq λρ F G _ he r hw=>by rw[ie]at hw;exact hw.now r rfl
  ·rw[aE]at h;subst h;exact peI Up λσ H Q hq=>el hq λρ F G _ he r hw=>by rw[ie]at hw;exact hw.now r rfl
  ·rename_i l b;rw[ae,aE,ci]at h;refine peI Aq λσ H Q hq=>el hq λρ F G _ he r hw=>?_;rw[ie]at hw;refine hw.now r ⟨?_,h.2⟩;rw[h.1,<-vz]
  ·cases h
theorem aa3(S:Stat Φ CX k c E B X){x:String}{d:D}{e:Expr}(h:aj c (.glb x d) e=true):PE X e (tE X.K B (wpE Φ (.glb x d) E)):=by
 replace h:=Fx h;obtain ⟨y,pos,rfl,h⟩:=h
 ·rw[ae,ae,aE,List.any_eq_true]at h;obtain ⟨⟨e1,h1⟩,⟨x',d'⟩,hm,h2⟩:=h;rw[ae,aE]at h2;obtain ⟨e2,e3⟩:=h2;have e3:=aaD e3;simp only at e2 e3;subst e1 e2 e3;obtain ⟨g1,g2⟩:=dZ h1;obtain ⟨u,v,hu,ru,hr⟩:=S.con _ _ hm;exact peI (Us (S.glo _ g1) hu ru (cA g2)) λσ H Q hq=>el hq λρ F G _ he r hw=>by rw[qY]at hw;exact hw.now r (hr H F)
theorem aa4(S:Stat Φ CX k c E B X){op:Operator}{fz:Bool}{a b:Ex}(iha:∀{e},aj c a e=true->PE X e (tE X.K B (wpE Φ a E)))(ihb:∀{e},aj c b e=true->PE X e (tE X.K B (wpE Φ b E))){e:Expr}
  (h:aj c (.bin op fz a b) e=true):PE X e (tE X.K B (wpE Φ (.bin op fz a b) E)):=by
 replace h:=Fy h;obtain ⟨l,o,r,pos,rfl,h⟩:=h
 ·rw[ae,ae,aE]at h;obtain ⟨⟨e1,h1⟩,h2⟩:=h;subst e1;refine peI (VG (Zt _ fz) (iha h1) (ihb h2)) λσ H Q hq=>el hq λρ F G e0 he r hw=>?_;rw[qZ]at hw;refine aN e0 he r hw λx G1 H1 F1 v q e1 x1 he1 r1 rv=>aN e1 he1 r1 q λy G2 H2 F2 u q e2 x2 he2 r2 ru=>?_;exact ⟨F2,G2,x,y,r2,Rep.ext x2 rv,ru,DN (λd G' z=>PV.later z (x1.trans x2)) q⟩
theorem aa5(S:Stat Φ CX k c E B X){a:Ex}(iha:∀{e},aj c a e=true->PE X e (tE X.K B (wpE Φ a E))){e:Expr}(h:aj c (.neg a) e=true):PE X e (tE X.K B (wpE Φ (.neg a) E)):=by
 replace h:=FJ h;obtain ⟨_,_,rfl,h⟩:=h
 ·refine peI (VH V0 (iha h)) λσ H Q hq=>el hq λρ F G e0 he r hw=>?_;rw[q8]at hw;refine aN e0 he r hw λx G1 H1 F1 v q e1 x1 he1 r1 rv=>?_;split at q
  ·have e2:v=.int _:=rv;subst e2;exact ⟨_,rfl,q _ _ _ x1 r1 rfl⟩
  ·exact q.elim
theorem GK(S:Stat Φ CX k c E B X){op:CmpOp}{a b:Ex}(iha:∀{e},aj c a e=true->PE X e (tE X.K B (wpE Φ a E)))(ihb:∀{e},aj c b e=true->PE X e (tE X.K B (wpE Φ b E))){e:Expr}
  (h:aj c (.cmp op a b) e=true):PE X e (tE X.K B (wpE Φ (.cmp op a b) E))/\PT X e (tB' X.K B (wpT Φ (.val (.cmp op a b)) E)):=by
 replace h:=FP h;obtain ⟨l,o,r,pos,rfl,h⟩:=h
 ·rw[ae,ae,aE]at h;obtain ⟨⟨e1,h1⟩,h2⟩:=h;subst e1;have hm:=GD (bL b h2) o;refine ⟨peI (V3 (jq _ (jy S)) (iha h1) (ihb h2) hm) λσ H Q hq=>el hq λρ F G e0 he r hw=>?_,ptI (V4 (jq _ (jy S)) (iha h1) (ihb h2) hm) λσ H Q hq=>el hq λρ F G e0 he r hw=>?_⟩
  ·rw[j9]at hw;refine aN e0 he r hw λx G1 H1 F1 v q e1 x1 he1 r1 rv=>aN e1 he1 r1 q λy G2 H2 F2 u q e2 x2 he2 r2 ru=>?_;exact ⟨F2,G2,x,y,r2,Rep.ext x2 rv,ru,ig (λd z=>PV.later z (x1.trans x2)) q⟩
  ·rw[jl,j9]at hw;refine aN e0 he r hw λx G1 H1 F1 v q e1 x1 he1 r1 rv=>aN e1 he1 r1 q λy G2 H2 F2 u q e2 x2 he2 r2 ru=>?_;refine ⟨F2,G2,x,y,r2,Rep.ext x2 rv,ru,ig (λd z=>?_) q⟩;intro H' F' v' x' r' rv';have e3:v'=.bl d:=rv';exact ⟨d,e3,z H' F' ((x1.trans x2).trans x') r'⟩
theorem GP(S:Stat Φ CX k c E B X){op op':CmpOp}{a b d:Ex}(iha:∀{e},aj c a e=true->PE X e (tE X.K B (wpE Φ a E)))(ihb:∀{e},aj c b e=true->PE X e (tE X.K B (wpE Φ b E)))(ihd:∀{e},aj c d e=true->PE X e (tE X.K B (wpE Φ d E))){e:Expr}
  (h:aj c (.chn op op' a b d) e=true):PE X e (tE X.K B (wpE Φ (.chn op op' a b d) E))/\PT X e (tB' X.K B (wpT Φ (.val (.chn op op' a b d)) E)):=by
 replace h:=FQ h;obtain ⟨l,o,o',m,r,pos,rfl,h⟩:=h
 ·simp only[ae,aE]at h;obtain ⟨⟨⟨⟨e1,e2⟩,h1⟩,h2⟩,h3⟩:=h;subst e1 e2;have hm:lastMarks [o,o'] [m,r]=false:=GD (bL d h3) o';have go:∀{σ H Q ρ F G}{W:Bool->DH->Prop},Ext B.H B.F H F->EnvR X.K H F ρ σ->R X.K H F G->
    wpE Φ a E ρ G (λx G1=>wpE Φ b E ρ G1 λy G2=>aW o (view G2 x) (view G2 y) λt=>match t with |true=>wpE Φ d E ρ G2 λz G3=>aW o' (view G3 y) (view G3 z) λt'=>W t' G3 |false=>W false G2)->
    (∀t G' H' F',W t G'->Ext H F H' F'->R X.K H' F' G'->Q (.bl t) H')->
    vg (rC2 X.K (aW o)) (rC2 X.K (aW o')) (tE X.K B (wpE Φ a E)) (tE X.K B (wpE Φ b E)) (tE X.K B (wpE Φ d E)) σ H Q:=by
   intro σ H Q ρ F G W e0 he r hw fin;refine aN e0 he r hw λx G1 H1 F1 v q e1 x1 he1 r1 rv=>aN e1 he1 r1 q λy G2 H2 F2 u q e2 x2 he2 r2 ru=>?_;refine ⟨F2,G2,x,y,r2,Rep.ext x2 rv,ru,ig (λt q=>?_) q⟩;intro H3 F3 v3 x3 r3 rv3;have e3:v3=.bl t:=rv3;refine ⟨t,e3,?_⟩;cases t with
   |true=>
    rw[if_pos rfl];refine aN (e2.trans x3) (he2.ext x3) r3 q λz G4 H4 F4 v4 q e4 x4 he4 r4 rv4=>?_;refine ⟨F4,G4,y,z,r4,Rep.ext (x3.trans x4) ru,rv4,ig (λt' q=>?_) q⟩;intro H5 F5 v5 x5 r5 rv5;have e5:v5=.bl t':=rv5;subst e5;exact fin _ _ _ _ q ((((x1.trans x2).trans x3).trans x4).trans x5) r5
   |false=>
    rw[if_neg b6];exact fin _ _ _ _ q ((x1.trans x2).trans x3) r3
  refine ⟨peI (V5 (jq _ (jy S)) (jq _ (jy S)) (iha h1) (ihb h2) (ihd h3) hm) λσ H Q hq=>el hq λρ F G e0 he r hw=>?_,ptI (V6 (jq _ (jy S)) (jq _ (jy S)) (iha h1) (ihb h2) (ihd h3) hm) λσ H Q hq=>el hq λρ F G e0 he r hw=>?_⟩
  ·rw[kh]at hw;exact go (W:=λt G'=>PV X.K H F Q (.bl t) G') e0 he r hw λt G' H' F' z x' r'=>z H' F' _ x' r' rfl
  ·rw[jl,kh]at hw;refine go (W:=λt G'=>PB X.K H F Q t G') e0 he r hw λt G' H' F' z x' r'=>⟨t,rfl,z H' F' x' r'⟩
end
section
variable {Φ:aa} {CX:CXT} {k:Nat} {c:CT} {E:EK} {B:Bs} {X:Cx}
noncomputable abbrev OkE(Φ:aa)(c:CT)(E:EK)(B:Bs)(X:Cx)(x:Ex):Prop:=∀{e:Expr},aj c x e=true->PE X e (tE X.K B (wpE Φ x E))
noncomputable abbrev fB(Φ:aa)(c:CT)(E:EK)(B:Bs)(X:Cx)(x:Exs):Prop:=∀{es:List Expr},aK c x es=true->PA X es (tL X.K B (aM Φ x E))
noncomputable abbrev OkT(Φ:aa)(c:CT)(E:EK)(B:Bs)(X:Cx)(x:Tx):Prop:=∀{e:Expr},bA c x e=true->PT X e (tB' X.K B (wpT Φ x E))
theorem aa6(S:Stat Φ CX k c E B X){a:Ex}(iha:OkE Φ c E B X a){e:Expr}(h:aj c (.not a) e=true):PE X e (tE X.K B (wpE Φ (.not a) E)):=by
 replace h:=FN h;obtain ⟨_,_,rfl,h⟩:=h
 ·intro pins s σ H Q I q;obtain ⟨ρ,F,G,e0,he,r,hw⟩:=q;rw[q9]at hw;have q':tE X.K B (wpE Φ a E) σ H (λx H1=>∃b,qe X.K x H1 b/\Q (.bl (!b)) H1):=aN e0 he r hw λx G1 H1 F1 v q e1 x1 he1 r1 rv=>by
   split at q
   ·rename_i b hb;exact ⟨b,Eh r1 rv hb,q _ _ _ x1 r1 rfl⟩
   ·exact q.elim
  refine UnaryOp_ (thn (iha h pins s σ H _ I q') λv s1 ⟨x,H1,I1,r1,b,tb,q1⟩=>?_);refine not_of (thn (Be pins s1 σ H1 x v (λb' H'=>Q (.bl (!b')) H') I1 r1 ⟨b,tb,q1⟩) λb' s2 ⟨H2,I2,q2⟩=>?_);exact ⟨.bl (!b'),H2,I2,rfl,q2⟩
theorem xO{es:List Expr}(h:aK c .nil es=true):PA X es (tL X.K B (aM Φ .nil E)):=by
 unfold aK at h;cases es with
 |nil=>exact paI j4 λσ H Q hq=>el hq λρ F G e0 he r hw=>by rw[gF]at hw;exact hw H F [] (Ext.refl _ _) r rfl
 |cons _ _=>cases h
theorem tY{x:Ex}{xs:Exs}(ih:OkE Φ c E B X x)(ihs:fB Φ c E B X xs){es:List Expr}(h:aK c (.cons x xs) es=true):PA X es (tL X.K B (aM Φ (.cons x xs) E)):=by
 unfold aK at h;split at h
 ·rename_i e es;rw[ae]at h;refine paI (iY (ih h.1) (ihs h.2) (cH e es X.env (cX (bL x h.1)))) λσ H Q hq=>el hq λρ F G e0 he r hw=>?_;rw[gG]at hw;refine aN e0 he r hw λd G1 H1 F1 v q e1 x1 he1 r1 rv=>cz e1 he1 r1 q λds G2 H2 F2 vs q e2 x2 he2 r2 rvs=>?_;exact q H2 F2 _ (x1.trans x2) r2 ⟨v,vs,rfl,Rep.ext x2 rv,rvs⟩
 ·cases h
theorem aa7(S:Stat Φ CX k c E B X){es:Exs}(ih:fB Φ c E B X es){e:Expr}(h:aj c (.tup es) e=true):PE X e (tE X.K B (wpE Φ (.tup es) E)):=by
 replace h:=Ge h;obtain ⟨_,_,_,rfl,h⟩:=h
 ·refine peI (Ww (ih h)) λσ H Q hq=>el hq λρ F G e0 he r hw=>?_;rw[rz]at hw;refine cz e0 he r hw λds G1 H1 F1 vs q e1 x1 he1 r1 rvs=>⟨by rw[<-rvs.length];exact cO q.1,km (PV.later q.2 x1) r1 rvs⟩
theorem aa8(S:Stat Φ CX k c E B X){fz:Bool}{es:Exs}(ih:fB Φ c E B X es){e:Expr}(h:aj c (.lst fz es) e=true):PE X e (tE X.K B (wpE Φ (.lst fz es) E)):=by
 replace h:=Gf h;obtain ⟨_,_,rfl,h⟩:=h
 ·refine peI (Wx (ih h)) λσ H Q hq=>el hq λρ F G e0 he r hw=>?_;rw[rA]at hw;refine cz e0 he r hw λds G1 H1 F1 vs q e1 x1 he1 r1 rvs=>⟨by rw[<-rvs.length];exact cO q.1,eZ (cW (λd G' z=>PV.later z x1) q.2) r1 rvs⟩
theorem aa9(S:Stat Φ CX k c E B X){a i:Ex}(iha:OkE Φ c E B X a)(ihi:OkE Φ c E B X i){e:Expr}(h:aj c (.idx a i) e=true):PE X e (tE X.K B (wpE Φ (.idx a i) E)):=by
 replace h:=Gg h;obtain ⟨_,_,_,rfl,h⟩:=h
 ·rw[ae]at h;refine peI (W9 ZC (iha h.1) (ihi h.2) (aaY (bL i h.2))) λσ H Q hq=>el hq λρ F G e0 he r hw=>?_;rw[rB]at hw;refine aN e0 he r hw λx G1 H1 F1 v q e1 x1 he1 r1 rv=>aN e1 he1 r1 q λy G2 H2 F2 u q e2 x2 he2 r2 ru=>?_;exact ⟨F2,G2,x,y,r2,Rep.ext x2 rv,ru,sH (λd z=>PV.later z (x1.trans x2)) q⟩
theorem GQ{lo:Ox}(ih:∀x,lo=.ob x->OkE Φ c E B X x){l:Option Expr}(h:fY c lo l=true):PO X l (GF X.K B (wpO Φ lo E)):=by
 cases lo with
 |no=>
  unfold fY at h;cases l with
  |none=>
   intro pins s σ H Q I q;refine W2 pins s σ H Q I ?_;obtain ⟨ρ,F,G,e0,he,r,hw⟩:=q;rw[qP]at hw;exact hw H F (Ext.refl _ _) r
  |some _=>cases h
 |ob x=>
  unfold fY at h;split at h
  ·intro pins s σ H Q I q;refine W3 (ih x rfl h) pins s σ H Q I ?_;obtain ⟨ρ,F,G,e0,he,r,hw⟩:=q;rw[qQ]at hw;refine aN e0 he r hw λd G1 H1 F1 v q e1 x1 he1 r1 rv=>?_;split at q
   ·have e2:v=.int _:=rv;exact ⟨_,e2,q H1 F1 x1 r1⟩
   ·exact q.elim
  ·cases h
theorem aba(S:Stat Φ CX k c E B X){fz:Bool}{a:Ex}{lo hi:Ox}(iha:OkE Φ c E B X a)(ihl:∀x,lo=.ob x->OkE Φ c E B X x)(ihh:∀x,hi=.ob x->OkE Φ c E B X x){e:Expr}(h:aj c (.slc fz a lo hi) e=true):
  PE X e (tE X.K B (wpE Φ (.slc fz a lo hi) E)):=by
 replace h:=Gi h;obtain ⟨_,_,_,_,_,rfl,h⟩:=h
 ·rw[ae,ae]at h;refine peI (W4 (ZL fz) (iha h.1.1) (GQ ihl h.1.2) (GQ ihh h.2)) λσ H Q hq=>el hq λρ F G e0 he r hw=>?_;rw[rD]at hw;refine aN e0 he r hw λx G1 H1 F1 v q e1 x1 he1 r1 rv=>GJ e1 he1 r1 q λl G2 H2 F2 q e2 x2 he2 r2=>GJ e2 he2 r2 q λu G3 H3 F3 q e3 x3 he3 r3=>?_;exact ⟨F3,G3,x,r3,Rep.ext (x2.trans x3) rv,DQ (λd G' z=>PV.later z ((x1.trans x2).trans x3)) q⟩
theorem abb(S:Stat Φ CX k c E B X){fz:Bool}{a s:Ex}(iha:OkE Φ c E B X a)(ihs:OkE Φ c E B X s){e:Expr}(h:aj c (.rvs fz a s) e=true):PE X e (tE X.K B (wpE Φ (.rvs fz a s) E)):=nomatch (show false=true from h)
theorem abd(S:Stat Φ CX k c E B X){a:Ex}(iha:OkE Φ c E B X a){e:Expr}(h:aj c (.frz a) e=true):PE X e (tE X.K B (wpE Φ (.frz a) E)):=by
 have h:aj c a e=true:=h;refine peI (iha h) λσ H Q hq=>el hq λρ F G e0 he r hw=>?_;rw[rO]at hw;refine aN e0 he r hw λx G1 H1 F1 v q e1 x1 he1 r1 rv=>?_;split at q
 ·rename_i p;have e2:v=.ref p:=rv;subst e2;split at q
  ·rename_i ds hg;exact q _ _ _ (x1.trans vP) (r1.frz hg) (Zf r1 hg)
  ·exact q.elim
 ·exact q _ _ _ x1 r1 rv
theorem jz{es:List Expr}{xs:Exs}(h:aK c xs es=true)(env:Env)(pos:Pos):(backTo pos (starEach es env)).any (·.1)=false:=by
 induction es generalizing xs with
 |nil=>rfl
 |cons e es ih=>
  cases xs with
  |nil=>unfold aK at h;cases h
  |cons x xs=>
   unfold aK at h;rw[ae]at h;rw[cH e es env (cX (bL x h.1))];show (false||(backTo pos (starEach es env)).any (·.1))=false;rw[ih h.2];rfl
theorem iB{e:Expr}{es:List Expr}{xs:Exs}(h:aK c xs (e::es)=true):∃x xs',xs=.cons x xs'/\aj c x e=true/\aK c xs' es=true:=by
 cases xs with
 |nil=>unfold aK at h;cases h
 |cons x xs'=>
  unfold aK at h;rw[ae]at h;exact ⟨x,xs',rfl,h.1,h.2⟩
theorem tZ{ρ:ak}:∀(xs:Exs){es:List Expr}{G:DH}{Q:List D->DH->Prop},aK c xs es=true->aM Φ xs E ρ G Q->aM Φ xs E ρ G (λds G'=>ds.length=es.length/\Q ds G')
 |.nil,es,G,Q,h,q=>by
  unfold aK at h;rw[gF]at q ⊢;cases es with
  |nil=>exact ⟨rfl,q⟩
  |cons _ _=>cases h
 |.cons x xs,es,G,Q,h,q=>by
  unfold aK at h;split at h
  ·rename_i e es;rw[ae]at h;rw[gG]at q ⊢;refine aC x (λd G1 q=>cj xs (λds G2 z=>?_) (tZ xs h.2 q)) q;exact ⟨by simp[z.1],z.2⟩
  ·cases h
theorem abe(S:Stat Φ CX k c E B X){f:String}{xs:Exs}(ih:fB Φ c E B X xs){e:Expr}(h:aj c (.call f xs) e=true):PE X e (tE X.K B (wpE Φ (.call f xs) E)):=by
 replace h:=Gj h;obtain ⟨x,p,args,pos,rfl,h⟩:=h
 ·simp only[ae,aE,List.any_eq_true]at h;obtain ⟨⟨⟨⟨e1,h1⟩,⟨f',n⟩,hm,e2,e3⟩,h2⟩,h3⟩:=h;simp only at e2 e3;subst e1 e2 e3;obtain ⟨g1,g2⟩:=dZ h1;obtain ⟨fa,fd,ps,F0,hk,hb,hmg⟩:=S.call _ _ hm;obtain ⟨EX,hpass,_,hEX⟩:=S.exc;cases args with
  |nil=>cases h2
  |cons e es=>
   obtain ⟨x0,xs',rfl,c1,c2⟩:=iB h3;refine peI (WD F0 S.room (S.glo _ g1) hmg hk hb .nil hpass (ih h3) (cA g2) (cH e es X.env (cX (bL x0 c1))) (jz c2 X.env pos)) λσ H Q hq=>el hq λρ F G e0 he r hw=>?_;rw[rE]at hw;refine cz e0 he r (tZ _ h3 hw) λds G1 H1 F1 vs q e1 x1 he1 r1 rvs=>?_;rw[eW];refine ⟨by rw[<-rvs.length];exact q.1,F1,G1,ds,r1,rvs,Spec.mono q.2 (λd G' z=>PV.later z x1) λx G' z H' F' x' r'=>?_⟩;exact hEX x G' H' F' z (e1.trans x') r'
theorem abf(S:Stat Φ CX k c E B X){f:Bf}{xs:Exs}(ih:fB Φ c E B X xs){e:Expr}(h:aj c (.bcl f xs) e=true):PE X e (tE X.K B (wpE Φ (.bcl f xs) E)):=by
 replace h:=Gk h;obtain ⟨x,p,args,pos,rfl,h⟩:=h
 ·simp only[ae,aE]at h;obtain ⟨⟨⟨⟨⟨e1,hok⟩,h1⟩,hm⟩,h2⟩,h3⟩:=h;subst e1;obtain ⟨g1,g2⟩:=dZ h1;have hmg:=S.blt _ (bb.mp hm);cases args with
  |nil=>cases h2
  |cons e es=>
   obtain ⟨x0,xs',rfl,c1,c2⟩:=iB h3;have hs:=cH e es X.env (cX (bL x0 c1));have ha:=jz c2 X.env pos;have go:∀σ H Q,tE X.K B (wpE Φ (.bcl f (.cons x0 xs')) E) σ H Q->tCB (ik X.K f) (tL X.K B (aM Φ (.cons x0 xs') E)) σ H Q:=λσ H Q hq=>el hq λρ F G e0 he r hw=>by
    rw[rF]at hw;refine cz e0 he r hw λds G1 H1 F1 vs q e1 x1 he1 r1 rvs=>?_;exact ⟨F1,G1,ds,r1,rvs,DR (λd z=>PV.later z x1) q⟩
   cases f with
   |len=>exact peI (qj ZM (S.glo _ g1) hmg PySem.boot_len (ih h3) (dY g2) (cA g2) hs ha) go
   |all=>exact peI (qj (ZP S.calm) (S.glo _ g1) hmg Ye (ih h3) (dY g2) (cA g2) hs ha) go
   |int=>exact peI (ql ZQ (S.glo _ g1) hmg Cr (ih h3) (dY g2) (cA g2) hs ha) go
   |tuple=>exact peI (ql ZR (S.glo _ g1) hmg (by ac_rfl) (ih h3) (dY g2) (cA g2) hs ha) go
   |sum=>cases hok
   |min=>exact peI (qj (Z2 S.calm) (S.glo _ g1) hmg Z3 (ih h3) (dY g2) (cA g2) hs ha) go
   |max=>cases hok
   |abs=>cases hok
   |min2=>cases hok
   |str=>exact peI (ql Z4 (S.glo _ g1) hmg Cu (ih h3) (dY g2) (cA g2) hs ha) go
theorem abg(S:Stat Φ CX k c E B X){fz:Bool}{f:Lf}{xs:Exs}(ih:fB Φ c E B X xs){e:Expr}(h:aj c (.lcl fz f xs) e=true):PE X e (tE X.K B (wpE Φ (.lcl fz f xs) E)):=by
 replace h:=Gm h;obtain ⟨x,p,args,pos,rfl,h⟩:=h
 ·simp only[ae,aE]at h;obtain ⟨⟨⟨⟨⟨e1,hok⟩,h1⟩,hm⟩,h2⟩,h3⟩:=h;subst e1;obtain ⟨g1,g2⟩:=dZ h1;have hmg:=S.blt _ (bb.mp hm);cases args with
  |nil=>cases h2
  |cons e es=>
   obtain ⟨x0,xs',rfl,c1,c2⟩:=iB h3;have hs:=cH e es X.env (cX (bL x0 c1));have ha:=jz c2 X.env pos;have go:∀σ H Q,tE X.K B (wpE Φ (.lcl fz f (.cons x0 xs')) E) σ H Q->tCB (Ei X.K fz f) (tL X.K B (aM Φ (.cons x0 xs') E)) σ H Q:=λσ H Q hq=>el hq λρ F G e0 he r hw=>by
    rw[rG]at hw;refine cz e0 he r hw λds G1 H1 F1 vs q e1 x1 he1 r1 rvs=>?_;exact ⟨F1,G1,ds,r1,rvs,DW (λd z=>cW (λd G' z=>PV.later z x1) z) q⟩
   cases f with
   |list=>exact peI (ql (ZW S.calm fz) (S.glo _ g1) hmg Cv (ih h3) (dY g2) (cA g2) hs ha) go
   |sorted=>cases hok
theorem abh(S:Stat Φ CX k c E B X){fz:Bool}{a:Ex}(iha:OkE Φ c E B X a){e:Expr}(h:aj c (.rgl fz a) e=true):PE X e (tE X.K B (wpE Φ (.rgl fz a) E)):=nomatch (show false=true from h)
theorem abi(S:Stat Φ CX k c E B X){a:Ex}(iha:OkE Φ c E B X a){e:Expr}(h:aj c (.rgt a) e=true):PE X e (tE X.K B (wpE Φ (.rgt a) E)):=nomatch (show false=true from h)
theorem abj{t:String}(h:fU t=true):bootBuiltins (Str.ofString t)=some (.type t):=by
 simp only[fU,cK,aE]at h;rcases h with (((rfl |rfl) |rfl) |rfl) |rfl
 ·exact X3
 ·exact Cr
 ·exact Cu
 ·ac_rfl
 ·exact Cv
theorem abk(S:Stat Φ CX k c E B X){a:Ex}{t:String}(iha:OkE Φ c E B X a){e:Expr}(h:aj c (.isi a t) e=true):PE X e (tE X.K B (wpE Φ (.isi a t) E)):=by
 replace h:=Gn h;obtain ⟨x,p,v,y,p2,pos,rfl,h⟩:=h
 ·simp only[ae,aE]at h;obtain ⟨⟨⟨⟨⟨⟨⟨e1,h1⟩,hm1⟩,h2⟩,e2⟩,h3⟩,hm2⟩,h4⟩:=h;subst e1 e2;obtain ⟨g1,g2⟩:=dZ h1;obtain ⟨g3,g4⟩:=dZ h3;have hmg:=S.blt _ (bb.mp hm1);have hmt:=S.blt _ (bb.mp hm2);have hty:PE X (.Name (Str.ofString t) p2) (tC (.ty t)):=X5 (S.glo _ g3) hmt (abj h4) (dY g4) (cA g4);have sv:=cX (bL a h2);refine peI (qj XX (S.glo _ g1) hmg X4 (iY (iha h2) (iY hty j4 (cH _ _ _ rfl)) (cH _ _ _ sv)) (dY g2) (cA g2) (cH _ _ _ sv) rfl) λσ H Q hq=>el hq λρ F G e0 he r hw=>?_;rw[rH]at hw;refine aN e0 he r hw λd G1 H1 F1 v q e1 x1 he1 r1 rv=>?_;split at q
  ·rename_i b hb;obtain ⟨T,hk,hT,hb'⟩:=Z8 hb;refine ⟨v,t,.type T,b,rfl,Z5 r1 rv hk,?_,q _ _ _ x1 r1 rfl⟩;rw[Z7 T t hT h4,hb' h4]
  ·exact q.elim
theorem abl(S:Stat Φ CX k c E B X){a:Ex}{C:String}{xs:List String}(iha:OkE Φ c E B X a){e:Expr}(h:aj c (.isx a C xs) e=true):PE X e (tE X.K B (wpE Φ (.isx a C xs) E)):=nomatch (show false=true from h)
theorem xP{v:Expr}(h:(!fj v)=true)(name:Str)(env:Env):attributeBase v name env (eval v env)=eval v env:=by
 cases v with
 |Call f args kw pos=>
  cases f with
  |Name id p=>
   cases args with
   |nil=>
    cases kw with
    |nil=>cases h
    |cons _ _=>rfl
   |cons _ _=>rfl
  |_=>rfl
 |_=>rfl
theorem all_plain{es:List Expr}{xs:Exs}(h:aK c xs es=true)(env:Env)(pos:Pos):(backTo pos (starEach es env)).all (λx=>!x.1)=true:=by
 induction es generalizing xs with
 |nil=>rfl
 |cons e es ih=>
  obtain ⟨x0,xs',rfl,c1,c2⟩:=iB h;rw[cH e es env (cX (bL x0 c1))];show (!false&&(backTo pos (starEach es env)).all (λx=>!x.1))=true;rw[ih c2];rfl
theorem abm(S:Stat Φ CX k c E B X){f:String}{a b ix:Ex}(iha:OkE Φ c E B X a)(ihb:OkE Φ c E B X b)(ihx:OkE Φ c E B X ix){e:Expr}(h:aj c (.rpl f a b ix) e=true):PE X e (tE X.K B (wpE Φ (.rpl f a b ix) E)):=nomatch (show false=true from h)
theorem abn(S:Stat Φ CX k c E B X){C f:String}{o:Ex}(iho:OkE Φ c E B X o){e:Expr}(h:aj c (.fld C f o) e=true):PE X e (tE X.K B (wpE Φ (.fld C f o) E)):=by
 obtain ⟨v,n,p,rfl,hh⟩:=Gp h;rw[ae,ae,ae,aE]at hh;obtain ⟨⟨⟨en,hb⟩,hf⟩,ho⟩:=hh;subst en;obtain ⟨c0,hn,hcl,hna⟩:=S.fld C f (bb.mp hf);refine peI (Wn (iho ho) (xP hb _ X.env)) λσ H Q hq=>el hq λρ F G e0 he r hw=>?_;rw[rJ]at hw;refine aN e0 he r hw λd G1 H1 F1 u q e1 x1 he1 r1 ru=>?_;unfold gC at q;split at q
 ·rename_i C' f' q0;obtain ⟨rfl,rfl,q⟩:=q;obtain ⟨a,c1,dx,e2,⟨_,hH⟩,hn1⟩:=ru;have ec:c1=c0:=by rw[hn]at hn1;cases hn1;rfl
  subst ec e2;refine ⟨a,c1,dx,_,.ref q0,rfl,hH,hcl,hna,?_,q H1 F1 _ x1 r1 rfl⟩;show List.lookup _ [(_,_)]=_;simp[List.lookup]
 ·exact q.elim
theorem GR{o:Expr}{name:Str}{apos pos:Pos}{args:List Expr}{env:Env}(hbase:attributeBase o name env (eval o env)=eval o env)
  (hfew:methodCallForm (args.length+([]:List Keyword).length) (backTo pos (starEach args env)) (backToKw pos (keywordEach [] env))=true) (hline:(apos.endLine==pos.line)=true):
  eval (.Call (.Attribute o name apos) args [] pos) env=(do
   let ov <-eval o env
   standAt apos.atName
   let (f,first) <-holding [ov] (getMethod ov name (do return (<-importBound o env).getD true))
   callWith pos f first (backTo pos (starEach args env)) (backToKw pos (keywordEach [] env))):=by
 have hpos:methodCallPos true o env apos pos=pure pos:=by unfold methodCallPos;simp[hline]
 rw[arm_eval_Call,hbase];unfold methodCall;rw[hfew,hpos];rfl
theorem abo{f m:Str}{v:V}(h:(m==f)=false):List.lookup m [(f,v)]=none:=by simp[List.lookup,h]
theorem abp{K:PF}{x:Ex}{σ:L2.St}{H:Hp}{Q Q':VK}(h:tE K B (wpE Φ x E) σ H Q)(hq:∀v H',Q v H'->Q' v H'):tE K B (wpE Φ x E) σ H Q':=by obtain ⟨ρ,F,G,e0,he,r,hw⟩:=h;exact ⟨ρ,F,G,e0,he,r,aC x (λd G1 q H1 F1 v x1 r1 rv=>hq _ _ (q H1 F1 v x1 r1 rv)) hw⟩
theorem abq(S:Stat Φ CX k c E B X){f C m:String}{o:Ex}{xs:Exs}(iho:OkE Φ c E B X o)(ih:fB Φ c E B X xs){e:Expr}(h:aj c (.mcl f C m o xs) e=true):PE X e (tE X.K B (wpE Φ (.mcl f C m o xs) E)):=by
 obtain ⟨v,n,apos,args,cpos,rfl,hns,hh⟩:=Gq h;rw[ae,ae,ae,ae,ae,aE]at hh;obtain ⟨⟨⟨⟨⟨en,hl⟩,hlt⟩,hm⟩,ho⟩,hes⟩:=hh;have hlt:=dc hlt;subst en;obtain ⟨c0,fa,fd,ps,hn,hcl,hmt,hbn,F0⟩:=S.mth _ _ _ _ (bb.mp hm);obtain ⟨EX,hpass,_,hEX⟩:=S.exc;have key:∀{σ:L2.St}{H:Hp}{Q:VK}{ρ:ak}{F:FZ}{G:DH},Ext B.H B.F H F->EnvR X.K H F ρ σ->R X.K H F G->wpE Φ (.mcl f C m o xs) E ρ G (PV X.K H F Q)->(qi c0 (Str.ofString m) (lift X.K (args.length+1) (Φ f)) [] EX (tE X.K B (wpE Φ o E)) (tL X.K B (aM Φ xs E))) σ H Q:=λ{σ H Q ρ F G} e0 he r hw=>by
  rw[rK]at hw;refine aN e0 he r hw λd G1 H1 F1 u q e1 x1 he1 r1 ru=>?_;obtain ⟨qo,q⟩:=q;unfold dz at qo;split at qo
  ·rename_i C' f' q0;obtain ⟨rfl,hne⟩:=qo;have ru':=ru;obtain ⟨a,c1,dx,e2,⟨_,hH⟩,hn1⟩:=ru;have ec:c1=c0:=by rw[hn]at hn1;cases hn1;rfl
   subst ec;subst e2;refine ⟨a,dx,_,rfl,hH,abo hne,cz e1 he1 r1 (tZ _ hes q) λds G2 H2 F2 vs q e2 x2 he2 r2 rvs=>?_⟩;rw[eW];refine ⟨by rw[c5,<-rvs.length,q.1],F2,G2,_::ds,r2,.cons (Rep.ext x2 ru') rvs,Spec.mono q.2 (λd G' z=>PV.later z (x1.trans x2)) λx G' z H' F' x' r'=>?_⟩;exact hEX x G' H' F' z (e2.trans x') r'
  ·exact qo.elim
 have hline:(apos.endLine==cpos.line)=true:=hl;cases args with
 |nil=>
  cases xs with
  |nil=>
   refine peI (WK (iho ho) hcl hmt F0 S.room hbn .nil hpass (ht:=GR (Es hns _ _) rfl hline)) λσ H Q hq=>el hq λρ F G e0 he r hw=>?_;have kk:=key e0 he r hw;unfold qi at kk ⊢;refine abp kk λx H1 ⟨a,dx,fs,h1,h2,h3,h4⟩=>⟨a,dx,fs,h1,h2,h3,?_⟩;obtain ⟨ρ',F',G',e0',he',r',hw'⟩:=h4;rw[gF]at hw';exact hw' H1 F' [] (Ext.refl _ _) r' rfl
  |cons _ _=>cases hes
 |cons e1 es=>
  obtain ⟨x0,xs',rfl,c1,c2⟩:=iB hes;refine peI (WF (iho ho) hcl hmt F0 S.room hbn .nil hpass (ih hes) (cH e1 es X.env (cX (bL x0 c1))) (jz c2 X.env cpos) (ht:=GR (Es hns _ _) ?_ hline)) λσ H Q hq=>el hq λρ F G e0 he r hw=>key e0 he r hw;unfold methodCallForm;rw[all_plain hes X.env cpos];have e0:(if (backToKw cpos (keywordEach [] X.env)).isEmpty=true then 0 else 1)=0:=rfl;rw[e0,cb (show (e1::es).length+([]:List Keyword).length+0 < 30 by show (e1::es).length+0+0 < 30;omega)];rfl
theorem abr(S:Stat Φ CX k c E B X){C:String}{xs:Exs}(ih:fB Φ c E B X xs){e:Expr}(h:aj c (.mko C xs) e=true):PE X e (tE X.K B (wpE Φ (.mko C xs) E)):=by
 obtain ⟨x,p,args,pos,rfl,hh⟩:=Gs h;rw[ae,ae,ae,ae,aE]at hh;obtain ⟨⟨⟨⟨ex,hg⟩,hk⟩,hne⟩,hes⟩:=hh;subst ex;obtain ⟨c0,fa,fd,ps,sp,j,hj,hmg,M,hbn,F0,hsp⟩:=S.mko _ _ (bb.mp hk);obtain ⟨EX,hpass,_,hEX⟩:=S.exc;obtain ⟨g1,g2⟩:=dZ hg;cases args with
 |nil=>cases hne
 |cons e1 es=>
  obtain ⟨x0,xs',rfl,c1,c2⟩:=iB hes;refine peI (WM M F0 (S.room.mono hj) (S.glo _ g1) hmg hbn .nil hpass (ih hes) (cA g2) (cH e1 es X.env (cX (bL x0 c1))) (jz c2 X.env pos)) λσ H Q hq=>el hq λρ F G e0 he r hw=>?_;rw[rM]at hw;refine cz e0 he r (tZ _ hes hw) λds G1 H1 F1 vs q e1 x1 he1 r1 rvs=>λx dx hx hdx hne=>?_;rw[eW];refine hsp vs H1 Q EX ⟨by rw[<-rvs.length,q.1],F1,G1,ds,r1,rvs,Spec.mono q.2 (λd G' z=>PV.later z x1) λx G' z H' F' x' r'=>?_⟩ x dx hx hdx hne;exact hEX x G' H' F' z (e1.trans x') r'
theorem abt(S:Stat Φ CX k c E B X){o:Ex}(iho:OkE Φ c E B X o){e:Expr}(h:aj c (.pp0 o) e=true):PE X e (tE X.K B (wpE Φ (.pp0 o) E)):=by
 obtain ⟨v,n,apos,cpos,rfl,hh⟩:=Gu h;rw[ae,ae,ae,aE]at hh;obtain ⟨⟨⟨en,hb⟩,hl⟩,ho⟩:=hh;subst en;refine peI (Xm dy PySem.F.slot_list_pop PySem.F.type_list_pop aak (iho ho) (xP hb _ X.env) hl) λσ H Q hq=>el hq λρ F G e0 he r hw=>?_;rw[rN]at hw;refine aN e0 he r hw λd G1 H1 F1 u q e1 x1 he1 r1 ru=>⟨?_,F1,G1,d,r1,ru,rfl,?_⟩
 ·unfold gD at q;split at q
  ·rename_i p;split at q
   ·rename_i ds hg;obtain ⟨vs,hv,_⟩:=r1.lst hg;have e2:u=.ref p:=ru;subst e2;exact .inl ⟨rfl,vs,SqL.of hv⟩
   ·exact q.elim
  ·exact q.elim
 ·unfold gD at q ⊢;split at q
  ·split at q
   ·split at q
    ·exact PV.later q x1
    ·exact q
   ·exact q
  ·exact q
theorem abu(S:Stat Φ CX k c E B X){m:Mf}{o:Ex}{xs:Exs}(iho:OkE Φ c E B X o)(ih:fB Φ c E B X xs){e:Expr}(h:aj c (.mth m o xs) e=true):PE X e (tE X.K B (wpE Φ (.mth m o xs) E)):=by
 replace h:=Gv h;obtain ⟨v,x,apos,args,cpos,rfl,h⟩:=h
 ·simp only[ae,aE,ci]at h;obtain ⟨⟨⟨⟨⟨⟨e1,h1⟩,hb⟩,hl⟩,hn⟩,h2⟩,h3⟩:=h;subst e1;cases args with
  |nil=>cases h2
  |cons e es=>
   obtain ⟨x0,xs',rfl,c1,c2⟩:=iB h3;have hs:=cH e es X.env (cX (bL x0 c1));have ha:=jz c2 X.env cpos;have hbase:=xP hb (Str.ofString m.name) X.env;have hfew:((backTo cpos (starEach (e::es) X.env)).all (λx=>!x.1)&&(backToKw cpos (keywordEach [] X.env)).all (λx=>x.1.isSome)
    &&decide ((e::es).length+([]:List Keyword).length+(if ([]:List Keyword).isEmpty then 0 else 1) < 30))=true:=by
    rw[all_plain h3 X.env cpos];have:(e::es).length+([]:List Keyword).length+(if ([]:List Keyword).isEmpty then 0 else 1) < 30:=by have e0:(if ([]:List Keyword).isEmpty=true then 0 else 1)=0:=rfl;rw[e0];show (e::es).length+0+0 < 30;omega
    rw[cb this];rfl
   have hline:(apos.endLine==cpos.line)=true:=by rw[aE];exact hl
   have lst:∀{d:D} {u:V} {G1:DH} {H1:Hp} {F1:FZ},(match d with |.ref p=>(match G1 p with |some (.lst _)=>True |none=>False) |_=>False)->R X.K H1 F1 G1->Rep X.K H1 F1 d u->tyV X.K "list" u H1:=λ{d u G1 H1 F1} q r1 ru=>by
    split at q
    ·rename_i p;split at q
     ·rename_i ds hg;obtain ⟨vs,hv,_⟩:=r1.lst hg;have e2:u=.ref p:=ru;subst e2;exact .inl ⟨rfl,vs,SqL.of hv⟩
     ·exact q.elim
    ·exact q.elim
   have lstV:∀{d:D} {u:V} {G1:DH} {H1:Hp} {F1:FZ},vY (view G1 d)->R X.K H1 F1 G1->Rep X.K H1 F1 d u->tyV X.K "list" u H1:=λ{d u G1 H1 F1} q r1 ru=>by
    generalize hv:view G1 d=w at q;cases w with
    |lst ds=>
     obtain ⟨a,vs,rfl,sq,_⟩:=Rep.list r1 ru hv;exact .inl ⟨rfl,vs,sq⟩
    |_=>exact (show False from q).elim
   cases m with
   |join=>
    refine peI (gY PySem.F.plainAttrs_str PySem.F.slot_str_join PySem.F.type_str_join Z9 (iho h1) (ih h3) hbase hfew hline hs ha) λσ H Q hq=>el hq λρ F G e0 he r hw=>?_;rw[eX]at hw;refine aN e0 he r hw λd G1 H1 F1 u q e1 x1 he1 r1 ru=>⟨?_,cz e1 he1 r1 q.2 λds G2 H2 F2 vs q e2 x2 he2 r2 rvs=>?_⟩
    ·have q1:=q.1;cases d with
     |str l=>obtain ⟨e2,_⟩:=ru;subst e2;exact rfl
     |_=>exact (show False from q1).elim
    ·exact ⟨F2,G2,d,ds,r2,Rep.ext x2 ru,rvs,gH (λd G' z=>PV.later z (x1.trans x2)) q⟩
   |append=>
    refine peI (gY dy PySem.F.slot_list_append PySem.F.type_list_append aaa (iho h1) (ih h3) hbase hfew hline hs ha) λσ H Q hq=>el hq λρ F G e0 he r hw=>?_;rw[eX]at hw;refine aN e0 he r hw λd G1 H1 F1 u q e1 x1 he1 r1 ru=>⟨?_,cz e1 he1 r1 q.2 λds G2 H2 F2 vs q e2 x2 he2 r2 rvs=>?_⟩
    ·refine lst (d:=d) (G1:=G1) ?_ r1 ru;have q1:=q.1;cases d <;> first |exact q1 |exact (show False from q1).elim
    ·exact ⟨F2,G2,d,ds,r2,Rep.ext x2 ru,rvs,gH (λd G' z=>PV.later z (x1.trans x2)) q⟩
   |extend=>
    refine peI (gY dy PySem.F.slot_list_extend PySem.F.type_list_extend aam (iho h1) (ih h3) hbase hfew hline hs ha) λσ H Q hq=>el hq λρ F G e0 he r hw=>?_;rw[eX]at hw;refine aN e0 he r hw λd G1 H1 F1 u q e1 x1 he1 r1 ru=>⟨?_,cz e1 he1 r1 q.2 λds G2 H2 F2 vs q e2 x2 he2 r2 rvs=>?_⟩
    ·refine lst (d:=d) (G1:=G1) ?_ r1 ru;have q1:=q.1;cases d <;> first |exact q1 |exact (show False from q1).elim
    ·exact ⟨F2,G2,d,ds,r2,Rep.ext x2 ru,rvs,gH (λd G' z=>PV.later z (x1.trans x2)) q⟩
   |insert=>
    refine peI (gY dy PySem.F.slot_list_insert PySem.F.type_list_insert aah (iho h1) (ih h3) hbase hfew hline hs ha) λσ H Q hq=>el hq λρ F G e0 he r hw=>?_;rw[eX]at hw;refine aN e0 he r hw λd G1 H1 F1 u q e1 x1 he1 r1 ru=>⟨?_,cz e1 he1 r1 q.2 λds G2 H2 F2 vs q e2 x2 he2 r2 rvs=>?_⟩
    ·refine lst (d:=d) (G1:=G1) ?_ r1 ru;have q1:=q.1;cases d <;> first |exact q1 |exact (show False from q1).elim
    ·exact ⟨F2,G2,d,ds,r2,Rep.ext x2 ru,rvs,gH (λd G' z=>PV.later z (x1.trans x2)) q⟩
   |pop=>
    refine peI (gY dy PySem.F.slot_list_pop PySem.F.type_list_pop aai (iho h1) (ih h3) hbase hfew hline hs ha) λσ H Q hq=>el hq λρ F G e0 he r hw=>?_;rw[eX]at hw;refine aN e0 he r hw λd G1 H1 F1 u q e1 x1 he1 r1 ru=>⟨?_,cz e1 he1 r1 q.2 λds G2 H2 F2 vs q e2 x2 he2 r2 rvs=>?_⟩
    ·refine lst (d:=d) (G1:=G1) ?_ r1 ru;have q1:=q.1;cases d <;> first |exact q1 |exact (show False from q1).elim
    ·exact ⟨F2,G2,d,ds,r2,Rep.ext x2 ru,rvs,gH (λd G' z=>PV.later z (x1.trans x2)) q⟩
   |count=>
    refine peI (gY dy PySem.F.slot_list_count PySem.F.type_list_count aab (iho h1) (ih h3) hbase hfew hline hs ha) λσ H Q hq=>el hq λρ F G e0 he r hw=>?_;rw[eX]at hw;refine aN e0 he r hw λd G1 H1 F1 u q e1 x1 he1 r1 ru=>⟨lstV q.1 r1 ru,cz e1 he1 r1 q.2 λds G2 H2 F2 vs q e2 x2 he2 r2 rvs=>?_⟩;exact ⟨F2,G2,d,ds,r2,Rep.ext x2 ru,rvs,gH (λd G' z=>PV.later z (x1.trans x2)) q⟩
   |index=>
    refine peI (gY dy PySem.F.slot_list_index PySem.F.type_list_index aac (iho h1) (ih h3) hbase hfew hline hs ha) λσ H Q hq=>el hq λρ F G e0 he r hw=>?_;rw[eX]at hw;refine aN e0 he r hw λd G1 H1 F1 u q e1 x1 he1 r1 ru=>⟨lstV q.1 r1 ru,cz e1 he1 r1 q.2 λds G2 H2 F2 vs q e2 x2 he2 r2 rvs=>?_⟩;exact ⟨F2,G2,d,ds,r2,Rep.ext x2 ru,rvs,gH (λd G' z=>PV.later z (x1.trans x2)) q⟩
end
section
variable {Φ:aa} {CX:CXT} {k:Nat} {c:CT} {E:EK} {B:Bs} {X:Cx}
noncomputable def EachE(Φ:aa)(c:CT)(E:EK)(B:Bs)(X:Cx):Exs->Prop
 |.nil=>True
 |.cons e es=>OkE Φ c E B X e/\EachE Φ c E B X es
noncomputable def uc(Φ:aa)(c:CT)(E:EK)(B:Bs)(X:Cx):Txs->Prop
 |.nil=>True
 |.cons e es=>OkT Φ c E B X e/\uc Φ c E B X es
theorem abv(S:Stat Φ CX k c E B X){es:Exs}(ih:EachE Φ c E B X es){e:Expr}(h:aj c (.fst es) e=true):PE X e (tE X.K B (wpE Φ (.fst es) E)):=nomatch (show false=true from h)
theorem EachE.oks:∀{xs:Exs},EachE Φ c E B X xs->fB Φ c E B X xs
 |.nil,_=>by intro h;exact xO h
 |.cons x xs,hh=>by intro h;exact tY hh.1 (EachE.oks hh.2) h
noncomputable def ud(Φ:aa)(E:EK)(isAnd:Bool)(x:Ex)(xs:Exs):ak->DH->(D->DH->Prop)->Prop:=λρ G kk=>wpE Φ x E ρ G λd G1=>match d with |.bl b=>wpB Φ xs isAnd b E ρ G1 (λc G2=>kk (.bl c) G2) |_=>False
theorem GX{isAnd:Bool}{pos:Pos}:∀(xs:Exs){x:Ex},OkE Φ c E B X x->EachE Φ c E B X xs->∀{v:Expr}{vs:List Expr},aj c x v=true->aK c xs vs=true->
  PE X (.BoolOp (if isAnd then .And else .Or) (v::vs) pos) (tE X.K B (ud Φ E isAnd x xs))
 |.nil,x,ih,_,v,vs,h1,h2=>by
  unfold aK at h2;cases vs with
  |nil=>
   refine peI (UT (ih h1)) λσ H Q hq=>el hq λρ F G e0 he r hw=>?_;unfold ud at hw;refine aN e0 he r hw λd G1 H1 F1 u q e1 x1 he1 r1 ru=>?_;split at q
   ·rw[qN]at q;exact q _ _ _ x1 r1 ru
   ·exact q.elim
  |cons _ _=>cases h2
 |.cons y ys,x,ih,hh,v,vs,h1,h2=>by
  unfold aK at h2;split at h2
  ·rename_i w ws;rw[ae]at h2;have rest:=GX (isAnd:=isAnd) (pos:=pos) ys hh.1 hh.2 h2.1 h2.2;cases isAnd with
   |true=>
    refine peI (UV (ih h1) rest) λσ H Q hq=>el hq λρ F G e0 he r hw=>?_;unfold ud at hw;refine aN e0 he r hw λd G1 H1 F1 u q e1 x1 he1 r1 ru=>?_;split at q
    ·rename_i b;refine ⟨b,ru,?_⟩;rw[j7]at q;cases b with
     |true=>
      rw[if_pos rfl];exact ⟨ρ,F1,G1,e1,he1,r1,aC y (λd G' z=>by
       cases d <;> first |exact (show False from z).elim |exact sO ys (λc G2 z=>PV.later z x1) z) q⟩
     |false=>
      rw[if_neg b6];exact q _ _ _ x1 r1 rfl
    ·exact q.elim
   |false=>
    refine peI (UW (ih h1) rest) λσ H Q hq=>el hq λρ F G e0 he r hw=>?_;unfold ud at hw;refine aN e0 he r hw λd G1 H1 F1 u q e1 x1 he1 r1 ru=>?_;split at q
    ·rename_i b;refine ⟨b,ru,?_⟩;rw[j7]at q;cases b with
     |false=>
      rw[if_neg b6];exact ⟨ρ,F1,G1,e1,he1,r1,aC y (λd G' z=>by
       cases d <;> first |exact (show False from z).elim |exact sO ys (λc G2 z=>PV.later z x1) z) q⟩
     |true=>
      rw[if_pos rfl];exact q _ _ _ x1 r1 rfl
    ·exact q.elim
  ·cases h2
theorem abw{isAnd:Bool}{x:Ex}{xs:Exs}(ih:OkE Φ c E B X x)(hh:EachE Φ c E B X xs){e:Expr}(h:aj c (.boo isAnd x xs) e=true):PE X e (tE X.K B (wpE Φ (.boo isAnd x xs) E)):=by
 replace h:=FT h;obtain ⟨_,_,_,_,rfl,h⟩:=h
 ·simp only[ae,aE]at h;obtain ⟨⟨e1,h1⟩,h2⟩:=h;subst e1;refine peI (GX xs ih hh h1 h2) λσ H Q hq=>el hq λρ F G e0 he r hw=>⟨ρ,F,G,e0,he,r,?_⟩;rw[rm]at hw;exact hw
theorem abx{t:Tx}{a b:Ex}(iht:OkT Φ c E B X t)(iha:OkE Φ c E B X a)(ihb:OkE Φ c E B X b){e:Expr}(h:aj c (.ife t a b) e=true):PE X e (tE X.K B (wpE Φ (.ife t a b) E)):=by
 replace h:=FW h;obtain ⟨_,_,_,_,rfl,h⟩:=h
 ·simp only[ae]at h;obtain ⟨⟨h1,h2⟩,h3⟩:=h;refine peI (U0 (iht h1) (iha h2) (ihb h3)) λσ H Q hq=>el hq λρ F G e0 he r hw=>?_;rw[rn]at hw;refine jx e0 he r hw λb' G1 H1 F1 q e1 x1 he1 r1=>?_;cases b' with
  |true=>
   rw[if_pos rfl];exact ⟨ρ,F1,G1,e1,he1,r1,aC a (λd G' z=>PV.later z x1) q⟩
  |false=>
   rw[if_neg b6];exact ⟨ρ,F1,G1,e1,he1,r1,aC b (λd G' z=>PV.later z x1) q⟩
theorem aby{x:Ex}(ih:OkE Φ c E B X x){e:Expr}(hp:iw e=true)(h:aj c x e=true):PT X e (tB' X.K B (wpT Φ (.val x) E)):=by
 refine ptI (V8 (ih h) (aaZ hp X.env)) λσ H Q hq=>el hq λρ F G e0 he r hw=>?_;rw[jl]at hw;refine aN e0 he r hw λd G1 H1 F1 u q e1 x1 he1 r1 ru=>?_;split at q
 ·rename_i b hb;exact ⟨b,Eh r1 ru hb,q _ _ x1 r1⟩
 ·exact q.elim
theorem abz{t:Tx}(ih:OkT Φ c E B X t){e:Expr}(h:bA c (.not t) e=true):PT X e (tB' X.K B (wpT Φ (.not t) E)):=by
 replace h:=aaK h;obtain ⟨_,_,rfl,h⟩:=h
 ·refine ptI (UG (ih h)) λσ H Q hq=>el hq λρ F G e0 he r hw=>?_;rw[qK]at hw;exact jx e0 he r hw λb G1 H1 F1 q e1 x1 he1 r1=>q _ _ x1 r1
noncomputable def lu(Φ:aa)(E:EK)(isAnd:Bool)(x:Tx)(xs:Txs):ak->DH->(Bool->DH->Prop)->Prop:=λρ G kk=>wpT Φ x E ρ G λb G1=>fV Φ xs isAnd b E ρ G1 kk
theorem GZ{isAnd:Bool}{pos:Pos}:∀(xs:Txs){x:Tx},OkT Φ c E B X x->uc Φ c E B X xs->∀{v:Expr}{vs:List Expr},bA c x v=true->iz c xs vs=true->
  PW X (.BoolOp (if isAnd then .And else .Or) (v::vs) pos) (tB' X.K B (lu Φ E isAnd x xs))
 |.nil,x,ih,_,v,vs,h1,h2=>by
  unfold iz at h2;cases vs with
  |nil=>
   have go:∀σ H Q,tB' X.K B (lu Φ E isAnd x .nil) σ H Q->tB' X.K B (wpT Φ x E) σ H Q:=λσ H Q hq=>el hq λρ F G e0 he r hw=>by
    unfold lu at hw;refine ⟨ρ,F,G,e0,he,r,dh x (λb G1 q=>?_) hw⟩;rw[qO]at q;exact q
   cases isAnd with
   |true=>exact pwI (Uw (ih h1)) go
   |false=>exact pwI (Ux (ih h1)) go
  |cons _ _=>cases h2
 |.cons y ys,x,ih,hh,v,vs,h1,h2=>by
  unfold iz at h2;split at h2
  ·rename_i w ws;rw[ae]at h2;have rest:=GZ (isAnd:=isAnd) (pos:=pos) ys hh.1 hh.2 h2.1 h2.2;cases isAnd with
   |true=>
    refine pwI (Uy (ih h1) rest) λσ H Q hq=>el hq λρ F G e0 he r hw=>?_;unfold lu at hw;refine jx e0 he r hw λb G1 H1 F1 q e1 x1 he1 r1=>?_;rw[j8]at q;cases b with
    |true=>
     rw[if_pos rfl];exact ⟨ρ,F1,G1,e1,he1,r1,dh y (λb' G' z=>sS ys (λc G2 z=>PB.later z x1) z) q⟩
    |false=>
     rw[if_neg b6];exact q _ _ x1 r1
   |false=>
    refine pwI (Uz (ih h1) rest) λσ H Q hq=>el hq λρ F G e0 he r hw=>?_;unfold lu at hw;refine jx e0 he r hw λb G1 H1 F1 q e1 x1 he1 r1=>?_;rw[j8]at q;cases b with
    |false=>
     rw[if_neg b6];exact ⟨ρ,F1,G1,e1,he1,r1,dh y (λb' G' z=>sS ys (λc G2 z=>PB.later z x1) z) q⟩
    |true=>
     rw[if_pos rfl];exact q _ _ x1 r1
  ·cases h2
theorem abA{isAnd:Bool}{x:Tx}{xs:Txs}(ih:OkT Φ c E B X x)(hh:uc Φ c E B X xs){e:Expr}(h:bA c (.boo isAnd x xs) e=true):PT X e (tB' X.K B (wpT Φ (.boo isAnd x xs) E)):=by
 replace h:=aaL h;obtain ⟨_,_,_,_,rfl,h⟩:=h
 ·simp only[ae,aE]at h;obtain ⟨⟨e1,h1⟩,h2⟩:=h;subst e1;refine ptI (PW.pt (GZ xs ih hh h1 h2)) λσ H Q hq=>el hq λρ F G e0 he r hw=>⟨ρ,F,G,e0,he,r,?_⟩;rw[qL]at hw;exact hw
noncomputable def tG(K:PF)(B:Bs)(t:Tg):TG:=λv σ H Q=>∃ρ F G d,Ext B.H B.F H F/\EnvR K H F ρ σ/\R K H F G/\Rep K H F d v/\aO t d ρ G (λρ'=>∀σ',EnvR K H F ρ' σ'->Q σ' H)
noncomputable def tGs(K:PF)(B:Bs)(t:Tgs):TGs:=λvs σ H Q=>∃ρ F G ds,Ext B.H B.F H F/\EnvR K H F ρ σ/\R K H F G/\Reps K H F ds vs/\bD t ds ρ G (λρ'=>∀σ',EnvR K H F ρ' σ'->Q σ' H)
theorem ue:∀{ts:Tgs}{es:List Expr}{env:Env},cu c ts es=true->(assignEach es env).length=es.length/\(assignEach es env).findIdx? (·.1)=none/\(assignEach es env).map (·.2)=es.map λe=>assign e env
 |.nil,[],env,_=>⟨rfl,rfl,rfl⟩
 |.nil,_::_,env,h=>by unfold cu at h;cases h
 |.cons t r,[],env,h=>by unfold cu at h;cases h
 |.cons t r,e::es,env,h=>by
  unfold cu at h;rw[ae]at h;obtain ⟨h1,h2,h3⟩:=ue (env:=env) h.2;have hs:assignEach (e::es) env=(false,assign e env)::assignEach es env:=by
   cases t with
   |nm i=>
    have h':=h.1;obtain ⟨_,_,rfl,_⟩:=xK h';rfl
   |tp ts=>
    have h':=h.1;obtain ⟨_,_,_,rfl,_⟩:=xM h';rfl
  rw[hs];refine ⟨by simp[h1],?_,by simp[h3]⟩;rw[List.findIdx?_cons];simp[h2]
section
variable {prog:Program} {w:World} {A:Around} {E:Value->Shared->Prop} {s:Shared}
theorem Ha{it t:Addr}{items:Array Value}(hne:t≠it):∀(n i:Nat)(s:Shared)(Q:List Value->Shared->Prop),s.heap.IsListIter it t i->s.heap.IsList t items->i+n<=items.size->
  (∀h',h'.IsListIter it t (i+n)->Heap.SameBut it s.heap h'->Q ((items.toList.drop i).take n) { s with heap:=h' })->wpAny (model prog w) A (draw (.ref it) n) Q E s
 |0,i,s,Q,hit,_,_,hQ=>by
  show wpAny _ _ (pure []) Q E s;exact bg (by simpa using hQ s.heap hit (Heap.SameBut.refl ..))
 |n+1,i,s,Q,hit,ht,hle,hQ=>by
  have hlt:i < items.size:=by omega
  show wpAny _ _ (pyNext (.ref it) >>= _) Q E s;refine ag (wpAny_pyNext_list_item hit ht (x:=items[i]) (by simp[hlt]) λh₁ hit₁ hs₁=>?_);refine ag (ej (Ha hne n (i+1) _ _ hit₁ (ht.extBut hs₁.extBut hne) (by omega) λh₂ hit₂ hs₂=>bg ?_));have hd:items.toList.drop i=items[i]::items.toList.drop (i+1):=by simp[bp,hlt]
  have:=hQ h₂ (by rw[show i+(n+1)=i+1+n by omega];exact hit₂) (hs₁.trans hs₂);rw[hd,List.take_succ_cons]at this;exact this
theorem abB{t:Addr}{items:Array Value}{Q:List Value->Shared->Prop}(hh:A.handled=none)(ht:s.heap.IsList t items)
  (hQ:∀h',Heap.ExtBut s.heap.objs.size s.heap h'->Q items.toList { s with heap:=h' }):wpAny (model prog w) A (unpackItems (.ref t) items.size none) Q E s:=by
 have hlt:t≠s.heap.objs.size:=by obtain ⟨o,ho,_⟩:=ht;exact cm (aI ho)
 unfold unpackItems;refine ag ?_;unfold notIterableAtAll;refine ag (wpAny_specialOf ht.typeIs PySem.F.slot_list_iter.lookup ?_);refine bg ?_;simp only[Bool.false_eq_true,if_false];refine ag (ej (wpAny_pyIter_list ht ?_));refine ag (ej (Ha hlt items.size 0 _ _ ⟨_,bd _ rfl,rfl,rfl⟩ (ht.push _) (by omega) λh₁ hit₁ hs₁=>?_));have hall:List.take items.size (List.drop 0 items.toList)=items.toList:=by rw[List.drop_zero];exact d6 (by simp)
 rw[hall];rw[if_neg (by simp)];have ht₁:h₁.IsList t items:=(ht.push _).extBut hs₁.extBut hlt;refine ag (ej (wpAny_pyNext_list_end hh hit₁ ht₁ (by simp) λh₂ he₂=>?_));simp only[Option.isSome_none,Bool.false_eq_true,if_false];refine bg (hQ h₂ λb o hb e=>he₂ b o hb (hs₁.extBut b o hb (am _ e)))
theorem abC{env:Env}{elts:List Expr}{x1}{pos:Pos}{t:Addr}{items:Array Value}{Q:Unit->Shared->Prop}(hh:A.handled=none)(ht:s.heap.IsList t items)
  (hn:(assignEach elts env).length=items.size) (hstar:(assignEach elts env).findIdx? (·.1)=none)
  (h:∀h',Heap.ExtBut s.heap.objs.size s.heap h'->wpAny (model prog w) A (assignInOrder ((assignEach elts env).map (·.2)) items.toList) Q E { s with heap:=h' }):
  wpAny (model prog w) A (assign (.Tuple elts x1 pos) env (.ref t)) Q E s:=by
 rw[assign_Tuple];refine ag (fS ?_);unfold unpack;rw[hn,hstar];exact ag (ej (abB hh ht h))
end
section
variable {X:Cx} {pos:Pos}
noncomputable def abD(K:PF)(n:Nat)(t:TGs):TG:=λv σ H Q=>∃a xs,v=.ref a/\SqL K H a xs/\xs.length=n/\t xs σ H Q
theorem abE{es:List Expr}{k:Nat}{t:TGs}{n:Nat}(hc:X.calm=true)(h:PGs X es t)
  (hn:(assignEach es X.env).length=n:=by rfl) (hst:(assignEach es X.env).findIdx? (·.1)=none:=by rfl):PG X (.Tuple es k pos) (abD X.K n t):=by
 intro pins s σ H v u Q I r hw;obtain ⟨a,xs,e1,hq,hl,hw⟩:=hw;subst e1;cases r;obtain ⟨its,rv,pl,hz⟩:=I.list hq;refine abC (I.ok.hd hc) pl.isList (by simp[hn,<-hl,rv.length]) hst λh' hx=>?_;have I1:Inv X pins σ H { s with heap:=h' }:=I.kept (t':=s.toks) λb o e=>hx b o (cm (aI e)) e;exact h pins _ σ H xs _ Q I1 (by simpa using rv) hw
end
mutual
theorem iC(S:Stat Φ CX k c E B X):∀(t:Tg){e:Expr},bO c t e=true->PG X e (tG X.K B t)
 |.nm i,e,h=>by
  replace h:=xK h;obtain ⟨x,pos,rfl,h⟩:=h
  ·skip;rw[ae,aE]at h;obtain ⟨l,f⟩:=S.sto x h.2;intro pins s σ H v u Q I rv q;refine Vl (i:=i) S.nd (by rw[S.N];exact h.1) l f pins s σ H v u Q I rv ?_;obtain ⟨ρ,F,G,d,e0,he,r,rd,hw⟩:=q;unfold aO at hw;exact hw _ (he.set rd i)
 |.tp ts,e,h=>by
  replace h:=xM h;obtain ⟨es,kk,pos,rfl,h⟩:=h
  ·skip;obtain ⟨h1,h2,h3⟩:=ue (env:=X.env) h;intro pins s σ H v u Q I rv q;obtain ⟨ρ,F,G,d,e0,he,r,rd,hw⟩:=q;unfold aO at hw;split at hw
   ·rename_i ds;refine Vr (n:=es.length) S.calm (xQ S ts h) h1 h2 pins s σ H v u Q I rv ?_;obtain ⟨a,vs,e1,q,t⟩:=rd;refine ⟨a,vs,e1,q.sq,?_,ρ,F,G,ds,e0,he,r,t,hw⟩;rw[<-t.length];exact xR ts h hw
   ·rename_i ds;refine abE (n:=es.length) S.calm (xQ S ts h) h1 h2 pins s σ H v u Q I rv ?_;obtain ⟨a,vs,e1,q,t⟩:=rd;refine ⟨a,vs,e1,q.sq,?_,ρ,F,G,ds,e0,he,r,t,hw⟩;rw[<-t.length];exact xR ts h hw
   ·exact hw.elim
theorem xQ(S:Stat Φ CX k c E B X):∀(ts:Tgs){es:List Expr},cu c ts es=true->PGs X es (tGs X.K B ts)
 |.nil,es,h=>by
  unfold cu at h;cases es with
  |nil=>
   intro pins s σ H vs us Q I rv q;refine Vo pins s σ H vs us Q I rv ?_;obtain ⟨ρ,F,G,ds,e0,he,r,rd,hw⟩:=q;unfold bD at hw;split at hw
   ·exact ⟨rd,hw _ he⟩
   ·exact hw.elim
  |cons _ _=>cases h
 |.cons t r,es,h=>by
  unfold cu at h;split at h
  ·rename_i e es;rw[ae]at h;intro pins s σ H vs us Q I rv q;have hs:(assignEach (e::es) X.env).map (·.2)=assign e X.env::(assignEach es X.env).map (·.2):=by
    have hh:cu c (.cons t r) (e::es)=true:=by unfold cu;show (bO c t e&&cu c r es)=true;rw[h.1,h.2];rfl
    rw[(ue (env:=X.env) hh).2.2,(ue (env:=X.env) h.2).2.2];rfl
   refine Vp (iC S t h.1) (xQ S r h.2) hs pins s σ H vs us Q I rv ?_;obtain ⟨ρ,F,G,ds,e0,he,rr,rd,hw⟩:=q;unfold bD at hw;split at hw
   ·rename_i d ds;obtain ⟨v,vs',e1,rd1,rds⟩:=rd;refine ⟨v,vs',e1,ρ,F,G,d,e0,he,rr,rd1,cN (λρ' z σ' he'=>?_) t hw⟩;exact ⟨ρ',F,G,ds,e0,he',rr,rds,z⟩
   ·exact hw.elim
  ·cases h
theorem xR{G:DH}:∀(ts:Tgs){es:List Expr}{ds:List D}{ρ:ak}{Q:ak->Prop},cu c ts es=true->bD ts ds ρ G Q->ds.length=es.length
 |.nil,es,ds,ρ,Q,h,q=>by
  unfold cu at h;unfold bD at q;split at q
  ·cases es with
   |nil=>rfl
   |cons _ _=>cases h
  ·exact q.elim
 |.cons t r,es,ds,ρ,Q,h,q=>by
  unfold cu at h;split at h
  ·rw[ae]at h;unfold bD at q;split at q
   ·rename_i d ds;have:∃ρ',bD r ds ρ' G Q:=Hb t q;obtain ⟨ρ',q'⟩:=this;have:=xR r h.2 q';simp[this]
   ·exact q.elim
  ·cases h
theorem Hb{G:DH}:∀(t:Tg){d:D}{ρ:ak}{Q:ak->Prop},aO t d ρ G Q->∃ρ',Q ρ'
 |.nm i,d,ρ,Q,q=>⟨_,q⟩
 |.tp ts,d,ρ,Q,q=>by
  unfold aO at q;split at q
  ·exact xT ts q
  ·exact xT ts q
  ·exact q.elim
theorem xT{G:DH}:∀(ts:Tgs){ds:List D}{ρ:ak}{Q:ak->Prop},bD ts ds ρ G Q->∃ρ',Q ρ'
 |.nil,ds,ρ,Q,q=>by
  unfold bD at q;split at q
  ·exact ⟨_,q⟩
  ·exact q.elim
 |.cons t r,ds,ρ,Q,q=>by
  unfold bD at q;split at q
  ·obtain ⟨ρ',q'⟩:=Hb t q;exact xT r q'
  ·exact q.elim
end
end
structure WalkJ(K:PF)(H:Hp)(F:FZ)(items:List D)(g:Hld)(J:It):Prop where
 go:∀H' F' G i,Ext H F H' F'->R K H' F' G->held g G->i < items.length->J.go i H'
 stop:∀H' F' G,Ext H F H' F'->R K H' F' G->held g G->J.stop items.length H'
 yld:∀H' F' i x H'' d G,Ext H F H' F'->R K H' F' G->held g G->items[i]?=some d->J.yld i H' x H''->Ext H' F' H'' F'/\R K H'' F' G/\Rep K H'' F' d x
section
variable {K:PF} {H:Hp} {F:FZ}
structure Src(K:PF)(H:Hp)(F:FZ)(u:Value)(ds:List D)(g:Hld)(k:SK):Prop where
 val:k.val=u
 sat:∀H' F' G,Ext H F H' F'->R K H' F' G->held g G->∃vs,k.Sat H' vs/\Reps K H' F' ds vs
theorem uf{d:D}{v:V}{u:Value}{G:DH}{ds:List D×Hld}(h:Rep K H F d v)(r:RelV v u)(e:itemsOf G d=some ds):∃k,Src K H F u ds.1 ds.2 k:=by
 cases d with
 |lst xs=>
  simp only[itemsOf,aT]at e;subst e;obtain ⟨a,vs,e1,q,t⟩:=h;subst e1;have hu:u=Value.ref a:=r;subst hu;exact ⟨.lst a,rfl,λH' F' G' x _ _=>⟨vs,(FzL.ext x q).2,Reps.ext x t⟩⟩
 |tup xs=>
  simp only[itemsOf,aT]at e;subst e;obtain ⟨a,vs,e1,q,t⟩:=h;subst e1;have hu:u=Value.ref a:=r;subst hu;exact ⟨.tup a,rfl,λH' F' G' x _ _=>⟨vs,(TpT.ext (K:=K) x q).it,Reps.ext x t⟩⟩
 |str l=>
  simp only[itemsOf,aT]at e;subst e;obtain ⟨e1,hl⟩:=h;subst e1;obtain ⟨t,hu⟩:∃t,u=Value.str (tx l) t:=r;subst hu;exact ⟨.str (tx l) t,rfl,λH' F' G' x _ _=>⟨_,rfl,by simpa using xf l⟩⟩
 |ref p=>
  simp only[itemsOf]at e;split at e
  ·rename_i xs hg;simp only[aT]at e;subst e;have e1:v=.ref p:=h;subst e1;have hu:u=Value.ref p:=r;subst hu;exact ⟨.lst p,rfl,λH' F' G' x r' hh=>r'.lst hh.1⟩
  ·cases e
 |_=>cases e
theorem ug{G:DH}{d:D}{ds:List D×Hld}(e:itemsOf G d=some ds):held ds.2 G:=by
 cases d with
 |ref p=>
  simp only[itemsOf]at e;split at e
  ·rename_i xs hg;simp only[aT]at e;subst e;exact ⟨hg,trivial⟩
  ·cases e
 |_=>simp only[itemsOf]at e;first | (cases e;done) | (simp only[aT]at e;subst e;exact trivial)
theorem abF{u:Value}{ds:List D}{g:Hld}{k:SK}(s:Src K H F u ds g k):WalkJ K H F ds g (Jk k) where
 go:=λH' F' G i x r hh hi=>by
  obtain ⟨vs,h1,h2⟩:=s.sat H' F' G x r hh;exact ⟨vs,h1,by rw[<-h2.length];exact hi⟩
 stop:=λH' F' G x r hh=>by
  obtain ⟨vs,h1,h2⟩:=s.sat H' F' G x r hh;exact ⟨vs,h1,h2.length.symm⟩
 yld:=λH' F' i v H'' d G x r hh hd y=>by
  obtain ⟨e,hv⟩:=y;subst e;obtain ⟨vs,h1,h2⟩:=s.sat _ F' G x r hh;obtain ⟨w,e1,rw'⟩:=h2.get hd;have e2:=hv vs h1;rw[e1]at e2;cases e2;exact ⟨Ext.refl _ _,r,rw'⟩
theorem lw:∀(n:Nat)(ds:List D),(dC n ds).length=ds.length
 |_,[]=>rfl
 |n,d::ds=>by simp[dC,lw (n+1) ds]
theorem lz:∀(n:Nat)(ds:List D)(i:Nat),(dC n ds)[i]?=(ds[i]?).map λd=>.tup [.int ((n+i:Nat):Int),d]
 |_,[],_=>by simp[dC]
 |n,d::ds,0=>by simp[dC]
 |n,d::ds,i+1=>by
  simp only[dC,List.getElem?_cons_succ];rw[lz (n+1) ds i];congr 1;funext d;rw[show n+1+i=n+(i+1) by omega]
theorem uh:∀(as bs:List D),(bH as bs).length=min as.length bs.length
 |[],bs=>by simp[bH]
 |a::as,[]=>by simp[bH]
 |a::as,b::bs=>by simp[bH,uh as bs]
theorem xU:∀(as bs:List D)(i:Nat)(d:D),(bH as bs)[i]?=some d->∃a b,as[i]?=some a/\bs[i]?=some b/\d=.tup [a,b]
 |[],bs,i,d,h=>by simp[bH]at h
 |a::as,[],i,d,h=>by simp[bH]at h
 |a::as,b::bs,0,d,h=>by simp[bH]at h;exact ⟨a,b,rfl,rfl,h.symm⟩
 |a::as,b::bs,i+1,d,h=>by
  simp only[bH,List.getElem?_cons_succ]at h;obtain ⟨x,y,h1,h2,h3⟩:=xU as bs i d h;exact ⟨x,y,by simpa using h1,by simpa using h2,h3⟩
theorem abG{u:Value}{ds:List D}{g:Hld}{k:SK}(s:Src K H F u ds g k):WalkJ K H F (dC 0 ds) g (Je k) where
 go:=λH' F' G i x r hh hi=>by
  obtain ⟨vs,h1,h2⟩:=s.sat H' F' G x r hh;exact ⟨vs,h1,by rw[<-h2.length,<-lw 0];exact hi⟩
 stop:=λH' F' G x r hh=>by
  obtain ⟨vs,h1,h2⟩:=s.sat H' F' G x r hh;exact ⟨vs,h1,by rw[lw];exact h2.length.symm⟩
 yld:=λH' F' i v H'' d G x r hh hd y=>by
  obtain ⟨vs,h1,h2⟩:=s.sat H' F' G x r hh;obtain ⟨T,y,hT,e1,e2,hv⟩:=y;subst e1 e2;rw[lz]at hd;obtain ⟨d',hd',e3⟩:=bi.mp hd;subst e3;obtain ⟨w,e1,rw'⟩:=h2.get hd';have e2:=hv vs h1;rw[e1]at e2;cases e2;refine ⟨dg r hT,r.new hT,?_⟩;rw[Nat.zero_add];exact vO r hT (Reps.cons rfl (Reps.cons rw' Reps.nil))
theorem jA{g g':Hld}{G:DH}:held (g++g') G->held g G/\held g' G:=by
 induction g with
 |nil=>exact λh=>⟨trivial,h⟩
 |cons p r ih=>
  intro h;obtain ⟨h1,h2⟩:=ih h.2;exact ⟨⟨h.1,h1⟩,h2⟩
theorem abH{u u':Value}{ds es:List D}{g g':Hld}{k l:SK}(s:Src K H F u ds g k)(s':Src K H F u' es g' l):WalkJ K H F (bH ds es) (g++g') (Jz k l) where
 go:=λH' F' G i x r hh hi=>by
  obtain ⟨vs,h1,h2⟩:=s.sat H' F' G x r (jA hh).1;obtain ⟨ws,h3,h4⟩:=s'.sat H' F' G x r (jA hh).2;rw[uh]at hi;exact ⟨vs,ws,h1,h3,by rw[<-h2.length];omega,by rw[<-h4.length];omega⟩
 stop:=λH' F' G x r hh=>by
  obtain ⟨vs,h1,h2⟩:=s.sat H' F' G x r (jA hh).1;obtain ⟨ws,h3,h4⟩:=s'.sat H' F' G x r (jA hh).2;exact ⟨vs,ws,h1,h3,by rw[uh,<-h2.length,<-h4.length];omega⟩
 yld:=λH' F' i v H'' d G x r hh hd y=>by
  obtain ⟨T,y,z,hT,e1,e2,hv,hz⟩:=y;subst e1 e2;obtain ⟨a,b,ha,hb,e3⟩:=xU _ _ _ _ hd;subst e3;obtain ⟨vs,h1,h2⟩:=s.sat H' F' G x r (jA hh).1;obtain ⟨ws,h3,h4⟩:=s'.sat H' F' G x r (jA hh).2;obtain ⟨w,e1,rw'⟩:=h2.get ha;obtain ⟨w2,e3,rw2⟩:=h4.get hb;have e2:=hv vs h1;have e4:=hz ws h3;rw[e1]at e2;cases e2;rw[e3]at e4;cases e4;exact ⟨dg r hT,r.new hT,vO r hT (Reps.cons rw' (Reps.cons rw2 Reps.nil))⟩
theorem abI(lo:Int)(n:Nat):WalkJ K H F (bu lo n) [] (Itr lo n) where
 go:=λH' F' G i x _ _ hi=>by show i < n;simpa [bu] using hi
 stop:=λH' F' G x _ _=>by show n<=(bu lo n).length;simp[bu]
 yld:=λH' F' i v H'' d G x r _ hd y=>by
  obtain ⟨e1,e2⟩:=y;subst e1 e2;refine ⟨Ext.refl _ _,r,?_⟩;unfold bu at hd;rw[bS]at hd;obtain ⟨j,hj,e3⟩:=bi.mp hd;have:j=i:=by have:=av.mp hj;obtain ⟨h1,h2⟩:=this;simpa using h2.symm
  subst this;subst e3;rfl
end
noncomputable def tI(K:PF)(B:Bs)(w:ak->DH->(List D->Hld->DH->Prop)->Prop):TI:=λσ H Rr=>∃ρ F G,Ext B.H B.F H F/\EnvR K H F ρ σ/\R K H F G/\
 w ρ G (λitems g G'=>∀H' F' J,Ext H F H' F'->R K H' F' G'->WalkJ K H' F' items g J->Rr J H')
section
variable {Φ:aa} {CX:CXT} {k:Nat} {c:CT} {E:EK} {B:Bs} {X:Cx}
theorem ul{pins:List (Addr×Obj)}{σ:L2.St}{H:Hp}{s:Shared}(I:Inv X pins σ H s){kk:SK}{vs:List V}(h:kk.Sat H vs):∃its:Array Value,kk.On its s.heap:=by
 cases kk with
 |lst a=>obtain ⟨its,_,pl,_⟩:=I.list (SqL.of (show H a=some _ from h));exact ⟨its.toArray,pl.isList⟩
 |tup a=>obtain ⟨its,_,pl,_⟩:=I.tuple (SqT.of (show H a=some _ from h));exact ⟨its.toArray,pl⟩
 |str x t=>exact ⟨#[],trivial⟩
theorem abJ{x:Ex}(ih:OkE Φ c E B X x){tg e:Expr}(h:aj c x e=true):PI X tg e (tI X.K B (wpI Φ (.seq x) E)):=by
 intro pins s σ H Rr I q;obtain ⟨ρ,F,G,e0,he,r,hw⟩:=q;rw[qR]at hw;have q':tE X.K B (wpE Φ x E) σ H (λv H1=>∃F1 G1 d items,R X.K H1 F1 G1/\Rep X.K H1 F1 d v/\itemsOf G1 d=some items/\∀J,WalkJ X.K H1 F1 items.1 items.2 J->Rr J H1):=
  aN e0 he r hw λd G1 H1 F1 u q e1 x1 he1 r1 ru=>by
   split at q
   ·rename_i ds hd;exact ⟨F1,G1,d,ds,r1,ru,hd,λJ w=>q H1 F1 J x1 r1 w⟩
   ·exact q.elim
 refine thn (ih h pins s σ H _ I q') λu s1 ⟨v,H1,I1,rv,F1,G1,d,items,r1,rd,hd,q1⟩=>?_;obtain ⟨kk,src⟩:=uf rd rv hd;obtain ⟨vs,sat,_⟩:=src.sat H1 F1 G1 (Ext.refl _ _) r1 (ug hd);obtain ⟨its,on⟩:=ul I1 sat;rw[<-src.val];refine SK.iter on ?_;refine ⟨s1.heap.objs.size,[s1.heap.objs.size],_,_,H1,rfl,I1.kept (t':=s1.toks) λb o e=>am _ e,aat kk _,SK.pos0,λb hb=>?_,q1 _ (abF src)⟩;have e:b=s1.heap.objs.size:=by simpa using hb
 subst e;exact I1.fpOk (ax _) (I1.hok.fresh (ax _))
theorem abK(S:Stat Φ CX k c E B X){a:Ex}(ih:OkE Φ c E B X a){tg e:Expr}(h:bF c (.rng a) tg e=true):PI X tg e (tI X.K B (wpI Φ (.rng a) E)):=by
 replace h:=Gx h;obtain ⟨_,_,_,_,rfl,h⟩:=h
 ·simp only[ae,aE]at h;obtain ⟨⟨⟨e1,h1⟩,hm⟩,h2⟩:=h;subst e1;obtain ⟨g1,g2⟩:=dZ h1;have hmg:=S.blt _ (bb.mp hm);have hs:=cH _ [] X.env (cX (bL a h2));intro pins s σ H Rr I q;refine Vz (S.glo _ g1) hmg (iY (ih h2) j4 hs) hs pins s σ H Rr I ?_;obtain ⟨ρ,F,G,e0,he,r,hw⟩:=q;rw[qT]at hw;refine aN e0 he r hw λd G1 H1 F1 u q e1 x1 he1 r1 ru=>?_;split at q
  ·rename_i n;have e2:u=.int n:=ru;subst e2;exact ⟨n,rfl,q.1.1,q.1.2,q.2 H1 F1 _ x1 r1 (abI 0 n.toNat)⟩
  ·exact q.elim
theorem abL(S:Stat Φ CX k c E B X){a:Ex}(ih:OkE Φ c E B X a){tg e:Expr}(h:bF c (.rev a) tg e=true):PI X tg e (tI X.K B (wpI Φ (.rev a) E)):=nomatch (show false=true from h)
theorem abM(S:Stat Φ CX k c E B X){a b d:Ex}(iha:OkE Φ c E B X a)(ihb:OkE Φ c E B X b)(ihd:OkE Φ c E B X d){tg e:Expr}(h:bF c (.dwn a b d) tg e=true):PI X tg e (tI X.K B (wpI Φ (.dwn a b d) E)):=nomatch (show false=true from h)
theorem abN(S:Stat Φ CX k c E B X){a b:Ex}(iha:OkE Φ c E B X a)(ihb:OkE Φ c E B X b){tg e:Expr}(h:bF c (.rng2 a b) tg e=true):PI X tg e (tI X.K B (wpI Φ (.rng2 a b) E)):=nomatch (show false=true from h)
theorem abO(S:Stat Φ CX k c E B X){a:Ex}(ih:OkE Φ c E B X a){tg e:Expr}(h:bF c (.enm a) tg e=true):PI X tg e (tI X.K B (wpI Φ (.enm a) E)):=by
 replace h:=Gy h;obtain ⟨_,_,_,_,_,_,_,rfl,rfl,h⟩:=h
 ·skip
  ·simp only[ae,aE]at h;obtain ⟨⟨⟨e1,h1⟩,hm⟩,h2⟩:=h;subst e1;obtain ⟨g1,g2⟩:=dZ h1;have hmg:=S.blt _ (bb.mp hm);have hs:=cH _ [] X.env (cX (bL a h2));intro pins s σ H Rr I q;obtain ⟨ρ,F,G,e0,he,r,hw⟩:=q;rw[qU]at hw;have q':tL X.K B (aM Φ (.cons a .nil) E) σ H (λvs H1=>∃v F1 G1 d items,vs=[v]/\R X.K H1 F1 G1/\Rep X.K H1 F1 d v/\itemsOf G1 d=some items/\∀J,WalkJ X.K H1 F1 (dC 0 items.1) items.2 J->Rr J H1):=by
    refine cz (W:=λds G1=>∃d items,ds=[d]/\itemsOf G1 d=some items/\∀H' F' J,Ext H F H' F'->R X.K H' F' G1->WalkJ X.K H' F' (dC 0 items.1) items.2 J->Rr J H') e0 he r ?_ λds G1 H1 F1 vs q e1 x1 he1 r1 rvs=>?_
    ·rw[gG];refine aC a (λd G1 q=>?_) hw;rw[gF];split at q
     ·rename_i items hd;exact ⟨d,items,rfl,hd,q⟩
     ·exact q.elim
    ·obtain ⟨d,items,e2,hd,q⟩:=q;subst e2;obtain ⟨v,e3,rv⟩:=bw rvs;exact ⟨v,F1,G1,d,items,e3,r1,rv,hd,λJ w=>q H1 F1 J x1 r1 w⟩
   refine Call_ (iU I (S.glo _ g1) hmg (u:=.type "enumerate") boot_enumerate (ff (thn (tY ih (λh=>xO h) (c:=c) (es:=[_]) (by unfold aK;show (aj c a _&&true)=true;rw[h2];rfl) _ pins s σ H _ I q') λus s1 ⟨vs,H1,I1,r1v,q1⟩=>?_) hs rfl) (dY g2) (cA g2));obtain ⟨v,F1,G1,d,items,e1,r1,rd,hd,q1⟩:=q1;subst e1;obtain ⟨u,rfl,ru⟩:=vals1 r1v;obtain ⟨kk,src⟩:=uf rd ru hd;obtain ⟨vs,sat,_⟩:=src.sat H1 F1 G1 (Ext.refl _ _) r1 (ug hd);obtain ⟨its,on⟩:=ul I1 sat;rw[<-src.val];refine aaC on λh' hen hit hsz hk=>?_;refine wpAny_pyIter_enum hen ?_;have n1:H1 s1.heap.objs.size=none:=I1.hok.fresh (ax _);have n2:H1 (s1.heap.objs.size+1)=none:=I1.hok.fresh (fk _);refine ⟨s1.heap.objs.size+1,[s1.heap.objs.size+1,s1.heap.objs.size],_,_,H1,rfl,I1.kept (t':=s1.toks) hk,aas kk _ _ (Nat.succ_ne_self _),⟨⟨_,hen⟩,hit⟩,λb hb=>?_,q1 _ (abG src)⟩;have hb':b=s1.heap.objs.size+1\/b=s1.heap.objs.size:=by simpa using hb
   rcases hb' with rfl |rfl
   ·exact I1.fpOk (fk _) n2
   ·exact I1.fpOk (ax _) n1
theorem zap(n:Nat):ZApart (n+4) (n+2) (n+3) n (n+1):=
 ⟨(by omega:(n+2:Nat)≠n+4),(by omega:(n+3:Nat)≠n+4),(by omega:(n:Nat)≠n+4),(by omega:(n+1:Nat)≠n+4),(by omega:(n+2:Nat)≠n+3),(by omega:(n+2:Nat)≠n),(by omega:(n+2:Nat)≠n+1),(by omega:(n+3:Nat)≠n),(by omega:(n+3:Nat)≠n+1),(by omega:(n:Nat)≠n+1)⟩
theorem abP(S:Stat Φ CX k c E B X){a b:Ex}(iha:OkE Φ c E B X a)(ihb:OkE Φ c E B X b){tg e:Expr}(h:bF c (.zip a b) tg e=true):PI X tg e (tI X.K B (wpI Φ (.zip a b) E)):=by
 replace h:=Gz h;obtain ⟨_,_,_,_,_,v,v',pos,rfl,rfl,h⟩:=h
 ·skip
  ·simp only[ae,aE]at h;obtain ⟨⟨⟨⟨e1,h1⟩,hm⟩,h2⟩,h3⟩:=h;subst e1;obtain ⟨g1,g2⟩:=dZ h1;have hmg:=S.blt _ (bb.mp hm);have hs2:=cH v' [] X.env (cX (bL b h3));have hs:=cH v [v'] X.env (cX (bL a h2));intro pins s σ H Rr I q;obtain ⟨ρ,F,G,e0,he,r,hw⟩:=q;rw[qW]at hw;have hA:aK c (.cons a (.cons b .nil)) [v,v']=true:=by
    unfold aK aK aK;show (aj c a v&&(aj c b v'&&true))=true;rw[h2,h3];rfl
   have q':tL X.K B (aM Φ (.cons a (.cons b .nil)) E) σ H (λvs H1=>∃v v' F1 G1 d d' items items',vs=[v,v']/\R X.K H1 F1 G1/\Rep X.K H1 F1 d v/\Rep X.K H1 F1 d' v'/\itemsOf G1 d=some items/\itemsOf G1 d'=some items'/\∀J,WalkJ X.K H1 F1 (bH items.1 items'.1) (items.2++items'.2) J->Rr J H1):=by
    refine cz (W:=λds G1=>∃d d' items items',ds=[d,d']/\itemsOf G1 d=some items/\itemsOf G1 d'=some items'/\∀H' F' J,Ext H F H' F'->R X.K H' F' G1->WalkJ X.K H' F' (bH items.1 items'.1) (items.2++items'.2) J->Rr J H') e0 he r ?_ λds G1 H1 F1 vs q e1 x1 he1 r1 rvs=>?_
    ·rw[gG];refine aC a (λd G1 q=>?_) hw;rw[gG];refine aC b (λd' G2 q=>?_) q;rw[gF];split at q
     ·rename_i items items' hd hd';exact ⟨d,d',items,items',rfl,hd,hd',q⟩
     ·exact q.elim
    ·obtain ⟨d,d',items,items',e2,hd,hd',q⟩:=q;subst e2;obtain ⟨w1,r2,e3,rw1,t2⟩:=rvs;obtain ⟨w2,e4,rw2⟩:=bw t2;subst e4;exact ⟨w1,w2,F1,G1,d,d',items,items',e3,r1,rw1,rw2,hd,hd',λJ w=>q H1 F1 J x1 r1 w⟩
   refine Call_ (iU I (S.glo _ g1) hmg (u:=.type "zip") Yg (ff (thn (tY iha (λh=>tY ihb (λh=>xO h) h) (c:=c) (es:=[v,v']) hA _ pins s σ H _ I q') λus s1 ⟨vs,H1,I1,r1v,q1⟩=>?_) hs (by rw[hs2];rfl)) (dY g2) (cA g2));obtain ⟨w1,w2,F1,G1,d,d',items,items',e1,r1,rd,rd',hd,hd',q1⟩:=q1;subst e1;obtain ⟨u,u',rfl,ru,ru'⟩:=vals2 r1v;obtain ⟨kk,src⟩:=uf rd ru hd;obtain ⟨ll,src'⟩:=uf rd' ru' hd';obtain ⟨vs,sat,_⟩:=src.sat H1 F1 G1 (Ext.refl _ _) r1 (ug hd);obtain ⟨ws,sat',_⟩:=src'.sat H1 F1 G1 (Ext.refl _ _) r1 (ug hd');obtain ⟨its,on⟩:=ul I1 sat;obtain ⟨its',on'⟩:=ul I1 sat';rw[<-src.val,<-src'.val];refine aaA on on' λh' hz hTI hTO p1 p2 hsz hk=>?_;refine wpAny_pyIter_zip hz ?_;have fr:∀j,H1 (s1.heap.objs.size+j)=none:=λj=>I1.hok.fresh (ck _ _);refine ⟨s1.heap.objs.size+4,[s1.heap.objs.size+4,s1.heap.objs.size+2,s1.heap.objs.size+3,s1.heap.objs.size,s1.heap.objs.size+1],_,_,H1,rfl,I1.kept (t':=s1.toks) hk,
    aax kk ll (s1.heap.objs.size+4) (s1.heap.objs.size+2) (s1.heap.objs.size+3) s1.heap.objs.size (s1.heap.objs.size+1) (zap s1.heap.objs.size),⟨hz,hTI,⟨_,_,hTO⟩,p1,p2⟩,λb hb=>?_,q1 _ (abH src src')⟩
   have hb':b=s1.heap.objs.size+4\/b=s1.heap.objs.size+2\/b=s1.heap.objs.size+3\/b=s1.heap.objs.size\/b=s1.heap.objs.size+1:=by simpa using hb
   rcases hb' with rfl |rfl |rfl |rfl |rfl
   ·exact I1.fpOk (ck _ _) (fr 4)
   ·exact I1.fpOk (ck _ _) (fr 2)
   ·exact I1.fpOk (ck _ _) (fr 3)
   ·exact I1.fpOk (ax _) (fr 0)
   ·exact I1.fpOk (ck _ _) (fr 1)
end
section
variable {Φ:aa} {CX:CXT} {k:Nat} {c:CT} {E:EK} {B:Bs} {X:Cx}
theorem xV:∀{l:List Str},dX l=true->l.Nodup
 |[],_=>List.nodup_nil
 |x::r,h=>by
  unfold dX at h;rw[ae]at h;refine d5.mpr ⟨λhm=>?_,xV h.2⟩;have:=h.1;rw[bb.mpr hm]at this;cases this
theorem um{N:List Str}{scope:Scope}:∀{N':List Str}{cap:List (Option Nat)},X.N=N->gJ N scope N' cap=true->Caps X scope N' cap
 |[],[],_,_=>trivial
 |_::N',none::cap,e,h=>um (N':=N') (cap:=cap) e h
 |x::N',some j::cap,e,h=>by
  unfold gJ at h;simp only[ae,aE]at h;exact ⟨⟨by rw[e];exact h.1.1,h.1.2⟩,um (N':=N') (cap:=cap) e h.2⟩
 |[],_::_,_,h=>by cases h
 |_::_,[],_,h=>by cases h
theorem lA{scope:Scope}{env:Env}(x:Str):(relabel scope env).names.lookup x=(scope.names.lookup x).map λkk=>if (kk==NameKind.free&&env.scope.kind==.function&&env.kindOf x==some .cell)=true then NameKind.cell else kk:=vy
theorem Stat.comp(S:Stat Φ CX k c E B X){N':List Str}{scope:Scope}(hn:dX N'=true)(cl:List (Str×Addr))(C:Addr)(s₁:Shared)(H₁:Hp)(fp:List Addr)(pn:List (Addr×Obj)):
  Stat Φ CX k (c.comp N' scope) noE B (X.comp N' scope cl C s₁ H₁ fp pn) where
 N:=rfl
 nd:=xV hn
 calm:=S.calm
 own:=PassesOwn.never
 kd:=rfl
 vis:=λx h=>by
  have h:iu (scope.names.lookup x)=true:=h;show (relabel scope X.env).names.lookup x=_\/(relabel scope X.env).names.lookup x=_\/(relabel scope X.env).names.lookup x=_;rw[lA];cases e:scope.names.lookup x with
  |none=>rw[e]at h;cases h
  |some kk=>
   rw[e]at h;cases kk with
   | «local»=>exact .inl (by simp[show (NameKind.«local»==NameKind.free)=false by decide])
   |cell=>exact .inr (.inl (by simp[show (NameKind.cell==NameKind.free)=false by decide]))
   |free=>
    by_cases q:(NameKind.free==NameKind.free&&X.env.scope.kind==ScopeKind.function&&X.env.kindOf x==some NameKind.cell)=true
    ·exact .inr (.inl (by simp only[Option.map_some,if_pos q]))
    ·exact .inr (.inr (by simp only[Option.map_some,if_neg q]))
   |globalExplicit=>cases h
   |globalImplicit=>cases h
 cel:=λx h=>by
  have h:scope.names.lookup x=some .cell\/scope.names.lookup x=some .free:=h;show (relabel scope X.env).names.lookup x=_\/(relabel scope X.env).names.lookup x=_;rw[lA];rcases h with h |h
  ·exact .inl (by rw[h];simp[show (NameKind.cell==NameKind.free)=false by decide])
  ·rw[h];by_cases q:(NameKind.free==NameKind.free&&X.env.scope.kind==ScopeKind.function&&X.env.kindOf x==some NameKind.cell)=true
   ·exact .inl (by simp only[Option.map_some,if_pos q])
   ·exact .inr (by simp only[Option.map_some,if_neg q])
 glo:=λx h=>by
  have h:scope.names.lookup x=some .globalImplicit:=h;show (relabel scope X.env).names.lookup x=_;rw[lA,h];simp[show (NameKind.globalImplicit==NameKind.free)=false by decide]
 sto:=λx h=>by
  have h:(scope.names.lookup x==some .local||(false&&scope.names.lookup x==some .cell))=true:=h;rw[Bool.false_and,Bool.or_false,aE]at h;have e:(relabel scope X.env).names.lookup x=some .local:=by rw[lA,h];simp[show (NameKind.«local»==NameKind.free)=false by decide]
  exact ⟨.inl e,.inr e⟩
 room:=S.room
 call:=S.call
 blt:=S.blt
 con:=S.con
 exc:=⟨_,S.nox _,λ_ _ _ _ _ _ _ _ _ _ q=>q.elim,λx G' H' F' h=>h.elim⟩
 nox:=S.nox
 xcl:=λC h=>nomatch (show false=true from h)
 loc:=λx h=>by show (relabel scope X.env).names.lookup x=_;rw[lA,show scope.names.lookup x=some .local from h];simp[show (NameKind.«local»==NameKind.free)=false by decide]
 xis:=λC h=>nomatch (show false=true from h)
 mth:=S.mth
 mko:=S.mko
 fld:=S.fld
 trc:=λh=>absurd rfl h
theorem abQ(S:Stat Φ CX k c E B X){t:Tx}(ih:OkT Φ c E B X t){ifs:List Expr}(h:lg c t ifs=true):PIf X ifs (tB' X.K B (wpT Φ t E)):=by
 unfold lg at h;rw[cK]at h;rcases h with h |h
 ·rw[ae,fo]at h;obtain ⟨hy,rfl⟩:=h;cases t with
  |yes=>
   intro pins s σ H Q I q;refine XM pins s σ H Q I ?_;obtain ⟨ρ,F,G,e0,he,r,hw⟩:=q;rw[qM]at hw;exact hw.now r
  |_=>cases hy
 ·obtain ⟨e,he,h⟩:=aY h;rw[fu he];exact XN (ih h)
theorem Hc(S:Stat Φ CX k c E B X){fz:Bool}{elt:Ex}{tg:Tg}{it:It'}{cond:Tx}{N':List Str}{cap:List (Option Nat)}{scope:Scope}{elt' tg':Expr}{ifs:List Expr}(hn:dX N'=true)
  (ihe:∀{X':Cx},Stat Φ CX k (c.comp N' scope) noE B X'->OkE Φ (c.comp N' scope) noE B X' elt) (iht:∀{X':Cx},Stat Φ CX k (c.comp N' scope) noE B X'->OkT Φ (c.comp N' scope) noE B X' cond)
  (hg:bO (c.comp N' scope) tg tg'=true) (hi:lg (c.comp N' scope) cond ifs=true) (he:aj (c.comp N' scope) elt elt'=true)
  {σ:L2.St} {H:Hp} {Q:VK} {ρ:ak} {F:FZ} {G:DH} (e0:Ext B.H B.F H F) (henv:EnvR X.K H F ρ σ) (r:R X.K H F G)
  (hw:wpI Φ it E ρ G λitems g G1=>
   compLoop (λd ρ' G' k'=>aO tg d ρ' G' λρ1=>wpT Φ cond noE ρ1 G' λb G2=>match b with |true=>wpE Φ elt noE ρ1 G2 λy G3=>k' (some y) ρ1 G3 |false=>k' none ρ1 G2)
    g items [] (cap.map λo=>match o with |none=>none |some j=>(ρ[j]?).join) G1 λds G2=>mk fz ds G2 (PV X.K H F Q)):
  tI X.K B (wpI Φ it E) σ H (λJ H1=>vJ true X N' scope tg' (emT ifs elt') J (dw cap σ) H1 Q):=by
 refine ⟨ρ,F,G,e0,henv,r,eY it (λitems g G1 q H1 F1 J x1 r1 W=>?_) hw⟩;let step:D->ak->DH->(Option D->ak->DH->Prop)->Prop:=λd ρ' G' k'=>aO tg d ρ' G' λρ1=>wpT Φ cond noE ρ1 G' λb G2=>match b with |true=>wpE Φ elt noE ρ1 G2 λy G3=>k' (some y) ρ1 G3 |false=>k' none ρ1 G2
 let fin:List D->DH->Prop:=λds G2=>mk fz ds G2 (PV X.K H F Q)
 refine ⟨λi m ys σ' H'=>m=items.length - i/\i<=items.length/\∃ρ' F' G' acc,Ext B.H B.F H' F'/\Ext H1 F1 H' F'/\EnvR X.K H' F' ρ' σ'/\R X.K H' F' G'/\Reps X.K H' F' acc ys/\compLoop step g (items.drop i) acc ρ' G' fin,
  ⟨items.length,by simp,eI _,_,F1,G1,[],e0.trans x1,Ext.refl _ _,(henv.ext x1).cap cap,r1,rfl,q⟩,?_⟩
 rintro i m ys σ' H' ⟨rfl,hle,ρ',F',G',acc,eB,e1,he',r',ra,hl⟩;by_cases hlt:i < items.length
 ·have hd:items.drop i=items[i]::items.drop (i+1):=bp hlt;rw[hd]at hl;obtain ⟨hh,hz,hl⟩:=hl;refine .inr ⟨W.go H' F' G' i e1 r' hh hlt,λ_=>by rw[<-ra.length];exact bn hz szl,λcl C s₁ H₁ fp pn=>?_⟩;have S':=S.comp (scope:=scope) hn cl C s₁ H₁ fp pn;refine ⟨_,tmT _ _,iC S' tg hg,λa ha=>Y9 rfl ha (abQ S' (iht S') hi) (ihe S' he),λx H2 hy=>?_⟩;obtain ⟨xy,ry,rx⟩:=W.yld H' F' i x H2 items[i] G' e1 r' hh (by simp[hlt]) hy;refine ⟨ρ',F',G',items[i],eB.trans xy,he'.ext xy,ry,rx,cN (λρ1 z σ1 hσ1=>?_) tg hl⟩;unfold tmT;refine jx (eB.trans xy) hσ1 ry z λb G2 H3 F3 z e3 x3 he3 r3=>?_;cases b with
  |true=>
   rw[if_pos rfl];refine aN e3 he3 r3 z λy G4 H4 F4 v z e4 x4 he4 r4 rv=>?_;exact ⟨items.length - (i+1),by omega,rfl,hlt,ρ1,F4,G4,acc++[y],e4,e1.trans (xy.trans (x3.trans x4)),he4,r4,(Reps.ext (xy.trans (x3.trans x4)) ra).append (Reps.cons rv Reps.nil),z⟩
  |false=>
   rw[if_neg b6];exact ⟨items.length - (i+1),by omega,rfl,hlt,ρ1,F3,G2,acc,e3,e1.trans (xy.trans x3),he3,r3,Reps.ext (xy.trans x3) ra,z⟩
 ·have hi':i=items.length:=by omega
  subst hi';rw[eg]at hl;obtain ⟨hh,hz,hl⟩:=hl;refine .inl ⟨W.stop H' F' G' e1 r' hh,by rw[<-ra.length];exact cO hz,λp hp=>?_⟩;exact eZ (cW (λd G' z=>PV.later z (x1.trans e1)) hl) r' ra p hp
structure CompC(c:CT)(elt:Ex)(tg:Tg)(it:It')(cond:Tx)(N':List Str)(cap:List (Option Nat))(elt' tg' iter:Expr)(ifs:List Expr)(scope:Scope):Prop where
 it:bF c it tg' iter=true
 cap:gJ c.N scope N' cap=true
 sc:jr c scope=true
 nd:dX N'=true
 tg:bO (c.comp N' scope) tg tg'=true
 cd:lg (c.comp N' scope) cond ifs=true
 el:aj (c.comp N' scope) elt elt'=true
theorem Hf(S:Stat Φ CX k c E B X){scope:Scope}(h:jr c scope=true):scope.names.all (λy=>y.2 != NameKind.cell)=true/\scope.names.all (λy=>y.2 != NameKind.local||scope.names.lookup y.1==some NameKind.local)=true/\
  scope.names.all (λy=>y.2 != NameKind.free||(X.env.kindOf y.1==some NameKind.cell||X.env.kindOf y.1==some NameKind.free))=true/\scope.kind=.function:=by
 unfold jr at h;simp only[ae,ci]at h;obtain ⟨⟨⟨⟨h1,h2⟩,h3⟩,h4⟩,_⟩:=h;refine ⟨h1,h2,?_,h4⟩;rw[cf]at h3 ⊢;intro y hy;have:=h3 y hy;rw[cK,cK,aE,aE]at this;rw[cK,cK,aE,aE];rcases this with q |q
 ·exact .inl q
 ·exact .inr (S.cel y.1 q)
theorem Hg{fz:Bool}{elt:Ex}{tg:Tg}{it:It'}{cond:Tx}{N:List String}{cap:List (Option Nat)}{e:Expr}(h:aj c (.comp fz elt tg it cond N cap) e=true):
  ∃elt' tg' iter ifs scope pos,e=.ListComp elt' [⟨tg',iter,ifs,0⟩] scope pos/\CompC c elt tg it cond (N.map Str.ofString) cap elt' tg' iter ifs scope:=by
 replace h:=Gw h;obtain ⟨_,_,_,_,_,_,_,rfl,h⟩:=h;simp only[ae,ci]at h;obtain ⟨⟨⟨⟨⟨⟨⟨h1,h2⟩,h3⟩,h4⟩,h5⟩,h6⟩,h7⟩,h8⟩:=h;subst h1;exact ⟨_,_,_,_,_,_,rfl,h2,h3,h4,h5,h6,h7,h8⟩
theorem xW{it:It'}{tg' iter:Expr}(h:bF c it tg' iter=true)(env:Env)(x:Value):foldedSetIterable iter env x=pure x:=by
 cases it with
 |seq y=>exact aaX (bL y (show aj c y iter=true from h)) env x
 |rng a=>obtain ⟨_,_,_,_,rfl,_⟩:=Gx h;rfl
 |rng2 _ _=>exact nomatch (show false=true from h)
 |rev _=>exact nomatch (show false=true from h)
 |dwn _ _ _=>exact nomatch (show false=true from h)
 |enm a=>obtain ⟨_,_,_,_,_,_,_,_,rfl,_⟩:=Gy h;rfl
 |zip a b=>obtain ⟨_,_,_,_,_,_,_,_,_,rfl,_⟩:=Gz h;rfl
theorem abR(S:Stat Φ CX k c E B X){fz:Bool}{elt:Ex}{tg:Tg}{it:It'}{cond:Tx}{N:List String}{cap:List (Option Nat)}
  (ihe:∀{c':CT}{X':Cx},Stat Φ CX k c' noE B X'->OkE Φ c' noE B X' elt) (iht:∀{c':CT}{X':Cx},Stat Φ CX k c' noE B X'->OkT Φ c' noE B X' cond)
  (ihi:∀{tg' iter:Expr},bF c it tg' iter=true->PI X tg' iter (tI X.K B (wpI Φ it E))) {e:Expr} (h:aj c (.comp fz elt tg it cond N cap) e=true):
  PE X e (tE X.K B (wpE Φ (.comp fz elt tg it cond N cap) E)):=by
 obtain ⟨elt',tg',iter,ifs,scope,pos,rfl,C⟩:=Hg h;obtain ⟨s1,s2,s3,s4⟩:=Hf S C.sc;refine peI (Za (lim:=true) (N.map Str.ofString) cap S.calm (ihi C.it) (um S.N C.cap) s1 s2 s3 s4 (xW C.it X.env) (Dn _ _ _ _ _ _)) λσ H Q hq=>el hq λρ F G e0 he r hw=>?_;rw[wM]at hw;exact Hc S C.nd (λS'=>ihe S') (λS'=>iht S') C.tg C.cd C.el e0 he r hw
noncomputable def RelM(K:PF)(B:Bs)(eD:List D->ak->DH->(List D->ak->DH->Prop)->Prop)(tm:TM):Prop:=
 ∀(σ:L2.St)(H:Hp)(ρ:ak)(F:FZ)(G:DH)(acc:List D)(ys:List V)(W:List D->ak->DH->Prop)(Q:List V->L2.St->Hp->Prop),Ext B.H B.F H F->EnvR K H F ρ σ->R K H F G->Reps K H F acc ys->eD acc ρ G W->
  (∀acc' ρ' G' H' F' σ' ys',W acc' ρ' G'->Ext H F H' F'->EnvR K H' F' ρ' σ'->R K H' F' G'->Reps K H' F' acc' ys'->Q ys' σ' H')->tm ys σ H Q
theorem abS{K:PF}{elt:Ex}:RelM K B (λacc ρ G k=>acc.length < sz/\wpE Φ elt noE ρ G λy G'=>k (acc++[y]) ρ G') (tmE (tE K B (wpE Φ elt noE))):=by intro σ H ρ F G acc ys W Q e0 he r ra hw hk;refine ⟨by rw[<-ra.length];exact bn hw.1 szl,aN e0 he r hw.2 λy G1 H1 F1 v q e1 x1 he1 r1 rv=>?_⟩;exact hk _ _ _ H1 F1 _ _ q x1 he1 r1 ((Reps.ext x1 ra).append (Reps.cons rv Reps.nil))
theorem Hh{K:PF}{t:Tg}{eD:List D->ak->DH->(List D->ak->DH->Prop)->Prop}{tm:TM}(hr:RelM K B eD tm){items:List D}{g:Hld}{ρ:ak}{G:DH}{acc:List D}{ys:List V}{σ:L2.St}{H:Hp}{F:FZ}{J:It}{W:List D->ak->DH->Prop}{Q:List V->L2.St->Hp->Prop}
  (e0:Ext B.H B.F H F) (he:EnvR K H F ρ σ) (r:R K H F G) (ra:Reps K H F acc ys) (Wk:WalkJ K H F items g J) (hw:dB (λd acc ρ' G' k=>aO t d ρ' G' λρ1=>eD acc ρ1 G' k) g items acc ρ G W)
  (hk:∀acc' ρ' G' H' F' σ' ys',W acc' ρ' G'->Ext H F H' F'->EnvR K H' F' ρ' σ'->R K H' F' G'->Reps K H' F' acc' ys'->Q ys' σ' H'):Do J (tG K B t) tm ys σ H Q:=by
 refine ⟨λi m ys σ' H'=>m=items.length - i/\i<=items.length/\∃ρ' F' G' acc,Ext B.H B.F H' F'/\Ext H F H' F'/\EnvR K H' F' ρ' σ'/\R K H' F' G'/\Reps K H' F' acc ys/\dB (λd acc ρ' G' k=>aO t d ρ' G' λρ1=>eD acc ρ1 G' k) g (items.drop i) acc ρ' G' W,
  ⟨items.length,by simp,eI _,ρ,F,G,acc,e0,Ext.refl _ _,he,r,ra,hw⟩,?_⟩
 rintro i m ys σ' H' ⟨rfl,hle,ρ',F',G',acc,eB,e1,he',r',ra,hl⟩;by_cases hlt:i < items.length
 ·have hd:items.drop i=items[i]::items.drop (i+1):=bp hlt;rw[hd]at hl;obtain ⟨hh,hl⟩:=hl;refine .inr ⟨Wk.go H' F' G' i e1 r' hh hlt,λx H2 hy=>?_⟩;obtain ⟨xy,ry,rx⟩:=Wk.yld H' F' i x H2 items[i] G' e1 r' hh (by simp[hlt]) hy;refine ⟨ρ',F',G',items[i],eB.trans xy,he'.ext xy,ry,rx,cN (λρ1 z σ1 hσ1=>?_) t hl⟩;refine hr _ _ _ _ _ _ _ _ _ (eB.trans xy) hσ1 ry (Reps.ext xy ra) z λacc' ρ2 G2 H3 F3 σ3 ys3 q x3 he3 r3 ra3=>?_;exact ⟨items.length - (i+1),by omega,rfl,hlt,ρ2,F3,G2,acc',(eB.trans xy).trans x3,e1.trans (xy.trans x3),he3,r3,ra3,q⟩
 ·have hi':i=items.length:=by omega
  subst hi';rw[eg]at hl;exact .inl ⟨Wk.stop H' F' G' e1 r' hl.1,hk _ _ _ _ _ _ _ hl.2 e1 he' r' ra⟩
theorem Hi{K:PF}{t:Tg}{it:It'}{eD:List D->ak->DH->(List D->ak->DH->Prop)->Prop}{tm:TM}(hr:RelM K B eD tm):
  RelM K B (λacc ρ G k=>wpI Φ it noE ρ G λitems g G1=>dB (λd acc ρ' G' k=>aO t d ρ' G' λρ1=>eD acc ρ1 G' k) g items acc ρ G1 k) (tmG (tI K B (wpI Φ it noE)) (tG K B t) tm):=by
 intro σ H ρ F G acc ys W Q e0 he r ra hw hk;refine ⟨ρ,F,G,e0,he,r,eY it (λitems g G1 q H1 F1 J x1 r1 Wk=>?_) hw⟩;exact Hh hr (e0.trans x1) (he.ext x1) r1 (Reps.ext x1 ra) Wk q λacc' ρ' G' H' F' σ' ys' z x2 he2 r2 ra2=>hk _ _ _ _ _ _ _ z (x1.trans x2) he2 r2 ra2
theorem ahV(S:Stat Φ CX k c E B X){elt:Ex}{t1 t2 t3:Tg}{i1 i2 i3:It'}{N':List Str}{cap:List (Option Nat)}{scope:Scope}{elt' a1 b1 a2 b2 a3 b3:Expr}{pos:Pos}(hn:dX N'=true)
  (ihe:∀{X':Cx},Stat Φ CX k (c.comp N' scope) noE B X'->OkE Φ (c.comp N' scope) noE B X' elt)
  (ih2:∀{X':Cx},Stat Φ CX k (c.comp N' scope) noE B X'->PI X' a2 b2 (tI X'.K B (wpI Φ i2 noE))) (ih3:∀{X':Cx},Stat Φ CX k (c.comp N' scope) noE B X'->PI X' a3 b3 (tI X'.K B (wpI Φ i3 noE)))
  (f2:∀env x,foldedSetIterable b2 env x=pure x) (f3:∀env x,foldedSetIterable b3 env x=pure x)
  (hg1:bO (c.comp N' scope) t1 a1=true) (hg2:bO (c.comp N' scope) t2 a2=true) (hg3:bO (c.comp N' scope) t3 a3=true) (he:aj (c.comp N' scope) elt elt'=true)
  {σ:L2.St} {H:Hp} {Q:VK} {ρ:ak} {F:FZ} {G:DH} (e0:Ext B.H B.F H F) (henv:EnvR X.K H F ρ σ) (r:R X.K H F G)
  (hw:wpE Φ (.cm3 elt t1 i1 t2 i2 t3 i3 N0 cap) E ρ G (PV X.K H F Q)):
  tI X.K B (wpI Φ i1 E) σ H (λJ H1=>vJ false X N' scope a1 (emG (.ListComp elt' [⟨a1,b1,[],0⟩,⟨a2,b2,[],0⟩,⟨a3,b3,[],0⟩] scope pos) 1 b2) J (dw cap σ) H1 Q):=by
 rw[Dz]at hw;refine ⟨ρ,F,G,e0,henv,r,eY i1 (λitems g G1 q H1 F1 J x1 r1 W=>?_) hw⟩;have rel:=Hi (Φ:=Φ) (K:=X.K) (B:=B) (t:=t2) (it:=i2) (Hi (Φ:=Φ) (t:=t3) (it:=i3) (abS (Φ:=Φ) (elt:=elt)));obtain ⟨WW,⟨m0,w0⟩,turn⟩:=Hh (t:=t1) (Q:=λys _ H'=>ys.length<=sizeLine/\∀D,H' D=none->Q (.ref D) (upd H' D (.lst ys))) rel (e0.trans x1) ((henv.ext x1).cap cap) r1 (Reps.nil) W q λacc' ρ' G' H' F' σ' ys' z x2 he2 r2 ra2=>
  ⟨by rw[<-ra2.length];exact cO z.1,λp hp=>eZ (cW (λd G' z=>PV.later z (x1.trans x2)) z.2) r2 ra2 p hp⟩
 refine ⟨WW,⟨m0,w0⟩,λi m ys σ' H' w=>?_⟩;rcases turn i m ys σ' H' w with ⟨st,z1,z2⟩ |⟨go,step⟩
 ·exact .inl ⟨st,z1,z2⟩
 ·refine .inr ⟨go,(λz=>nomatch z),λcl C s₁ H₁ fp pn=>?_⟩;have S':=S.comp (scope:=scope) hn cl C s₁ H₁ fp pn;exact ⟨_,_,iC S' t1 hg1,λa ha=>Dp rfl S'.calm rfl (Y7 _ _ _ _ _ _ _ _ _) (ih2 S') (iC S' t2 hg2) (f2 _) (Dp rfl S'.calm rfl (Y6 _ _ _ _ _ _ _ _ _) (ih3 S') (iC S' t3 hg3) (f3 _) (Dm rfl ha (ihe S' he))),step⟩
theorem abT(S:Stat Φ CX k c E B X){elt:Ex}{t1 t2 t3:Tg}{i1 i2 i3:It'}{N:List String}{cap:List (Option Nat)}
  (ihe:∀{c':CT}{X':Cx},Stat Φ CX k c' noE B X'->OkE Φ c' noE B X' elt) (ih1:∀{tg' iter:Expr},bF c i1 tg' iter=true->PI X tg' iter (tI X.K B (wpI Φ i1 E)))
  (ih2:∀{c':CT}{X':Cx},Stat Φ CX k c' noE B X'->∀{tg' iter:Expr},bF c' i2 tg' iter=true->PI X' tg' iter (tI X'.K B (wpI Φ i2 noE)))
  (ih3:∀{c':CT}{X':Cx},Stat Φ CX k c' noE B X'->∀{tg' iter:Expr},bF c' i3 tg' iter=true->PI X' tg' iter (tI X'.K B (wpI Φ i3 noE))) {e:Expr} (h:aj c (.cm3 elt t1 i1 t2 i2 t3 i3 N cap) e=true):
  PE X e (tE X.K B (wpE Φ (.cm3 elt t1 i1 t2 i2 t3 i3 N cap) E)):=nomatch (show false=true from h)
theorem aZ{x:Ex}(ih:OkE Φ c E B X x)(hn:∀l os rs pos,aj c x (.Compare l os rs pos)=true->False){e:Expr}(h:bA c (.val x) e=true):PT X e (tB' X.K B (wpT Φ (.val x) E)):=by
 have h:((iw e||kZ e)&&aj c x e&&Fl x)=true:=h;simp only[ae,cK]at h;obtain ⟨⟨h1,h2⟩,h3⟩:=h;rcases h1 with h1 |h1
 ·exact aby ih h1 h2
 ·obtain ⟨⟨t,ht⟩,_⟩:=cp.mp h1;rw[ht]at h2;exact (hn _ _ _ _ h2).elim
end
mutual
theorem aA{Φ:aa}{CX:CXT}{k:Nat}{B:Bs}:∀(x:Ex){c:CT}{E:EK}{X:Cx},Stat Φ CX k c E B X->OkE Φ c E B X x
 |.var i,c,E,X,S=>by intro h;exact aa1 S h
 |.cst d,c,E,X,S=>by intro h;exact aa2 S h
 |.glb x d,c,E,X,S=>by intro h;exact aa3 S h
 |.bin op fz a b,c,E,X,S=>by intro h;exact aa4 S (aA a S) (aA b S) h
 |.neg a,c,E,X,S=>by intro h;exact aa5 S (aA a S) h
 |.cmp op a b,c,E,X,S=>by intro h;exact (GK S (aA a S) (aA b S) h).1
 |.chn op op' a b d,c,E,X,S=>by intro h;exact (GP S (aA a S) (aA b S) (aA d S) h).1
 |.not a,c,E,X,S=>by intro h;exact aa6 S (aA a S) h
 |.boo isAnd e es,c,E,X,S=>by intro h;exact abw (aA e S) (d7 es S) h
 |.ife t a b,c,E,X,S=>by intro h;exact abx (iD t S) (aA a S) (aA b S) h
 |.tup es,c,E,X,S=>by intro h;exact aa7 S (EachE.oks (d7 es S)) h
 |.lst fz es,c,E,X,S=>by intro h;exact aa8 S (EachE.oks (d7 es S)) h
 |.idx a i,c,E,X,S=>by intro h;exact aa9 S (aA a S) (aA i S) h
 |.slc fz a lo hi,c,E,X,S=>by intro h;exact aba S (aA a S) (Hk lo S) (Hk hi S) h
 |.rvs fz a s,c,E,X,S=>by intro h;exact abb S (aA a S) (aA s S) h
 |.call f es,c,E,X,S=>by intro h;exact abe S (EachE.oks (d7 es S)) h
 |.bcl f es,c,E,X,S=>by intro h;exact abf S (EachE.oks (d7 es S)) h
 |.lcl fz f es,c,E,X,S=>by intro h;exact abg S (EachE.oks (d7 es S)) h
 |.isi a t,c,E,X,S=>by intro h;exact abk S (aA a S) h
 |.isx a C xs,c,E,X,S=>by intro h;exact abl S (aA a S) h
 |.fst es,c,E,X,S=>by intro h;exact abv S (d7 es S) h
 |.rgl fz a,c,E,X,S=>by intro h;exact abh S (aA a S) h
 |.rgt a,c,E,X,S=>by intro h;exact abi S (aA a S) h
 |.fld C f o,c,E,X,S=>by intro h;exact abn S (aA o S) h
 |.mcl f C m o es,c,E,X,S=>by intro h;exact abq S (aA o S) (EachE.oks (d7 es S)) h
 |.mko C es,c,E,X,S=>by intro h;exact abr S (EachE.oks (d7 es S)) h
 |.pp0 o,c,E,X,S=>by intro h;exact abt S (aA o S) h
 |.rpl f a b ix,c,E,X,S=>by intro h;exact abm S (aA a S) (aA b S) (aA ix S) h
 |.mth m o es,c,E,X,S=>by intro h;exact abu S (aA o S) (EachE.oks (d7 es S)) h
 |.comp fz elt tg it cond N cap,c,E,X,S=>by intro h;exact abR S (λS'=>aA elt S') (λS'=>iD cond S') (jB it S) h
 |.cm3 elt t1 i1 t2 i2 t3 i3 N cap,c,E,X,S=>by intro h;exact abT S (λS'=>aA elt S') (jB i1 S) (λS'=>jB i2 S') (λS'=>jB i3 S') h
 |.frz a,c,E,X,S=>by intro h;exact abd S (aA a S) h
theorem d7{Φ:aa}{CX:CXT}{k:Nat}{B:Bs}:∀(x:Exs){c:CT}{E:EK}{X:Cx},Stat Φ CX k c E B X->EachE Φ c E B X x
 |.nil,_,_,_,_=>trivial
 |.cons e es,c,E,X,S=>⟨aA e S,d7 es S⟩
theorem iD{Φ:aa}{CX:CXT}{k:Nat}{B:Bs}:∀(x:Tx){c:CT}{E:EK}{X:Cx},Stat Φ CX k c E B X->OkT Φ c E B X x
 |.not t,c,E,X,S=>by intro h;exact abz (iD t S) h
 |.boo isAnd t ts,c,E,X,S=>by intro h;exact abA (iD t S) (Hj ts S) h
 |.yes,c,E,X,S=>by intro h;exact nomatch (show false=true from h)
 |.val (.cmp op a b),c,E,X,S=>by
  intro h;have h:((iw _||kZ _)&&aj c (.cmp op a b) _&&true)=true:=h;simp only[ae]at h;exact (GK S (aA a S) (aA b S) h.1.2).2
 |.val (.chn op op' a b d),c,E,X,S=>by
  intro h;have h:((iw _||kZ _)&&aj c (.chn op op' a b d) _&&true)=true:=h;simp only[ae]at h;exact (GP S (aA a S) (aA b S) (aA d S) h.1.2).2
 |.val (.frz a),c,E,X,S=>by
  intro h;have h:((iw _||kZ _)&&aj c (.frz a) _&&false)=true:=h;rw[Bool.and_false]at h;cases h
 |.val (.var i),c,E,X,S=>by intro h;exact aZ (aA (.var i) S) (λ_ _ _ _ h=>nomatch (show false=true from h)) h
 |.val (.cst d),c,E,X,S=>by intro h;exact aZ (aA (.cst d) S) (λ_ _ _ _ h=>nomatch (show false=true from h)) h
 |.val (.glb x d),c,E,X,S=>by intro h;exact aZ (aA (.glb x d) S) (λ_ _ _ _ h=>nomatch (show false=true from h)) h
 |.val (.bin op fz a b),c,E,X,S=>by intro h;exact aZ (aA (.bin op fz a b) S) (λ_ _ _ _ h=>nomatch (show false=true from h)) h
 |.val (.neg a),c,E,X,S=>by intro h;exact aZ (aA (.neg a) S) (λ_ _ _ _ h=>nomatch (show false=true from h)) h
 |.val (.not a),c,E,X,S=>by intro h;exact aZ (aA (.not a) S) (λ_ _ _ _ h=>nomatch (show false=true from h)) h
 |.val (.boo isAnd e es),c,E,X,S=>by intro h;exact aZ (aA (.boo isAnd e es) S) (λ_ _ _ _ h=>nomatch (show false=true from h)) h
 |.val (.ife t a b),c,E,X,S=>by intro h;exact aZ (aA (.ife t a b) S) (λ_ _ _ _ h=>nomatch (show false=true from h)) h
 |.val (.tup es),c,E,X,S=>by intro h;exact aZ (aA (.tup es) S) (λ_ _ _ _ h=>nomatch (show false=true from h)) h
 |.val (.lst fz es),c,E,X,S=>by intro h;exact aZ (aA (.lst fz es) S) (λ_ _ _ _ h=>nomatch (show false=true from h)) h
 |.val (.idx a i),c,E,X,S=>by intro h;exact aZ (aA (.idx a i) S) (λ_ _ _ _ h=>nomatch (show false=true from h)) h
 |.val (.slc fz a lo hi),c,E,X,S=>by intro h;exact aZ (aA (.slc fz a lo hi) S) (λ_ _ _ _ h=>nomatch (show false=true from h)) h
 |.val (.rvs fz a s),c,E,X,S=>by intro h;exact aZ (aA (.rvs fz a s) S) (λ_ _ _ _ h=>nomatch (show false=true from h)) h
 |.val (.call f es),c,E,X,S=>by intro h;exact aZ (aA (.call f es) S) (λ_ _ _ _ h=>nomatch (show false=true from h)) h
 |.val (.bcl f es),c,E,X,S=>by intro h;exact aZ (aA (.bcl f es) S) (λ_ _ _ _ h=>nomatch (show false=true from h)) h
 |.val (.lcl fz f es),c,E,X,S=>by intro h;exact aZ (aA (.lcl fz f es) S) (λ_ _ _ _ h=>nomatch (show false=true from h)) h
 |.val (.isx a C xs),c,E,X,S=>by intro h;exact aZ (aA (.isx a C xs) S) (λ_ _ _ _ h=>nomatch (show false=true from h)) h
 |.val (.rgl fz a),c,E,X,S=>by intro h;exact aZ (aA (.rgl fz a) S) (λ_ _ _ _ h=>nomatch (show false=true from h)) h
 |.val (.rpl f a b ix),c,E,X,S=>by intro h;exact aZ (aA (.rpl f a b ix) S) (λ_ _ _ _ h=>nomatch (show false=true from h)) h
 |.val (.fld C f o),c,E,X,S=>by intro h;exact aZ (aA (.fld C f o) S) (λ_ _ _ _ h=>nomatch (show false=true from h)) h
 |.val (.mcl f C m o es),c,E,X,S=>by intro h;exact aZ (aA (.mcl f C m o es) S) (λ_ _ _ _ h=>nomatch (show false=true from h)) h
 |.val (.mko C es),c,E,X,S=>by intro h;exact aZ (aA (.mko C es) S) (λ_ _ _ _ h=>nomatch (show false=true from h)) h
 |.val (.pp0 o),c,E,X,S=>by intro h;exact aZ (aA (.pp0 o) S) (λ_ _ _ _ h=>nomatch (show false=true from h)) h
 |.val (.rgt a),c,E,X,S=>by intro h;exact aZ (aA (.rgt a) S) (λ_ _ _ _ h=>nomatch (show false=true from h)) h
 |.val (.fst es),c,E,X,S=>by intro h;exact aZ (aA (.fst es) S) (λ_ _ _ _ h=>nomatch (show false=true from h)) h
 |.val (.isi a t),c,E,X,S=>by intro h;exact aZ (aA (.isi a t) S) (λ_ _ _ _ h=>nomatch (show false=true from h)) h
 |.val (.mth m o es),c,E,X,S=>by intro h;exact aZ (aA (.mth m o es) S) (λ_ _ _ _ h=>nomatch (show false=true from h)) h
 |.val (.comp fz elt tg it cond N cap),c,E,X,S=>by intro h;exact aZ (aA (.comp fz elt tg it cond N cap) S) (λ_ _ _ _ h=>nomatch (show false=true from h)) h
 |.val (.cm3 elt t1 i1 t2 i2 t3 i3 N cap),c,E,X,S=>by intro h;exact aZ (aA (.cm3 elt t1 i1 t2 i2 t3 i3 N cap) S) (λ_ _ _ _ h=>nomatch (show false=true from h)) h
theorem Hj{Φ:aa}{CX:CXT}{k:Nat}{B:Bs}:∀(x:Txs){c:CT}{E:EK}{X:Cx},Stat Φ CX k c E B X->uc Φ c E B X x
 |.nil,_,_,_,_=>trivial
 |.cons e es,c,E,X,S=>⟨iD e S,Hj es S⟩
theorem Hk{Φ:aa}{CX:CXT}{k:Nat}{B:Bs}:∀(x:Ox){c:CT}{E:EK}{X:Cx},Stat Φ CX k c E B X->∀y,x=.ob y->OkE Φ c E B X y
 |.no,c,E,X,S,y,e=>by cases e
 |.ob z,c,E,X,S,y,e=>by injection e with e;subst e;exact aA z S
theorem jB{Φ:aa}{CX:CXT}{k:Nat}{B:Bs}:∀(x:It'){c:CT}{E:EK}{X:Cx},Stat Φ CX k c E B X->∀{tg e:Expr},bF c x tg e=true->PI X tg e (tI X.K B (wpI Φ x E))
 |.seq y,c,E,X,S,tg,e,h=>abJ (aA y S) (show aj c y e=true from h)
 |.rng a,c,E,X,S,tg,e,h=>abK S (aA a S) h
 |.rng2 a b,c,E,X,S,tg,e,h=>abN S (aA a S) (aA b S) h
 |.rev a,c,E,X,S,tg,e,h=>abL S (aA a S) h
 |.dwn a b d,c,E,X,S,tg,e,h=>abM S (aA a S) (aA b S) (aA d S) h
 |.enm a,c,E,X,S,tg,e,h=>abO S (aA a S) h
 |.zip a b,c,E,X,S,tg,e,h=>abP S (aA a S) (aA b S) h
end
noncomputable def EnD(K:PF)(H:Hp)(F:FZ)(D:Ends):En where
 nx:=λρ G'=>∀H' F' σ',Ext H F H' F'->EnvR K H' F' ρ σ'->R K H' F' G'->D.nx σ' H'
 rt:=PV K H F D.rt
 bk:=λρ G'=>∀H' F' σ',Ext H F H' F'->EnvR K H' F' ρ σ'->R K H' F' G'->D.bk σ' H'
 ct:=λρ G'=>∀H' F' σ',Ext H F H' F'->EnvR K H' F' ρ σ'->R K H' F' G'->D.ct σ' H'
theorem EnD.later{K:PF}{H H1:Hp}{F F1:FZ}{D:Ends}(x:Ext H F H1 F1):(EnD K H F D).Le (EnD K H1 F1 D):=
 ⟨λ_ _ h H' F' σ' x1=>h H' F' σ' (x.trans x1),λ_ _ h=>PV.later h x,λ_ _ h H' F' σ' x1=>h H' F' σ' (x.trans x1),λ_ _ h H' F' σ' x1=>h H' F' σ' (x.trans x1)⟩
noncomputable def tS(K:PF)(B:Bs)(w:ak->DH->En->Prop):TS:=λD σ H=>∃ρ F G,Ext B.H B.F H F/\EnvR K H F ρ σ/\R K H F G/\w ρ G (EnD K H F D)
theorem psI{X:Cx}{st:Stmt}{t t':TS}(h:PS X st t)(i:∀D σ H,t' D σ H->t D σ H):PS X st t':=λpins s σ H D I q=>h pins s σ H D I (i D σ H q)
theorem Hl{X:Cx}{st:List Stmt}{t t':TS}(h:PSs X st t)(i:∀D σ H,t' D σ H->t D σ H):PSs X st t':=λpins s σ H D I q=>h pins s σ H D I (i D σ H q)
theorem uo{e:Expr}(h:cP e=false)(t:Option Expr)(n:Nat)(env:Env):swapsWith e t n env=pure false:=by cases e <;> first |rfl |exact nomatch (show true=false from h)
theorem Hm{e:Expr}(h:cP e=false)(t:Expr)(n:Nat)(env:Env):swapsWithSole [t] e n env=pure false:=uo h _ _ _
section
variable {Φ:aa} {CX:CXT} {k:Nat} {c:CT} {E:EK} {B:Bs} {X:Cx}
noncomputable abbrev OkS(Φ:aa)(c:CT)(E:EK)(B:Bs)(X:Cx)(x:Sx):Prop:=∀{st:Stmt},aX c x st=true->PS X st (tS X.K B (wpS Φ x E))
noncomputable abbrev jC(Φ:aa)(c:CT)(E:EK)(B:Bs)(X:Cx)(x:Sxs):Prop:=∀{st:List Stmt},aD c x st=true->PSs X st (tS X.K B (au Φ x E))
theorem abU(S:Stat Φ CX k c E B X){x:Ex}{st:Stmt}(h:aX c (.exp x) st=true):PS X st (tS X.K B (wpS Φ (.exp x) E)):=by
 replace h:=aaM h;obtain ⟨_,_,rfl,h⟩:=h
 ·rw[ae]at h;refine psI (Vd (aA x S h.2) (uo (by simpa using h.1) _ _ _)) λD σ H hq=>el hq λρ F G e0 he r hw=>?_;rw[rP]at hw;exact aN e0 he r hw λd G1 H1 F1 v q e1 x1 he1 r1 rv=>q _ _ _ x1 he1 r1
theorem abV(S:Stat Φ CX k c E B X){i:Nat}{x:Ex}{st:Stmt}(h:aX c (.asg (.nm i) x) st=true):PS X st (tS X.K B (wpS Φ (.asg (.nm i) x) E)):=by
 replace h:=GC h;obtain ⟨tg,e,pos,rfl,h⟩:=h
 ·simp only[ae]at h;obtain ⟨⟨h1,h2⟩,h3⟩:=h;have h3:(!cP e||Fp x)=true:=h3;replace h1:=xK h1;obtain ⟨y,py,rfl,h1⟩:=h1
  ·rw[ae,aE]at h1;obtain ⟨l,f⟩:=S.sto y h1.2;have hi:X.N[i]?=some y:=by rw[S.N];exact h1.1
   have go:∀(D:Ends)(σ:L2.St)(H:Hp),tS X.K B (wpS Φ (.asg (.nm i) x) E) D σ H->p7 (tE X.K B (wpE Φ x E)) (pZ i) D σ H:=λD σ H hq=>el hq λρ F G e0 he r hw=>by
    rw[jo]at hw;refine aN e0 he r hw λd G1 H1 F1 v q e1 x1 he1 r1 rv=>?_;unfold aO at q;exact q _ _ _ x1 (he1.set rv i) r1
   cases hc:cP e with
   |false=>exact psI (Ay S.nd hi l (aA x S h2) (uo hc _ _ _) f) go
   |true=>
    rw[hc,Bool.not_true,Bool.false_or]at h3;cases x with
    |comp fz elt tg it cond N cap=>
     obtain ⟨elt',tg',iter,ifs,scope,pos',rfl,C⟩:=Hg h2;obtain ⟨s1,s2,s3,s4⟩:=Hf S C.sc;have hb:∃b:Bool,swapsWith (.ListComp elt' [⟨tg',iter,ifs,0⟩] scope pos') (some (.Name y py)) pos.line X.env=pure b:=⟨_,rfl⟩;obtain ⟨b,hb⟩:=hb;cases b with
     |false=>exact psI (Ay S.nd hi l (aA _ S h2) hb f) go
     |true=>
      refine psI (Zb (lim:=true) (Dn _ _ _ _ _ _) S.nd hi l (N.map Str.ofString) cap S.calm (jB it S C.it) (um S.N C.cap) s1 s2 s3 s4 (xW C.it X.env) hb f) λD σ H hq=>el hq λρ F G e0 he r hw=>?_;rw[jo]at hw;rw[wM]at hw;refine Hc (fz:=fz) (Q:=λv H1=>D.nx (σ.set i (some v)) H1) S C.nd (λS'=>aA elt S') (λS'=>iD cond S') C.tg C.cd C.el e0 he r (eY it (λitems g G1 q=>?_) hw);refine sI (λd ρ' G' k1 k2 hk z=>cN (λρ1 z=>dh cond (λb G2 z=>by
       cases b with
       |true=>exact aC elt (λy G3 z=>hk _ _ _ z) z
       |false=>exact hk _ _ _ z) z) tg z) ?_ _ _ _ _ q
      ·intro ds G2 q;refine cW (λd G3 q=>?_) q;intro H1 F1 v x1 r1 rv;unfold aO at q;exact q _ _ _ x1 ((he.ext x1).set rv i) r1
    |cm3 _ _ _ _ _ _ _ _ _=>exact nomatch (show false=true from h2)
    |_=>cases h3
theorem abW(S:Stat Φ CX k c E B X){ts:Tgs}{x:Ex}{st:Stmt}(h:aX c (.asg (.tp ts) x) st=true):PS X st (tS X.K B (wpS Φ (.asg (.tp ts) x) E)):=by
 replace h:=GC h;obtain ⟨tg,e,pos,rfl,h⟩:=h
 ·rw[ae,ae]at h;have h34:(!Fq e&&!cP e)=true:=h.2;obtain ⟨h1,h2⟩:=h.1;rw[ae,fh,fh]at h34;obtain ⟨h3,h4⟩:=h34;have hg:=iC S (.tp ts) h1;replace h1:=xM h1;obtain ⟨_,_,_,rfl,h1⟩:=h1
  ·refine psI (Ax (aA x S h2) hg (Hm h4 _ _ _) ?_ rfl) λD σ H hq=>el hq λρ F G e0 he r hw=>?_
   ·cases e <;> first |rfl |exact nomatch (show true=false from h3)
   ·rw[jo]at hw;refine aN e0 he r hw λd G1 H1 F1 v q e1 x1 he1 r1 rv=>?_;exact ⟨ρ,F1,G1,d,e1,he1,r1,rv,cN (λρ' z σ' hσ=>z H1 F1 σ' x1 hσ r1) (.tp ts) q⟩
theorem abX(S:Stat Φ CX k c E B X){o i x:Ex}{st:Stmt}(h:aX c (.set o i x) st=true):PS X st (tS X.K B (wpS Φ (.set o i x) E)):=by
 replace h:=aaN h;obtain ⟨o',i',tpos,e,pos,rfl,h⟩:=h
 ·simp only[ae,fh]at h;obtain ⟨⟨⟨h1,h2⟩,h3⟩,h4⟩:=h;have hi:=bL i h2;refine psI (Ax (aA x S h3) (Vt (aA o S h1) (aA i S h2) aan ?_) (Hm h4 _ _ _) ?_ rfl) λD σ H hq=>el hq λρ F G e0 he r hw=>?_
  ·intro v;cases i' <;> first |rfl |exact nomatch (show false=true from hi)
  ·cases e <;> rfl
  ·rw[rQ]at hw;refine aN e0 he r hw λd G1 H1 F1 v q e1 x1 he1 r1 rv=>?_;refine aN e1 he1 r1 q λa G2 H2 F2 w q e2 x2 he2 r2 rw'=>?_;refine aN e2 he2 r2 q λy G3 H3 F3 u q e3 x3 he3 r3 ru=>?_;refine ⟨F3,G3,a,y,d,r3,rw'.ext x3,ru,rv.ext (x2.trans x3),wN (λG4 q=>?_) q⟩;intro H4 F4 x4 r4;exact q _ _ _ (x1.trans (x2.trans (x3.trans x4))) (he3.ext x4) r4
theorem abY(S:Stat Φ CX k c E B X){i:Nat}{op:Operator}{x:Ex}{st:Stmt}(h:aX c (.aug i op x) st=true):PS X st (tS X.K B (wpS Φ (.aug i op x) E)):=by
 replace h:=aaO h;obtain ⟨y,py,o,e,pos,rfl,h⟩:=h
 ·simp only[ae,aE]at h;obtain ⟨⟨⟨⟨rfl,h1⟩,h2⟩,h3⟩,h4⟩:=h;obtain ⟨l,f⟩:=S.sto y h2;refine psI (Vv S.nd (by rw[S.N];exact h1) l (aA x S h4) (aao o) f) λD σ H hq=>el hq λρ F G e0 he r hw=>?_;rw[rR]at hw;split at hw
  ·rename_i a ha;obtain ⟨v,e1,rv⟩:=he.get ha;refine ⟨v,e1,aN e0 he r hw λb G1 H1 F1 u q e1 x1 he1 r1 ru=>?_⟩;refine ⟨F1,G1,a,b,r1,rv.ext x1,ru,wO (λd q=>?_) q⟩;intro H2 F2 w x2 r2 rw';exact q _ _ _ (x1.trans x2) ((he1.ext x2).set rw' i) r2
  ·exact hw.elim
theorem abZ(S:Stat Φ CX k c E B X){o i:Ex}{op:Operator}{x:Ex}{st:Stmt}(h:aX c (.augs o i op x) st=true):PS X st (tS X.K B (wpS Φ (.augs o i op x) E)):=nomatch (show false=true from h)
theorem ab0(S:Stat Φ CX k c E B X){x:Ex}{st:Stmt}(h:aX c (.ret x) st=true):PS X st (tS X.K B (wpS Φ (.ret x) E)):=by
 replace h:=aaQ h;obtain ⟨_,_,rfl,h⟩:=h
 ·refine psI (Ve (aA x S h)) λD σ H hq=>el hq λρ F G e0 he r hw=>?_;rw[rT]at hw;exact ⟨ρ,F,G,e0,he,r,hw⟩
theorem ab1{st:Stmt}(h:aX c .rtn st=true):PS X st (tS X.K B (wpS Φ .rtn E)):=by
 replace h:=aaR h;obtain ⟨_,rfl,h⟩:=h
 ·refine psI Vg λD σ H hq=>el hq λρ F G e0 he r hw=>?_;rw[rW]at hw;exact hw.now r rfl
theorem ab2(S:Stat Φ CX k c E B X){t:Tx}{a b:Sxs}(iha:jC Φ c E B X a)(ihb:jC Φ c E B X b){st:Stmt}(h:aX c (.ite t a b) st=true):PS X st (tS X.K B (wpS Φ (.ite t a b) E)):=by
 replace h:=aaS h;obtain ⟨_,_,_,_,rfl,h⟩:=h
 ·simp only[ae]at h;obtain ⟨⟨h1,h2⟩,h3⟩:=h;refine psI (Vi (iD t S h1) (iha h2) (ihb h3)) λD σ H hq=>el hq λρ F G e0 he r hw=>?_;rw[rY]at hw;refine jx e0 he r hw λb' G1 H1 F1 q e1 x1 he1 r1=>?_;cases b' with
  |true=>
   rw[if_pos rfl];exact ⟨ρ,F1,G1,e1,he1,r1,dW a (EnD.later x1) q⟩
  |false=>
   rw[if_neg b6];exact ⟨ρ,F1,G1,e1,he1,r1,dW b (EnD.later x1) q⟩
theorem ab3(S:Stat Φ CX k c E B X){t:Tg}{it:It'}{b:Sxs}(ihb:jC Φ c E B X b){st:Stmt}(h:aX c (.for_ t it b) st=true):PS X st (tS X.K B (wpS Φ (.for_ t it b) E)):=by
 replace h:=aaT h;obtain ⟨tg,iter,body,pos,rfl,h⟩:=h
 ·simp only[ae]at h;obtain ⟨⟨h1,h2⟩,h3⟩:=h;refine psI (VD S.own S.calm (jB it S h2) (iC S t h1) (ihb h3) (xW h2 X.env)) λD σ H hq=>el hq λρ F G e0 he r hw=>?_;rw[DG]at hw;refine ⟨ρ,F,G,e0,he,r,eY it (λitems g G1 q H1 F1 J x1 r1 W=>?_) hw⟩;let step:RF.D->ak->DH->(ak->DH->Prop)->Prop:=λd ρ' G' k=>aO t d ρ' G' λρ1=>au Φ b E ρ1 G' { EnD X.K H F D with nx:=k,ct:=k,bk:=(EnD X.K H F D).nx }
  let P:Nat->L2.St->Hp->Prop:=λi σ' H'=>∃ρ' F' G',Ext B.H B.F H' F'/\Ext H1 F1 H' F'/\EnvR X.K H' F' ρ' σ'/\R X.K H' F' G'/\forLoop step g (items.drop i) ρ' G' (EnD X.K H F D).nx
  refine ⟨λi m σ' H'=>m=items.length - i/\i<=items.length/\P i σ' H',⟨items.length,by simp,eI _,ρ,F1,G1,e0.trans x1,Ext.refl _ _,he.ext x1,r1,q⟩,?_⟩;rintro i m σ' H' ⟨rfl,hle,ρ',F',G',eB,e1,he',r',hl⟩;by_cases hlt:i < items.length
  ·have hd:items.drop i=items[i]::items.drop (i+1):=bp hlt;rw[hd]at hl;obtain ⟨hh,hl⟩:=hl;refine .inr ⟨W.go H' F' G' i e1 r' hh hlt,P (i+1),λσ2 H2 p=>⟨items.length - (i+1),by omega,rfl,hlt,p⟩,λx H2 hy=>?_⟩;obtain ⟨xy,ry,rx⟩:=W.yld H' F' i x H2 items[i] G' e1 r' hh (by simp[hlt]) hy;refine ⟨ρ',F',G',items[i],eB.trans xy,he'.ext xy,ry,rx,cN (λρ1 z σ1 hσ1=>?_) t hl⟩;refine ⟨ρ1,F',G',eB.trans xy,hσ1,ry,dW b (D:={ EnD X.K H F D with nx:=λρ' G'=>forLoop step g (items.drop (i+1)) ρ' G' (EnD X.K H F D).nx,ct:=λρ' G'=>forLoop step g (items.drop (i+1)) ρ' G' (EnD X.K H F D).nx,bk:=(EnD X.K H F D).nx }) ⟨λρ2 G2 z H3 F3 σ3 x3 he3 r3=>?_,λd G2 z=>PV.later z (x1.trans (e1.trans xy)),λρ2 G2 z H3 F3 σ3 x3=>z H3 F3 σ3 (x1.trans (e1.trans (xy.trans x3))),λρ2 G2 z H3 F3 σ3 x3 he3 r3=>?_⟩ z⟩
   ·exact ⟨ρ2,F3,G2,eB.trans (xy.trans x3),e1.trans (xy.trans x3),he3,r3,z⟩
   ·exact ⟨ρ2,F3,G2,eB.trans (xy.trans x3),e1.trans (xy.trans x3),he3,r3,z⟩
  ·have hi':i=items.length:=by omega
   subst hi';rw[eg]at hl;exact .inl ⟨W.stop H' F' G' e1 r' hl.1,hl.2 _ _ _ (x1.trans e1) he' r'⟩
theorem ab4(S:Stat Φ CX k c E B X){t:Tx}{b:Sxs}(ihb:jC Φ c E B X b){st:Stmt}(h:aX c (.whl t b) st=true):PS X st (tS X.K B (wpS Φ (.whl t b) E)):=nomatch (show false=true from h)
noncomputable def tJ(K:PF)(B:Bs)(w:ak->DH->(DH->Prop)->Prop):TJ:=λσ H Q=>∃ρ F G,Ext B.H B.F H F/\EnvR K H F ρ σ/\R K H F G/\w ρ G λG'=>∀H' F',Ext H F H' F'->R K H' F' G'->Q H'
theorem pjI{X:Cx}{ps:List Expr}{t t':TJ}{n:Nat}(h:PJ X ps t n)(i:∀σ H Q,t' σ H Q->t σ H Q):PJ X ps t' n:=λpins s σ H Q out I hl q=>h pins s σ H Q out I hl (i σ H Q q)
theorem xX{E:EK}{ρ:ak}:∀(es:Exs){G:DH}{k k':DH->Prop},(∀G',k G'->k' G')->wpM Φ es E ρ G k->wpM Φ es E ρ G k'
 |.nil,G,k,k',h,q=>h G q
 |.cons e es,G,k,k',h,q=>by
  rw[sy]at q ⊢;exact aC e (λd G1 q=>⟨q.1,xX es h q.2⟩) q
theorem Hn{p:Expr}(h:xH p=true):∃y k pos,p=.Constant (.str y) k pos/\y.length<=1000:=by obtain ⟨t,ht,h⟩:=aL h;obtain ⟨x,hx,h⟩:=aL h;exact ⟨x,_,_,by rw[ht,hx],dc h⟩
theorem xY(S:Stat Φ CX k c E B X):∀(ps:List Expr){es:Exs},lq c es ps=true->∃n,n<=1000 * ps.length/\PJ X ps (tJ X.K B (wpM Φ es E)) n
 |[],es,h=>by
  cases es with
  |nil=>exact ⟨0,eI _,pjI Yv λσ H Q hq=>el hq λρ F G e0 he r hw=>hw H F (Ext.refl _ _) r⟩
  |cons _ _=>exact nomatch (show false=true from h)
 |p::ps,es,h=>by
  unfold lq at h;split at h
  ·rename_i hm;obtain ⟨y,kk,pos,rfl,hy⟩:=Hn hm;obtain ⟨n,hn,hp⟩:=xY S ps h;exact ⟨y.length+n,by rw[c5];omega,Yw hp⟩
  ·split at h
   ·rename_i x rr;rw[ae]at h;obtain ⟨t,ht,h1⟩:=aL h.1;rw[ae,ae,ft,ci]at h1;obtain ⟨n,hn,hp⟩:=xY S ps h.2;refine ⟨3+n,by rw[c5];omega,?_⟩;rw[ht,h1.1.1,h1.1.2];refine pjI (Yx (aA x S h1.2) hp) λσ H Q hq=>el hq λρ F G e0 he r hw=>?_;rw[sy]at hw;refine aN e0 he r hw λd G1 H1 F1 v q e1 x1 he1 r1 rv=>?_;obtain ⟨q1,q2⟩:=q;unfold v7 at q1;split at q1
    ·rename_i i;rw[ae,ci,ci]at q1;have e2:v=.int i:=rv;refine ⟨⟨i.toNat,by rw[e2];congr 1;omega,by omega⟩,ρ,F1,G1,e1,he1,r1,xX rr (λG' z H' F' x' r'=>z H' F' (x1.trans x') r') q2⟩
    ·cases q1
   ·cases h
theorem ab5(S:Stat Φ CX k c E B X){C:String}{es:Exs}{st:Stmt}(h:aX c (.rse C es) st=true):PS X st (tS X.K B (wpS Φ (.rse C es) E)):=by
 replace h:=aaP h;obtain ⟨x,np,m,cpos,pos,rfl,h⟩:=h;simp only[ae,aE]at h;obtain ⟨⟨⟨e1,h1⟩,h2⟩,h3⟩:=h;subst e1;obtain ⟨g1,g2⟩:=dZ h1;obtain ⟨a,hm,hb,hn⟩:=S.xcl C h2;obtain ⟨EX,_,hth,hEX⟩:=S.exc;unfold tX at h3;rw[cK]at h3;rcases h3 with h3 |h3
 ·cases es with
  |cons _ _=>cases h3
  |nil=>
   obtain ⟨y,kk,p,rfl,hy⟩:=Hn h3;refine psI (Df S.calm (S.glo _ g1) hm hb hth (iY Aq j4 rfl) (cA g2) rfl rfl) λD σ H hq=>el hq λρ F G e0 he r hw=>?_;rw[kj,wC]at hw;exact ⟨show 1<=sizeLine by decide,hEX ⟨C,.non⟩ G H F hw e0 r (.ref a) none ⟨a,rfl,hn,trivial⟩⟩
 ·obtain ⟨t,ht,h3⟩:=aL h3;rw[ae,ae,ci,ci]at h3;obtain ⟨n,hn',hp⟩:=xY S t.1 h3.2;rcases hps:t.1 with _ |⟨v1,_ |⟨v2,r⟩⟩
  ·rw[hps]at h3;simp at h3
  ·rw[hps]at h3;simp at h3
  ·rw[hps]at hp;subst ht;rw[hps]at *;refine psI (Df S.calm (S.glo _ g1) hm hb hth (iY (Yy hp (by omega)) j4 rfl) (cA g2) rfl rfl) λD σ H hq=>el hq λρ F G e0 he r hw=>?_;rw[kj]at hw;refine ⟨ρ,F,G,e0,he,r,xX es (λG1 q H1 F1 x1 r1 y=>⟨show 1<=sizeLine by decide,?_⟩) hw⟩;exact hEX ⟨C,.non⟩ G1 H1 F1 q (e0.trans x1) r1 (.ref a) none ⟨a,rfl,hn,trivial⟩
theorem ab6(S:Stat Φ CX k c E B X){f:String}{es:Exs}{C:String}{i:Nat}{b:Bool}{st:Stmt}(h:aX c (.tryc f es C i b) st=true):PS X st (tS X.K B (wpS Φ (.tryc f es C i b) E)):=nomatch (show false=true from h)
theorem ab7(S:Stat Φ CX k c E B X){b:Tb}{C:String}{hd:Hd}{xs:List String}{st:Stmt}(h:aX c (.tryx b C hd xs) st=true):PS X st (tS X.K B (wpS Φ (.tryx b C hd xs) E)):=nomatch (show false=true from h)
theorem ab8{st:List Stmt}(h:aD c .nil st=true):PSs X st (tS X.K B (au Φ .nil E)):=by
 unfold aD at h;cases st with
 |nil=>exact Hl U5 λD σ H hq=>el hq λρ F G e0 he r hw=>by rw[jm]at hw;exact hw _ _ _ (Ext.refl _ _) he r
 |cons _ _=>cases h
theorem ab9{x:Sx}{xs:Sxs}(ih:OkS Φ c E B X x)(ihs:jC Φ c E B X xs){st:List Stmt}(h:aD c (.cons x xs) st=true):PSs X st (tS X.K B (au Φ (.cons x xs) E)):=by
 unfold aD at h;split at h
 ·rw[ae]at h;refine Hl (Av (ih h.1) (ihs h.2)) λD σ H hq=>el hq λρ F G e0 he r hw=>?_;rw[jn]at hw;refine ⟨ρ,F,G,e0,he,r,wpS_mono x (D:={ EnD X.K H F D with nx:=λρ' G'=>au Φ xs E ρ' G' (EnD X.K H F D) }) ⟨λρ1 G1 q H1 F1 σ1 x1 he1 r1=>?_,λ_ _ z=>z,λ_ _ z=>z,λ_ _ z=>z⟩ hw⟩;exact ⟨ρ1,F1,G1,e0.trans x1,he1,r1,dW xs (EnD.later x1) q⟩
 ·cases h
end
mutual
theorem Ho{Φ:aa}{CX:CXT}{k:Nat}{B:Bs}{c:CT}{E:EK}{X:Cx}(S:Stat Φ CX k c E B X):∀(x:Sx),OkS Φ c E B X x
 |.exp e=>by intro h;exact abU S h
 |.asg (.nm i) e=>by intro h;exact abV S h
 |.asg (.tp ts) e=>by intro h;exact abW S h
 |.set o i e=>by intro h;exact abX S h
 |.aug i op e=>by intro h;exact abY S h
 |.augs o i op e=>by intro h;exact abZ S h
 |.ret e=>by intro h;exact ab0 S h
 |.rtn=>by intro h;exact ab1 h
 |.ite t a b=>by intro h;exact ab2 S (jD S a) (jD S b) h
 |.for_ t it b=>by intro h;exact ab3 S (jD S b) h
 |.whl t b=>by intro h;exact ab4 S (jD S b) h
 |.pas=>by
  intro h;obtain ⟨_,rfl,_⟩:=aaU h;exact psI U9 λD σ H hq=>el hq λρ F G e0 he r hw=>by rw[rZ]at hw;exact hw _ _ _ (Ext.refl _ _) he r
 |.brk=>by
  intro h;obtain ⟨_,rfl,_⟩:=aaV h;exact psI Va λD σ H hq=>el hq λρ F G e0 he r hw=>by rw[sr]at hw;exact hw _ _ _ (Ext.refl _ _) he r
 |.cnt=>by
  intro h;obtain ⟨_,rfl,_⟩:=aaW h;exact psI Vb λD σ H hq=>el hq λρ F G e0 he r hw=>by rw[su]at hw;exact hw _ _ _ (Ext.refl _ _) he r
 |.rse C es=>by intro h;exact ab5 S h
 |.tryc f es C i b=>by intro h;exact ab6 S h
 |.tryx b C h xs=>by intro hh;exact ab7 S hh
 |.nev=>by
  intro h;exact psI Vk λD σ H hq=>el hq λρ F G e0 he r hw=>by rw[sE]at hw;exact hw.elim
theorem jD{Φ:aa}{CX:CXT}{k:Nat}{B:Bs}{c:CT}{E:EK}{X:Cx}(S:Stat Φ CX k c E B X):∀(x:Sxs),jC Φ c E B X x
 |.nil=>by intro h;exact ab8 h
 |.cons s r=>by intro h;exact ab9 (Ho S s) (jD S r) h
end
end RF
namespace L2
open PySem PySem.Spec PyProof.Rows
theorem Fun.okX{P:Program}{w:World}{K:PF}{mg:Str->Option Value}{base:Heap}{CX:CXT}{x qual:Str}{st:Stmt}{f:Addr}{fd:FuncData}{N ps:List Str}{k:Nat}{sp:Sp}(F:Fun K x qual st f fd)(S:FnScope N ps (ao st))(len:∀vs H Q E,sp vs H Q E->vs.length=ps.length)
  (hbody:∀(cdv:Value)(A:Around)(outer:List Env)(s:Shared)(H:Hp)(vs:List V)(Q:VK)(E:XK),Room k (A.deeper (envOfC qual (ao st) s.heap.objs.size f cdv))->sp vs H Q E->
   ∃t,PSs (cV CX P w K mg base N qual (ao st) f cdv A outer s H E) (aG st) t/\t { nx:=λ_ H'=>Q .non H',rt:=Q } (start N vs) H):FnOk P w K mg base CX (k+1) f fd ps sp:=by
 obtain ⟨oc,od,kV,doc,pm,an,cdv,ct,osl,rfl,lk,hcd⟩:=F.ex;exact WN lk hcd S len λA outer s H vs Q E hr hsp=>hbody cdv A outer s H vs Q E hr hsp
theorem FnOk.cx{P:Program}{w:World}{K:PF}{mg:Str->Option Value}{base:Heap}{k:Nat}{CX:CXT}{f:Addr}{fd:FuncData}{ps:List Str}{sp:Sp}(F:FnOk P w K mg base CX0 k f fd ps sp):FnOk P w K mg base CX k f fd ps sp:=
 ⟨F.len,λA outer s H args us vs Q E hr he hb hv hs=>codeAny_mono (F.run A outer s H args us vs Q E hr he hb hv hs) λr s' hq=>by
  cases r with
  |error e=>exact False.elim hq
  |ok fl=>cases fl <;> exact hq⟩
end L2
namespace RF
open PySem PySem.Spec PyProof.Rows L2
noncomputable def fnB(N ps:List Str)(sc:Scope):Bool:=
 decide (sc.kind=.function)&&!sc.isCoroutine&&!sc.isGenerator&&dX N&&(N.take ps.length==ps)&&ps.all (λx=>sc.names.lookup x==some .local||sc.names.lookup x==some .cell)&&sc.names.all (λy=>y.2 != .free)
theorem xZ{N ps:List Str}{sc:Scope}(h:fnB N ps sc=true):FnScope N ps sc:=by unfold fnB at h;simp only[ae,fh,ci,aE,cf,cK,bne_iff_ne]at h;obtain ⟨⟨⟨⟨⟨⟨h1,h2⟩,h3⟩,h4⟩,h5⟩,h6⟩,h7⟩:=h;exact ⟨h1,h2,h3,xV h4,h5,h6,λy hy=>h7 y hy⟩
structure Bse(Φ:aa)(P:Program)(w:World)(K:PF)(mg:Str->Option Value)(base:Heap)(CX:CXT)(k:Nat)(fs:List (String×Nat))(bt:List String)(cn:List (String×D))(xs:List (String×Bool))(ot:OT):Prop where
 call:∀f n,(f,n)∈fs->∃fa fd ps,FnOk P w K mg base CX k fa fd ps (lift K n (Φ f))/\PySem.W.keepIn K (.ref fa)=true/\Binds K fd ps []/\mg (Str.ofString f)=some (.ref fa)
 blt:∀f,f∈bt->mg (Str.ofString f)=none
 con:∀x d,(x,d)∈cn->∃u v,mg (Str.ofString x)=some u/\RelV v u/\∀H F,Rep K H F d v
 xcl:∀C,xs.contains (C,true)=true->∃a,mg (Str.ofString C)=some (.ref a)/\gZ K a=true/\PySem.W.nsIn K mainGlobals (Str.ofString C)=some (some (.ref a))
 xis:∀C',xs.contains (C',false)=true->∃cv,CV K mg C' cv/\∀C,xs.contains (C,true)=true->XI K C C' cv
 mth:∀f C m n,(f,C,m,n)∈ot.ms->MthOk Φ P w K mg base CX k f C m n
 mko:∀C n,(C,n)∈ot.ks->MkoOk Φ P w K mg base CX k C n
 fld:∀C f,(C,f)∈ot.fl->xN K C f
noncomputable def aH(N:List Str)(sc:Scope)(fs:List (String×Nat))(bt:List String)(cn:List (String×D))(xs:List (String×Bool))(ot:OT):CT:={ N:=N,kd:=sc.names,fn:=true,fs:=fs,bt:=bt,cn:=cn,xs:=xs,ot:=ot }
section
variable {Φ:aa} {P:Program} {w:World} {K:PF} {mg:Str->Option Value} {base:Heap} {k:Nat} {fs:List (String×Nat)} {bt:List String} {cn:List (String×D)} {xs:List (String×Bool)} {ot:OT}
theorem Hq{N ps:List Str}{sc:Scope}{qual:Str}{f:Addr}{cdv:Value}{A:Around}{outer:List Env}{s:Shared}{H:Hp}{EX:XK}{B:Bs}(T:Bse Φ P w K mg base (CX1 P w) k fs bt cn xs ot)(hs:fnB N ps sc=true)
  (hr:Room k (A.deeper (envOfC qual sc s.heap.objs.size f cdv))):Stat Φ (CX1 P w) k (aH N sc fs bt cn xs ot) noE B (cV (CX1 P w) P w K mg base N qual sc f cdv A outer s H EX).nox where
 N:=rfl
 nd:=(xZ hs).nd
 calm:=rfl
 own:=PassesOwn.never
 kd:=rfl
 vis:=λx h=>by
  have h:iu (sc.names.lookup x)=true:=h;show sc.names.lookup x=_\/sc.names.lookup x=_\/sc.names.lookup x=_;unfold iu at h;split at h <;> first | (cases h;done) |simp_all
 cel:=λx h=>h
 glo:=λx h=>h
 sto:=λx h=>by
  have h:(sc.names.lookup x==some .local||(true&&sc.names.lookup x==some .cell))=true:=h;rw[Bool.true_and,cK,aE,aE]at h;exact ⟨h,.inl rfl⟩
 room:=hr
 call:=T.call
 blt:=T.blt
 con:=T.con
 exc:=⟨_,CP _,λ_ _ _ _ _ _ _ _ _ _ q=>q.elim,λ_ _ _ _ h=>h.elim⟩
 nox:=λY=>CP Y
 xcl:=T.xcl
 loc:=λx h=>h
 xis:=T.xis
 mth:=T.mth
 mko:=T.mko
 fld:=T.fld
 trc:=λ_=>⟨rfl,rfl,rfl⟩
theorem aca{N ps:List Str}{sc:Scope}{qual:Str}{f:Addr}{cdv:Value}{A:Around}{outer:List Env}{s:Shared}{H:Hp}{EX:XK}{B:Bs}{E:EK}(T:Bse Φ P w K mg base (CX1 P w) k fs bt cn xs ot)(hs:fnB N ps sc=true)
  (hr:Room k (A.deeper (envOfC qual sc s.heap.objs.size f cdv))) (hE:∀x G' H' F',E x G'->Ext B.H B.F H' F'->R K H' F' G'->XR K H' F' x EX):Stat Φ (CX1 P w) k (aH N sc fs bt cn xs ot) E B (cV (CX1 P w) P w K mg base N qual sc f cdv A outer s H EX):=
 have S:=Hq (EX:=EX) (B:=B) (qual:=qual) (f:=f) (cdv:=cdv) (A:=A) (outer:=outer) (s:=s) (H:=H) T hs hr
 ⟨S.N,S.nd,S.calm,PassesOwn.leaving,S.kd,S.vis,S.cel,S.glo,S.sto,S.room,S.call,S.blt,S.con,⟨EX,Yq rfl rfl λ_ _ h=>h,Yz rfl rfl λ_ _ h=>h,hE⟩,S.nox,S.xcl,S.loc,S.xis,S.mth,S.mko,S.fld,λ_=>⟨rfl,rfl,rfl⟩⟩
theorem acb{outer:List Env}{H:Hp}{s s':Shared}{e:Value}(h:CX1 P w outer H s (λ_ _ _=>False) e s'):False:=by obtain ⟨_,_,_,_,_,_,_,_,_,q⟩:=h;exact q
noncomputable def ends(Q:D->DH->Prop):En:={ nx:=λ_ G=>Q .non G,rt:=Q,bk:=λ_ _=>False,ct:=λ_ _=>False }
noncomputable def env0(ds:List D)(n:Nat):ak:=ds.map some++List.replicate n none
theorem jE{x qual:Str}{st:Stmt}{f:Addr}{fd:FuncData}(Fu:Fun K x qual st f fd)(T:Bse Φ P w K mg base (CX1 P w) k fs bt cn xs ot){N ps:List Str}{body:Sxs}(S:RF.Spec)(n m:Nat)(hs:fnB N ps (ao st)=true)
  (hc:aD (aH N (ao st) fs bt cn xs ot) body (aG st)=true) (hn:ps.length=n) (hm:N.length=n+m)
  (hw:∀ds G a,ds.length=n->S.pre ds G a->au Φ body noE (env0 ds m) G (ends (S.post a))):FnOk P w K mg base (CX1 P w) (k+1) f fd ps (lift K n S):=by
 refine Fu.okX (xZ hs) (λvs H Q E h=>by rw[hn];exact h.1) λcdv A outer s H vs Q EX hr hsp=>?_;obtain ⟨hl,F,G,ds,r,rs,a,h1,h2,h3⟩:=hsp;have St:Stat Φ (CX1 P w) k (aH N (ao st) fs bt cn xs ot) noE ⟨H,F⟩ (cV (CX1 P w) P w K mg base N qual (ao st) f cdv A outer s H EX).nox:=Hq T hs hr;refine ⟨_,(jD St body hc).nox,?_⟩;refine ⟨env0 ds m,F,G,Ext.refl _ _,?_,r,dW body (D:=ends (S.post a)) ⟨λρ G' q=>?_,λd G' q=>h2 d G' q,λ_ _ q=>False.elim q,λ_ _ q=>False.elim q⟩ (hw ds G a (by rw[rs.length];exact hl) h1)⟩
 ·unfold L2.start;rw[show N.length - vs.length=m by omega];exact EnvR.start m rs
 ·intro H' F' σ' x1 _ r1;exact h2 .non G' q H' F' .non x1 r1 rfl
end
noncomputable def bB(pre:List D->DH->Prop)(post:List D->DH->D->DH->Prop):RF.Spec where
 A:=List D×DH
 pre:=λds G a=>a=(ds,G)/\pre ds G
 post:=λa d G'=>post a.1 a.2 d G'
 exc:=λ_ _ _=>False
theorem bQ{pre:List D->DH->Prop}{post:List D->DH->D->DH->Prop}{ds:List D}{G:DH}{k:D->DH->Prop}{E:EK}(h:pre ds G)(hk:∀d G',post ds G d G'->k d G'):(bB pre post).t ds G k E:=
 ⟨(ds,G),⟨rfl,h⟩,hk,λ_ _ z=>z.elim⟩
theorem bW{Φ:aa}{body:Sxs}{m n:Nat}{pre:List D->DH->Prop}{post:List D->DH->D->DH->Prop}(h:∀ds G,pre ds G->au Φ body noE (env0 ds m) G (ends (post ds G))):
  ∀ds G a,ds.length=n->(bB pre post).pre ds G a->au Φ body noE (env0 ds m) G (ends ((bB pre post).post a)):=by
 rintro ds G a _ ⟨rfl,h1⟩;exact h ds G h1
noncomputable def aQ(f:List D->Option D):RF.Spec:=bB (λds _=>(f ds).isSome=true) (λds G d G'=>G'=G/\f ds=some d)
theorem d8{f:List D->Option D}{ds:List D}{d:D}{G:DH}{k:D->DH->Prop}{E:EK}(h:f ds=some d)(hk:k d G):(aQ f).t ds G k E:=
 bQ (by rw[h];rfl) λd' G' ⟨e1,e2⟩=>by rw[h]at e2;cases e2;rw[e1];exact hk
theorem jF{Φ:aa}{body:Sxs}{m n:Nat}{f:List D->Option D}(h:∀ds G d,f ds=some d->au Φ body noE (env0 ds m) G (ends λd' G'=>G'=G/\d'=d)):
  ∀ds G a,ds.length=n->(aQ f).pre ds G a->au Φ body noE (env0 ds m) G (ends ((aQ f).post a)):=by
 refine bW λds G hf=>?_;obtain ⟨d,e⟩:=cp.mp hf;refine dW body (D:=ends λd' G'=>G'=G/\d'=d) ⟨λρ G' q=>?_,λd' G' q=>?_,λ_ _ q=>q,λ_ _ q=>q⟩ (h ds G d e)
 ·exact ⟨q.1,by rw[e];exact eT some q.2.symm⟩
 ·exact ⟨q.1,by rw[e];exact eT some q.2.symm⟩
theorem acd{step:D->ak->DH->(ak->DH->Prop)->Prop}{g:Hld}{items:List D}{ρ:ak}{G:DH}{k:ak->DH->Prop}(P:Nat->ak->DH->Prop)(h0:P 0 ρ G)(hh:∀i ρ G,P i ρ G->held g G)
  (hs:∀i d ρ G,items[i]?=some d->P i ρ G->∀kk:ak->DH->Prop,(∀ρ' G',P (i+1) ρ' G'->kk ρ' G')->step d ρ G kk) (he:∀ρ G,P items.length ρ G->k ρ G):forLoop step g items ρ G k:=by
 have go:∀(l:List D)(i:Nat)(ρ:ak)(G:DH),items.drop i=l->i<=items.length->P i ρ G->forLoop step g l ρ G k:=by
  intro l;induction l with
  |nil=>
   intro i ρ G e hi p;have:i=items.length:=by have:=eT List.length e;rw[ce]at this;simp at this;omega
   subst this;exact ⟨hh _ _ _ p,he _ _ p⟩
  |cons d l ih=>
   intro i ρ G e hi p;have hl:i < items.length:=by
    by_cases h:i < items.length
    ·exact h
    ·rw[List.drop_eq_nil_of_le (by omega)]at e;cases e
   rw[bp hl]at e;injection e with e1 e2;refine ⟨hh _ _ _ p,hs i d ρ G (by rw[ba hl,e1]) p _ λρ' G' p'=>ih (i+1) ρ' G' e2 hl p'⟩
 exact go _ 0 ρ G (by simp) (eI _) h0
theorem Hr{step:D->ak->DH->(Option D->ak->DH->Prop)->Prop}{g:Hld}{items acc:List D}{ρ:ak}{G:DH}{k:List D->DH->Prop}(P:Nat->List D->ak->DH->Prop)(h0:P 0 acc ρ G)(hh:∀i acc ρ G,P i acc ρ G->held g G)
  (hl:acc.length+items.length<=sz)
  (hs:∀i d acc ρ G,items[i]?=some d->P i acc ρ G->∀kk:Option D->ak->DH->Prop,(∀o ρ' G',P (i+1) (acc++o.toList) ρ' G'->kk o ρ' G')->step d ρ G kk) (he:∀acc ρ G,P items.length acc ρ G->k acc G):compLoop step g items acc ρ G k:=by
 have go:∀(l:List D)(i:Nat)(acc:List D)(ρ:ak)(G:DH),items.drop i=l->i<=items.length->acc.length+l.length<=sz->P i acc ρ G->compLoop step g l acc ρ G k:=by
  intro l;induction l with
  |nil=>
   intro i acc ρ G e hi ha p;have:i=items.length:=by have:=eT List.length e;rw[ce]at this;simp at this;omega
   subst this;exact ⟨hh _ _ _ _ p,by simpa using ha,he _ _ _ p⟩
  |cons d l ih=>
   intro i acc ρ G e hi ha p;have hl:i < items.length:=by
    by_cases h:i < items.length
    ·exact h
    ·rw[List.drop_eq_nil_of_le (by omega)]at e;cases e
   rw[bp hl]at e;injection e with e1 e2;have ha':acc.length+(l.length+1)<=sz:=ha;refine ⟨hh _ _ _ _ p,by omega,hs i d acc ρ G (by rw[ba hl,e1]) p _ λo ρ' G' p'=>?_⟩;cases o with
   |some y=>exact ih (i+1) (acc++[y]) ρ' G' e2 hl (by rw[aw];simp;omega) p'
   |none=>exact ih (i+1) acc ρ' G' e2 hl (by omega) (by simpa using p')
 exact go _ 0 acc ρ G (by simp) (eI _) hl h0
theorem ace{step:D->ak->DH->(Option D->ak->DH->Prop)->Prop}{items:List D}{ρ:ak}{G:DH}{k:List D->DH->Prop}(g:Hld)(f:D->Option D)(I:ak->Prop)(h0:I ρ)(hg:held g G)(hl:items.length<=sz)
  (hs:∀d ρ,d∈items->I ρ->∀kk:Option D->ak->DH->Prop,(∀ρ',I ρ'->kk (f d) ρ' G)->step d ρ G kk) (he:k (items.filterMap f) G):compLoop step g items [] ρ G k:=by
 refine Hr (λi acc ρ' G'=>I ρ'/\G'=G/\acc=(items.take i).filterMap f) ⟨h0,rfl,rfl⟩ (λi acc ρ' G' p=>by rw[p.2.1];exact hg) (by simpa using hl) ?_ ?_
 ·rintro i d acc ρ' G' hd ⟨p1,rfl,rfl⟩ kk hk;refine hs d ρ' (cy hd) p1 kk λρ2 i2=>hk _ _ _ ⟨i2,rfl,?_⟩;rw[fg,hd,List.filterMap_append];congr 1
 ·rintro acc ρ' G' ⟨_,rfl,rfl⟩;rw[fm];exact he
theorem acf{step:D->ak->DH->(Option D->ak->DH->Prop)->Prop}{items:List D}{ρ:ak}{G:DH}{k:List D->DH->Prop}(g:Hld)(f:D->D)(I:ak->Prop)(h0:I ρ)(hg:held g G)(hl:items.length<=sz)
  (hs:∀d ρ,d∈items->I ρ->∀kk:Option D->ak->DH->Prop,(∀ρ',I ρ'->kk (some (f d)) ρ' G)->step d ρ G kk) (he:k (items.map f) G):compLoop step g items [] ρ G k:=
 ace g (λd=>some (f d)) I h0 hg hl hs (by rw[<-List.filterMap_eq_map]at he;exact he)
theorem Hs{α:Type}(f:α->Bool):∀l:List α,bools (l.map λx=>D.bl (f x))=some (l.map f)
 |[]=>rfl
 |x::l=>by simp[bools,Hs f l]
theorem strs_map{α:Type}(f:α->List Nat):∀l:List α,bh (l.map λx=>D.str (f x))=some (l.map f)
 |[]=>rfl
 |x::l=>by simp[bh,strs_map f l]
theorem Ht:∀l:List (List Nat),dR [] l=l.flatten
 |[]=>rfl
 |[x]=>by simp[dR]
 |x::y::r=>by simp[dR,Ht (y::r)]
noncomputable def Sa(G G':DH):Prop:=∀b o,G b=some o->G' b=some o
noncomputable def Sb(p:Addr)(G G':DH):Prop:=∀b o,G b=some o->b≠p->G' b=some o
theorem Sb.refl(p:Addr)(G:DH):Sb p G G:=λ_ _ h _=>h
theorem Sa.trans{G G1 G2:DH}(a:Sa G G1)(b:Sa G1 G2):Sa G G2:=λc o h=>b c o (a c o h)
theorem Sb.trans{p:Addr}{G G1 G2:DH}(a:Sb p G G1)(b:Sb p G1 G2):Sb p G G2:=λc o h n=>b c o (a c o h n) n
theorem Sa.sb{p:Addr}{G G':DH}(a:Sa G G'):Sb p G G':=λc o h _=>a c o h
theorem Sa.new{G:DH}{p:Addr}{o:DO}(h:G p=none):Sa G (aF G p o):=λb u e=>by rw[cI (bU e h)];exact e
theorem Sb.upd{G:DH}{p:Addr}{o:DO}:Sb p G (aF G p o):=λb u e n=>by rw[cI n];exact e
theorem Sa.then{p:Addr}{G G1 G2:DH}(a:Sa G G1)(hp:G p=none)(b:Sb p G1 G2):Sa G G2:=λc o h=>b c o (a c o h) (bU h hp)
theorem Hu{α:Type}{a:α}{l:List α}:atI (a::l) 0=some a:=bT (j:=0) rfl
theorem Hv{α:Type}{a b:α}{l:List α}:atI (a::b::l) 1=some b:=bT (j:=1) rfl
theorem Hw{α:Type}{a b c:α}{l:List α}:atI (a::b::c::l) 2=some c:=bT (j:=2) rfl
theorem Hx{α:Type}{a b c d:α}{l:List α}:atI (a::b::c::d::l) 3=some d:=bT (j:=3) rfl
theorem acg{n j:Nat}(h:j < n):ixN n (j:Int)=some j:=by unfold ixN;rw[if_pos (by omega),if_pos (by omega)];simp
theorem Hy{n:Nat}:ixN (n+1) 0=some 0:=by unfold ixN;rw[if_pos (by omega),if_pos (by omega)];rfl
theorem Hz{n:Nat}:ixN (n+2) 1=some 1:=by unfold ixN;rw[if_pos (by omega),if_pos (by omega)];rfl
theorem HB{n:Nat}:ixN (n+3) 2=some 2:=by unfold ixN;rw[if_pos (by omega),if_pos (by omega)];rfl
theorem ach{α:Type}{xs:List α}{i:Int}(h0:0<=i)(h1:i < xs.length):∃a,atI xs i=some a/\a∈xs:=by
 obtain ⟨n,rfl⟩:=cr h0;have hn:n < xs.length:=by omega
 exact ⟨xs[n],bT (by simp[hn]),c9 _⟩
theorem HF{α:Type}(xs:List α)(lo hi:Option Int):(cut xs lo hi).length<=xs.length:=by unfold cut;rw[bo,ce];omega
theorem yc{l:List D}:bK l []=l.isEmpty:=by cases l <;> rfl
theorem uq{α:Type}(l:List α)(n:Nat):cut l none (some (n:Int))=l.take n:=by
 unfold cut;rw[show HT.sIx l.length 0 none=0 from rfl,HT.Bu,List.drop_zero,Nat.sub_zero];by_cases h:n<=l.length
 ·rw[Nat.min_eq_left h]
 ·rw[Nat.min_eq_right (by omega),d6 (ax _),d6 (by omega)]
theorem HH{α:Type}(l:List α)(n:Nat):cut l (some (n:Int)) none=l.drop n:=by
 unfold cut;rw[show HT.sIx l.length l.length none=l.length from rfl,HT.Bu];by_cases h:n<=l.length
 ·rw[Nat.min_eq_left h,d6 (by rw[ce];exact ax _)]
 ·rw[Nat.min_eq_right (by omega),Nat.sub_self,List.take_zero,List.drop_eq_nil_of_le (by omega)]
theorem HJ{α:Type}(l:List α)(n:Nat):cut l (some ((n:Int)+1)) none=l.drop (n+1):=HH l (n+1)
theorem yd:∀{l:List D},(∀d∈l,nr d=true)->nrs l=true
 |[],_=>rfl
 |a::l,h=>by rw[nrs,h a br,yd λd hd=>h d (a9 _ hd)];rfl
theorem aci{α:Type}{motive:List α->Prop}(l:List α)(nil:motive [])(snoc:∀(l:List α)(a:α),motive l->motive (l++[a])):motive l:=by
 have go:∀(n:Nat)(l:List α),l.length=n->motive l:=by
  intro n;induction n with
  |zero=>intro l h;rw[c6.mp h];exact nil
  |succ n ih=>
   intro l h;have hne:l≠[]:=by rintro rfl;simp at h
   rw[<-dr hne];exact snoc _ _ (ih _ (by rw[List.length_dropLast];omega))
 exact go _ l rfl
section
variable {G:DH} {k:D->DH->Prop} {fz:Bool} {kb:Bool->Prop} {kd:D->Prop} {p:Addr}
theorem HN{i j:Int}:b8 .Add fz (.int i) (.int j) G k=k (.int (i+j)) G:=rfl
theorem HQ{x y:List Nat}:b8 .Add fz (.str x) (.str y) G k=(x.length+y.length<=sz/\k (.str (x++y)) G):=rfl
theorem HR{x y:List D}:b8 .Add fz (.lst x) (.lst y) G k=(x.length+y.length<=sz/\mk fz (x++y) G k):=rfl
theorem HS{x y:List D}:b8 .Add fz (.tup x) (.tup y) G k=(x.length+y.length<=sz/\k (.tup (x++y)) G):=rfl
theorem HW{i j:Int}:b8 .Sub fz (.int i) (.int j) G k=k (.int (i - j)) G:=rfl
theorem HX{i j:Int}:b8 .Mult fz (.int i) (.int j) G k=(CMul i j/\k (.int (i * j)) G):=rfl
theorem HY{x:List D}{n:Int}:b8 .Mult fz (.tup x) (.int n) G k=(2<=n/\n<=1000/\x≠[]/\x.length * n.toNat<=sz/\k (.tup (reps x n.toNat)) G):=rfl
theorem H9{x:List D}{n:Int}:b8 .Mult fz (.lst x) (.int n) G k=(0<=n/\n<=1000/\x.length * n.toNat<=sz/\mk fz (reps x n.toNat) G k):=rfl
theorem Ia{x:List Nat}{n:Int}:b8 .Mult fz (.str x) (.int n) G k=(0<=n/\n<=1000/\x.length * n.toNat<=sz/\k (.str (reps x n.toNat)) G):=rfl
theorem Ib{i j:Int}:b8 .FloorDiv fz (.int i) (.int j) G k=((0 < j/\j < 1152921504606846976)/\k (.int (i / j)) G):=rfl
theorem Ie{i j:Int}:b8 .Mod fz (.int i) (.int j) G k=(0 < j/\k (.int (i % j)) G):=rfl
theorem Ig{i j:Int}:b8 .Pow fz (.int i) (.int j) G k=(qd i j/\k (.int (i ^ j.toNat)) G):=rfl
noncomputable def fG:D->Bool
 |.non=>true
 |_=>false
theorem Ih{a b:D}:aW .Eq a b kb=((nr a=true/\nr b=true/\min (dpt a) (dpt b)<=60)/\kb (deq a b)):=rfl
theorem Ii{a b:D}:aW .NotEq a b kb=((nr a=true/\nr b=true/\min (dpt a) (dpt b)<=60)/\kb (!deq a b)):=rfl
theorem Ij{i j:Int}:aW .Lt (.int i) (.int j) kb=kb (decide (i < j)):=rfl
theorem Ik{i j:Int}:aW .LtE (.int i) (.int j) kb=kb (decide (i<=j)):=rfl
theorem Il{i j:Int}:aW .Gt (.int i) (.int j) kb=kb (decide (j < i)):=rfl
theorem Im{i j:Int}:aW .GtE (.int i) (.int j) kb=kb (decide (j<=i)):=rfl
theorem Io{i j:List Nat}:aW .Lt (.str i) (.str j) kb=kb (decide (i < j)):=rfl
theorem Ip{i j:List Nat}:aW .LtE (.str i) (.str j) kb=kb (!decide (j < i)):=rfl
theorem Ir{a:D}:aW .Is a .non kb=kb (fG a):=by cases a <;> rfl
theorem Iu{a:D}:aW .IsNot a .non kb=kb (!fG a):=by cases a <;> rfl
theorem Iv{a b:Bool}:aW .Is (.bl a) (.bl b) kb=kb (a==b):=rfl
theorem Iw{a b:Bool}:aW .IsNot (.bl a) (.bl b) kb=kb (a != b):=rfl
theorem Iz{c:Nat}{l:List Nat}:aW .In (.str [c]) (.str l) kb=kb (l.contains c):=rfl
theorem IK{c:Nat}{l:List Nat}:aW .NotIn (.str [c]) (.str l) kb=kb (!l.contains c):=rfl
theorem IV{a:D}{l:List D}:aW .In a (.lst l) kb=((nr a=true/\nrs l=true/\aV l<=60)/\kb (isIn a l)):=rfl
theorem IW{a:D}{l:List D}:aW .In a (.tup l) kb=((nr a=true/\nrs l=true/\aV l<=60)/\kb (isIn a l)):=rfl
theorem Ja{a:D}{l:List D}:aW .NotIn a (.lst l) kb=((nr a=true/\nrs l=true/\aV l<=60)/\kb (!isIn a l)):=rfl
theorem Jb{a:D}{l:List D}:aW .NotIn a (.tup l) kb=((nr a=true/\nrs l=true/\aV l<=60)/\kb (!isIn a l)):=rfl
theorem Jc{i:Int}:fG (.int i)=false:=rfl
theorem Jd{i:Bool}:fG (.bl i)=false:=rfl
theorem Jf{i:List Nat}:fG (.str i)=false:=rfl
theorem Jg{i:List D}:fG (.tup i)=false:=rfl
theorem Jh{i:List D}:fG (.lst i)=false:=rfl
theorem Ji{i:Addr}:fG (.ref i)=false:=rfl
theorem Jj:fG .non=true:=rfl
noncomputable def bc{α:Type}(o:Option α)(k:α->Prop):Prop:=match o with |some a=>k a |none=>False
theorem Jl{α:Type}{a:α}{k:α->Prop}:bc (some a) k=k a:=rfl
theorem bJ{α:Type}{o:Option α}{a:α}{k:α->Prop}(e:o=some a)(h:k a):bc o k:=by rw[e];exact h
theorem ye{α:Type}{xs:List α}{i:Int}{k:α->Prop}(h0:0<=i)(h1:i < xs.length)(h:∀a,a∈xs->k a):bc (atI xs i) k:=by obtain ⟨a,e,m⟩:=ach h0 h1;exact bJ e (h a m)
theorem Jm{ds:List D}{i:Int}:cg (.lst ds) (.int i) kd=bc (atI ds i) kd:=by unfold cg bc;(try dsimp only) <;> (cases atI ds i <;> rfl)
theorem Jo{ds:List D}{i:Int}:cg (.tup ds) (.int i) kd=bc (atI ds i) kd:=by unfold cg bc;(try dsimp only) <;> (cases atI ds i <;> rfl)
theorem Jp{l:List Nat}{i:Int}:cg (.str l) (.int i) kd=bc (atI l i) (λc=>kd (.str [c])):=by unfold cg bc;(try dsimp only) <;> (cases atI l i <;> rfl)
theorem Jq{ds:List D}{lo hi:Option Int}:dO fz (.lst ds) lo hi G k=mk fz (cut ds lo hi) G k:=rfl
theorem Jr{ds:List D}{y:D}:jk fz (.lst ds) y G k=(y=.int (-1)/\mk fz ds.reverse G k):=rfl
theorem Js{ds:List Int}{lo hi:Option Int}:dO fz (.scr ds) lo hi G k=mk fz ((cut ds lo hi).map .int) G k:=rfl
theorem Jt{ds:List D}{lo hi:Option Int}:dO fz (.tup ds) lo hi G k=k (.tup (cut ds lo hi)) G:=rfl
theorem Ju{ds:List Nat}{lo hi:Option Int}:dO fz (.str ds) lo hi G k=k (.str (cut ds lo hi)) G:=rfl
theorem Jv{ds:List D}:opB .len [.lst ds] kd=kd (.int ds.length):=rfl
theorem Jw{ds:List D}:opB .len [.tup ds] kd=kd (.int ds.length):=rfl
theorem Jx{ds:List Nat}:opB .len [.str ds] kd=kd (.int ds.length):=rfl
theorem Jy{ds:List D}:opB .all [.lst ds] kd=bc (bools ds) (λbs=>kd (.bl (bs.all id))):=by unfold opB qx bc;(try dsimp only) <;> (cases bools ds <;> rfl)
theorem JB{b:Bool}:opB .int [.bl b] kd=kd (.int (if b then 1 else 0)):=rfl
theorem JC{b:Int}:opB .int [.int b] kd=kd (.int b):=rfl
theorem JD{l:List Nat}:opB .int [.str l] kd=bc (PySem.intText? (tx l)) (λn=>l.length<=640/\kd (.int n)):=by unfold opB qy bc;(try dsimp only) <;> (cases PySem.intText? (tx l) <;> rfl)
theorem JF{ds:List D}:opB .sum [.lst ds] kd=bc (bV ds) (λns=>kd (.int ns.sum)):=by unfold opB vU bc;(try dsimp only) <;> (cases bV ds <;> rfl)
theorem JG{a:Int}:opB .str [.int a] kd=((0<=a/\a < 100)/\kd (.str (gA a.toNat))):=rfl
theorem JH{a:Int}:opB .abs [.int a] kd=kd (.int (if a < 0 then -a else a)):=rfl
theorem JK{a b:Int}:opB .min2 [.int a,.int b] kd=kd (.int (if b < a then b else a)):=rfl
theorem JL{a b:Int}:opB .max [.int a,.int b] kd=kd (.int (if b > a then b else a)):=rfl
theorem JM{ds:List D}{kl:List D->Prop}:cM .sorted [.tup ds] kl=bc (bV ds) (λns=>ns.length < 64/\∀ns':List Int,ns'.Perm ns->ns'.Pairwise (·<=·)->kl (ns'.map D.int)):=by unfold cM qz bc;(try dsimp only) <;> (cases bV ds <;> rfl)
theorem JN{ds:List D}{kl:List D->Prop}:cM .sorted [.lst ds] kl=bc (bh ds) (λls=>ls.length < 64/\∀ls':List (List Nat),ls'.Perm ls->PyProof.Rows.sortedS (ls'.map tx)=true->kl (ls'.map D.str)):=by unfold cM qz bc;(try dsimp only) <;> (cases bh ds <;> rfl)
theorem JP{ds:List D}:opB .tuple [.lst ds] kd=kd (.tup ds):=rfl
theorem JQ{ds:List D}:opB .tuple [.tup ds] kd=kd (.tup ds):=rfl
theorem JR{ds:List D}{kl:List D->Prop}:cM .list [.lst ds] kl=kl ds:=rfl
theorem JS{ds:List D}{kl:List D->Prop}:cM .list [.tup ds] kl=kl ds:=rfl
theorem JT{l:List Nat}{kl:List D->Prop}:cM .list [.str l] kl=kl (l.map λc=>.str [c]):=rfl
theorem JV{s:List Nat}{ds:List D}:opM .join (.str s) [.lst ds] G k=bc (bh ds) (λls=>((ls.map (·.length)).sum+ls.length * s.length<=sz)/\k (.str (dR s ls)) G):=by unfold opM qC bc;(simp only[bq,dn,view]) <;> (cases bh ds <;> rfl)
noncomputable def trk(G:DH)(p:Addr)(k:List D->Prop):Prop:=match G p with |some (.lst ds)=>k ds |none=>False
theorem bR{ds:List D}{k:List D->Prop}(e:G p=some (.lst ds)):trk G p k=k ds:=by unfold trk;rw[e]
theorem JW{x:D}:opM .append (.ref p) [x] G k=trk G p (λds=>ds.length < sz/\k .non (aF G p (.lst (ds++[x])))):=by unfold opM qD trk;(try dsimp only) <;> (cases G p <;> first |rfl | (rename_i o;cases o;rfl))
theorem JX{x:D}{i:Int}:opM .insert (.ref p) [.int i,x] G k=trk G p (λds=>ds.length < sz/\0<=i/\i<=1000000/\k .non (aF G p (.lst (ds.take i.toNat++x::ds.drop i.toNat)))):=by unfold opM qG trk;(try dsimp only) <;> (cases G p <;> first |rfl | (rename_i o;cases o;rfl))
theorem JZ:recv .insert (.ref p) G=trk G p (λ_=>True):=by unfold recv trk;(try dsimp only) <;> (cases G p <;> first |rfl | (rename_i o;cases o;rfl))
theorem J0{xs:List D}:opM .extend (.ref p) [.lst xs] G k=trk G p (λds=>ds.length+xs.length < sz/\k .non (aF G p (.lst (ds++xs)))):=by unfold opM qF trk;(simp only[bq,dn,view]) <;> (cases G p <;> first |rfl | (rename_i o;cases o;rfl))
theorem J1{ds:List D}:opM .count (.lst ds) [.bl true] G k=bc (bools ds) (λbs=>k (.int (bs.count true:Nat)) G):=by unfold opM qH bc;(try dsimp only[view]) <;> (cases bools ds <;> rfl)
theorem J2{ds:List D}:opM .index (.lst ds) [.bl true] G k=bc (bools ds) (λbs=>true∈bs/\k (.int (bs.idxOf true:Nat)) G):=by unfold opM qI bc;(try dsimp only[view]) <;> (cases bools ds <;> rfl)
theorem J3{ds:List D}:recv .count (.lst ds) G=True:=rfl
theorem J4{ds:List D}:recv .index (.lst ds) G=True:=rfl
theorem J5{s:List Nat}:recv .join (.str s) G=True:=rfl
theorem J6:recv .append (.ref p) G=trk G p (λ_=>True):=by unfold recv trk;(try dsimp only) <;> (cases G p <;> first |rfl | (rename_i o;cases o;rfl))
theorem J7:recv .extend (.ref p) G=trk G p (λ_=>True):=by unfold recv trk;(try dsimp only) <;> (cases G p <;> first |rfl | (rename_i o;cases o;rfl))
theorem J8{i:Int}{x:D}{kg:DH->Prop}:dU (.ref p) (.int i) x G kg=trk G p (λds=>bc (ixN ds.length i) (λj=>kg (aF G p (.lst (ds.set j x))))):=by
 unfold dU trk bc
 (try dsimp only) <;> (cases G p <;> first |rfl | (rename_i o;cases o;(try dsimp only) <;> (rename_i ds;cases ixN ds.length i <;> rfl)))
theorem J9{i j:Int}:dD .Add (.int i) (.int j) kd=kd (.int (i+j)):=rfl
theorem Ka{x y:List Nat}:dD .Add (.str x) (.str y) kd=(x.length+y.length<=sz/\kd (.str (x++y))):=rfl
theorem Kc{i j:Int}:dD .Sub (.int i) (.int j) kd=kd (.int (i - j)):=rfl
theorem Kd{xs:List D}:mk true xs G k=k (.lst xs) G:=rfl
theorem Ke{xs:List D}:mk false xs G k=∀p,G p=none->k (.ref p) (aF G p (.lst xs)):=rfl
theorem Kf:view G .non=.non:=rfl
theorem Kg{b:Bool}:view G (.bl b)=.bl b:=rfl
theorem Kh{b:Int}:view G (.int b)=.int b:=rfl
theorem Kl{b:List Nat}:view G (.str b)=.str b:=rfl
theorem Km{b:List D}:view G (.tup b)=.tup b:=rfl
theorem Ko{b:List D}:view G (.lst b)=.lst b:=rfl
theorem Kp{C f:String}{q:Addr}:view G (.obj C f q)=.obj C f q:=rfl
theorem Kq{b:String}:view G (.exn b)=.exn b:=rfl
theorem Kr{b:List Int}:view G (.scr b)=.scr b:=rfl
theorem bx{ds:List D}(e:G p=some (.lst ds)):view G (.ref p)=.lst ds:=by unfold view;dsimp only;rw[e]
theorem Ks:truth .non=some false:=rfl
theorem Ku{b:Bool}:truth (.bl b)=some b:=rfl
theorem Kv{i:Int}:truth (.int i)=some (i != 0):=rfl
theorem Kw{l:List Nat}:truth (.str l)=some (!l.isEmpty):=rfl
theorem Ky{l:List D}:truth (.tup l)=some (!l.isEmpty):=rfl
theorem Kz{l:List D}:truth (.lst l)=some (!l.isEmpty):=rfl
theorem KC{l:List D}:itemsOf G (.lst l)=some (l,[]):=rfl
theorem KD{l:List D}:itemsOf G (.tup l)=some (l,[]):=rfl
theorem KH{l:List Nat}:itemsOf G (.str l)=some (l.map λc=>.str [c],[]):=rfl
theorem jG{ds:List D}(e:G p=some (.lst ds)):itemsOf G (.ref p)=some (ds,[(p,ds)]):=by unfold itemsOf;dsimp only;rw[e]
theorem KJ{t:String}:isT t .non=some false:=rfl
theorem KN {t:String} {b:Bool}:isT t (.bl b)=some (t=="bool"||t=="int"):=rfl
theorem KQ {t:String} {b:Int}:isT t (.int b)=some (t=="int"):=rfl
theorem KR {t:String} {b:List Nat}:isT t (.str b)=some (t=="str"):=rfl
theorem is_tup {t:String} {b:List D}:isT t (.tup b)=some (t=="tuple"):=rfl
theorem KY {t:String} {b:List D}:isT t (.lst b)=some (t=="list"):=rfl
theorem KZ{i:Nat}{d:D}{ρ:ak}{kr:ak->Prop}:aO (.nm i) d ρ G kr=kr (ρ.set i (some d)):=rfl
theorem K1{ts:Tgs}{ds:List D}{ρ:ak}{kr:ak->Prop}:aO (.tp ts) (.lst ds) ρ G kr=bD ts ds ρ G kr:=rfl
theorem K3{ts:Tgs}{ds:List D}{ρ:ak}{kr:ak->Prop}:aO (.tp ts) (.tup ds) ρ G kr=bD ts ds ρ G kr:=rfl
theorem K4{ρ:ak}{kr:ak->Prop}:bD .nil [] ρ G kr=kr ρ:=rfl
theorem K5{t:Tg}{r:Tgs}{d:D}{ds:List D}{ρ:ak}{kr:ak->Prop}:bD (.cons t r) (d::ds) ρ G kr=aO t d ρ G (λρ'=>bD r ds ρ' G kr):=rfl
theorem K6:deq .non .non=true:=rfl
theorem K7  {y:Bool}:deq .non (.bl y)=false:=rfl
theorem K8  {y:Int}:deq .non (.int y)=false:=rfl
theorem K9  {y:List Nat}:deq .non (.str y)=false:=rfl
theorem La  {y:List D}:deq .non (.tup y)=false:=rfl
theorem Lb  {y:List D}:deq .non (.lst y)=false:=rfl
theorem Ld{x:Bool} :deq (.bl x) .non=false:=rfl
theorem Lg{x:Bool}{y:Bool}:deq (.bl x) (.bl y)=(x==y):=by rw[deq]
theorem Lh{x:Bool}{y:List Nat}:deq (.bl x) (.str y)=false:=rfl
theorem Li{x:Bool}{y:List D}:deq (.bl x) (.tup y)=false:=rfl
theorem Lj{x:Bool}{y:List D}:deq (.bl x) (.lst y)=false:=rfl
theorem Lk{x:Int} :deq (.int x) .non=false:=rfl
theorem Ln{x:Int}{y:Int}:deq (.int x) (.int y)=(x==y):=by rw[deq]
theorem Lp{x:Int}{y:List Nat}:deq (.int x) (.str y)=false:=rfl
theorem Lq{x:Int}{y:List D}:deq (.int x) (.tup y)=false:=rfl
theorem Lr{x:Int}{y:List D}:deq (.int x) (.lst y)=false:=rfl
theorem Ls{x:List Nat} :deq (.str x) .non=false:=rfl
theorem Lw{x:List Nat}{y:Bool}:deq (.str x) (.bl y)=false:=rfl
theorem Lx{x:List Nat}{y:Int}:deq (.str x) (.int y)=false:=rfl
theorem Ly{x:List Nat}{y:List Nat}:deq (.str x) (.str y)=(x==y):=by rw[deq]
theorem Lz{x:List Nat}{y:List D}:deq (.str x) (.tup y)=false:=rfl
theorem LC{x:List Nat}{y:List D}:deq (.str x) (.lst y)=false:=rfl
theorem LK{x:List D} :deq (.tup x) .non=false:=rfl
theorem LQ{x:List D}{y:Bool}:deq (.tup x) (.bl y)=false:=rfl
theorem LR{x:List D}{y:Int}:deq (.tup x) (.int y)=false:=rfl
theorem Ma{x:List D}{y:List Nat}:deq (.tup x) (.str y)=false:=rfl
theorem Mg{x:List D}{y:List D}:deq (.tup x) (.tup y)=bK x y:=by rw[deq]
theorem Mh{x:List D}{y:List D}:deq (.tup x) (.lst y)=false:=rfl
theorem Mi{x:List D} :deq (.lst x) .non=false:=rfl
theorem Mj{x:List D}{y:Bool}:deq (.lst x) (.bl y)=false:=rfl
theorem Ml{x:List D}{y:Int}:deq (.lst x) (.int y)=false:=rfl
theorem Mm{x:List D}{y:List Nat}:deq (.lst x) (.str y)=false:=rfl
theorem Mp{x:List D}{y:List D}:deq (.lst x) (.tup y)=false:=rfl
theorem Mq{x:List D}{y:List D}:deq (.lst x) (.lst y)=bK x y:=by rw[deq]
theorem Mr:bK [] []=true:=rfl
theorem Ms{a b:D}{as bs:List D}:bK (a::as) (b::bs)=(deq a b&&bK as bs):=by rw[bK]
theorem Mt{b:D}{bs:List D}:bK [] (b::bs)=false:=rfl
theorem Mu{b:D}{bs:List D}:bK (b::bs) []=false:=rfl
theorem Mv :nr .non=true:=rfl
theorem Mw :dpt .non=0:=rfl
theorem Mx{x:Bool}:nr (.bl x)=true:=rfl
theorem My{x:Bool}:dpt (.bl x)=0:=rfl
theorem Mz{x:Int}:nr (.int x)=true:=rfl
theorem MF{x:Int}:dpt (.int x)=0:=rfl
theorem MJ{x:List Nat}:nr (.str x)=true:=rfl
theorem MK{x:List Nat}:dpt (.str x)=0:=rfl
theorem MN{x:List D}:nr (.tup x)=nrs x:=by rw[nr]
theorem MP{x:List D}:dpt (.tup x)=aV x+1:=by rw[dpt]
theorem MT{x:List D}:nr (.lst x)=nrs x:=by rw[nr]
theorem M3{x:List D}:dpt (.lst x)=aV x+1:=by rw[dpt]
theorem M4:nrs []=true:=rfl
theorem M5{a:D}{l:List D}:nrs (a::l)=(nr a&&nrs l):=by rw[nrs]
theorem M6:aV []=0:=rfl
theorem M7{a:D}{l:List D}:aV (a::l)=max (dpt a) (aV l):=by rw[aV]
end
theorem seq{Φ:aa}{s:Sx}{r:Sxs}{E:EK}{ρ:ak}{G:DH}{D:En}(h:∀M:ak->DH->Prop,(∀ρ' G',au Φ r E ρ' G' D->M ρ' G')->wpS Φ s E ρ G { D with nx:=M }):au Φ (.cons s r) E ρ G D:=by rw[jn];exact h _ λ_ _ x=>x
theorem last{Φ:aa}{s:Sx}{E:EK}{ρ:ak}{G:DH}{D:En}(h:wpS Φ s E ρ G D):au Φ (.cons s .nil) E ρ G D:=by rw[jn];exact wpS_mono s (D:=D) (D':={ D with nx:=λρ' G'=>au Φ .nil E ρ' G' D }) ⟨λρ' G' q=>(show au Φ .nil E ρ' G' D from by rw[jm];exact q),λ_ _ q=>q,λ_ _ q=>q,λ_ _ q=>q⟩ h
theorem done{Φ:aa}{E:EK}{ρ:ak}{G:DH}{D:En}(h:D.nx ρ G):au Φ .nil E ρ G D:=by rw[jm];exact h
section
variable {Φ:aa} {E:EK} {ρ:ak} {G:DH}
noncomputable def ForG(Φ:aa)(t:Tg)(body:Sxs)(E:EK)(D:En)(items:List RF.D)(g:Hld)(ρ:ak)(G:DH):Prop:=
 forLoop (λd ρ' G' k=>aO t d ρ' G' λρ1=>au Φ body E ρ1 G' { D with nx:=k,ct:=k,bk:=D.nx }) g items ρ G D.nx
theorem M8{t:Tg}{it:It'}{body:Sxs}{D:En}:wpS Φ (.for_ t it body) E ρ G D=wpI Φ it E ρ G λitems g G1=>ForG Φ t body E D items g ρ G1:=rfl
theorem ForG.inv{t:Tg}{body:Sxs}{D:En}{items:List RF.D}{g:Hld}(P:Nat->ak->DH->Prop)(h0:P 0 ρ G)(hh:∀i ρ G,P i ρ G->held g G)
  (hs:∀i d ρ G,items[i]?=some d->P i ρ G->∀kk:ak->DH->Prop,(∀ρ' G',P (i+1) ρ' G'->kk ρ' G')->aO t d ρ G λρ1=>au Φ body E ρ1 G { D with nx:=kk,ct:=kk,bk:=D.nx })
  (he:∀ρ G,P items.length ρ G->D.nx ρ G):ForG Φ t body E D items g ρ G:=acd P h0 hh hs he
noncomputable def CompG(Φ:aa)(elt:Ex)(tg:Tg)(cond:Tx)(items:List D)(g:Hld)(ρ:ak)(G:DH)(k:List D->DH->Prop):Prop:=
 compLoop (λd ρ' G' k'=>aO tg d ρ' G' λρ1=>wpT Φ cond noE ρ1 G' λb G2=>match b with |true=>wpE Φ elt noE ρ1 G2 λy G3=>k' (some y) ρ1 G3 |false=>k' none ρ1 G2) g items [] ρ G k
noncomputable def jH(cap:List (Option Nat))(ρ:ak):ak:=cap.map λo=>match o with |none=>none |some j=>(ρ[j]?).join
theorem M9{ρ:ak}:jH [] ρ=[]:=rfl
theorem Nb{cap:List (Option Nat)}{ρ:ak}:jH (none::cap) ρ=none::jH cap ρ:=rfl
theorem Nf{cap:List (Option Nat)}{ρ:ak}{j:Nat}:jH (some j::cap) ρ=(ρ[j]?).join::jH cap ρ:=rfl
theorem Ng{fz:Bool}{elt:Ex}{tg:Tg}{it:It'}{cond:Tx}{N:List String}{cap:List (Option Nat)}{k:D->DH->Prop}:
  wpE Φ (.comp fz elt tg it cond N cap) E ρ G k=wpI Φ it E ρ G λitems g G1=>CompG Φ elt tg cond items g (jH cap ρ) G1 λds G2=>mk fz ds G2 k:=rfl
theorem CompG.inv{elt:Ex}{tg:Tg}{cond:Tx}{items:List D}{g:Hld}{k:List D->DH->Prop}(P:Nat->List D->ak->DH->Prop)(h0:P 0 [] ρ G)(hh:∀i acc ρ G,P i acc ρ G->held g G)(hl:items.length<=sz)
  (hs:∀i d acc ρ G,items[i]?=some d->P i acc ρ G->∀kk:Option D->ak->DH->Prop,(∀o ρ' G',P (i+1) (acc++o.toList) ρ' G'->kk o ρ' G')->
   aO tg d ρ G λρ1=>wpT Φ cond noE ρ1 G λb G2=>match b with |true=>wpE Φ elt noE ρ1 G2 λy G3=>kk (some y) ρ1 G3 |false=>kk none ρ1 G2)
  (he:∀acc ρ G,P items.length acc ρ G->k acc G):CompG Φ elt tg cond items g ρ G k:=Hr P h0 hh (by simpa using hl) hs he
theorem CompG.map{elt:Ex}{tg:Tg}{cond:Tx}{items:List D}{g:Hld}{k:List D->DH->Prop}(f:D->D)(I:ak->Prop)(h0:I ρ)(hg:held g G)(hl:items.length<=sz)
  (hs:∀d ρ,d∈items->I ρ->∀kk:Option D->ak->DH->Prop,(∀ρ',I ρ'->kk (some (f d)) ρ' G)->aO tg d ρ G λρ1=>wpT Φ cond noE ρ1 G λb G2=>match b with |true=>wpE Φ elt noE ρ1 G2 λy G3=>kk (some y) ρ1 G3 |false=>kk none ρ1 G2)
  (he:k (items.map f) G):CompG Φ elt tg cond items g ρ G k:=acf g f I h0 hg hl hs he
noncomputable def acj(Φ:aa)(c:Tx)(body:Sxs)(E:EK)(D:En)(n:Nat)(ρ:ak)(G:DH):Prop:=
 whileLoop (λρ' G' k=>wpT Φ c E ρ' G' k) (λρ' G' k=>au Φ body E ρ' G' { D with nx:=k,ct:=k,bk:=D.nx }) n ρ G D.nx
theorem Nh{c:Tx}{body:Sxs}{D:En}:wpS Φ (.whl c body) E ρ G D=∃n,acj Φ c body E D n ρ G:=rfl
end
theorem len0{α:Type}{l:List α}(h:l.length=0):l=[]:=c6.mp h
theorem ur{α:Type}{n:Nat}{l:List α}(h:l.length=n+1):∃a r,l=a::r/\r.length=n:=by
 cases l with
 |nil=>cases h
 |cons a r=>exact ⟨a,r,rfl,Nat.succ.inj h⟩
theorem bY{α:Type}{l:List α}(h:l.length=1):∃a,l=[a]:=by obtain ⟨a,r,rfl,h2⟩:=ur h;cases len0 h2;exact ⟨a,rfl⟩
theorem bz{α:Type}{l:List α}(h:l.length=2):∃a b,l=[a,b]:=by obtain ⟨a,r,rfl,h2⟩:=ur h;obtain ⟨b,rfl⟩:=bY h2;exact ⟨a,b,rfl⟩
theorem dG{α:Type}{l:List α}(h:l.length=3):∃a b c,l=[a,b,c]:=by obtain ⟨a,r,rfl,h2⟩:=ur h;obtain ⟨b,c,rfl⟩:=bz h2;exact ⟨a,b,c,rfl⟩
theorem Ni{α:Type}{l:List α}(h:l.length=4):∃a b c d,l=[a,b,c,d]:=by obtain ⟨a,r,rfl,h2⟩:=ur h;obtain ⟨b,c,d,rfl⟩:=dG h2;exact ⟨a,b,c,d,rfl⟩
structure Fo(Φ:aa)(P:Program)(w:World)(K:PF)(mg:Str->Option Value)(base:Heap)(k:Nat)(f:String)(n:Nat):Prop where
 ex:∃fa fd ps,FnOk P w K mg base (CX1 P w) k fa fd ps (lift K n (Φ f))/\PySem.W.keepIn K (.ref fa)=true/\Binds K fd ps []/\mg (Str.ofString f)=some (.ref fa)
section
variable {Φ:aa} {P:Program} {w:World} {K:PF} {mg:Str->Option Value} {base:Heap} {k:Nat} {xs:List (String×Bool)} {ot:OT}
noncomputable def AllF(Φ:aa)(P:Program)(w:World)(K:PF)(mg:Str->Option Value)(base:Heap)(k:Nat):List (String×Nat)->Prop
 |[]=>True
 | (f,n)::r=>Fo Φ P w K mg base k f n/\AllF Φ P w K mg base k r
noncomputable def AllB(mg:Str->Option Value):List String->Prop
 |[]=>True
 |f::r=>mg (Str.ofString f)=none/\AllB mg r
noncomputable def AllC(K:PF)(mg:Str->Option Value):List (String×D)->Prop
 |[]=>True
 | (x,d)::r=>(∃u v,mg (Str.ofString x)=some u/\RelV v u/\∀H F,Rep K H F d v)/\AllC K mg r
theorem AllF.get:∀{fs:List (String×Nat)}{f:String}{n:Nat},AllF Φ P w K mg base k fs->(f,n)∈fs->Fo Φ P w K mg base k f n
 | (f',n')::r,f,n,h,m=>by
  rcases aS.mp m with e |m
  ·cases e;exact h.1
  ·exact AllF.get h.2 m
theorem AllB.get:∀{fs:List String}{f:String},AllB mg fs->f∈fs->mg (Str.ofString f)=none
 |f'::r,f,h,m=>by
  rcases aS.mp m with e |m
  ·cases e;exact h.1
  ·exact AllB.get h.2 m
theorem AllC.get:∀{fs:List (String×D)}{x:String}{d:D},AllC K mg fs->(x,d)∈fs->∃u v,mg (Str.ofString x)=some u/\RelV v u/\∀H F,Rep K H F d v
 | (f',n')::r,f,n,h,m=>by
  rcases aS.mp m with e |m
  ·cases e;exact h.1
  ·exact AllC.get h.2 m
noncomputable def cvB(K:PF)(C':String):Option V:=match PySem.W.nsIn K mainGlobals (Str.ofString C') with
 |some (some (.ref a))=>if Dh K a then some (.ref a) else none
 |some none=>if C'=="ValueError" then some (.ty "ValueError") else none
 |_=>none
noncomputable def xiB(K:PF)(C C':String)(cv:V):Bool:=match PySem.W.nsIn K mainGlobals (Str.ofString C) with
 |some (some (.ref c))=>Dg K c&&PySem.W.mroIn K c (valOf cv)==some (gB C C')&&(gB C C'||!(Value.ref c==valOf cv))
 |_=>false
noncomputable def yf(K:PF)(C:String):Bool:=match PySem.W.nsIn K mainGlobals (Str.ofString C) with
 |some (some (.ref c))=>gZ K c
 |_=>false
noncomputable def xsB(K:PF)(xs:List (String×Bool)):Bool:=xs.all λp=>match p.2 with
 |true=>yf K p.1
 |false=>(cvB K p.1).any λcv=>xs.all λq=>!q.2||xiB K q.1 p.1 cv
theorem ack{h:Heap}(X:K.In h)(Gh:h.Ns mainGlobals mg){xs:List (String×Bool)}(e:xsB K xs=true)(C:String)(hC:xs.contains (C,true)=true):∃a,mg (Str.ofString C)=some (.ref a)/\gZ K a=true/\PySem.W.nsIn K mainGlobals (Str.ofString C)=some (some (.ref a)):=by
 have e1:yf K C=true:=cf.mp e _ (bb.mp hC);unfold yf at e1;split at e1
 ·rename_i a hn;exact ⟨a,PySem.W.mg_of X Gh hn,e1,hn⟩
 ·cases e1
theorem acl{h:Heap}(X:K.In h)(Gh:h.Ns mainGlobals mg){xs:List (String×Bool)}(e:xsB K xs=true)(C':String)(hC:xs.contains (C',false)=true):∃cv,CV K mg C' cv/\∀C,xs.contains (C,true)=true->XI K C C' cv:=by
 have e1:((cvB K C').any λcv=>xs.all λq=>!q.2||xiB K q.1 C' cv)=true:=cf.mp e _ (bb.mp hC);obtain ⟨cv,hcv,h2⟩:=aY e1;refine ⟨cv,?_,λC hC=>?_⟩
 ·unfold cvB at hcv;split at hcv
  ·rename_i a hn;split at hcv
   ·rename_i hb;cases hcv;exact .inl ⟨a,rfl,PySem.W.mg_of X Gh hn,hb⟩
   ·cases hcv
  ·rename_i hn;split at hcv
   ·rename_i hb;cases hcv;exact .inr ⟨aE.mp hb,rfl,PySem.W.mg_none_of X Gh hn⟩
   ·cases hcv
  ·cases hcv
 ·have e3:(!true||xiB K C C' cv)=true:=cf.mp h2 _ (bb.mp hC);have e3:xiB K C C' cv=true:=e3;unfold xiB at e3;split at e3
  ·rename_i c hn;rw[ae,ae,aE]at e3;refine ⟨c,hn,e3.1.1,e3.1.2,λhs=>?_⟩;have:=e3.2;rw[hs,Bool.false_or,fh]at this;exact this
  ·cases e3
theorem bse{h:Heap}{fs:List (String×Nat)}{bt:List String}{cn:List (String×D)}(h1:AllF Φ P w K mg base k fs)(h2:AllB mg bt)(h3:AllC K mg cn)(X:K.In h)(Gh:h.Ns mainGlobals mg)(e:xsB K xs=true):Bse Φ P w K mg base (CX1 P w) k fs bt cn xs {}:=
 ⟨λ_ _ m=>(h1.get m).ex,λ_ m=>h2.get m,λ_ _ m=>h3.get m,ack X Gh e,acl X Gh e,(λ_ _ _ _ h=>(nomatch h)),(λ_ _ h=>(nomatch h)),(λ_ _ h=>(nomatch h))⟩
theorem yg{x:String}{i:Int}{t:Tok}(h:mg (Str.ofString x)=some (.int i t)):∃u v,mg (Str.ofString x)=some u/\RelV v u/\∀H F,Rep K H F (.int i) v:=⟨_,.int i,h,⟨t,rfl⟩,λ_ _=>rfl⟩
theorem acn{x:String}{l:List Nat}{s:Str}{t:Tok}(h:mg (Str.ofString x)=some (.str s t))(e:s=tx l)(hl:l.length<=sz):∃u v,mg (Str.ofString x)=some u/\RelV v u/\∀H F,Rep K H F (.str l) v:=⟨_,.str s,h,⟨t,rfl⟩,λ_ _=>⟨by rw[e],hl⟩⟩
theorem yh{n:Nat}{S:RF.Spec}{fa:Addr}{fd:FuncData}{ps:List Str}(h:∀ds G a,¬S.pre ds G a):FnOk P w K mg base (CX1 P w) k fa fd ps (lift K n S):=
 ⟨λ_ _ _ _ ⟨_,_,_,_,_,_,a,hp,_⟩=>absurd hp (h _ _ a),λ_ _ _ _ _ _ _ _ _ _ _ _ _ ⟨_,_,_,_,_,_,a,hp,_⟩=>absurd hp (h _ _ a)⟩
end
section
variable {Φ:aa} {P:Program} {w:World} {K:PF} {mg:Str->Option Value} {base:Heap} {k j n:Nat} {fs:List (String×Nat)} {bt:List String} {cn:List (String×D)} {xs:List (String×Bool)} {ot:OT} {x:String} {S:RF.Spec} {fa:Addr} {fd:FuncData} {ps:List Str}
theorem MthOk.mono{f C m:String}(h:MthOk Φ P w K mg base (CX1 P w) k f C m n)(hk:k<=j):MthOk Φ P w K mg base (CX1 P w) j f C m n:=by obtain ⟨c,fa,fd,ps,h1,h2,h3,h4,h5⟩:=h;exact ⟨c,fa,fd,ps,h1,h2,h3,h4,h5.mono hk⟩
theorem MkoOk.mono{C:String}(h:MkoOk Φ P w K mg base (CX1 P w) k C n)(hk:k<=j):MkoOk Φ P w K mg base (CX1 P w) j C n:=by obtain ⟨c,fa,fd,ps,sp,i,h0,h⟩:=h;exact ⟨c,fa,fd,ps,sp,i,bv h0 hk,h⟩
theorem Bse.add(B:Bse Φ P w K mg base (CX1 P w) k fs bt cn xs ot)(e:Φ x=S)(o:FnOk P w K mg base (CX1 P w) (k+j) fa fd ps (lift K n S))(h2:PySem.W.keepIn K (.ref fa)=true)(h3:Binds K fd ps [])(h4:mg (Str.ofString x)=some (.ref fa)):Bse Φ P w K mg base (CX1 P w) (k+j) ((x,n)::fs) bt cn xs ot:=by
 refine ⟨λf m hm=>?_,B.blt,B.con,B.xcl,B.xis,λf C m n h=>(B.mth f C m n h).mono (ck _ _),λC n h=>(B.mko C n h).mono (ck _ _),B.fld⟩;rcases aS.mp hm with e' |hm
 ·cases e';exact ⟨fa,fd,ps,by rw[e];exact o,h2,h3,h4⟩
 ·obtain ⟨fa,fd,ps,h1,h⟩:=B.call f m hm;exact ⟨fa,fd,ps,h1.mono (ck _ _),h⟩
theorem Bse.step{qual:Str}{st:Stmt}{N:List Str}{body:Sxs}(B:Bse Φ P w K mg base (CX1 P w) k fs bt cn xs ot)(F:Fun K (Str.ofString x) qual st fa fd)(h3:Binds K fd ps [])(h4:mg (Str.ofString x)=some (.ref fa))(e:Φ x=S)(m:Nat)
  (hs:fnB N ps (ao st)=true) (hc:aD (aH N (ao st) fs bt cn xs ot) body (aG st)=true) (hn:ps.length=n) (hm:N.length=n+m)
  (hw:∀ds G a,ds.length=n->S.pre ds G a->au Φ body noE (env0 ds m) G (ends (S.post a))):Bse Φ P w K mg base (CX1 P w) (k+1) ((x,n)::fs) bt cn xs ot:=
 B.add e (jE F B S n m hs hc hn hm hw) F.kp h3 h4
theorem Bse.addM{C m:String}{c:Addr}(B:Bse Φ P w K mg base (CX1 P w) k fs bt cn xs ot)(e:Φ x=S)(o:FnOk P w K mg base (CX1 P w) (k+j) fa fd ps (lift K n S))(h1:PySem.W.nsIn K mainGlobals (Str.ofString C)=some (some (.ref c)))(h2:Cls K c)(h3:Meth K c (Str.ofString m) fa)(h4:Binds K fd ps []):
  Bse Φ P w K mg base (CX1 P w) (k+j) fs bt cn xs { ot with ms:=(x,C,m,n)::ot.ms }:=by
 refine ⟨λf m hm=>?_,B.blt,B.con,B.xcl,B.xis,λf C' m' n' hm=>?_,λC n h=>(B.mko C n h).mono (ck _ _),B.fld⟩
 ·obtain ⟨fa,fd,ps,h1,h⟩:=B.call f m hm;exact ⟨fa,fd,ps,h1.mono (ck _ _),h⟩
 ·rcases aS.mp hm with e' |hm
  ·cases e';exact ⟨c,fa,fd,ps,h1,h2,h3,h4,by rw[e];exact o⟩
  ·exact (B.mth f C' m' n' hm).mono (ck _ _)
theorem Bse.stepM0{C m:String}{c:Addr}{nm qual:Str}{st:Stmt}{N:List Str}{body:Sxs}(B:Bse Φ P w K mg base (CX1 P w) k fs bt cn xs ot)(F:Fun K nm qual st fa fd)(h4:Binds K fd ps [])(h1:PySem.W.nsIn K mainGlobals (Str.ofString C)=some (some (.ref c)))(h2:Cls K c)(h3:Meth K c (Str.ofString m) fa)(e:Φ x=S)(mm:Nat)
  (hs:fnB N ps (ao st)=true) (hc:aD (aH N (ao st) fs bt cn xs ot) body (aG st)=true) (hn:ps.length=n) (hm:N.length=n+mm)
  (hw:∀ds G a,ds.length=n->S.pre ds G a->au Φ body noE (env0 ds mm) G (ends (S.post a))):Bse Φ P w K mg base (CX1 P w) (k+1) fs bt cn xs { ot with ms:=(x,C,m,n)::ot.ms }:=
 B.addM e (jE F B S n mm hs hc hn hm hw) h1 h2 h3 h4
theorem Bse.addK{C:String}(B:Bse Φ P w K mg base (CX1 P w) k fs bt cn xs ot)(o:MkoOk Φ P w K mg base (CX1 P w) (k+j) C n):Bse Φ P w K mg base (CX1 P w) (k+j) fs bt cn xs { ot with ks:=(C,n)::ot.ks }:=by
 refine ⟨λf m hm=>?_,B.blt,B.con,B.xcl,B.xis,λf C m n h=>(B.mth f C m n h).mono (ck _ _),λC' n' hm=>?_,B.fld⟩
 ·obtain ⟨fa,fd,ps,h1,h⟩:=B.call f m hm;exact ⟨fa,fd,ps,h1.mono (ck _ _),h⟩
 ·rcases aS.mp hm with e' |hm
  ·cases e';exact o
  ·exact (B.mko C' n' hm).mono (ck _ _)
theorem Bse.addF{C f:String}(B:Bse Φ P w K mg base (CX1 P w) k fs bt cn xs ot)(o:xN K C f):Bse Φ P w K mg base (CX1 P w) k fs bt cn xs { ot with fl:=(C,f)::ot.fl }:=by
 refine ⟨B.call,B.blt,B.con,B.xcl,B.xis,B.mth,B.mko,λC' f' hm=>?_⟩;rcases aS.mp hm with e' |hm
 ·cases e';exact o
 ·exact B.fld C' f' hm
noncomputable def gM(Φ:aa)(x:String)(S:RF.Spec):aa:=λf=>if f=x then S else Φ f
theorem jJ{y:String}(e:Φ y=S){S':RF.Spec}(h:(y==x)=false):gM Φ x S' y=S:=by unfold gM;rw[if_neg (by simpa using h)];exact e
theorem Bse.self(B:Bse Φ P w K mg base (CX1 P w) k fs bt cn xs {})(hx:(fs.map (·.1)).contains x=false)(o:FnOk P w K mg base (CX1 P w) (k+j) fa fd ps (lift K n S))(h2:PySem.W.keepIn K (.ref fa)=true)(h3:Binds K fd ps [])(h4:mg (Str.ofString x)=some (.ref fa)):Bse (gM Φ x S) P w K mg base (CX1 P w) (k+j) ((x,n)::fs) bt cn xs {}:=by
 refine ⟨λf m hm=>?_,B.blt,B.con,B.xcl,B.xis,(λ_ _ _ _ h=>(nomatch h)),(λ_ _ h=>(nomatch h)),(λ_ _ h=>(nomatch h))⟩;rcases aS.mp hm with e' |hm'
 ·cases e';exact ⟨fa,fd,ps,by unfold gM;rw[if_pos rfl];exact o,h2,h3,h4⟩
 ·obtain ⟨fa,fd,ps,h1,h⟩:=B.call f m hm';have hf:f≠x:=by
   rintro rfl;rw[<-Bool.not_eq_true,bb]at hx;exact hx (ca.mpr ⟨(f,m),hm',rfl⟩)
  exact ⟨fa,fd,ps,by unfold gM;rw[if_neg hf];exact h1.mono (ck _ _),h⟩
end
theorem aco{S:RF.Spec}(hS:∀(ns:List Int)(G:DH),ns.length<=63->∃a,S.pre [.scr ns] G a/\(∀d G',S.post a d G'->d=.bl true)/\∀x G',¬S.exc a x G')(K:PF)(H:Hp)(a:Addr)(ns:List Int)(hl:ns.length<=63)(hO:Only H)(hs:SqL K H a (ns.map V.int)):
  lift K 1 S [.ref a] H (λv _=>v=.bl true) λ_ _ _=>False:=by
 obtain ⟨b,h1,h2,h3⟩:=hS ns (λ_=>none) hl;refine ⟨rfl,λ_=>False,λ_=>none,[.scr ns],⟨λ_ f=>f.elim,λ_ _ e=>by cases e⟩,⟨.ref a,[],rfl,⟨a,rfl,?_⟩,rfl⟩,b,h1,λd G' q H' F' v _ _ rv=>?_,λx G' q=>absurd q (h3 x G')⟩
 ·rcases hs with (h |h) |h
  ·exfalso;rcases hO a with z |⟨o,u,z⟩
   ·rw[z]at h;cases h
   ·rw[z]at h;cases h
  ·exact .inl h
  ·exact .inr h
 ·rw[h2 d G' q]at rv;exact rv
theorem acp{pre:List D->DH->Prop}(h:∀(ns:List Int)(G:DH),ns.length<=63->pre [.scr ns] G):∀(ns:List Int)(G:DH),ns.length<=63->∃a,(bB pre (λ_ _ d _=>d=.bl true)).pre [.scr ns] G a/\(∀d G',(bB pre (λ_ _ d _=>d=.bl true)).post a d G'->d=.bl true)/\∀x G',¬(bB pre (λ_ _ d _=>d=.bl true)).exc a x G':=
 λns G hl=>⟨([.scr ns],G),⟨rfl,h ns G hl⟩,λ_ _ q=>q,λ_ _ z=>z⟩
noncomputable def ghS{A:Type}(pre:A->List D->DH->Prop)(post:A->DH->D->DH->Prop):RF.Spec where
 A:=A×DH
 pre:=λds G a=>a.2=G/\pre a.1 ds G
 post:=λa d G'=>post a.1 a.2 d G'
 exc:=λ_ _ _=>False
theorem cJ{A:Type}{pre:A->List D->DH->Prop}{post:A->DH->D->DH->Prop}{ds:List D}{G:DH}{k:D->DH->Prop}{E:EK}(a:A)(h:pre a ds G)(hk:∀d G',post a G d G'->k d G'):(ghS pre post).t ds G k E:=
 ⟨(a,G),⟨rfl,h⟩,hk,λ_ _ z=>z.elim⟩
theorem cQ{A:Type}{Φ:aa}{body:Sxs}{m n:Nat}{pre:A->List D->DH->Prop}{post:A->DH->D->DH->Prop}(h:∀a ds G,pre a ds G->au Φ body noE (env0 ds m) G (ends (post a G))):
  ∀ds G a,ds.length=n->(ghS pre post).pre ds G a->au Φ body noE (env0 ds m) G (ends ((ghS pre post).post a)):=by
 rintro ds G ⟨a,G0⟩ _ ⟨rfl,h1⟩;exact h a ds _ h1
noncomputable def bZ{A:Type}(args:A->List D)(ok:A->Prop)(val:A->D):RF.Spec:=ghS (λa ds _=>ds=args a/\ok a) (λa G d G'=>G'=G/\d=val a)
theorem cB{A:Type}{args:A->List D}{ok:A->Prop}{val:A->D}{ds:List D}{G:DH}{k:D->DH->Prop}{E:EK}(a:A)(e:ds=args a)(h:ok a)(hk:k (val a) G):(bZ args ok val).t ds G k E:=
 cJ a ⟨e,h⟩ λd G' ⟨e1,e2⟩=>by subst e1 e2;exact hk
theorem cR{A:Type}{Φ:aa}{body:Sxs}{m n:Nat}{args:A->List D}{ok:A->Prop}{val:A->D}(h:∀a G,ok a->au Φ body noE (env0 (args a) m) G (ends λd G'=>G'=G/\d=val a)):
  ∀ds G a,ds.length=n->(bZ args ok val).pre ds G a->au Φ body noE (env0 ds m) G (ends ((bZ args ok val).post a)):=
 cQ λa ds G ⟨e,h1⟩=>by subst e;exact h a G h1
theorem ai{a b:Prop}(x:a)(y:b):a/\b:=⟨x,y⟩
noncomputable def Nj:=ai @rP (ai @jo (ai @rQ (ai @rR (ai @wB (ai @rT (ai @rW (ai @rY (ai @rZ (ai @sr (ai @su (ai (ai @sE (ai @kj (ai @wD (ai @wF (ai (ai @wJ (ai @wG (ai @wH @wI))) (ai @wK (ai @wL (ai (ai @wk (ai (ai (ai @rJ (ai @rK (ai @rM @rN))) (ai @wu @ww)) (ai @wy (ai @wz @wA)))) (ai @wC @sy))))))))) (ai @M8 (ai @Nh (ai (ai @qX (ai @qK (ai @qL (ai @qM (ai @jl (ai @gF (ai @gG (ai @qN (ai @j7 (ai @qO (ai @j8 (ai @qP (ai @qQ (ai @qR (ai @qT (ai @v8 (ai @v9 (ai @wg (ai @qU @qW))))))))))))))))))) (ai @ie (ai @qY (ai @qZ (ai @q8 (ai @j9 (ai @kh (ai @q9 (ai @rm (ai @rn (ai @rz (ai @rA (ai @rB (ai (ai @rD @wj) (ai @rE (ai @rF (ai @rG (ai @rH (ai @eX (ai @rO (ai @Ng (ai @HN (ai @HQ (ai @HR (ai @HS (ai @HW (ai @HX (ai (ai @Ia (ai @H9 @HY)) (ai @Ib (ai @Ie (ai @Ig (ai @Ih (ai @Ii (ai @Ij (ai @Ik (ai @Il (ai @Im (ai @Io (ai @Ip (ai @Ir (ai @Iu (ai @Iv (ai @Iw (ai @Iz (ai @IK (ai @IV (ai @IW (ai @Ja (ai @Jb (ai @Jc (ai @Jd (ai @Jf (ai @Jg (ai @Jh (ai @Ji (ai @Jj (ai @Jm (ai @Jo (ai @Jp (ai @Jq (ai (ai @Js @Jr) (ai @Jt (ai @Ju (ai @Jv (ai @Jw (ai @Jx (ai @Jy (ai @JB (ai @JC (ai @JD (ai @JF (ai (ai @JN @JM) (ai (ai @JP (ai (ai @JL (ai @JH @JK)) @JG)) (ai @JQ (ai @JR (ai @JS (ai @JT (ai (ai @JV (ai @J1 (ai @J2 (ai @J3 (ai @J4 (ai @Kq @Kp)))))) (ai @JW (ai (ai @J0 (ai @JX @JZ)) (ai @J5 (ai @J6 (ai @J7 (ai @J8 (ai @J9 (ai @Ka (ai @Kc (ai @Kd (ai @Ke (ai @Kf (ai @Kg (ai @Kh (ai @Kl (ai @Km (ai @Ko (ai @Kr (ai @Ks (ai @Ku (ai @Kv (ai @Kw (ai @Ky (ai @Kz (ai @KC (ai @KD (ai @KH (ai @KJ (ai @KN (ai @KQ (ai @KR (ai @is_tup (ai @KY (ai @KZ (ai (ai @K3 @K1) (ai @K4 (ai @K5 (@Jl)))))))))))))))))))))))))))))))))))))))))))))))))))))))))))))))))))))))))))))))))))))))))))))))))))))))))))))))))))))))))))))))))
theorem acq:type_of% (af @jm @jn):=af @jm @jn
theorem Nk:type_of% (af @M9 (af @Nb (af @Nf (af @Option.join_some.{0} (af @bq.{0,0} (af @dn.{0,0} (af @List.cons_append.{0} (af @List.nil_append.{0} (af @b9.{0} (af @List.replicate_zero.{0} (af @List.getElem?_cons_zero.{0} (af @List.getElem?_cons_succ.{0} (af @List.set_cons_zero.{0} (af @List.set_cons_succ.{0} (af @c5.{0} (af @List.length_nil.{0} (af @Hu (af @Hv (af @Hw (af @Hx (af @Hy (af @Hz (af @HB (af @true_and (af @ez (af @Nat.min_self (af @Nat.zero_min (af @Nat.min_zero (af @eI (af @Bool.or_false (af @Bool.or_true (af @Bool.false_or (af @Bool.true_or (af @Bool.not_true (af @Bool.not_false (af @K6 (af @K7 (af @K8 (af @K9 (af @La (af @Lb (af @Ld (af @Lg (af @Lh (af @Li (af @Lj (af @Lk (af @Ln (af @Lp (af @Lq (af @Lr (af @Ls (af @Lw (af @Lx (af @Ly (af @Lz (af @LC (af @LK (af @LQ (af @LR (af @Ma (af @Mg (af @Mh (af @Mi (af @Mj (af @Ml (af @Mm (af @Mp (af @Mq (af @Mr (af @Ms (af @Mt (af @Mu (af @Mv (af @Mw (af @Mx (af @My (af @Mz (af @MF (af @MJ (af @MK (af @MN (af @MP (af @MT (af @M3 (af @M4 (af @M5 (af @M6 (@M7))))))))))))))))))))))))))))))))))))))))))))))))))))))))))))))))))))))))))))))))))))))))):=af @M9 (af @Nb (af @Nf (af @Option.join_some.{0} (af @bq.{0,0} (af @dn.{0,0} (af @List.cons_append.{0} (af @List.nil_append.{0} (af @b9.{0} (af @List.replicate_zero.{0} (af @List.getElem?_cons_zero.{0} (af @List.getElem?_cons_succ.{0} (af @List.set_cons_zero.{0} (af @List.set_cons_succ.{0} (af @c5.{0} (af @List.length_nil.{0} (af @Hu (af @Hv (af @Hw (af @Hx (af @Hy (af @Hz (af @HB (af @true_and (af @ez (af @Nat.min_self (af @Nat.zero_min (af @Nat.min_zero (af @eI (af @Bool.or_false (af @Bool.or_true (af @Bool.false_or (af @Bool.true_or (af @Bool.not_true (af @Bool.not_false (af @K6 (af @K7 (af @K8 (af @K9 (af @La (af @Lb (af @Ld (af @Lg (af @Lh (af @Li (af @Lj (af @Lk (af @Ln (af @Lp (af @Lq (af @Lr (af @Ls (af @Lw (af @Lx (af @Ly (af @Lz (af @LC (af @LK (af @LQ (af @LR (af @Ma (af @Mg (af @Mh (af @Mi (af @Mj (af @Ml (af @Mm (af @Mp (af @Mq (af @Mr (af @Ms (af @Mt (af @Mu (af @Mv (af @Mw (af @Mx (af @My (af @Mz (af @MF (af @MJ (af @MK (af @MN (af @MP (af @MT (af @M3 (af @M4 (af @M5 (af @M6 (@M7))))))))))))))))))))))))))))))))))))))))))))))))))))))))))))))))))))))))))))))))))))))))
noncomputable def ut(c:CT)(g f:String)(ss:List Stmt):Bool:=(two ss).any λs=>az (jw s.2) λa=>(one a.1).any λtg=>az (fW tg) λv=>aX c (.exp (.call g (.cons (.var 1) .nil))) s.1&&aj c (.var 0) v.1&&v.2.1==Str.ofString f&&!cP a.2.1&&aj c (.lst false (.cons (.var 1) .nil)) a.2.1
theorem acr{c:CT}{g f:String}{ss:List Stmt}(h:ut c g f ss=true):∃s1 o n p e pos,ss=[s1,.Assign [.Attribute o n p] e pos]/\aX c (.exp (.call g (.cons (.var 1) .nil))) s1=true/\aj c (.var 0) o=true/\n=Str.ofString f/\cP e=false/\aj c (.lst false (.cons (.var 1) .nil)) e=true:=by unfold ut at h;obtain ⟨s,hs,h⟩:=aY h;obtain ⟨a,ha,h⟩:=aL h;obtain ⟨tg,ht,h⟩:=aY h;obtain ⟨v,hv,h⟩:=aL h;rw[ae,ae,ae,ae,aE,fh]at h;obtain ⟨⟨⟨⟨h1,h2⟩,h3⟩,h4⟩,h5⟩:=h;exact ⟨_,_,_,_,_,_,by rw[kW hs,ha,fu ht,hv],h1,h2,h3,h4,h5⟩
section
variable {Φ:aa} {P:Program} {w:World} {K:PF} {mg:Str->Option Value} {base:Heap} {k:Nat} {fs:List (String×Nat)} {bt:List String} {cn:List (String×D)} {xs:List (String×Bool)} {ot:OT}
noncomputable def acs(Φ:aa)(K:PF)(c:Addr)(g f:String):Sp:=λvs H Q EX=>∃x b dx d F G,vs=[.ref x,b]/\H x=some (.ins c dx [])/\F x/\R K H F G/\Rep K H F d b/\
 (Φ g).t [d] G (λ_ G1=>∀q,G1 q=none->∀H2 F2,Ext H F H2 F2->R K H2 F2 (aF G1 q (.lst [d]))->Q .non (upd H2 x (.ins c dx [(Str.ofString f,.ref q)]))) (PX K H F EX)
theorem acu{C f g:String}{nm qual:Str}{st:Stmt}{fa c:Addr}{fd:FuncData}{N ps:List Str}(B:Bse Φ P w K mg base (CX1 P w) k fs bt cn xs ot)(Fu:Fun K nm qual st fa fd)(hb:Binds K fd ps [])
  (hmg:mg (Str.ofString C)=some (.ref c)) (hns:PySem.W.nsIn K mainGlobals (Str.ofString C)=some (some (.ref c))) (hcl:Cls K c) (hna:NoAttr K c (Str.ofString f)) (M:Mk K c fa)
  (hs:fnB N ps (ao st)=true) (hc:ut (aH N (ao st) fs bt cn xs ot) g f (aG st)=true) (hn:ps.length=2) (hm:N.length=2)
  (hS:∀d G kk E,(Φ C).t [d] G kk E->(Φ g).t [d] G (λ_ G1=>∀q,G1 q=none->kk (.obj C f q) (aF G1 q (.lst [d]))) E):MkoOk Φ P w K mg base (CX1 P w) (k+2) C 1:=by
 refine ⟨c,fa,fd,ps,acs Φ K c g f,k+1,ax _,hmg,M,hb,?_,?_⟩
 ·obtain ⟨s1,o,n,p,e,pos,eb,c1,c2,en,c3,c4⟩:=acr hc;subst en;refine Fu.okX (xZ hs) (λvs H Q E h=>by obtain ⟨x,b,dx,d,F,G,rfl,_⟩:=h;rw[hn];rfl) λcdv A outer s H vs Q EX hr hsp=>?_;obtain ⟨x,b,dx,d,F,G,rfl,hx,fx,r,rb,ht⟩:=hsp;have St:Stat Φ (CX1 P w) k (aH N (ao st) fs bt cn xs ot) (PX K H F EX) ⟨H,F⟩ (cV (CX1 P w) P w K mg base N qual (ao st) fa cdv A outer s H EX):=aca B hs hr λx G' H' F' hx e r'=>hx H' F' e r';rw[eb];refine ⟨_,Av (Ho St _ c1) (U6 (Wo (aA _ St c2) (aA _ St c4) (uo c3 _ _ _))),?_⟩;refine ⟨[some (.ref x),some d],F,G,Ext.refl _ _,?_,r,?_⟩
  ·have e2:L2.start N [V.ref x,b]=[some (V.ref x),some b]:=by
    unfold L2.start;rw[show N.length - [V.ref x,b].length=0 by rw[hm];rfl];rfl
   rw[e2];exact ⟨_,_,rfl,λd' hd=>⟨_,rfl,by cases hd;rfl⟩,_,_,rfl,λd' hd=>⟨_,rfl,by cases hd;exact rb⟩,rfl⟩
  ·show (Φ g).t [d] G _ _;refine Spec.mono ht (λd' G1 q=>?_) λ_ _ z=>z;intro H1 F1 σ1 x1 he1 r1;refine aN (x:=.lst false (.cons (.var 1) .nil)) (E:=PX K H F EX) (ρ:=[some (.ref x),some d]) (G:=G1) (W:=λy G2=>∃q',y=.ref q'/\G1 q'=none/\G2=aF G1 q' (.lst [d])) x1 he1 r1 ?_ ?_
   ·show _/\mk false [d] G1 _;exact ⟨show 1<=sz by decide,λq' hq'=>⟨q',rfl,hq',rfl⟩⟩
   ·rintro y G2 H2 F2 v ⟨q',rfl,hq',rfl⟩ e2 x2 he2 r2 rv;refine aN (x:=.var 0) (E:=PX K H F EX) (ρ:=[some (.ref x),some d]) (W:=λy G3=>y=.ref x/\G3=aF G1 q' (.lst [d])) e2 he2 r2 ⟨rfl,rfl⟩ ?_;rintro y G3 H3 F3 v3 ⟨rfl,rfl⟩ e3 x3 he3 r3 rv3;have ev:v=.ref q':=rv;have ev3:v3=.ref x:=rv3;subst ev ev3;have hx3:H3 x=some (.ins c dx []):=(e3.keep x fx).trans hx;refine ⟨x,c,dx,[],rfl,hx3,hcl,hna,by decide,?_⟩;exact q q' hq' H3 F3 e3 r3
 ·intro vs H Q E hl x dx hx hdx hne;obtain ⟨hlen,F,G,ds,r,rs,ht⟩:=hl;obtain ⟨d,rfl⟩:=bY (rs.length.trans hlen);obtain ⟨b,rfl,rb⟩:=bw rs;have hx1:(upd H dx (.own x)) x=none:=by rw[aJ (Ne.symm hne)];exact hx
  have r1:=r.newO (o:=.own x) hdx;have e1:=vN (o:=.own x) r hdx;have r2:=r1.newO (o:=.ins c dx []) hx1;have e2:=vN (o:=.ins c dx []) r1 hx1;have e12:=e1.trans e2;refine ⟨x,b,dx,d,_,G,rfl,cL,.inr rfl,r2,Rep.ext e12 rb,?_⟩;refine Spec.mono (hS d G _ _ ht) (λd' G1 q=>λq' hq' H2 F2 x2 r2'=>⟨rfl,?_⟩) λxn G' z H2 F2 x2 r2'=>z H2 F2 (e12.trans x2) r2';have hx2:H2 x=some (.ins c dx []):=(x2.keep x (.inr rfl)).trans cL;have e3:=e12.trans x2;refine q q' hq' (upd H2 x (.ins c dx [(Str.ofString f,.ref q')])) F2 (.ref x) ⟨e3.sub,λa ha=>?_,λa ys ha=>?_,λa o u ha=>?_⟩ (r2'.setO hx2) ⟨x,c,dx,rfl,⟨x2.sub x (.inr rfl),cL⟩,hns⟩
  ·rw[aJ λe=>r.notF hx (by rw[<-e];exact ha)];exact e3.keep a ha
  ·rw[aJ (bf ha hx)];exact e3.tups a ys ha
  ·rw[aJ (bf ha hx)];exact e3.frzs a o u ha
theorem Bse.alias{x y:String}{n:Nat}(B:Bse Φ P w K mg base (CX1 P w) k fs bt cn xs ot)(hm:fs.contains (x,n)=true)(e:Φ y=Φ x)(h:mg (Str.ofString y)=mg (Str.ofString x)):Bse Φ P w K mg base (CX1 P w) (k+1) ((y,n)::fs) bt cn xs ot:=by obtain ⟨fa,fd,ps,F0,hk,hb,hmg⟩:=B.call x n (bb.mp hm);exact B.add e (F0.mono (fk _)) hk hb (h.trans hmg)
end
section
local macro_rules|`(#[])=>`(.nil)|`(#[$x])=>`(.cons $x .nil)|`(#[$x,$y,*])=>`(.cons $x #[$y,*])
local macro_rules|`(-$x)=>`(.var $x)
local macro_rules|`(¬$x)=>`(.cst (.int $x))
local macro_rules|`(!$x)=>`(.cst (.str $x))
local macro_rules|`($x<|$y)=>`(.call $x $y)
noncomputable def lB:Sxs:=#[.ite (.boo false (.not (.val (.isi (-0) "str"))) #[.not (.val (.chn .LtE .LtE (¬1) (.bcl .len #[-0]) (.glb "LONGEST_DEED" (.int 8))))]) #[.ret (.cst (.bl false))] #[],.ret (.bcl .all #[.comp true (.cmp .In (-0) (.glb "LETTERS" (.str [97,98,99,100,101,102,103,104,105,106,107,108,109,110,111,112,113,114,115,116,117,118,119,120,121,122]))) (.nm 0) (.seq (-0)) .yes ["sign"] [none]])]
noncomputable def lC:Sxs:=#[.ite (.boo false (.not (.val (.isi (-2) "str"))) #[.val (.cmp .NotEq (.bcl .len #[-2]) (-1))]) #[.ret (.cst (.bl false))] #[],.ret (.bcl .all #[.comp true (.cmp .In (-0) (-1)) (.nm 0) (.seq (-2)) .yes ["sign","signs"] [none,some 0]])]
noncomputable def lE:Sxs:=#[.ret ("is_text_of"<|#[![48,49,42],-0,-1])]
noncomputable def lF:Sxs:=#[.ite (.boo false (.not (.val (.isi (-1) "tuple"))) #[.val (.cmp .NotEq (.bcl .len #[-1]) (¬2))]) #[.ret (.cst (.bl false))] #[],.ret (.boo true ("is_form"<|#[-0,.idx (-1) (¬0)]) #["is_deed"<|#[.idx (-1) (¬1)]])]
noncomputable def lG:Sxs:=#[.ret (.boo true (.isi (-0) "int") #[.not (.isi (-0) "bool")])]
noncomputable def lH:Sxs:=#[.ret (.boo true ("is_whole"<|#[-0]) #[.chn .LtE .LtE (¬1) (-0) (.glb "WIDEST" (.int 6))])]
noncomputable def lJ:Sxs:=#[.ite (.boo false (.not (.val (.isi (-0) "tuple"))) #[.val (.cmp .NotEq (.bcl .len #[-0]) (¬2))]) #[.ret (.cst (.bl false))] #[],.asg (.tp #[.nm 1,.nm 2]) (-0),.ite (.boo false (.not (.val ("is_width"<|#[-1]))) #[.not (.val (.isi (-2) "tuple")),.val (.cmp .Gt (.bcl .len #[-2]) (.glb "MOST_ROWS" (.int 12)))]) #[.ret (.cst (.bl false))] #[],.ret (.bcl .all #[.comp true ("is_row"<|#[-1,-0]) (.nm 0) (.seq (-2)) .yes ["row","width"] [none,some 1]])]
noncomputable def lK:Sxs:=#[.ite (.not (.val ("is_book"<|#[-0]))) #[.rse "NoBook" #[]] #[]]
noncomputable def lL:Sxs:=#[.asg (.nm 2) (![]),.for_ (.tp #[.nm 3,.nm 4]) (.zip (-0) (-1)) #[.ite (.val (.cmp .Eq (-3) (![42]))) #[.aug 2 .Add (-4)] #[.ite (.boo false (.val (.cmp .Eq (-4) (![42]))) #[.val (.cmp .Eq (-4) (-3))]) #[.aug 2 .Add (-3)] #[.ret (.cst .non)]]],.ret (-2)]
noncomputable def lM:Sxs:=#[.for_ (.tp #[.nm 2,.nm 3]) (.enm (-0)) #[.ite (.val (.cmp .IsNot ("both"<|#[.idx (-3) (¬0),-1]) (.cst .non))) #[.ret (-2)] #[]],.ret (.cst .non)]
noncomputable def lN:Sxs:=#[.asg (.nm 2) ("first_touching"<|#[-0,-1]),.ite (.val (.cmp .Is (-2) (.cst .non))) #[.ret (.cst .non)] #[],.for_ (.tp #[.nm 3,.nm 4]) (.enm (.idx (.idx (-0) (-2)) (¬0))) #[.ite (.boo true (.val (.cmp .Eq (.idx (-1) (-3)) (![42]))) #[.val (.cmp .NotEq (-4) (![42]))]) #[.ret (-3)] #[]],.ret (.cst .non)]
noncomputable def lO:Sxs:=#[.ret (.bin .Add true (.bin .Add true (.slc true (-0) .no (.ob (-1))) (-2)) (.slc true (-0) (.ob (.bin .Add true (-1) (¬1))) .no))]
noncomputable def jK:Sxs:=#[.for_ (.nm 3) (.seq (-1)) #[.asg (.nm 4) ("splitting_place"<|#[-3,-2]),.ite (.val (.cmp .IsNot (-4) (.cst .non))) #[.asg (.nm 5) ("grown"<|#[-0,-1,"with_sign"<|#[-2,-4,![48]]]),.asg (.nm 6) ("grown"<|#[-0,-1,"with_sign"<|#[-2,-4,![49]]]),.ret (.tup #[![115,112,108,105,116],-4,-5,-6])] #[]],.ret (.bin .Add true (.tup #[-0]) (.bcl .tuple #[.comp true ("first_touching"<|#[-0,-1]) (.nm 0) (.seq (-1)) .yes ["rows","box"] [none,some 2]]))]
noncomputable def lQ:Sxs:=#[.ret (.boo true (.isi (-2) "tuple") #[.cmp .Eq (.bcl .len #[-2]) (.bin .Add true (-1) (¬1)),.cmp .Eq (.idx (-2) (¬0)) (-0)])]
noncomputable def lU:Sxs:=#[.ret (.boo true ("is_whole"<|#[-1]) #[.chn .LtE .Lt (¬0) (-1) (-0)])]
noncomputable def iG:Sxs:=#[.ite (.not (.val ("is_named"<|#[![115,112,108,105,116],¬3,-1]))) #[.ret (.lst true #[.tup #[-0,-1]])] #[],.asg (.nm 2) (.idx (-1) (¬1)),.ite (.boo false (.not (.val ("is_place"<|#[.bcl .len #[-0],-2]))) #[.val (.cmp .NotEq (.idx (-0) (-2)) (![42]))]) #[.ret (.cst .non)] #[],.asg (.nm 3) ("leaves"<|#["with_sign"<|#[-0,-2,![48]],.idx (-1) (¬2)]),.asg (.nm 4) ("leaves"<|#["with_sign"<|#[-0,-2,![49]],.idx (-1) (¬3)]),.ite (.boo false (.val (.cmp .Is (-3) (.cst .non))) #[.val (.cmp .Is (-4) (.cst .non))]) #[.ret (.cst .non)] #[],.ret (.bin .Add true (-3) (-4))]
noncomputable def lV:Sxs:=#[.exp ("need_book"<|#[-0]),.ite (.not (.val ("is_place"<|#[.bcl .len #[.idx (-0) (¬1)],-1]))) #[.rse "NoRow" #[.bcl .len #[.idx (-0) (¬1)]]] #[]]
noncomputable def lW:Sxs:=#[.exp ("need_row"<|#[-0,-1]),.asg (.nm 2) (.idx (-0) (¬1)),.asg (.nm 3) (.idx (.idx (-2) (-1)) (¬0)),.asg (.nm 4) ("grown"<|#[![117,110,100,101,114],.lst true #[.slc true (-2) .no (.ob (-1))],-3]),.asg (.nm 5) (.comp true ("least"<|#[-0]) (.tp #[.nm 0,.nm 1]) (.seq ("leaves"<|#[-3,-4])) (.val (.cmp .Is (.idx (-1) (¬1)) (.cst .non))) ["box","leaf"] [none,none]),.ite (.val (-5)) #[.ret (.tup #[![119,111,114,100],.bcl .min #[-5]])] #[],.ret (.tup #[![104,105,100,100,101,110],-4])]
noncomputable def lX:Sxs:=#[.exp ("need_book"<|#[-0]),.ret (.comp false (-0) (.nm 0) (.rng (.bcl .len #[.idx (-0) (¬1)])) (.val (.cmp .Eq (.idx ("reach"<|#[-1,-0]) (¬0)) (![104,105,100,100,101,110]))) ["number","book"] [none,some 0])]
noncomputable def lY:Sxs:=#[.exp ("need_book"<|#[-0]),.exp ("need_book"<|#[-1]),.ite (.val (.cmp .NotEq (.idx (-0) (¬0)) (.idx (-1) (¬0)))) #[.rse "NoMatch" #[.idx (-0) (¬0),.idx (-1) (¬0)]] #[]]
noncomputable def jL:Sxs:=#[.ite (.val (.cmp .Is (-1) (.cst .non))) #[.ret (.cst .non)] #[],.ret (.idx (.idx (.idx (-0) (¬1)) (-1)) (¬1))]
noncomputable def lZ:Sxs:=#[.ret (.cmp .Eq ("deed_of"<|#[-0,.idx (-2) (¬1)]) ("deed_of"<|#[-1,.idx (-2) (¬2)]))]
noncomputable def mj:Sxs:=#[.ret (.bin .Mult true (![42]) (-0))]
noncomputable def mq:Sxs:=#[.exp ("need_two_books"<|#[-0,-1]),.asg (.nm 2) ("stars"<|#[.idx (-0) (¬0)]),.asg (.nm 3) ("grown"<|#[![115,97,109,101],.lst true #[.idx (-0) (¬1),.idx (-1) (¬1)],-2]),.asg (.nm 4) (.comp true ("least"<|#[-0]) (.tp #[.nm 0,.nm 1]) (.seq ("leaves"<|#[-2,-3])) (.not (.val ("same_deeds"<|#[-2,-3,-1]))) ["part","leaf","one","other"] [none,none,some 0,some 1]),.ite (.val (-4)) #[.ret (.tup #[![112,97,114,116,101,100],.bcl .min #[-4]])] #[],.ret (.tup #[![97,108,105,107,101],-3])]
noncomputable def my:Sxs:=#[.asg (.tp #[.nm 2,.nm 3]) ("alike"<|#[-0,-1]),.ret (.ife (.val (.cmp .Eq (-2) (![112,97,114,116,101,100]))) (-3) (.cst .non))]
noncomputable def mz:Sxs:=#[.exp ("need_row"<|#[-0,-1]),.asg (.tp #[.nm 2,.nm 3]) (-0),.ret (.tup #[-2,.bin .Add true (.slc true (-3) .no (.ob (-1))) (.slc true (-3) (.ob (.bin .Add true (-1) (¬1))) .no)])]
noncomputable def yj:Sxs:=#[.set (-0) (¬2) (¬0),.ret (-0)]
noncomputable def yl:Sxs:=#[.ite (.val (.cmp .GtE (-0) (.bin .Pow true (¬10) (¬18)))) #[.ret (-0)] #[],.asg (.nm 2) (.bin .Mod true (.bin .Add true (.bin .Add true (.bin .Mult true (.bin .Mod true (-0) (¬1000000007)) (¬69069)) (.bin .Mult true (-1) (¬40503))) (¬977)) (¬2147483629)),.asg (.nm 3) (.bin .Mod true (.bin .Add true (.bin .Add true (.bin .Mult true (-2) (-2)) (.bin .Mult true (-1) (¬7919))) (.bin .Mod true (-0) (¬65537))) (¬2147483587)),.asg (.nm 4) (.bin .Mod true (.bin .Add true (.bin .Add true (.bin .Mult true (-3) (-3)) (.bin .Mult true (-2) (¬31))) (¬5)) (¬2147483563)),.ret (.bin .Add true (.bin .Mult true (.bin .Add true (.bin .Mult true (-2) (¬2147483659)) (-3)) (¬2147483693)) (-4))]
noncomputable def ym:Sxs:=#[.ite (.val (.cmp .Lt (.idx (-0) (¬2)) (-1))) #[.asg (.nm 2) (.idx (-0) (¬1)),.asg (.nm 3) (¬0),.ite (.val (.cmp .Lt (-2) (.bcl .len #[.idx (-0) (¬0)]))) #[.asg (.nm 3) (.idx (.idx (-0) (¬0)) (-2))] #[.ite (.val (.cmp .Gt (.bcl .len #[.idx (-0) (¬0)]) (¬0))) #[.asg (.nm 3) (.bin .Mod true (.idx (.idx (-0) (¬0)) (.bin .Mod true (.bin .Add true (.bin .Mult true (-2) (¬5)) (¬3)) (.bcl .len #[.idx (-0) (¬0)]))) (.bin .Add true (.bin .Pow true (¬10) (¬17)) (-2)))] #[]],.set (-0) (¬1) (.bin .Add true (-2) (¬1)),.set (-0) (¬2) ("_law_spread"<|#[-3,-2])] #[],.asg (.nm 4) (.bin .Mod true (.idx (-0) (¬2)) (-1)),.set (-0) (¬2) (.bin .FloorDiv true (.idx (-0) (¬2)) (-1)),.ret (-4)]
noncomputable def yo:Sxs:=#[.ret (.mth .join (![]) #[.comp true (.idx (-1) ("_law_take"<|#[-2,.bcl .len #[-1]])) (.nm 0) (.rng (-1)) .yes ["at","signs","pen"] [none,some 2,some 0]])]
noncomputable def yp:Sxs:=#[.asg (.nm 2) (.lst true #[![97],![103,111],![115,116,97,121],![97,98,99,100,101,102,103,104],![110,111,110,101],![121,101,115],![105,110],![111,117,116],![107,101,101,112],![119,111,114,100],![122,122]]),.asg (.nm 3) ("_law_take"<|#[-0,¬11]),.asg (.nm 4) (.comp true (.idx (-1) (.bin .Mod true (.bin .Add true (-2) (.bin .Mult true (¬3) (-0))) (¬11))) (.nm 0) (.rng (.bin .Add true (¬1) ("_law_take"<|#[-0,-1]))) .yes ["k","some","turn"] [none,some 2,some 3]),.ite (.val (.cmp .Eq ("_law_take"<|#[-0,¬3]) (¬0))) #[.asg (.nm 5) (![97,98,99,100,101,102,103,104,105,106,107,108,109,110,111,112,113,114,115,116,117,118,119,120,121,122]),.asg (.nm 4) (.comp true ("_law_signs"<|#[-1,.bin .Add true (¬1) ("_law_take"<|#[-1,¬8]),-2]) (.nm 0) (.seq (-4)) .yes ["one","pen","letters"] [none,some 0,some 5])] #[],.ret (-4)]
noncomputable def yq:Sxs:=#[.ret ("_law_signs"<|#[-0,-1,.idx (.lst true #[![48,49,42],![48,49,42,42],![48,49,42,42,42,42],![48,42],![48,49]]) ("_law_take"<|#[-0,¬5])])]
noncomputable def yr:Sxs:=#[.asg (.nm 2) (![]),.for_ (.nm 3) (.seq (-1)) #[.ite (.val (.cmp .Eq ("_law_take"<|#[-0,¬3]) (¬0))) #[.asg (.nm 3) (![42])] #[],.asg (.nm 2) (.bin .Add true (-2) (-3))],.ret (-2)]
noncomputable def yt:Sxs:=#[.asg (.nm 2) (![]),.for_ (.nm 3) (.seq (-1)) #[.ite (.boo true (.val (.cmp .Eq (-3) (![42]))) #[.val (.cmp .Eq ("_law_take"<|#[-0,¬2]) (¬0))]) #[.asg (.nm 3) (.idx (![48,49]) ("_law_take"<|#[-0,¬2]))] #[],.asg (.nm 2) (.bin .Add true (-2) (-3))],.ret (-2)]
noncomputable def yu:Sxs:=#[.asg (.nm 3) ("_law_take"<|#[-0,¬7]),.ite (.boo false (.val (.cmp .Eq (-2) (.lst true #[]))) #[.val (.cmp .Lt (-3) (¬2))]) #[.ret ("_law_form"<|#[-0,-1])] #[],.asg (.nm 4) (.idx (-2) ("_law_take"<|#[-0,.bcl .len #[-2]])),.ite (.val (.cmp .Eq (-3) (¬2))) #[.ret (-4)] #[],.ite (.val (.cmp .Lt (-3) (¬5))) #[.asg (.nm 5) ("_law_take"<|#[-0,-1]),.ret (.bin .Add true (.bin .Add true (.slc true (-4) .no (.ob (-5))) (.idx (![48,49,42]) ("_law_take"<|#[-0,¬3]))) (.slc true (-4) (.ob (.bin .Add true (-5) (¬1))) .no))] #[],.ite (.val (.cmp .Eq (-3) (¬5))) #[.ret ("_law_within"<|#[-0,-4])] #[],.ret ("_law_wider"<|#[-0,-4])]
noncomputable def yw:Sxs:=#[.ret (.comp true (.idx (-0) (¬0)) (.nm 0) (.seq (-0)) .yes ["row"] [none])]
noncomputable def yx:Sxs:=#[.asg (.nm 4) ("_law_take"<|#[-0,¬9]),.asg (.nm 5) ("_law_take"<|#[-0,.bin .Add true (.bcl .len #[-2]) (¬1)]),.ite (.boo false (.boo true (.val (.cmp .Lt (-4) (¬4))) #[.val (.cmp .Lt (.bcl .len #[-2]) (¬12))]) #[.boo true (.val (.cmp .Eq (-2) (.lst true #[]))) #[.val (.cmp .Eq (-3) (.lst true #[]))]]) #[.asg (.nm 6) ("_law_form_like"<|#[-0,-1,"_law_forms"<|#[-2]]),.asg (.nm 7) (.idx ("_law_deeds_of"<|#[-0,¬1]) (¬0)),.ret (.tup #[![112,117,116],.tup #[-5,-6,-7],.bin .Add true (.bin .Add true (.slc true (-2) .no (.ob (-5))) (.lst true #[.tup #[-6,-7]])) (.slc true (-2) (.ob (-5)) .no)])] #[],.ite (.boo false (.boo true (.val (.cmp .Eq (-4) (¬4))) #[.val (.cmp .NotEq (-3) (.lst true #[]))]) #[.val (.cmp .Eq (-2) (.lst true #[]))]) #[.ret (.tup #[![98,97,99,107],.tup #[],.idx (-3) (.neg (¬1))])] #[],.asg (.nm 5) (.bin .Mod true (-5) (.bcl .len #[-2])),.ite (.val (.cmp .Lt (-4) (¬7))) #[.ret (.tup #[![111,117,116],.tup #[-5],.bin .Add true (.slc true (-2) .no (.ob (-5))) (.slc true (-2) (.ob (.bin .Add true (-5) (¬1))) .no)])] #[],.asg (.nm 8) ("_law_take"<|#[-0,.bcl .len #[-2]]),.asg (.nm 9) (.bin .Add true (.slc true (-2) .no (.ob (-5))) (.slc true (-2) (.ob (.bin .Add true (-5) (¬1))) .no)),.ret (.tup #[![109,111,118,101],.tup #[-5,-8],.bin .Add true (.bin .Add true (.slc true (-9) .no (.ob (-8))) (.lst true #[.idx (-2) (-5)])) (.slc true (-9) (.ob (-8)) .no)])]
noncomputable def uv:Sxs:=#[.ite (.val (.cmp .Eq (-1) (![98,97,99,107]))) #[.ret (.slc true (-0) .no (.ob (.neg (¬1))))] #[],.ret (.bin .Add true (-0) (.lst true #[-2]))]
noncomputable def yz:Sxs:=#[.asg (.nm 1) (.lcl false .list #[.slc true (-0) .no (.ob (¬12))]),.for_ (.tp #[.nm 2,.nm 3]) (.enm (.slc true (-0) (.ob (¬12)) (.ob (¬63)))) #[.set (-1) (.bin .Mod true (-2) (¬12)) (.bin .Add true (.idx (-1) (.bin .Mod true (-2) (¬12))) (-3))],.ret (.lst false #[.frz (-1),¬0,¬0])]
noncomputable def gO:Sxs:=#[.ite (.val (.cmp .Is (-1) (.cst .non))) #[.ret (.cmp .Is (-0) (.cst .non))] #[],.ite (.boo false (.val (.isi (-1) "bool")) #[.val (.isi (-0) "bool")]) #[.ret (.boo true (.isi (-1) "bool") #[.isi (-0) "bool",.cmp .Eq (-0) (-1)])] #[],.ite (.val (.isi (-1) "int")) #[.ret (.boo true (.isi (-0) "int") #[.cmp .Eq (-0) (-1)])] #[],.ite (.val (.isi (-1) "str")) #[.ret (.boo true (.isi (-0) "str") #[.cmp .Eq (-0) (-1)])] #[],.ite (.boo false (.val (.cmp .NotEq (.isi (-1) "tuple") (.isi (-0) "tuple"))) #[.val (.cmp .NotEq (.isi (-1) "list") (.isi (-0) "list"))]) #[.ret (.cst (.bl false))] #[],.ite (.val (.cmp .NotEq (.bcl .len #[-0]) (.bcl .len #[-1]))) #[.ret (.cst (.bl false))] #[],.ret (.cmp .NotIn (.cst (.bl false)) (.comp true ("_law_same"<|#[-0,-1]) (.tp #[.nm 0,.nm 1]) (.zip (-0) (-1)) .yes ["one","other"] [none,none]))]
noncomputable def yC:Sxs:=#[.asg (.nm 3) (.bin .Add true (¬1) ("_law_take"<|#[-0,-1])),.asg (.nm 4) ("_law_deeds_of"<|#[-0,¬3]),.asg (.nm 5) (.lst false #[]),.asg (.nm 6) (.lst false #[]),.for_ (.nm 7) (.rng ("_law_take"<|#[-0,.bin .Add true (-2) (¬1)])) #[.exp (.mth .append (-5) #["_law_form_like"<|#[-0,-3,-5]]),.exp (.mth .append (-6) #[.tup #[.idx (-5) (.neg (¬1)),.idx (-4) ("_law_take"<|#[-0,.bcl .len #[-4]])]])],.ret (.tup #[-3,.bcl .tuple #[-6]])]
noncomputable def yD:Sxs:=#[.asg (.nm 1) (.lst false #["_law_book"<|#[-0,¬5,¬6],"_law_book"<|#["_law_anew"<|#[-0],¬5,¬8]]),.ite (.val (.cmp .Eq ("_law_take"<|#[-0,¬2]) (¬0))) #[.set (-1) (¬1) (.idx (-1) (¬0))] #[],.ret (.comp true (.lst false #[.idx (-0) (¬0),.lcl true .list #[.idx (-0) (¬1)],.lst true #[],.lst false #[],-0]) (.nm 0) (.seq (-1)) .yes ["book"] [none])]
noncomputable def mC:Sxs:=#[.ret (.idx (.fld "Sieve" "books" (-0)) (.neg (¬1)))]
noncomputable def yE:Sxs:=#[.ret ("hidden_reached"<|#[.mcl "Sieve.book" "Sieve" "book" (-0) #[]])]
noncomputable def mD:Sxs:=#[.ite (.val (.cmp .Eq (.bcl .len #[.fld "Sieve" "books" (-0)]) (¬1))) #[.rse "Nothing" #[]] #[],.asg (.nm 1) (.pp0 (.fld "Sieve" "books" (-0))),.ret ("parting_word"<|#[-1,.mcl "Sieve.book" "Sieve" "book" (-0) #[]])]
noncomputable def mF:Sxs:=#[.asg (.nm 2) (.mcl "Sieve.book" "Sieve" "book" (-0) #[]),.exp (.mth .append (.fld "Sieve" "books" (-0)) #[.tup #[.idx (-2) (¬0),-1]]),.ret ("parting_word"<|#[-2,.mcl "Sieve.book" "Sieve" "book" (-0) #[]])]
noncomputable def mG:Sxs:=#[.exp ("need_row"<|#[.mcl "Sieve.book" "Sieve" "book" (-0) #[],-1]),.exp ("need_row"<|#[.mcl "Sieve.book" "Sieve" "book" (-0) #[],-2]),.asg (.nm 3) (.idx (.idx (.mcl "Sieve.book" "Sieve" "book" (-0) #[]) (¬1)) (-1)),.asg (.nm 4) (.idx ("without"<|#[.mcl "Sieve.book" "Sieve" "book" (-0) #[],-1]) (¬1)),.ret (.mcl "Sieve.turn" "Sieve" "turn" (-0) #[.bin .Add true (.bin .Add true (.slc true (-4) .no (.ob (-2))) (.tup #[-3])) (.slc true (-4) (.ob (-2)) .no)])]
noncomputable def mH:Sxs:=#[.ret (.mcl "Sieve.turn" "Sieve" "turn" (-0) #[.idx ("without"<|#[.mcl "Sieve.book" "Sieve" "book" (-0) #[],-1]) (¬1)])]
noncomputable def mJ:Sxs:=#[.asg (.tp #[.nm 4,.nm 5]) (.mcl "Sieve.book" "Sieve" "book" (-0) #[]),.ite (.not (.val ("is_place"<|#[.bin .Add true (.bcl .len #[-5]) (¬1),-1]))) #[.rse "NoRow" #[.bcl .len #[-5]]] #[],.ite (.boo false (.not (.val ("is_form"<|#[-4,-2]))) #[.not (.val ("is_deed"<|#[-3]))]) #[.rse "NoForm" #[-4]] #[],.ite (.val (.cmp .GtE (.bcl .len #[-5]) (.glb "MOST_ROWS" (.int 12)))) #[.rse "Full" #[.glb "MOST_ROWS" (.int 12)]] #[],.ret (.mcl "Sieve.turn" "Sieve" "turn" (-0) #[.bin .Add true (.bin .Add true (.slc true (-5) .no (.ob (-1))) (.tup #[.tup #[-2,-3]])) (.slc true (-5) (.ob (-1)) .no)])]
noncomputable def jM:Sxs:=#[.ite (.val (.cmp .Eq (-1) (![112,117,116]))) #[.ret (.mcl "Sieve.put" "Sieve" "put" (-0) #[.idx (-2) (¬0),.idx (-2) (¬1),.idx (-2) (¬2)])] #[],.ite (.val (.cmp .Eq (-1) (![111,117,116]))) #[.ret (.mcl "Sieve.out" "Sieve" "out" (-0) #[.idx (-2) (¬0)])] #[],.ite (.val (.cmp .Eq (-1) (![109,111,118,101]))) #[.ret (.mcl "Sieve.move" "Sieve" "move" (-0) #[.idx (-2) (¬0),.idx (-2) (¬1)])] #[],.ret (.mcl "Sieve.back" "Sieve" "back" (-0) #[])]
noncomputable def yF:Sxs:=#[.asg (.nm 1) (.mko "Sieve" #[.idx (-0) (¬4)]),.asg (.nm 2) (.lst false #[]),.for_ (.tp #[.nm 3,.nm 4]) (.seq (.idx (-0) (¬3))) #[.exp (.mth .append (-2) #["_law_do"<|#[-1,-3,-4]])],.ret (.lst true #[.slc true (-2) (.ob (.neg (¬1))) .no,.mcl "Sieve.book" "Sieve" "book" (-1) #[],.mcl "Sieve.hidden" "Sieve" "hidden" (-1) #[]])]
noncomputable def yG:Sxs:=#[.asg (.nm 1) ("_law_open"<|#[-0]),.asg (.nm 2) ("_law_states"<|#["_law_anew"<|#[-1]]),.asg (.nm 3) (.comp true (.mko "Sieve" #[.idx (-0) (¬4)]) (.nm 0) (.seq (-2)) .yes ["state"] [none]),.for_ (.nm 4) (.rng (.bin .Add true (¬10) ("_law_take"<|#[-1,¬9]))) #[.asg (.nm 5) ("_law_take"<|#[-1,¬2]),.asg (.nm 6) (.idx (-2) (-5)),.asg (.tp #[.nm 7,.nm 8,.nm 9]) ("_law_drawn_change"<|#[-1,.idx (-6) (¬0),.idx (-6) (¬1),.idx (-6) (¬2)]),.asg (.nm 10) ("_law_do"<|#[.idx (-3) (-5),-7,-8]),.set (-6) (¬2) ("_law_elder"<|#[.idx (-6) (¬2),-7,.idx (-6) (¬1)]),.set (-6) (¬1) (-9),.exp (.mth .append (.idx (-6) (¬3)) #[.tup #[-7,-8]]),.asg (.nm 11) (.lst true #[.lst true #[-10],.mcl "Sieve.book" "Sieve" "book" (.idx (-3) (-5)) #[],.mcl "Sieve.hidden" "Sieve" "hidden" (.idx (-3) (-5)) #[]]),.ite (.not (.val ("_law_same"<|#[-11,"_law_alone"<|#[-6]]))) #[.ret (.cst (.bl false))] #[],.exp (.mth .append (.idx (-11) (¬2)) #[¬0]),.asg (.nm 12) (.idx (-2) (.bin .Sub true (¬1) (-5))),.ite (.not (.val ("_law_same"<|#[.mcl "Sieve.book" "Sieve" "book" (.idx (-3) (.bin .Sub true (¬1) (-5))) #[],.tup #[.idx (-12) (¬0),.bcl .tuple #[.idx (-12) (¬1)]]]))) #[.ret (.cst (.bl false))] #[]],.ret (.cst (.bl true))]
end
end RF
local macro_rules | `(tactic| simp_arith [$l,*] $[$c:location]?) => `(tactic| simp -implicitDefEqProofs only [↓RF.acq, ↓RF.Nj, RF.Nk, RF.env0, RF.ends, String.reduceBEq, $l,*] $[$c:location]?)
local macro_rules | `(tactic| simp_arith! [$l,*] $[$c:location]?) => `(tactic| simp -implicitDefEqProofs only [↓RF.Nj, RF.Nk, RF.env0, RF.ends, String.reduceBEq, $l,*] $[$c:location]?)
local macro_rules | `(tactic| simp_all_arith [$l,*]) => `(tactic| simp -implicitDefEqProofs only [RF.env0, RF.ends, List.map_cons, List.map_nil, List.cons_append, List.nil_append, List.replicate_succ, List.replicate_zero, $l,*])
namespace RF
open PySem L2
theorem iH{i j:Int}(h:-(2 ^ 64) < j/\j < 2 ^ 64):CMul i j:=.inr h
theorem yH{i j:Int}(h:-(2 ^ 64) < i/\i < 2 ^ 64):CMul i j:=.inl h
theorem Nm{j:Int}(h:0<=j/\j<=1000):qd 10 j:=⟨h.1,by omega,by decide⟩
noncomputable def uw:RF.Spec:=bB (λds _=>∃c k:Int,ds=[.int c,.int k]/\0<=k) (λ_ G d G'=>G'=G/\∃r:Int,d=.int r/\0<=r)
theorem acv(Φ:aa)(ds:List D)(G:DH)(h:∃c k:Int,ds=[.int c,.int k]/\0<=k):au Φ yl noE (env0 ds 3) G (ends λd G'=>G'=G/\∃r:Int,d=.int r/\0<=r):=by
 obtain ⟨c,k,rfl,hk⟩:=h;simp_arith[yl];refine ⟨Nm (by decide),?_⟩;cases hc:decide (10 ^ Int.toNat 18<=c) with
 |true=>
  refine ⟨c,rfl,?_⟩;have:=dc hc;have h2:(0:Int)<=(10:Int) ^ (18:Int).toNat:=by decide
  exact Int.le_trans h2 this
 |false=>
  generalize hone:(c % 1000000007 * 69069+k * 40503+977) % 2147483629=one;have o1:0<=one:=by rw[<-hone];exact fb _ (by decide)
  have o2:one < 2147483629:=by rw[<-hone];exact eP _ (by decide)
  generalize htwo:(one * one+k * 7919+c % 65537) % 2147483587=two;have t1:0<=two:=by rw[<-htwo];exact fb _ (by decide)
  have t2:two < 2147483587:=by rw[<-htwo];exact eP _ (by decide)
  generalize hthree:(two * two+one * 31+5) % 2147483563=three;have h1:0<=three:=by rw[<-hthree];exact fb _ (by decide)
  clear hone htwo hthree;refine ⟨by decide,iH (by decide),iH (by decide),by decide,yH (by omega),iH (by decide),by decide,by decide,yH (by omega),iH (by decide),by decide,iH (by decide),iH (by decide),_,rfl,?_⟩;omega
noncomputable def Pen(G:DH)(p:Addr):Prop:=∃(ns:List Int)(k st:Int),G p=some (.lst [.lst (ns.map D.int),.int k,.int st])/\0<=k/\0<=st
theorem Pen.sa{G G':DH}{p:Addr}(h:Pen G p)(s:Sa G G'):Pen G' p:=by obtain ⟨ns,k,st,e,h1⟩:=h;exact ⟨ns,k,st,s _ _ e,h1⟩
theorem Pen.ne{G:DH}{p q:Addr}(h:Pen G p)(e:G q=none):p≠q:=by obtain ⟨ns,k,st,e1,h1⟩:=h;exact bU e1 e
theorem Pen.sb{G G':DH}{p q:Addr}(h:Pen G p)(s:Sb q G G')(n:p≠q):Pen G' p:=by obtain ⟨ns,k,st,e,h1⟩:=h;exact ⟨ns,k,st,s _ _ e n,h1⟩
noncomputable def mK:RF.Spec:=bB (λds G=>∃p,ds=[.ref p]/\Pen G p) (λds G d G'=>∃p,ds=[.ref p]/\d=.ref p/\Pen G' p/\Sb p G G')
theorem acw(Φ:aa)(ds:List D)(G:DH)(h:∃p,ds=[.ref p]/\Pen G p):au Φ yj noE (env0 ds 0) G (ends λd G'=>∃p,ds=[.ref p]/\d=.ref p/\Pen G' p/\Sb p G G'):=by obtain ⟨p,rfl,ns,k,st,e,h1,h2⟩:=h;simp_arith[yj,bR e];exact ⟨p,rfl,rfl,⟨ns,k,0,aP,h1,by decide⟩,Sb.upd⟩
noncomputable def di:RF.Spec:=bB (λds G=>∃p,∃m:Int,ds=[.ref p,.int m]/\Pen G p/\0 < m/\m < 1152921504606846976) (λds G d G'=>∃p,∃m r:Int,ds=[.ref p,.int m]/\d=.int r/\0<=r/\r < m/\Pen G' p/\Sb p G G')
theorem acx (Φ:aa) (hΦ:Φ "_law_spread"=uw) (ds:List D) (G:DH) (h:∃p,∃m:Int,ds=[.ref p,.int m]/\Pen G p/\0 < m/\m < 1152921504606846976):
  au Φ ym noE (env0 ds 3) G (ends λd G'=>∃p,∃m r:Int,ds=[.ref p,.int m]/\d=.int r/\0<=r/\r < m/\Pen G' p/\Sb p G G'):=by
 obtain ⟨p,m,rfl,⟨ns,k,st,e,h1,h2⟩,h3,h4⟩:=h;simp_all_arith[ym];refine seq λM hM=>?_;have fin:∀(ρ2 ρ3 ρ4:Option D)(G1:DH)(k1 s1:Int),0<=k1->0<=s1->G1 p=some (.lst [.lst (ns.map D.int),.int k1,.int s1])->Sb p G G1->M [some (.ref p),some (.int m),ρ2,ρ3,ρ4] G1:=by intro ρ2 ρ3 ρ4 G1 k1 s1 q1 q2 e1 sb;refine hM _ _ ?_;simp_arith[bx e1,bR e1];refine ⟨h3,⟨h3,h4⟩,p,m,_,rfl,rfl,fb _ (by omega),eP _ h3,⟨ns,k1,_,aP,q1,?_⟩,sb.trans Sb.upd⟩;exact Int.ediv_nonneg q2 (by omega)
 simp_arith[bx e,bR e,hΦ];have draw:∀c:Int,uw.t [.int c,.int k] (aF G p (.lst [.lst (ns.map D.int),.int (k+1),.int st])) (λx G1=>trk G1 p λds=>bc (ixN ds.length 2) λj=>M [some (.ref p),some (.int m),some (.int k),some (.int c),none] (aF G1 p (.lst (ds.set j x)))) noE:=by intro c;refine bQ ⟨c,k,rfl,h1⟩ λd G' hx=>?_;obtain ⟨e1,r,e2,hr⟩:=hx;subst e1 e2;simp_arith[bR aP];refine fin _ _ _ _ (k+1) r (by omega) hr aP (Sb.trans Sb.upd Sb.upd)
 cases hc:decide (st < m) with
 |false=>exact fin _ _ _ _ k st h1 h2 e (Sb.refl _ _)
 |true=>
  cases hk:decide (k < ((ns.map D.int).length:Int)) with
  |true=>
   have hk:=dc hk;rw[ah]at hk;refine bJ (a:=.int ns[k.toNat]) ?_ ?_
   ·obtain ⟨n,rfl⟩:=cr h1;exact bT (by simp at hk ⊢)
   ·exact draw _
  |false=>
   cases hz:decide (0 < ((ns.map D.int).length:Int)) with
   |false=>exact draw 0
   |true=>
    have hz:=dc hz;have j1:0<=(k * 5+3) % ((ns.map D.int).length:Int):=fb _ (by omega);have j2:(k * 5+3) % ((ns.map D.int).length:Int) < ((ns.map D.int).length:Int):=eP _ hz;obtain ⟨j,hj⟩:=cr j1;rw[hj]at j2;have j3:j < ns.length:=by rw[ah]at j2;omega
    refine ⟨iH (by decide),hz,bJ (a:=.int ns[j]) ?_ ⟨Nm (by decide),?_⟩⟩
    ·rw[hj];exact bT (by simp[j3])
    ·simp_arith[bR e];refine ⟨?_,draw _⟩;have:(0:Int) < 10 ^ Int.toNat 17:=by decide
     omega
noncomputable def mL:RF.Spec:=bB (λds G=>∃p,∃n:Nat,∃cs:List Nat,ds=[.ref p,.int n,.str cs]/\Pen G p/\n<=1000/\cs≠[]/\cs.length<=1000)
 (λds G d G'=>∃p,∃n:Nat,∃cs l:List Nat,ds=[.ref p,.int n,.str cs]/\d=.str l/\l.length=n/\(∀c∈l,c∈cs)/\Pen G' p/\Sb p G G')
theorem acy(l:List Nat):((l.map λc=>[c]).map (·.length)).sum=l.length:=by
 induction l with
 |nil=>rfl
 |cons a l ih=>simp at ih ⊢;omega
theorem acz(l:List Nat):(l.map λc=>[c]).flatten=l:=by
 induction l with
 |nil=>rfl
 |cons a l ih=>simp at ih ⊢;exact ih
theorem acA (Φ:aa) (hΦ:Φ "_law_take"=di) (ds:List D) (G:DH) (h:∃p,∃n:Nat,∃cs:List Nat,ds=[.ref p,.int n,.str cs]/\Pen G p/\n<=1000/\cs≠[]/\cs.length<=1000):
  au Φ yo noE (env0 ds 0) G (ends λd G'=>∃p,∃n:Nat,∃cs l:List Nat,ds=[.ref p,.int n,.str cs]/\d=.str l/\l.length=n/\(∀c∈l,c∈cs)/\Pen G' p/\Sb p G G'):=by
 obtain ⟨p,n,cs,rfl,hp,hn,hc,hl⟩:=h;have hc1:0 < cs.length:=fv.mpr hc;simp_arith[yo,hΦ];refine ⟨by omega,CompG.inv (P:=λi acc ρ G'=>(∃o,ρ=[o,some (.str cs),some (.ref p)])/\Pen G' p/\Sb p G G'/\∃l:List Nat,acc=l.map (λc=>D.str [c])/\l.length=i/\∀c∈l,c∈cs) (h0:=⟨⟨_,rfl⟩,hp,Sb.refl _ _,[],rfl,rfl,by simp⟩) (hh:=λ_ _ _ _ _=>trivial) (hl:=by simp[bu];have hsz:sz=1000000:=rfl;omega) (hs:=?_) (he:=?_)⟩
 ·rintro i d acc ρ G' hd ⟨⟨o,rfl⟩,hp',sb,l,rfl,hl',hm⟩ kk hk;simp_arith[hΦ];refine bQ ⟨p,_,rfl,hp',by omega,by omega⟩ λd' G2 hx=>?_;obtain ⟨p2,m2,r,e1,e2,r0,r1,pp2,sb2⟩:=hx;cases e1;subst e2;obtain ⟨j,rfl⟩:=cr r0;have hj:j < cs.length:=by omega
  simp_arith[ends];refine bJ (a:=cs[j]) (bT (by simp[hj])) (hk _ _ _ ⟨⟨_,rfl⟩,pp2,sb.trans sb2,l++[cs[j]],by simp,by simp[hl'],?_⟩);intro c hc;rcases a8.mp hc with h |h
  ·exact hm c h
  ·rw[a7.mp h];exact c9 _
 ·rintro acc ρ G' ⟨_,hp',sb,l,rfl,hl',hm⟩;simp_arith[strs_map];have hl2:l.length=n:=by rw[hl'];simp[bu]
  refine ⟨?_,p,n,cs,l,rfl,?_,hl2,hm,hp',sb⟩
  ·rw[acy];simp;have hsz:sz=1000000:=rfl;omega
  ·rw[Ht,acz]
noncomputable def isF(c:Nat):Prop:=c=48\/c=49\/c=42
noncomputable def yI:RF.Spec:=bB (λds G=>∃p,∃n:Nat,ds=[.ref p,.int n]/\Pen G p/\n<=1000) (λds G d G'=>∃p,∃n:Nat,∃l:List Nat,ds=[.ref p,.int n]/\d=.str l/\l.length=n/\(∀c∈l,isF c)/\Pen G' p/\Sb p G G')
theorem acB (Φ:aa) (h1:Φ "_law_take"=di) (h2:Φ "_law_signs"=mL) (ds:List D) (G:DH) (h:∃p,∃n:Nat,ds=[.ref p,.int n]/\Pen G p/\n<=1000):
  au Φ yq noE (env0 ds 0) G (ends λd G'=>∃p,∃n:Nat,∃l:List Nat,ds=[.ref p,.int n]/\d=.str l/\l.length=n/\(∀c∈l,isF c)/\Pen G' p/\Sb p G G'):=by
 obtain ⟨p,n,rfl,hp,hn⟩:=h;simp_arith[yq,h1,h2];refine ⟨by decide,bQ ⟨p,_,rfl,hp,by decide,by decide⟩ λd' G2 ⟨p2,m2,r,e1,e2,r0,r1,pp2,sb2⟩=>?_⟩;cases e1;subst e2;obtain ⟨j,rfl⟩:=cr r0;simp_arith[ends];have:∃cs:List Nat,atI [D.str [48,49,42],D.str [48,49,42,42],D.str [48,49,42,42,42,42],D.str [48,42],D.str [48,49]] ((j:Nat):Int)=some (.str cs)/\cs≠[]/\cs.length<=1000/\∀c∈cs,isF c:=by
  have hj:j=0\/j=1\/j=2\/j=3\/j=4:=by omega
  rcases hj with rfl |rfl |rfl |rfl |rfl <;> exact ⟨_,rfl,by decide,by decide,by simp[isF]⟩
 obtain ⟨cs,e,c1,c2,c3⟩:=this;refine bJ e (bQ ⟨p,n,cs,rfl,pp2,hn,c1,c2⟩ λd G3 ⟨p3,n3,cs3,l,e1,e2,q1,q2,q3,q4⟩=>?_);cases e1;exact ⟨p,n,l,rfl,e2,q1,λc hc=>c3 c (q2 c hc),q3,sb2.trans q4⟩
noncomputable def yJ:RF.Spec:=bB (λds _=>∃ns:List Int,ds=[.scr ns]/\ns.length<=63) (λ_ G d G'=>∃p,d=.ref p/\G p=none/\Pen G' p/\Sa G G')
theorem acC(Φ:aa)(ds:List D)(G:DH)(h:∃ns:List Int,ds=[.scr ns]/\ns.length<=63):au Φ yz noE (env0 ds 3) G (ends λd G'=>∃p,d=.ref p/\G p=none/\Pen G' p/\Sa G G'):=by
 obtain ⟨ns,rfl,hl⟩:=h;simp_all_arith[yz];refine seq λM hM=>?_;simp_arith[ends];intro c hc;refine hM _ _ ?_;refine seq λM hM=>?_;simp_arith[ends];refine ForG.inv (λi ρ G'=>∃(o2 o3:Option D)(xs:List Int),ρ=[some (.scr ns),some (.ref c),o2,o3]/\G'=aF G c (.lst (xs.map D.int))/\(12<=xs.length\/cut ns (some 12) (some 63)=[])) ⟨_,_,cut ns none (some 12),rfl,rfl,?_⟩ (λ_ _ _ _=>trivial) ?_ ?_
 ·by_cases h12:12<=ns.length
  ·left;simp[cut,HT.sIx];omega
  ·right;simp[cut,HT.sIx];omega
 ·rintro i d ρ G' hd ⟨o2,o3,xs,rfl,rfl,hx⟩ kk hk;rw[lz]at hd;obtain ⟨d',hd',e3⟩:=bi.mp hd;subst e3;rw[bS]at hd';obtain ⟨x,hx',e4⟩:=bi.mp hd';subst e4;have h12:12<=xs.length:=by
   rcases hx with h |h
   ·exact h
   ·rw[h]at hx';simp at hx'
  obtain ⟨j,hj⟩:=cr (fb ((0+i:Nat):Int) (by decide:(12:Int)≠0));have hj12:j < 12:=by have:=eP ((0+i:Nat):Int) (by decide:(0:Int) < 12);omega
  have hjx:j < xs.length:=by omega
  simp_arith[hj,bx aP,bR aP];refine ⟨by decide,bJ (a:=.int xs[j]) (bT (by simp[hjx])) ?_⟩;simp_arith[hj,bx aP,bR aP,ah,acg hjx];refine ⟨by decide,hk _ _ ⟨_,_,xs.set j (xs[j]+x),rfl,?_,by simp[h12]⟩⟩;rw[Zc,List.map_set]
 ·rintro ρ G' ⟨o2,o3,xs,rfl,rfl,hx⟩;refine hM _ _ ?_;simp_arith[aP];refine ⟨by have hsz:sz=1000000:=rfl;omega,λp hp=>⟨p,rfl,?_,⟨xs,0,0,aP,by decide,by decide⟩,?_⟩⟩
  ·rw[Dt hc]at hp;exact hp
  ·rw[Dt hc]at hp ⊢;exact Sa.new hp
noncomputable def mO:RF.Spec:=bB (λds _=>∃ns:List Int,ds=[.scr ns]/\ns.length<=63) (λ_ _ d _=>d=.bl true)
noncomputable def whole:D->Bool
 |.int _=>true
 |_=>false
noncomputable def iI:List D->Option D
 |[x]=>if nr x then some (.bl (whole x)) else none
 |_=>none
theorem acD(Φ:aa)(ds:List D)(G:DH)(d:D)(h:iI ds=some d):au Φ lG noE (env0 ds 0) G (ends λd' G'=>G'=G/\d'=d):=by
 unfold iI at h;split at h
 ·rename_i x;split at h
  ·rename_i hx;cases h;cases x <;> first | (simp[nr]at hx;done) | (simp_arith[lG,whole];try simp)
  ·cases h
 ·cases h
theorem yK{n:Nat}:isIn (.bl false) (List.replicate n (.bl true))=false:=by
 induction n with
 |zero=>rfl
 |succ n ih=>simp only[isIn,b9,List.any_cons,deq]at ih ⊢;rw[ih];rfl
theorem yL{n:Nat}{b:Bool}:nrs (List.replicate n (.bl b))=true:=by
 induction n with
 |zero=>rfl
 |succ n ih=>rw[b9,nrs,ih];rfl
theorem yM{n:Nat}{b:Bool}:aV (List.replicate n (.bl b))=0:=by
 induction n with
 |zero=>rfl
 |succ n ih=>rw[b9,aV,ih];rfl
noncomputable def okF(w:Nat)(l:List Nat):Prop:=l.length=w/\∀c∈l,isF c
theorem okF.app{w v:Nat}{l m:List Nat}(h:okF w l)(h':okF v m):okF (w+v) (l++m):=⟨by rw[aw,h.1,h'.1],λc hc=>(a8.mp hc).elim (h.2 c) (h'.2 c)⟩
theorem okF.one{c:Nat}(h:isF c):okF 1 [c]:=⟨rfl,λd hd=>by rw[a7.mp hd];exact h⟩
theorem bM{p:Addr}{m:Int}{G:DH}{k:D->DH->Prop}{E:EK}(hp:Pen G p)(h1:0 < m)(h2:m < 1152921504606846976)(hk:∀(r:Nat)(G':DH),(r:Int) < m->Pen G' p->Sb p G G'->k (.int r) G'):di.t [.ref p,.int m] G k E:=by refine bQ ⟨p,m,rfl,hp,h1,h2⟩ λd G' hx=>?_;obtain ⟨p2,m2,r,e1,e2,r0,r1,hp',sb⟩:=hx;cases e1;subst e2;obtain ⟨n,rfl⟩:=cr r0;exact hk n G' r1 hp' sb
theorem acE{n:Nat}(h:(n:Int) < 2):∃c,atI [48,49] (n:Int)=some c/\isF c:=by
 have:n=0\/n=1:=by omega
 rcases this with rfl |rfl
 ·exact ⟨48,rfl,.inl rfl⟩
 ·exact ⟨49,rfl,.inr (.inl rfl)⟩
theorem acF{n:Nat}(h:(n:Int) < 3):∃c,atI [48,49,42] (n:Int)=some c/\isF c:=by
 have:n=0\/n=1\/n=2:=by omega
 rcases this with rfl |rfl |rfl
 ·exact ⟨48,rfl,.inl rfl⟩
 ·exact ⟨49,rfl,.inr (.inl rfl)⟩
 ·exact ⟨42,rfl,.inr (.inr rfl)⟩
noncomputable def yN(ds:List D)(G:DH):Prop:=∃p l,ds=[.ref p,.str l]/\Pen G p/\(∀c∈l,isF c)/\l.length<=1000
noncomputable def yO(ds:List D)(G:DH)(d:D)(G':DH):Prop:=∃p l m,ds=[.ref p,.str l]/\d=.str m/\okF l.length m/\Pen G' p/\Sb p G G'
noncomputable def iJ:RF.Spec:=bB yN yO
theorem Np{p:Addr}{l:List Nat}{G:DH}{k:D->DH->Prop}{E:EK}(hp:Pen G p)(hl:∀c∈l,isF c)(h2:l.length<=1000)(hk:∀(m:List Nat)(G':DH),okF l.length m->Pen G' p->Sb p G G'->k (.str m) G'):iJ.t [.ref p,.str l] G k E:=by refine bQ ⟨p,l,rfl,hp,hl,h2⟩ λd G' hx=>?_;obtain ⟨p2,l2,m,e1,e2,h,hp',sb⟩:=hx;cases e1;subst e2;exact hk m G' h hp' sb
theorem acG (Φ:aa) (h1:Φ "_law_take"=di) (ds:List D) (G:DH) (h:yN ds G):au Φ yt noE (env0 ds 2) G (ends (yO ds G)):=by
 obtain ⟨p,l,rfl,hp,hl,hl2⟩:=h;simp_all_arith[yt];refine seq λM hM=>?_;simp_arith[ends];refine hM _ _ (seq λM hM=>?_);simp_arith![ends];refine ForG.inv (P:=λi ρ G'=>(∃o m,ρ=[some (.ref p),some (.str l),some (.str m),o]/\okF i m)/\Pen G' p/\Sb p G G') ⟨⟨_,_,rfl,rfl,by simp⟩,hp,Sb.refl _ _⟩ (λ_ _ _ _=>trivial) ?_ ?_
 ·rintro i d ρ G2 hd ⟨⟨o,m,rfl,hm⟩,hp2,sb2⟩ kk hk;rw[bS]at hd;obtain ⟨c,hc,rfl⟩:=bi.mp hd;have hi:i < l.length:=(av.mp hc).1;have fc:=hl c (cy hc);have l1:=hm.1;simp_arith![ends];refine seq λM hM=>?_;have fin:∀(c:Nat)(G3:DH),isF c->Pen G3 p->Sb p G2 G3->M [some (.ref p),some (.str l),some (.str m),some (.str [c])] G3:=by
   intro c G3 fc hp3 sb3;refine hM _ _ (last ?_);simp_arith[ends];exact ⟨by have hsz:sz=1000000:=rfl;omega,hk _ _ ⟨⟨_,_,rfl,hm.app (okF.one fc)⟩,hp3,sb2.trans sb3⟩⟩
  simp_arith[h1];cases ht:([c]==[42]) with
  |false=>exact fin c G2 fc hp2 (Sb.refl _ _)
  |true=>
   refine bM hp2 (by decide) (by decide) λr G3 hr hp3 sb3=>?_;simp_arith[ends];cases hr0:((r:Int)==0) with
   |false=>exact fin c G3 fc hp3 sb3
   |true=>
    refine bM hp3 (by decide) (by decide) λr' G4 hr' hp4 sb4=>?_;obtain ⟨c',e,fc'⟩:=acE hr';simp_arith[e];exact fin c' G4 fc' hp4 (sb3.trans sb4)
 ·rintro ρ G2 ⟨⟨o,m,rfl,hm⟩,hp2,sb2⟩;refine hM _ _ ?_;simp_arith[ends];exact ⟨p,l,m,rfl,rfl,by simpa using hm,hp2,sb2⟩
theorem acH (Φ:aa) (h1:Φ "_law_take"=di) (ds:List D) (G:DH) (h:yN ds G):au Φ yr noE (env0 ds 2) G (ends (yO ds G)):=by
 obtain ⟨p,l,rfl,hp,hl,hl2⟩:=h;simp_all_arith[yr];refine seq λM hM=>?_;simp_arith[ends];refine hM _ _ (seq λM hM=>?_);simp_arith![ends];refine ForG.inv (P:=λi ρ G'=>(∃o m,ρ=[some (.ref p),some (.str l),some (.str m),o]/\okF i m)/\Pen G' p/\Sb p G G') ⟨⟨_,_,rfl,rfl,by simp⟩,hp,Sb.refl _ _⟩ (λ_ _ _ _=>trivial) ?_ ?_
 ·rintro i d ρ G2 hd ⟨⟨o,m,rfl,hm⟩,hp2,sb2⟩ kk hk;rw[bS]at hd;obtain ⟨c,hc,rfl⟩:=bi.mp hd;have hi:i < l.length:=(av.mp hc).1;have fc:=hl c (cy hc);have l1:=hm.1;simp_arith![ends];refine seq λM hM=>?_;have fin:∀(c:Nat)(G3:DH),isF c->Pen G3 p->Sb p G2 G3->M [some (.ref p),some (.str l),some (.str m),some (.str [c])] G3:=by
   intro c G3 fc hp3 sb3;refine hM _ _ (last ?_);simp_arith[ends];exact ⟨by have hsz:sz=1000000:=rfl;omega,hk _ _ ⟨⟨_,_,rfl,hm.app (okF.one fc)⟩,hp3,sb2.trans sb3⟩⟩
  simp_arith[h1];refine bM hp2 (by decide) (by decide) λr G3 hr hp3 sb3=>?_;simp_arith[ends];cases hr0:((r:Int)==0) with
  |false=>exact fin c G3 fc hp3 sb3
  |true=>exact fin 42 G3 (.inr (.inr rfl)) hp3 sb3
 ·rintro ρ G2 ⟨⟨o,m,rfl,hm⟩,hp2,sb2⟩;refine hM _ _ ?_;simp_arith[ends];exact ⟨p,l,m,rfl,rfl,by simpa using hm,hp2,sb2⟩
theorem Nq{G G':DH}{p:Addr}{x:D}{fs:List (List Nat)}(hv:view G x=.lst (fs.map D.str))(hp:Pen G p)(sb:Sb p G G'):view G' x=.lst (fs.map D.str):=by
 cases x with
 |ref q=>
  unfold view at hv;dsimp only at hv;cases g:G q with
  |none=>rw[g]at hv;cases hv
  |some o=>
   cases o with
   |lst ds=>
    rw[g]at hv;have e:ds=fs.map D.str:=by simpa using hv
    have hn:q≠p:=by
     rintro rfl;obtain ⟨ns,k,st,e1,_⟩:=hp;rw[g,e]at e1;cases fs with
     |nil=>simp at e1
     |cons a r=>simp at e1
    rw[bx (sb q _ g hn),e]
 |lst l=>exact hv
 |_=>cases hv
noncomputable def Nr(ds:List D)(G:DH):Prop:=∃p,∃w:Nat,∃x,∃fs:List (List Nat),ds=[.ref p,.int w,x]/\Pen G p/\0 < w/\w<=1000/\view G x=.lst (fs.map D.str)/\fs.length<=1000/\∀f∈fs,okF w f
noncomputable def yP(ds:List D)(G:DH)(d:D)(G':DH):Prop:=∃p,∃w:Nat,∃x m,ds=[.ref p,.int w,x]/\d=.str m/\okF w m/\Pen G' p/\Sb p G G'
noncomputable def mQ:RF.Spec:=bB Nr yP
theorem Nt{p:Addr}{w:Nat}{x:D}{fs:List (List Nat)}{G:DH}{k:D->DH->Prop}{E:EK}(hp:Pen G p)(h1:0 < w)(h2:w<=1000)(hv:view G x=.lst (fs.map D.str))(h3:fs.length<=1000)(h4:∀f∈fs,okF w f)
  (hk:∀(m:List Nat)(G':DH),okF w m->Pen G' p->Sb p G G'->k (.str m) G'):mQ.t [.ref p,.int w,x] G k E:=by
 refine bQ ⟨p,w,x,fs,rfl,hp,h1,h2,hv,h3,h4⟩ λd G' hx=>?_;obtain ⟨p2,w2,x2,m,e1,e2,h,hp',sb⟩:=hx;simp only[c8,D.ref.injEq,D.int.injEq,Int.ofNat_inj,ez]at e1;obtain ⟨rfl,rfl,rfl⟩:=e1;subst e2;exact hk m G' h hp' sb
theorem acI(fs:List (List Nat)):nrs (fs.map D.str)=true:=by
 induction fs with
 |nil=>rfl
 |cons a l ih=>rw[bq,nrs,ih];rfl
theorem acJ(fs:List (List Nat)):aV (fs.map D.str)=0:=by
 induction fs with
 |nil=>rfl
 |cons a l ih=>rw[bq,aV,ih];rfl
theorem acK{w n:Nat}{l:List Nat}{c:Nat}(h:okF w l)(hn:n < w)(fc:isF c):okF w (cut l none (some (n:Int))++[c]++cut l (some ((n:Int)+1)) none):=by
 have h1:=h.1;rw[uq,HJ];refine ⟨?_,λd hd=>?_⟩
 ·simp;omega
 ·rcases a8.mp hd with hd |hd
  ·rcases a8.mp hd with hd |hd
   ·exact h.2 d (List.mem_of_mem_take hd)
   ·rw[a7.mp hd];exact fc
  ·exact h.2 d (List.mem_of_mem_drop hd)
theorem acL (Φ:aa) (h1:Φ "_law_take"=di) (h2:Φ "_law_form"=yI) (h3:Φ "_law_within"=iJ) (h4:Φ "_law_wider"=iJ) (ds:List D) (G:DH) (h:Nr ds G):au Φ yu noE (env0 ds 3) G (ends (yP ds G)):=by
 obtain ⟨p,w,x,fs,rfl,hp,w1,w2,hv,hf,hfs⟩:=h;simp_all_arith[yu];refine seq λM hM=>?_;simp_arith[h1];refine bM hp (by decide) (by decide) λkd G2 hkd hp2 sb2=>?_;have hv2:=Nq hv hp sb2;refine hM _ _ (seq λM hM=>?_);have drawn:∀(ρ:ak) (G3:DH),Pen G3 p->Sb p G G3->au Φ (.cons (.ret (.call "_law_form" (.cons (.var 0) (.cons (.var 1) .nil)))) .nil) noE (some (.ref p)::some (.int w)::ρ) G3 { nx:=M,rt:=yP [.ref p,.int w,x] G,bk:=λ_ _=>False,ct:=λ_ _=>False }:=by intro ρ G3 hp3 sb3;simp_arith[h2];refine bQ ⟨p,w,rfl,hp3,w2⟩ λd G4 hx=>?_;obtain ⟨p4,n4,l,e1,e2,l1,l2,hp4,sb4⟩:=hx;simp only[c8,D.ref.injEq,D.int.injEq,Int.ofNat_inj,ez]at e1;obtain ⟨rfl,rfl⟩:=e1;exact ⟨p,w,x,l,rfl,e2,⟨l1,l2⟩,hp4,sb3.trans sb4⟩
 simp_arith![hv2,yc,acJ,acI];refine ⟨by decide,?_⟩;cases he:(fs.map D.str).isEmpty with
 |true=>exact drawn _ _ hp2 sb2
 |false=>
  have hlen:0 < fs.length:=by
   cases fs with
   |nil=>simp at he
   |cons a r=>simp
  simp_arith![ends];cases hk2:decide ((kd:Int) < 2) with
  |true=>exact drawn _ _ hp2 sb2
  |false=>
   simp_arith[ends];refine hM _ _ (seq λM hM=>?_);simp_arith[h1,hv2,ah];refine bM hp2 (by omega) (by omega) λr G3 hr hp3 sb3=>?_;have hv3:=Nq hv2 hp2 sb3;simp_arith[hv3];have hr':r < fs.length:=by omega
   refine bJ (a:=.str fs[r]) (bT (by simp[hr'])) ?_;have fok:=hfs fs[r] (c9 _);generalize fs[r]=f at fok;refine hM _ _ (seq λM hM=>?_);have sb':=sb2.trans sb3;simp_arith[ends];cases hk3:((kd:Int)==2) with
   |true=>exact ⟨p,w,x,f,rfl,rfl,fok,hp3,sb'⟩
   |false=>
    refine hM _ _ (seq λM hM=>?_);simp_arith![ends];cases hk5:decide ((kd:Int) < 5) with
    |true=>
     simp_arith[h1];refine bM hp3 (by omega) (by omega) λat' G4 hat hp4 sb4=>?_;refine bM hp4 (by decide) (by decide) λs G5 hs hp5 sb5=>?_;obtain ⟨c,e,fc⟩:=acF hs;have c1:=HF f none (some (at':Int));have c2:=HF f (some ((at':Int)+1)) none;have f1:=fok.1;simp_arith[e,aw];exact ⟨by have hsz:sz=1000000:=rfl;omega,by have hsz:sz=1000000:=rfl;omega,p,w,x,_,rfl,rfl,acK fok (by omega) fc,hp5,sb'.trans (sb4.trans sb5)⟩
    |false=>
     simp_arith[ends];refine hM _ _ (seq λM hM=>?_);have f1:=fok.1;simp_arith[h3];cases hk6:((kd:Int)==5) with
     |true=>
      refine Np hp3 fok.2 (by omega) λm G4 hm hp4 sb4=>?_;rw[f1]at hm;exact ⟨p,w,x,m,rfl,rfl,hm,hp4,sb'.trans sb4⟩
     |false=>
      refine hM _ _ ?_;simp_arith[h4];refine Np hp3 fok.2 (by omega) λm G4 hm hp4 sb4=>?_;rw[f1]at hm;exact ⟨p,w,x,m,rfl,rfl,hm,hp4,sb'.trans sb4⟩
noncomputable def okD(l:List Nat):Prop:=1<=l.length/\l.length<=8/\∀c∈l,97<=c/\c<=122
theorem acM{p:Addr}{n:Nat}{cs:List Nat}{G:DH}{k:D->DH->Prop}{E:EK}(hp:Pen G p)(hn:n<=1000)(h1:cs≠[])(h2:cs.length<=1000)(hk:∀(l:List Nat)(G':DH),l.length=n->(∀c∈l,c∈cs)->Pen G' p->Sb p G G'->k (.str l) G'):mL.t [.ref p,.int n,.str cs] G k E:=by refine bQ ⟨p,n,cs,rfl,hp,hn,h1,h2⟩ λd G' hx=>?_;obtain ⟨p2,n2,cs2,l,e1,e2,l1,l2,hp',sb⟩:=hx;simp only[c8,D.ref.injEq,D.int.injEq,D.str.injEq,Int.ofNat_inj,ez]at e1;obtain ⟨rfl,rfl,rfl⟩:=e1;subst e2;exact hk l G' l1 l2 hp' sb
noncomputable def Nu(ds:List D)(G:DH):Prop:=∃p,∃m:Int,ds=[.ref p,.int m]/\Pen G p/\0 < m/\m<=100
noncomputable def Nv(ds:List D)(G:DH)(d:D)(G':DH):Prop:=∃p,∃m:Int,∃xs:List (List Nat),ds=[.ref p,.int m]/\d=.lst (xs.map D.str)/\0 < xs.length/\xs.length<=100/\(∀x∈xs,okD x)/\Pen G' p/\Sb p G G'
noncomputable def mR:RF.Spec:=bB Nu Nv
noncomputable def yQ:List (List Nat):=[[97],[103,111],[115,116,97,121],[97,98,99,100,101,102,103,104],[110,111,110,101],[121,101,115],[105,110],[111,117,116],[107,101,101,112],[119,111,114,100],[122,122]]
theorem acN:∀x∈yQ,okD x:=by
 have h:∀x∈yQ,1<=x.length/\x.length<=8/\∀c∈x,97<=c/\c<=122:=by decide
 exact h
theorem Nx{c:Nat}(h:c∈[97,98,99,100,101,102,103,104,105,106,107,108,109,110,111,112,113,114,115,116,117,118,119,120,121,122]):97<=c/\c<=122:=by
 have:∀c∈[97,98,99,100,101,102,103,104,105,106,107,108,109,110,111,112,113,114,115,116,117,118,119,120,121,122],97<=c/\c<=122:=by decide
 exact this c h
theorem acO (Φ:aa) (h1:Φ "_law_take"=di) (h2:Φ "_law_signs"=mL) (ds:List D) (G:DH) (h:Nu ds G):au Φ yp noE (env0 ds 4) G (ends (Nv ds G)):=by
 obtain ⟨p,m,rfl,hp,m1,m2⟩:=h;simp_all_arith[yp];refine seq λM hM=>?_;simp_arith[ends];refine ⟨by decide,hM _ _ ?_⟩;refine (λtail=>tail yQ rfl acN) (?_:∀xs:List (List Nat),xs.length=11->(∀x∈xs,okD x)->au Φ _ noE [some (.ref p),some (.int m),some (.lst (xs.map D.str)),none,none,none] G _);intro xs x1 x2;refine seq λM hM=>?_;simp_arith[h1];refine bM hp (by decide) (by decide) λt G2 ht hp2 sb2=>?_;refine hM _ _ (seq λM hM=>?_);simp_arith[h1];refine bM hp2 (by omega) (by omega) λr G3 hr hp3 sb3=>?_;simp_arith[ends];refine ⟨by omega,?_⟩;refine CompG.inv (P:=λi acc ρ G'=>(∃o,ρ=[o,some (.lst (xs.map D.str)),some (.int t)])/\G'=G3/\∃ys:List (List Nat),acc=ys.map D.str/\ys.length=i/\∀y∈ys,okD y) ⟨⟨_,rfl⟩,rfl,[],rfl,rfl,by simp⟩ (λ_ _ _ _ _=>trivial) (by simp[bu];have hsz:sz=1000000:=rfl;omega) ?_ ?_
 ·rintro i d acc ρ G' hd ⟨⟨o,rfl⟩,rfl,ys,rfl,y1,y2⟩ kk hk;unfold bu at hd;rw[bS]at hd;obtain ⟨j,hj,rfl⟩:=bi.mp hd;simp_arith[ends];have q0:0<=((t:Int)+3 * (0+(j:Int))) % 11:=fb _ (by decide);have q1:((t:Int)+3 * (0+(j:Int))) % 11 < 11:=eP _ (by decide);refine ⟨yH (by decide),by decide,ye q0 (by rw[ah,x1];exact q1) λa ha=>?_⟩;obtain ⟨x,hx,rfl⟩:=ca.mp ha;refine hk _ _ _ ⟨⟨_,rfl⟩,rfl,ys++[x],by simp,by simp[y1],λy hy=>?_⟩;rcases a8.mp hy with h |h
  ·exact y2 y h
  ·rw[a7.mp h];exact x2 x hx
 ·rintro acc ρ G' ⟨_,rfl,ys,rfl,y1,y2⟩;have hy:ys.length=r+1:=by rw[y1];simp[bu];omega
  refine hM _ _ (seq λM hM=>?_);simp_arith[h1];refine bM hp3 (by decide) (by decide) λq G4 hq hp4 sb4=>?_;have sb':=sb2.trans (sb3.trans sb4);simp_arith[ends];cases hq0:((q:Int)==0) with
  |false=>
   refine hM _ _ ?_;simp_arith[ends];exact ⟨p,m,ys,rfl,rfl,by omega,by omega,y2,hp4,sb'⟩
  |true=>
   simp_arith[ends];refine CompG.inv (P:=λi acc ρ G'=>(∃o,ρ=[o,some (.ref p),some (.str [97,98,99,100,101,102,103,104,105,106,107,108,109,110,111,112,113,114,115,116,117,118,119,120,121,122])])/\Pen G' p/\Sb p G G'/\∃zs:List (List Nat),acc=zs.map D.str/\zs.length=i/\∀z∈zs,okD z) ⟨⟨_,rfl⟩,hp4,sb',[],rfl,rfl,by simp⟩ (λ_ _ _ _ _=>trivial) (by simp;have hsz:sz=1000000:=rfl;omega) ?_ ?_
   ·rintro i d acc ρ G' hd ⟨⟨o,rfl⟩,hp5,sb5,zs,rfl,z1,z2⟩ kk hk;simp_arith[h1,h2];refine bM hp5 (by decide) (by decide) λn G6 hn hp6 sb6=>?_;simp_arith[ends];rw[show (1:Int)+(n:Int)=((n+1:Nat):Int) by omega];refine acM hp6 (by omega) (by simp) (by simp) λl G7 l1 l2 hp7 sb7=>?_;refine hk _ _ _ ⟨⟨_,rfl⟩,hp7,sb5.trans (sb6.trans sb7),zs++[l],by simp,by simp[z1],λz hz=>?_⟩;rcases a8.mp hz with h |h
    ·exact z2 z h
    ·rw[a7.mp h];exact ⟨by omega,by omega,λc hc=>Nx (l2 c hc)⟩
   ·rintro acc ρ G' ⟨_,hp5,sb5,zs,rfl,z1,z2⟩;rw[ah]at z1;refine hM _ _ ?_;simp_arith[ends];exact ⟨p,m,zs,rfl,rfl,by omega,by omega,z2,hp5,sb5⟩
noncomputable abbrev Row:=List Nat×List Nat
noncomputable def aB(r:Row):D:=.tup [.str r.1,.str r.2]
noncomputable def aq(w:Nat)(rs:List Row):D:=.tup [.int w,.tup (rs.map aB)]
structure okB(w:Nat)(rs:List Row):Prop where
 w1:1<=w
 w6:w<=6
 len:rs.length<=12
 form:∀r∈rs,okF w r.1
 deed:∀r∈rs,okD r.2
noncomputable def Ny(ds:List D)(G:DH):Prop:=∃p,∃w m:Nat,ds=[.ref p,.int w,.int m]/\Pen G p/\1<=w/\w<=6/\m<=12
noncomputable def Nz(ds:List D)(G:DH)(d:D)(G':DH):Prop:=∃p,∃w m v:Nat,∃rs:List Row,ds=[.ref p,.int w,.int m]/\d=aq v rs/\okB v rs/\v<=w/\rs.length<=m/\Pen G' p/\Sb p G G'
noncomputable def ux:RF.Spec:=bB Ny Nz
theorem NB{p:Addr}{w m:Nat}{G:DH}{k:D->DH->Prop}{E:EK}(hp:Pen G p)(h1:1<=w)(h2:w<=6)(h3:m<=12)(hk:∀(v:Nat)(rs:List Row)(G':DH),okB v rs->v<=w->rs.length<=m->Pen G' p->Sb p G G'->k (aq v rs) G'):ux.t [.ref p,.int w,.int m] G k E:=by refine bQ ⟨p,w,m,rfl,hp,h1,h2,h3⟩ λd G' hx=>?_;obtain ⟨p2,w2,m2,v,rs,e1,e2,o,q1,q2,hp',sb⟩:=hx;simp only[c8,D.ref.injEq,D.int.injEq,Int.ofNat_inj,ez]at e1;obtain ⟨rfl,rfl,rfl⟩:=e1;subst e2;exact hk v rs G' o q1 q2 hp' sb
theorem NK{p:Addr}{m:Int}{G:DH}{k:D->DH->Prop}{E:EK}(hp:Pen G p)(h1:0 < m)(h2:m<=100)(hk:∀(xs:List (List Nat))(G':DH),0 < xs.length->xs.length<=100->(∀x∈xs,okD x)->Pen G' p->Sb p G G'->k (.lst (xs.map D.str)) G'):mR.t [.ref p,.int m] G k E:=by refine bQ ⟨p,m,rfl,hp,h1,h2⟩ λd G' hx=>?_;obtain ⟨p2,m2,xs,e1,e2,q1,q2,q3,hp',sb⟩:=hx;cases e1;subst e2;exact hk xs G' q1 q2 q3 hp' sb
theorem qm{α:Type}{l:List α}{a:α}:atI (l++[a]) (-1)=some a:=by unfold atI ixN;rw[if_neg (by decide),if_pos (by simp;omega),aw,bP,show (-1+((l.length+1:Nat):Int)).toNat=l.length by omega];simp
theorem acP (Φ:aa) (h1:Φ "_law_take"=di) (h2:Φ "_law_deeds_of"=mR) (h3:Φ "_law_form_like"=mQ) (ds:List D) (G:DH) (h:Ny ds G):au Φ yC noE (env0 ds 5) G (ends (Nz ds G)):=by
 obtain ⟨p,w,m,rfl,hp,w1,w2,m1⟩:=h;simp_all_arith[yC];refine seq λM hM=>?_;simp_arith[h1];refine bM hp (by omega) (by omega) λn G2 hn hp2 sb2=>?_;simp_arith[ends];rw[show (1:Int)+(n:Int)=((n+1:Nat):Int) by omega];refine hM _ _ (seq λM hM=>?_);simp_arith[h2];refine NK hp2 (by decide) (by decide) λxs G3 x1 x2 x3 hp3 sb3=>?_;refine hM _ _ (seq λM hM=>?_);simp_arith[ends];refine λq hq=>hM _ _ (seq λM hM=>?_);simp_arith[ends];refine λs hs=>hM _ _ (seq λM hM=>?_);have hqs:q≠s:=by rintro rfl;rw[aP]at hs;cases hs
 have hs3:G3 s=none:=by rw[cI (Ne.symm hqs)]at hs;exact hs
 have npq:p≠q:=hp3.ne hq;have nps:p≠s:=hp3.ne hs3;have sa4:Sa G3 (aF (aF G3 q (.lst [])) s (.lst [])):=(Sa.new hq).trans (Sa.new hs);have hp4:=hp3.sa sa4;simp_arith![h1];refine bM hp4 (by omega) (by omega) λr G5 hr hp5 sb5=>?_;simp_arith![ends];refine ⟨by omega,?_⟩;refine ForG.inv (P:=λi ρ G'=>(∃o,ρ=[some (.ref p),some (.int w),some (.int m),some (.int ((n+1:Nat):Int)),some (.lst (xs.map D.str)),some (.ref q),some (.ref s),o])/\Pen G' p/\Sb p G G'/\
   ∃rs:List Row,G' q=some (.lst ((rs.map (·.1)).map D.str))/\G' s=some (.lst (rs.map aB))/\rs.length=i/\(∀r∈rs,okF (n+1) r.1)/\∀r∈rs,okD r.2) ⟨⟨_,rfl⟩,hp5,sb2.trans (sb3.trans (sa4.sb.trans sb5)),[],?_,?_,rfl,by simp,by simp⟩ (λ_ _ _ _=>trivial) ?_ ?_
 ·exact sb5 q _ (by rw[cI hqs];exact aP) (Ne.symm npq)
 ·exact sb5 s _ aP (Ne.symm nps)
 ·rintro i d ρ G' hd ⟨⟨o,rfl⟩,hp6,sb6,rs,g1,g2,r1,r2,r3⟩ kk hk;have hi:i < r:=by
   have:=(av.mp hd).1;simpa [bu] using this
  simp_arith![ends];refine seq λM hM=>?_;simp_arith[h3,bR g1];refine Nt (fs:=rs.map (·.1)) hp6 (by omega) (by omega) (bx g1) (by simp;omega) (λf hf=>?_) λf G7 hf hp7 sb7=>?_
  ·obtain ⟨r',hr',rfl⟩:=ca.mp hf;exact r2 r' hr'
  have g1':=sb7 q _ g1 (Ne.symm npq);have g2':=sb7 s _ g2 (Ne.symm nps);simp_arith[bR g1'];refine ⟨by simp;have hsz:sz=1000000:=rfl;omega,hM _ _ (last ?_)⟩;have e2:aF G7 q (.lst ((rs.map (·.1)).map D.str++[.str f])) s=some (.lst (rs.map aB)):=by rw[cI (Ne.symm hqs)];exact g2'
  have hp8:Pen (aF G7 q (.lst ((rs.map (·.1)).map D.str++[.str f]))) p:=hp7.sb Sb.upd npq;simp_arith[h1,bR e2,bx aP,qm,ah];refine bM hp8 (by omega) (by omega) λt G9 ht hp9 sb9=>?_;have e1':=sb9 q _ aP (Ne.symm npq);have e2':=sb9 s _ e2 (Ne.symm nps);simp_arith[bR e2'];refine ye (by omega) (by simp;omega) λx hx=>?_;obtain ⟨dd,hdd,rfl⟩:=ca.mp hx;refine ⟨by decide,by simp;have hsz:sz=1000000:=rfl;omega,hk _ _ ⟨⟨_,rfl⟩,hp9.sb Sb.upd nps,?_,rs++[(f,dd)],?_,?_,by simp[r1],?_,?_⟩⟩
  ·intro b ob hb nb;by_cases hbs:b=s
   ·subst hbs;exfalso;have z:=sb2 b _ hb nb;have z:=sb3 b _ z nb;rw[hs3]at z;cases z
   ·by_cases hbq:b=q
    ·subst hbq;exfalso;have z:=sb2 b _ hb nb;have z:=sb3 b _ z nb;rw[hq]at z;cases z
    ·rw[cI hbs];exact sb9 b _ (by rw[cI hbq];exact sb7 b _ (sb6 b _ hb nb) nb) nb
  ·rw[cI hqs,e1'];simp
  ·rw[aP];simp[aB]
  ·intro r' hr';rcases a8.mp hr' with h |h
   ·exact r2 r' h
   ·rw[a7.mp h];exact hf
  ·intro r' hr';rcases a8.mp hr' with h |h
   ·exact r3 r' h
   ·rw[a7.mp h];exact x3 dd hdd
 ·rintro ρ G' ⟨⟨o,rfl⟩,hp6,sb6,rs,g1,g2,r1,r2,r3⟩;have hl:rs.length=r:=by rw[r1];simp[bu]
  refine hM _ _ ?_;simp_arith[bx g2];exact ⟨by decide,p,w,m,n+1,rs,rfl,rfl,⟨by omega,by omega,by omega,r2,r3⟩,by omega,by omega,hp6,sb6⟩
noncomputable def alt(c:Nat):List Nat:=if c=42 then [48,49] else [c]
noncomputable def step1(acc:List (List Nat))(c:Nat):List (List Nat):=acc.flatMap λt=>(alt c).map λs=>t++[s]
noncomputable def fZ(f:List Nat):List (List Nat):=f.foldl step1 [[]]
noncomputable def Fits(f w:List Nat):Prop:=f.length=w.length/\∀(i c s:Nat),f[i]?=some c->w[i]?=some s->s∈alt c
theorem acQ(f:List Nat)(c:Nat):fZ (f++[c])=step1 (fZ f) c:=by unfold fZ;rw[List.foldl_append];rfl
theorem acR{acc:List (List Nat)}{c:Nat}{w:List Nat}:w∈step1 acc c↔∃t s,t∈acc/\s∈alt c/\w=t++[s]:=by
 unfold step1;rw[List.mem_flatMap];constructor
 ·rintro ⟨t,ht,h⟩;obtain ⟨s,hs,rfl⟩:=ca.mp h;exact ⟨t,s,ht,hs,rfl⟩
 ·rintro ⟨t,s,ht,hs,rfl⟩;exact ⟨t,ht,ca.mpr ⟨s,hs,rfl⟩⟩
theorem yR{f w:List Nat}{c s:Nat}:Fits (f++[c]) (w++[s])↔Fits f w/\s∈alt c:=by
 constructor
 ·rintro ⟨h1,h2⟩;have hl:f.length=w.length:=by simpa using h1
  refine ⟨⟨hl,λi c' s' hc hs=>?_⟩,?_⟩
  ·have i1:=(av.mp hc).1;exact h2 i c' s' (by rw[ek i1];exact hc) (by rw[ek (by omega)];exact hs)
  ·exact h2 f.length c s (by simp) (by rw[hl];simp)
 ·rintro ⟨⟨h1,h2⟩,h3⟩;refine ⟨by simp[h1],λi c' s' hc hs=>?_⟩;by_cases hi:i < f.length
  ·rw[ek hi]at hc;rw[ek (by omega)]at hs;exact h2 i c' s' hc hs
  ·have i2:=(av.mp hc).1;simp at i2;have e:i=f.length:=by omega
   subst e;simp at hc;rw[h1]at hs;simp at hs;subst hc hs;exact h3
theorem jN{f w:List Nat}:w∈fZ f↔Fits f w:=by
 induction f using aci generalizing w with
 |nil=>
  simp[fZ,Fits];constructor
  ·rintro rfl;simp
  ·intro h;exact c6.mp h.symm
 |snoc f c ih=>
  rw[acQ,acR];constructor
  ·rintro ⟨t,s,ht,hs,rfl⟩;exact yR.mpr ⟨ih.mp ht,hs⟩
  ·intro h;have hl:=h.1;simp at hl;have hne:w≠[]:=by rintro rfl;simp at hl
   refine ⟨w.dropLast,w.getLast hne,?_,?_,(dr hne).symm⟩
   ·rw[<-dr hne]at h;exact ih.mpr (yR.mp h).1
   ·rw[<-dr hne]at h;exact (yR.mp h).2
noncomputable def letters:List Nat:=[97,98,99,100,101,102,103,104,105,106,107,108,109,110,111,112,113,114,115,116,117,118,119,120,121,122]
theorem acS:∀c:Fin 123,97<=c.1->letters.contains c.1=true:=by decide
theorem acT{c:Nat}:letters.contains c=true↔97<=c/\c<=122:=
 ⟨λh=>Nx (bb.mp h),λ⟨h1,h2⟩=>acS ⟨c,Nat.lt_succ_of_le h2⟩ h1⟩
theorem yS{α:Type}(l:List α):bools (l.map λ_=>D.bl true)=some (l.map λ_=>true):=Hs _ l
theorem yU{α:Type}(l:List α):(l.map λ_=>true).all id=true:=cf.mpr λx hx=>by obtain ⟨_,_,rfl⟩:=ca.mp hx;rfl
noncomputable def yV:RF.Spec:=bZ (λa:List Nat×List Nat=>[.str a.1,.int a.2.length,.str a.2]) (λa=>a.2.length<=1000/\∀c∈a.2,a.1.contains c=true) (λ_=>.bl true)
theorem acU(Φ:aa)(a:List Nat×List Nat)(G:DH)(h:a.2.length<=1000/\∀c∈a.2,a.1.contains c=true):au Φ lC noE (env0 [.str a.1,.int a.2.length,.str a.2] 0) G (ends λd G'=>G'=G/\d=.bl true):=by
 obtain ⟨s,l⟩:=a;obtain ⟨h1,h2⟩:=h;dsimp only at h1 h2;simp_arith[lC,BEq.rfl];refine CompG.map (f:=λ_=>.bl true) (I:=λρ=>∃o,ρ=[o,some (.str s)]) ⟨_,rfl⟩ trivial (by simp;have hsz:sz=1000000:=rfl;omega) ?_ ?_
 ·rintro d ρ hd ⟨o,rfl⟩ kk hk;obtain ⟨c,hc,rfl⟩:=ca.mp hd;simp_arith[h2 c hc];exact hk _ ⟨_,rfl⟩
 ·simp_arith[yS,yU]
noncomputable def uy:RF.Spec:=bZ (λl:List Nat=>[.int l.length,.str l]) (λl=>l.length<=1000/\∀c∈l,isF c) (λ_=>.bl true)
theorem acV (Φ:aa) (h1:Φ "is_text_of"=yV) (l:List Nat) (G:DH) (h:l.length<=1000/\∀c∈l,isF c):au Φ lE noE (env0 [.int l.length,.str l] 0) G (ends λd G'=>G'=G/\d=.bl true):=by simp_arith[lE,h1];exact cB ([48,49,42],l) rfl ⟨h.1,λc hc=>by rcases h.2 c hc with rfl |rfl |rfl <;> rfl⟩ ⟨rfl,rfl⟩
noncomputable def uz:RF.Spec:=bZ (λl:List Nat=>[.str l]) okD (λ_=>.bl true)
theorem acW(Φ:aa)(l:List Nat)(G:DH)(h:okD l):au Φ lB noE (env0 [.str l] 0) G (ends λd G'=>G'=G/\d=.bl true):=by
 obtain ⟨h1,h2,h3⟩:=h;have b1:decide ((1:Int)<=(l.length:Int))=true:=cb (by omega);have b2:decide ((l.length:Int)<=8)=true:=cb (by omega);simp_arith[lB,b1,b2];refine CompG.map (f:=λ_=>.bl true) (I:=λρ=>∃o,ρ=[o]) ⟨_,rfl⟩ trivial (by simp;have hsz:sz=1000000:=rfl;omega) ?_ ?_
 ·rintro d ρ hd ⟨o,rfl⟩ kk hk;obtain ⟨c,hc,rfl⟩:=ca.mp hd;have hcl:[97,98,99,100,101,102,103,104,105,106,107,108,109,110,111,112,113,114,115,116,117,118,119,120,121,122].contains c=true:=acT.mpr (h3 c hc);simp_arith[hcl];exact hk _ ⟨_,rfl⟩
 ·simp_arith[yS,yU]
noncomputable def yW:RF.Spec:=bZ (λa:Nat×Row=>[.int a.1,aB a.2]) (λa=>a.1<=6/\okF a.1 a.2.1/\okD a.2.2) (λ_=>.bl true)
theorem acX (Φ:aa) (h1:Φ "is_form"=uy) (h2:Φ "is_deed"=uz) (a:Nat×Row) (G:DH) (h:a.1<=6/\okF a.1 a.2.1/\okD a.2.2):au Φ lF noE (env0 [.int a.1,aB a.2] 0) G (ends λd G'=>G'=G/\d=.bl true):=by obtain ⟨w,f,d⟩:=a;obtain ⟨hw,hf,hd⟩:=h;dsimp only at hw hf hd;simp_arith[lF,aB,h1,h2];simp_arith[show ((0+1+1:Nat):Int)=2 from rfl,BEq.rfl];refine cB f (by rw[hf.1]) ⟨by rw[hf.1];omega,hf.2⟩ ?_;simp_arith[ends];exact cB d rfl hd ⟨rfl,rfl⟩
noncomputable def yX:RF.Spec:=bZ (λw:Nat=>[.int w]) (λw=>1<=w/\w<=6) (λ_=>.bl true)
theorem acY (Φ:aa) (h1:Φ "is_whole"=aQ iI) (w:Nat) (G:DH) (h:1<=w/\w<=6):au Φ lH noE (env0 [.int w] 0) G (ends λd G'=>G'=G/\d=.bl true):=by have b1:decide ((1:Int)<=(w:Int))=true:=cb (by omega);have b2:decide ((w:Int)<=6)=true:=cb (by omega);simp_arith[lH,h1];refine d8 (d:=.bl true) rfl ?_;simp_arith[b1,b2]
noncomputable def yZ:RF.Spec:=bZ (λa:Nat×List Row=>[aq a.1 a.2]) (λa=>okB a.1 a.2) (λ_=>.bl true)
theorem acZ (Φ:aa) (h1:Φ "is_width"=yX) (h2:Φ "is_row"=yW) (a:Nat×List Row) (G:DH) (h:okB a.1 a.2):au Φ lJ noE (env0 [aq a.1 a.2] 2) G (ends λd G'=>G'=G/\d=.bl true):=by
 obtain ⟨w,rs⟩:=a;dsimp only at h ⊢;have hlen:=h.len;simp_all_arith[lJ,aq];refine seq λM hM=>?_;simp_arith[ends];simp_arith[show ((0+1+1:Nat):Int)=2 from rfl,BEq.rfl];refine hM _ _ (seq λM hM=>?_);simp_arith[ends];refine hM _ _ (seq λM hM=>?_);simp_arith[h1];refine cB w rfl ⟨h.w1,h.w6⟩ ?_;have hd:decide ((12:Int) < ((rs.map aB).length:Int))=false:=cq (by rw[ah];omega);simp_arith[hd];refine hM _ _ ?_;simp_arith[ends];refine CompG.map (f:=λ_=>.bl true) (I:=λρ=>∃o,ρ=[o,some (.int w)]) ⟨_,rfl⟩ trivial (by rw[ah];have hsz:sz=1000000:=rfl;omega) ?_ ?_
 ·rintro d ρ hd ⟨o,rfl⟩ kk hk;obtain ⟨r,hr,rfl⟩:=ca.mp hd;simp_arith[h2];exact cB (w,r) rfl ⟨h.w6,h.form r hr,h.deed r hr⟩ (hk _ ⟨_,rfl⟩)
 ·simp_arith[yS,yU]
noncomputable def iK:RF.Spec:=bZ (λa:Nat×List Row=>[aq a.1 a.2]) (λa=>okB a.1 a.2) (λ_=>.non)
theorem mU{w:Nat}{rs:List Row}{G:DH}{k:D->DH->Prop}{E:EK}(h:okB w rs)(hk:k .non G):iK.t [aq w rs] G k E:=cB (w,rs) rfl h hk
theorem ac0 (Φ:aa) (h1:Φ "is_book"=yZ) (a:Nat×List Row) (G:DH) (h:okB a.1 a.2):au Φ lK noE (env0 [aq a.1 a.2] 0) G (ends λd G'=>G'=G/\d=.non):=by simp_arith[lK,h1];refine cB a rfl h ?_;simp_arith[ends]
noncomputable def za(c s:Nat):Bool:=c==42||c==s
noncomputable def jO:List Nat->List Nat->Bool
 |c::f,s::w=>za c s&&jO f w
 |_,_=>true
noncomputable def mV(f w:List Nat):Bool:=decide (f.length=w.length)&&jO f w
theorem NP:∀(f w:List Nat),bH (f.map λc=>D.str [c]) (w.map λc=>D.str [c])=(f.zip w).map λp=>D.tup [.str [p.1],.str [p.2]]
 |[],w=>by simp[bH]
 |c::f,[]=>by simp[bH]
 |c::f,s::w=>by simp[bH,NP f w]
theorem jP{c s:Nat}:(([c]==[s]):Bool)=(c==s):=by
 by_cases h:c=s
 ·subst h;simp
 ·rw[cS.mpr h,cS.mpr (by simp[h])]
theorem NQ{c s:Nat}(hs:s=48\/s=49):za c s=true↔s∈alt c:=by
 unfold za alt;by_cases h:c=42
 ·subst h;simp;rcases hs with rfl |rfl <;> simp
 ·simp[h];exact eq_comm
noncomputable def fH(rs:List Row)(w:List Nat):Option Nat:=rs.findIdx? λr=>mV r.1 w
noncomputable def aU:Option Nat->D
 |some n=>.int n
 |none=>.non
theorem NT{w v:Nat}{rs ss:List Row}(h:aq w rs=aq v ss):w=v/\rs=ss:=by
 unfold aq at h;simp only[D.tup.injEq,c8,D.int.injEq,Int.ofNat_inj,ez]at h;refine ⟨h.1,?_⟩;have h2:=h.2;clear h;induction rs generalizing ss with
 |nil=>cases ss with
  |nil=>rfl
  |cons _ _=>simp at h2
 |cons r rs ih=>cases ss with
  |nil=>simp at h2
  |cons s ss=>
   simp only[bq,c8]at h2;have e:r=s:=by have:=h2.1;unfold aB at this;simp only[D.tup.injEq,c8,D.str.injEq,ez]at this;exact Prod.ext this.1 this.2
   rw[e,ih h2.2]
noncomputable def jQ(rs:List Row):Option Nat->D
 |some n=>match rs[n]? with |some r=>.str r.2 |none=>.non
 |none=>.non
noncomputable def uA:RF.Spec:=bB (λds _=>∃w rs o,ds=[aq w rs,aU o]/\∀n,o=some n->n < rs.length) (λds G d G'=>G'=G/\∃w rs o,ds=[aq w rs,aU o]/\d=jQ rs o)
theorem ac1{a b:Option Nat}(h:aU a=aU b):a=b:=by cases a <;> cases b <;> simp[aU]at h ⊢ <;> omega
theorem NZ{w:Nat}{rs:List Row}{o:Option Nat}{G:DH}{k:D->DH->Prop}{E:EK}(h:∀n,o=some n->n < rs.length)(hk:k (jQ rs o) G):uA.t [aq w rs,aU o] G k E:=by refine bQ ⟨w,rs,o,rfl,h⟩ λd G' hx=>?_;obtain ⟨e1,w2,rs2,o2,e2,e3⟩:=hx;simp only[c8,ez]at e2;obtain ⟨e2,e4⟩:=e2;obtain ⟨rfl,rfl⟩:=NT e2;cases ac1 e4;subst e1 e3;exact hk
theorem ac2(Φ:aa)(ds:List D)(G:DH)(h:∃w rs o,ds=[aq w rs,aU o]/\∀n,o=some n->n < rs.length):au Φ jL noE (env0 ds 0) G (ends λd G'=>G'=G/\∃w rs o,ds=[aq w rs,aU o]/\d=jQ rs o):=by
 obtain ⟨w,rs,o,rfl,ho⟩:=h;cases o with
 |none=>
  simp_arith[jL,aU];exact ⟨w,rs,none,rfl,rfl⟩
 |some n=>
  have hn:=ho n rfl;simp_arith[jL,aU,aq];refine bJ (a:=aB rs[n]) (bT (by simp[hn])) ?_;simp_arith[aB];exact ⟨w,rs,some n,rfl,by simp[jQ,hn]⟩
theorem iM{α β:Type}(f:α->β)(l:List α)(n:Nat):cut (l.map f) none (some (n:Int))=(l.take n).map f:=by rw[uq,List.map_take]
theorem mW{α β:Type}(f:α->β)(l:List α)(n:Nat):cut (l.map f) (some (n:Int)) none=(l.drop n).map f:=by rw[HH,List.map_drop]
theorem okB.sub{w:Nat}{rs ss:List Row}(h:okB w rs)(hl:ss.length<=rs.length)(hs:∀r∈ss,r∈rs):okB w ss:=
 ⟨h.w1,h.w6,bv hl h.len,λr hr=>h.form r (hs r hr),λr hr=>h.deed r (hs r hr)⟩
theorem ac3(c:Nat)(n:Nat):reps [c] n=List.replicate n c:=by
 unfold reps;induction n with
 |zero=>rfl
 |succ n ih=>rw[b9,eJ,ih,b9];rfl
theorem ac4(w:Nat):okF w (List.replicate w 42):=⟨de,λc hc=>.inr (.inr (List.eq_of_mem_replicate hc))⟩
theorem N5{p:Addr}{G:DH}{k:D->DH->Prop}{E:EK}(hp:Pen G p)(hk:∀G',Pen G' p->Sb p G G'->k (.ref p) G'):mK.t [.ref p] G k E:=
 bQ ⟨p,rfl,hp⟩ λd G' hx=>by obtain ⟨p2,e1,e2,hp',sb⟩:=hx;cases e1;subst e2;exact hk G' hp' sb
noncomputable def d9(a b:Nat):Option Nat:=if a=42 then some b else if b=42\/b=a then some a else none
noncomputable def cC:List Nat->List Nat->Option (List Nat)
 |a::f,b::g=>match d9 a b with |some c=>(cC f g).map (c::·) |none=>none
 |_,_=>some []
noncomputable def bG:Option (List Nat)->D
 |some l=>.str l
 |none=>.non
noncomputable def mX:List D->Option D
 |[.str f,.str g]=>if decide (f.length<=100000) then some (bG (cC f g)) else none
 |_=>none
theorem ac5{f g:List Nat}{i a b:Nat}(h:(f.zip g)[i]?=some (a,b)):cC (f.drop i) (g.drop i)=match d9 a b with |some c=>(cC (f.drop (i+1)) (g.drop (i+1))).map (c::·) |none=>none:=by
 have hz:=av.mp h;obtain ⟨hl,he⟩:=hz;rw[List.length_zip]at hl;have h1:i < f.length:=by omega
 have h2:i < g.length:=by omega
 rw[List.getElem_zip]at he;rw[bp h1,bp h2];simp only[Prod.mk.injEq]at he;rw[he.1,he.2];rfl
theorem ac6{f g:List Nat}:cC (f.drop (f.zip g).length) (g.drop (f.zip g).length)=some []:=by
 rw[List.length_zip];by_cases h:f.length<=g.length
 ·rw[Nat.min_eq_left h,eg];cases g.drop f.length <;> rfl
 ·rw[Nat.min_eq_right (by omega),eg];cases f.drop g.length <;> rfl
theorem ac7(Φ:aa)(ds:List D)(G:DH)(d:D)(h:mX ds=some d):au Φ lL noE (env0 ds 3) G (ends λd' G'=>G'=G/\d'=d):=by
 unfold mX at h;split at h
 ·rename_i f g;split at h
  ·rename_i hl;have hl:=dc hl;cases h;simp_all_arith[lL];refine seq λM hM=>?_;simp_arith[ends];refine hM _ _ (seq λM hM=>?_);simp_arith![NP];refine ForG.inv (P:=λi ρ G'=>(∃o3 o4 m,ρ=[some (.str f),some (.str g),some (.str m),o3,o4]/\m.length=i/\cC f g=(cC (f.drop i) (g.drop i)).map (m ++ ·))/\G'=G) ⟨⟨_,_,[],rfl,rfl,by simp⟩,rfl⟩ (λ_ _ _ _=>trivial) ?_ ?_
   ·rintro i d ρ G' hd ⟨⟨o3,o4,m,rfl,hm,hb⟩,rfl⟩ kk hk;rw[bS]at hd;obtain ⟨⟨a,b⟩,hab,rfl⟩:=bi.mp hd;have hi:=(av.mp hab).1;rw[List.length_zip]at hi;rw[ac5 hab]at hb;simp_arith![ends];refine last ?_;have put:∀(c:Nat)(o3 o4:Option D),d9 a b=some c->m.length+1<=sz/\kk [some (.str f),some (.str g),some (.str (m++[c])),o3,o4] G':=by
     intro c o3 o4 hc;rw[hc]at hb;refine ⟨by have hsz:sz=1000000:=rfl;omega,hk _ _ ⟨⟨_,_,_,rfl,by simp[hm],?_⟩,rfl⟩⟩;rw[hb,Option.map_map];congr 1;funext x;simp
    simp_arith[jP];by_cases h42:a=42
    ·have:((a==42):Bool)=true:=by simp[h42]
     simp_arith[this];exact put b _ _ (if_pos h42)
    ·have h0:((a==42):Bool)=false:=by simp[h42]
     simp_arith[h0,jP];by_cases hb42:b=42
     ·have:((b==42):Bool)=true:=by simp[hb42]
      simp_arith[this];exact put a _ _ (by unfold d9;rw[if_neg h42,if_pos (.inl hb42)])
     ·have h1:((b==42):Bool)=false:=by simp[hb42]
      simp_arith[h1,jP];by_cases hba:b=a
      ·have:((b==a):Bool)=true:=by simp[hba]
       simp_arith[this];exact put a _ _ (by unfold d9;rw[if_neg h42,if_pos (.inr hba)])
      ·have:((b==a):Bool)=false:=by simp[hba]
       simp_arith[this];have hn:d9 a b=none:=by unfold d9;rw[if_neg h42,if_neg (by rintro (h |h);exact hb42 h;exact hba h)]
       rw[hn]at hb;rw[hb];rfl
   ·rintro ρ G' ⟨⟨o3,o4,m,rfl,hm,hb⟩,rfl⟩;rw[ah,ac6]at hb;refine hM _ _ ?_;simp_arith[ends];rw[hb];simp[bG]
  ·cases h
 ·cases h
noncomputable def gP:List D->Option D
 |[.str f,.int n,.str [c]]=>if decide (0<=n)&&decide (n < f.length)&&decide (f.length<=1000) then some (.str (f.set n.toNat c)) else none
 |_=>none
theorem ac8{l:List Nat}{n c:Nat}(h:n < l.length):l.take n++[c]++l.drop (n+1)=l.set n c:=by rw[List.set_eq_take_append_cons_drop,if_pos h];simp
theorem ac9(Φ:aa)(ds:List D)(G:DH)(d:D)(h:gP ds=some d):au Φ lO noE (env0 ds 0) G (ends λd' G'=>G'=G/\d'=d):=by
 unfold gP at h;split at h
 ·rename_i f n c;split at h
  ·rename_i hl;simp only[ae,ci]at hl;obtain ⟨⟨h0,h1⟩,h2⟩:=hl;cases h;obtain ⟨k,rfl⟩:=cr h0;simp_arith[lO,uq,HJ,aw,bo,ce,dP,ac8 (show k < f.length by omega)];exact ⟨by have hsz:sz=1000000:=rfl;omega,by have hsz:sz=1000000:=rfl;omega⟩
  ·cases h
 ·cases h
noncomputable def iQ:List D->Option D
 |[.int n]=>if decide (0<=n)&&decide (n<=1000) then some (.str (List.replicate n.toNat 42)) else none
 |_=>none
theorem ada(Φ:aa)(ds:List D)(G:DH)(d:D)(h:iQ ds=some d):au Φ mj noE (env0 ds 0) G (ends λd' G'=>G'=G/\d'=d):=by
 unfold iQ at h;split at h
 ·rename_i n;split at h
  ·rename_i hl;simp only[ae,ci]at hl;cases h;simp_arith[mj,ac3];exact ⟨hl.1,hl.2,by have hsz:sz=1000000:=rfl;omega⟩
  ·cases h
 ·cases h
noncomputable def aR(rs:List Row)(b:List Nat):Option Nat:=rs.findIdx? λr=>(cC r.1 b).isSome
noncomputable def N6(ds:List D)(_:DH):Prop:=∃(rs:List Row)(b:List Nat),ds=[.tup (rs.map aB),.str b]/\∀r∈rs,r.1.length<=1000
noncomputable def N7(ds:List D)(G:DH)(d:D)(G':DH):Prop:=G'=G/\∃(rs:List Row)(b:List Nat),ds=[.tup (rs.map aB),.str b]/\d=aU (aR rs b)
noncomputable def mY:RF.Spec:=bB N6 N7
theorem zb{rs ss:List Row}(h:rs.map aB=ss.map aB):rs=ss:=(NT (w:=0) (v:=0) (by unfold aq;rw[h])).2
theorem N8{rs:List Row}{b:List Nat}{G:DH}{k:D->DH->Prop}{E:EK}(h:∀r∈rs,r.1.length<=1000)(hk:k (aU (aR rs b)) G):mY.t [.tup (rs.map aB),.str b] G k E:=by refine bQ ⟨rs,b,rfl,h⟩ λd G' hx=>?_;obtain ⟨e1,rs2,b2,e2,e3⟩:=hx;simp only[c8,D.str.injEq,D.tup.injEq,ez]at e2;obtain ⟨e2,rfl⟩:=e2;cases zb e2;subst e1 e3;exact hk
theorem adb{o:Option (List Nat)}:fG (bG o)=!o.isSome:=by cases o <;> rfl
theorem adc{G:DH}{o:Option (List Nat)}:view G (bG o)=bG o:=by cases o <;> rfl
theorem ade{rs:List Row}{b:List Nat}{i:Nat}{r:Row}(h:rs[i]?=some r):aR (rs.drop i) b=if (cC r.1 b).isSome then some 0 else (aR (rs.drop (i+1)) b).map (·+1):=by
 have hi:=(av.mp h).1;have e:rs.drop i=r::rs.drop (i+1):=by rw[bp hi];rw[(av.mp h).2]
 rw[e];unfold aR;rw[List.findIdx?_cons]
theorem adf (Φ:aa) (h1:Φ "both"=aQ mX) (ds:List D) (G:DH) (h:N6 ds G):au Φ lM noE (env0 ds 2) G (ends (N7 ds G)):=by
 obtain ⟨rs,b,rfl,hb⟩:=h;simp_all_arith[lM];refine seq λM hM=>?_;simp_arith![ends];refine ForG.inv (P:=λi ρ G'=>(∃o2 o3,ρ=[some (.tup (rs.map aB)),some (.str b),o2,o3])/\G'=G/\aR rs b=(aR (rs.drop i) b).map (·+i)) ⟨⟨_,_,rfl⟩,rfl,by simp⟩ (λ_ _ _ _=>trivial) ?_ ?_
 ·rintro i d ρ G' hd ⟨⟨o2,o3,rfl⟩,rfl,hmet⟩ kk hk;rw[lz]at hd;obtain ⟨d',hd',rfl⟩:=bi.mp hd;rw[bS]at hd';obtain ⟨r,hr,rfl⟩:=bi.mp hd';have hrl:=hb r (cy hr);rw[ade hr]at hmet;simp_arith![ends];refine last ?_;simp_arith[h1,aB];refine d8 (d:=bG (cC r.1 b)) (if_pos (cb (by omega))) ?_;simp_arith[adc,adb];cases hf:(cC r.1 b).isSome with
  |true=>
   rw[hf,if_pos rfl]at hmet;exact ⟨rfl,rs,b,rfl,by rw[hmet];simp[aU]⟩
  |false=>
   rw[hf,if_neg b6]at hmet;refine hk _ _ ⟨⟨_,_,rfl⟩,rfl,?_⟩;rw[hmet,Option.map_map];congr 1;funext n;simp;omega
 ·rintro ρ G' ⟨⟨o2,o3,rfl⟩,rfl,hmet⟩;rw[lw,ah,eg]at hmet;refine hM _ _ ?_;simp_arith[ends];exact ⟨rfl,rs,b,rfl,by rw[hmet];rfl⟩
noncomputable def cT(f b:List Nat):Option Nat:=(f.zip b).findIdx? λp=>p.2==42&&!(p.1==42)
noncomputable def cY(rs:List Row)(b:List Nat):Option Nat:=match aR rs b with |some n=>(match rs[n]? with |some r=>cT r.1 b |none=>none) |none=>none
noncomputable def Oa(ds:List D)(_:DH):Prop:=∃(rs:List Row)(b:List Nat),ds=[.tup (rs.map aB),.str b]/\(∀r∈rs,r.1.length=b.length)/\b.length<=1000
noncomputable def Ob(ds:List D)(G:DH)(d:D)(G':DH):Prop:=G'=G/\∃(rs:List Row)(b:List Nat),ds=[.tup (rs.map aB),.str b]/\d=aU (cY rs b)
noncomputable def uB:RF.Spec:=bB Oa Ob
theorem adg{rs:List Row}{b:List Nat}{G:DH}{k:D->DH->Prop}{E:EK}(h:∀r∈rs,r.1.length=b.length)(hl:b.length<=1000)(hk:k (aU (cY rs b)) G):uB.t [.tup (rs.map aB),.str b] G k E:=by refine bQ ⟨rs,b,rfl,h,hl⟩ λd G' hx=>?_;obtain ⟨e1,rs2,b2,e2,e3⟩:=hx;simp only[c8,D.str.injEq,D.tup.injEq,ez]at e2;obtain ⟨e2,rfl⟩:=e2;cases zb e2;subst e1 e3;exact hk
theorem uC{rs:List Row}{b:List Nat}{n:Nat}(h:aR rs b=some n):n < rs.length:=(List.findIdx?_eq_some_iff_findIdx_eq.mp h).1
theorem adh{f b:List Nat}{i s c:Nat}(hs:f[i]?=some s)(hc:b[i]?=some c):cT (f.drop i) (b.drop i)=if (c==42&&!(s==42))=true then some 0 else (cT (f.drop (i+1)) (b.drop (i+1))).map (·+1):=by have h1:=av.mp hs;have h2:=av.mp hc;rw[bp h1.1,bp h2.1,h1.2,h2.2];unfold cT;rw[List.zip_cons_cons,List.findIdx?_cons]
theorem adi (Φ:aa) (h1:Φ "first_touching"=mY) (ds:List D) (G:DH) (h:Oa ds G):au Φ lN noE (env0 ds 3) G (ends (Ob ds G)):=by
 obtain ⟨rs,b,rfl,hb,hbl⟩:=h;simp_all_arith[lN];refine seq λM hM=>?_;simp_arith[h1];refine N8 (λr hr=>by rw[hb r hr];exact hbl) (hM _ _ (seq λM hM=>?_));cases ht:aR rs b with
 |none=>
  simp_arith[aU];exact ⟨rfl,rs,b,rfl,by unfold cY;rw[ht];rfl⟩
 |some n=>
  have hn:=uC ht;have hlen:=hb rs[n] (c9 _);have hsp:cY rs b=cT rs[n].1 b:=by unfold cY;rw[ht];simp[hn]
  simp_arith[aU];refine hM _ _ (seq λM hM=>?_);simp_arith![ends];refine bJ (a:=aB rs[n]) (bT (by simp[hn])) ?_;simp_arith![aB];generalize rs[n].1=f at hlen hsp;refine ForG.inv (P:=λi ρ G'=>(∃o3 o4,ρ=[some (.tup (rs.map aB)),some (.str b),some (.int (n:Int)),o3,o4])/\G'=G/\cT f b=(cT (f.drop i) (b.drop i)).map (·+i)) ⟨⟨_,_,rfl⟩,rfl,by simp⟩ (λ_ _ _ _=>trivial) ?_ ?_
  ·rintro i d ρ G' hd ⟨⟨o3,o4,rfl⟩,rfl,hs⟩ kk hk;rw[lz]at hd;obtain ⟨d',hd',rfl⟩:=bi.mp hd;rw[bS]at hd';obtain ⟨s,hsi,rfl⟩:=bi.mp hd';have hi:=(av.mp hsi).1;have hib:i < b.length:=by omega
   have hbi:b[i]?=some b[i]:=by simp[hib]
   rw[adh hsi hbi]at hs;simp_arith![ends];refine last ?_;simp_arith[ends];refine bJ (a:=b[i]) (by rw[Nat.zero_add];exact bT hbi) ?_;simp_arith[jP];cases h42:(b[i]==42) with
   |false=>
    simp only[h42,Bool.false_and,if_neg b6]at hs;simp_arith[ends];refine hk _ _ ⟨⟨_,_,rfl⟩,rfl,?_⟩;rw[hs,Option.map_map];congr 1;funext n;simp;omega
   |true=>
    simp_arith[jP];cases hs42:(s==42) with
    |true=>
     simp only[h42,hs42,Bool.not_true,Bool.and_false,if_neg b6]at hs;simp_arith[ends];refine hk _ _ ⟨⟨_,_,rfl⟩,rfl,?_⟩;rw[hs,Option.map_map];congr 1;funext n;simp;omega
    |false=>
     simp only[h42,hs42,Bool.not_false,Bool.and_true,if_pos]at hs;simp_arith[ends];exact ⟨rfl,rs,b,rfl,by rw[hsp,hs];simp[aU]⟩
  ·rintro ρ G' ⟨⟨o3,o4,rfl⟩,rfl,hs⟩;rw[lw,ah,eg]at hs;refine hM _ _ ?_;simp_arith[ends];exact ⟨rfl,rs,b,rfl,by rw[hsp,hs];simp[cT,aU]⟩
noncomputable def jR:List Nat:=[115,112,108,105,116]
noncomputable def stc(b:List Nat):Nat:=b.countP (·==42)
theorem jT{b:List Nat}{n c:Nat}(h:b[n]?=some 42)(hc:c≠42):stc (b.set n c)+1=stc b:=by
 obtain ⟨hl,he⟩:=av.mp h;have e1:b=b.take n++42::b.drop (n+1):=by rw[<-he,<-bp hl,List.take_append_drop]
 have e2:b.set n c=b.take n++c::b.drop (n+1):=by rw[List.set_eq_take_append_cons_drop,if_pos hl]
 unfold stc;rw[e2];conv=>rhs;rw[e1]
 rw[List.countP_append,List.countP_append,List.countP_cons_of_neg (by simp[hc]),List.countP_cons_of_pos (by simp)];omega
theorem Oc{w n c:Nat}{b:List Nat}(h:okF w b)(hc:isF c):okF w (b.set n c):=⟨by rw[d4];exact h.1,λd hd=>by
 rcases List.mem_or_eq_of_mem_set hd with h' |h'
 ·exact h.2 d h'
 ·rw[h'];exact hc⟩
theorem adk:isF 48:=.inl rfl
theorem adl:isF 49:=.inr (.inl rfl)
inductive Gr (name:List Nat) (rss:List (List Row)):List Nat->D->Prop
 |leaf (b:List Nat) (h:∀rs∈rss,cY rs b=none):Gr name rss b (.tup (.str name::rss.map λrs=>aU (aR rs b)))
 |node (b:List Nat) (n:Nat) (z o:D) (h:b[n]?=some 42) (hz:Gr name rss (b.set n 48) z) (ho:Gr name rss (b.set n 49) o):Gr name rss b (.tup [.str jR,.int n,z,o])
noncomputable def dH(rss:List (List Row)):List D:=rss.map λrs=>.tup (rs.map aB)
structure okG(w:Nat)(name:List Nat)(rss:List (List Row)):Prop where
 len:rss.length<=100
 nl:name.length<=100
 form:∀rs∈rss,∀r∈rs,r.1.length=w
 w1000:w<=1000
noncomputable def Od(n:Nat)(ds:List D)(_:DH):Prop:=∃(w:Nat)(name:List Nat)(rss:List (List Row))(b:List Nat),ds=[.str name,.lst (dH rss),.str b]/\okG w name rss/\b.length=w/\stc b < n
noncomputable def Oe(ds:List D)(G:DH)(d:D)(G':DH):Prop:=G'=G/\∃(name:List Nat)(rss:List (List Row))(b:List Nat),ds=[.str name,.lst (dH rss),.str b]/\Gr name rss b d
noncomputable def eE(n:Nat):RF.Spec:=bB (Od n) Oe
theorem adm{a b:List (List Row)}(h:dH a=dH b):a=b:=by
 unfold dH at h;induction a generalizing b with
 |nil=>cases b with
  |nil=>rfl
  |cons _ _=>simp at h
 |cons x a ih=>cases b with
  |nil=>simp at h
  |cons y b=>
   simp only[bq,c8,D.tup.injEq]at h;rw[zb h.1,ih h.2]
theorem uD{n w:Nat}{name:List Nat}{rss:List (List Row)}{b:List Nat}{G:DH}{k:D->DH->Prop}{E:EK}(h:okG w name rss)(hb:b.length=w)(hs:stc b < n)(hk:∀d,Gr name rss b d->k d G):(eE n).t [.str name,.lst (dH rss),.str b] G k E:=by refine bQ ⟨w,name,rss,b,rfl,h,hb,hs⟩ λd G' hx=>?_;obtain ⟨e1,name2,rss2,b2,e2,e3⟩:=hx;simp only[c8,D.str.injEq,D.lst.injEq,ez]at e2;obtain ⟨rfl,e2,rfl⟩:=e2;cases adm e2;subst e1;exact hk d e3
theorem adn{f b:List Nat}{n:Nat}(h:cT f b=some n):b[n]?=some 42:=by unfold cT at h;have h2:=fA.mp h;obtain ⟨hl,hp,_⟩:=h2;rw[List.length_zip]at hl;rw[List.getElem_zip]at hp;simp only[ae,aE]at hp;rw[ba (by omega),hp.1]
theorem ado{rs:List Row}{b:List Nat}{n:Nat}(h:cY rs b=some n):b[n]?=some 42:=by
 unfold cY at h;split at h
 ·split at h
  ·exact adn h
  ·cases h
 ·cases h
theorem uE{b:List Nat}{n c:Nat}{G:DH}{k:D->DH->Prop}{E:EK}(h:n < b.length)(hl:b.length<=1000)(hk:k (.str (b.set n c)) G):(aQ gP).t [.str b,.int n,.str [c]] G k E:=
 d8 (by
  unfold gP;dsimp only;rw[if_pos (by simp only[ae,ci];omega),dP]) hk
theorem adp (Φ:aa) (n:Nat) (h0:Φ "grown"=eE n) (h1:Φ "first_touching"=mY) (h2:Φ "splitting_place"=uB) (h3:Φ "with_sign"=aQ gP) (ds:List D) (G:DH) (h:Od (n+1) ds G):au Φ jK noE (env0 ds 4) G (ends (Oe ds G)):=by
 obtain ⟨w,name,rss,b,rfl,hg,hb,hs⟩:=h;have hw:=hg.w1000;simp_all_arith[jK];refine seq λM hM=>?_;simp_arith![ends];refine ForG.inv (P:=λi ρ G'=>(∃o3 o4 o5 o6,ρ=[some (.str name),some (.lst (dH rss)),some (.str b),o3,o4,o5,o6])/\G'=G/\∀rs∈rss.take i,cY rs b=none) ⟨⟨_,_,_,_,rfl⟩,rfl,by simp⟩ (λ_ _ _ _=>trivial) ?_ ?_
 ·rintro i d ρ G' hd ⟨⟨o3,o4,o5,o6,rfl⟩,rfl,hall⟩ kk hk;unfold dH at hd;rw[bS]at hd;obtain ⟨rs,hrs,rfl⟩:=bi.mp hd;simp_arith![ends];refine seq λM hM=>?_;simp_arith[h2];refine adg (λr hr=>by rw[hg.form rs (cy hrs) r hr,hb]) (by omega) (hM _ _ (last ?_));cases hsp:cY rs b with
  |none=>
   simp_arith[aU];refine hk _ _ ⟨⟨_,_,_,_,rfl⟩,rfl,λrs' hrs'=>?_⟩;rw[fg,hrs]at hrs';rcases a8.mp hrs' with h |h
   ·exact hall rs' h
   ·have:rs'=rs:=by simpa using h
    rw[this];exact hsp
  |some at'=>
   have hst:=ado hsp;have hat:=(av.mp hst).1;simp_arith![aU];refine seq λM hM=>?_;simp_arith[h0,h3];refine uE hat (by omega) (uD hg (by rw[d4];exact hb) (by have:=jT hst (show 48≠42 by decide);omega) λz hz=>hM _ _ (seq λM hM=>?_));simp_arith[h0,h3];refine uE hat (by omega) (uD hg (by rw[d4];exact hb) (by have:=jT hst (show 49≠42 by decide);omega) λo ho=>hM _ _ (last ?_));simp_arith[ends];exact ⟨by decide,rfl,name,rss,b,rfl,.node b at' z o hst hz ho⟩
 ·rintro ρ G' ⟨⟨o3,o4,o5,o6,rfl⟩,rfl,hall⟩;have hlen:(dH rss).length=rss.length:=ah _;rw[hlen,fm]at hall;have hrl:=hg.len;refine hM _ _ ?_;simp_arith[h1];refine ⟨by decide,CompG.inv (P:=λi acc ρ G''=>(∃o,ρ=[o,some (.str b)])/\G''=G'/\acc=(rss.take i).map λrs=>aU (aR rs b)) ⟨⟨_,rfl⟩,rfl,rfl⟩ (λ_ _ _ _ _=>trivial) (by rw[hlen];have hsz:sz=1000000:=rfl;omega) ?_ ?_⟩
  ·rintro i d acc ρ G'' hd ⟨⟨o,rfl⟩,rfl,rfl⟩ kk hk;unfold dH at hd;rw[bS]at hd;obtain ⟨rs,hrs,rfl⟩:=bi.mp hd;simp_arith[h1];refine N8 (λr hr=>by rw[hg.form rs (cy hrs) r hr];omega) (hk _ _ _ ⟨⟨_,rfl⟩,rfl,?_⟩);rw[fg,hrs];simp
  ·rintro acc ρ G'' ⟨_,rfl,rfl⟩;rw[hlen,fm];simp_arith[ah];exact ⟨by have hsz:sz=1000000:=rfl;omega,rfl,name,rss,b,rfl,.leaf b hall⟩
theorem adq(ds:List D)(G:DH)(a:(eE 0).A):¬(eE 0).pre ds G a:=λ⟨_,_,_,_,_,_,_,_,h⟩=>by omega
theorem adt(w:Nat):stc (List.replicate w 42)<=w:=by have:=List.countP_le_length (p:=(·==42)) (l:=List.replicate w 42);rw[de]at this;exact this
theorem Og:∀{f b w:List Nat},cC f b=none->(∀s∈w,s=48\/s=49)->Fits b w->jO f w=true->False
 |[],b,w,h,_,_,_=>by cases b <;> cases h
 |a::f,[],w,h,_,_,_=>by cases h
 |a::f,c::b,[],h,_,hf,_=>by have:=hf.1;simp at this
 |a::f,c::b,s::w,h,hw,hf,hz=>by
  rw[jO,ae]at hz;have hs:=hf.2 0 c s rfl rfl;have hf':Fits b w:=⟨by have:=hf.1;simpa using this,λi c' s' h1 h2=>hf.2 (i+1) c' s' (by simpa using h1) (by simpa using h2)⟩;unfold cC at h;cases h1:d9 a c with
  |some x=>
   rw[h1]at h;simp only[Option.map_eq_none_iff]at h;exact Og h (λs hs=>hw s (a9 _ hs)) hf' hz.2
  |none=>
   unfold d9 at h1;split at h1
   ·cases h1
   ·split at h1
    ·cases h1
    ·rename_i ha hc;have h2:=(NQ (hw s br)).mp hz.1;unfold alt at hs h2;rw[if_neg ha]at h2;have es:s=a:=by simpa using h2
     split at hs
     ·rename_i e;exact hc (.inl e)
     ·have:s=c:=by simpa using hs
      exact hc (.inr (by omega))
theorem Oh:∀{f b w:List Nat},f.length=b.length->(cC f b).isSome=true->cT f b=none->(∀s∈w,s=48\/s=49)->Fits b w->jO f w=true
 |[],b,w,_,_,_,_,_=>rfl
 |a::f,[],w,h,_,_,_,_=>by simp at h
 |a::f,c::b,[],_,_,_,_,hf=>rfl
 |a::f,c::b,s::w,hl,hb,hs,hw,hf=>by
  have hs0:=hf.2 0 c s rfl rfl;have hf':Fits b w:=⟨by have:=hf.1;simpa using this,λi c' s' h1 h2=>hf.2 (i+1) c' s' (by simpa using h1) (by simpa using h2)⟩;unfold cT at hs;rw[List.zip_cons_cons,List.findIdx?_cons]at hs;split at hs
  ·cases hs
  ·rename_i hne;have hs':cT f b=none:=by unfold cT;simpa using hs
   unfold cC at hb;cases h1:d9 a c with
   |none=>rw[h1]at hb;cases hb
   |some x=>
    rw[h1]at hb;have hb':(cC f b).isSome=true:=by simpa using hb
    rw[jO,ae];refine ⟨?_,Oh (by simpa using hl) hb' hs' (λs hs=>hw s (a9 _ hs)) hf'⟩;rw[NQ (hw s br)];by_cases ha:a=42
    ·unfold alt;rw[if_pos ha];rcases hw s br with e |e <;> simp[e]
    ·have hc:c≠42:=by
      rintro rfl;exact hne (by simp[ha])
     unfold alt at hs0 ⊢;rw[if_neg hc]at hs0;rw[if_neg ha];unfold d9 at h1;rw[if_neg ha]at h1;split at h1
     ·rename_i h2;rcases h2 with h2 |h2
      ·exact absurd h2 hc
      ·rw[<-h2];exact hs0
     ·cases h1
theorem Oi{rs:List Row}{b l:List Nat}(hf:∀r∈rs,r.1.length=b.length)(hs:cY rs b=none)(hl:∀s∈l,s=48\/s=49)(hb:Fits b l):fH rs l=aR rs b:=by
 have no:∀r∈rs,(cC r.1 b).isSome=false->mV r.1 l=false:=by
  intro r hr h;cases e:mV r.1 l with
  |false=>rfl
  |true=>
   unfold mV at e;rw[ae]at e;exact (Og (by simpa using h) hl hb e.2).elim
 cases ht:aR rs b with
 |none=>
  unfold aR at ht;unfold fH;rw[List.findIdx?_eq_none_iff]at ht ⊢;exact λr hr=>no r hr (by simpa using ht r hr)
 |some n=>
  have hn:=uC ht;have ht':=fA.mp ht;obtain ⟨_,t1,t2⟩:=ht';unfold fH;rw[fA];refine ⟨hn,?_,λj hj=>?_⟩
  ·have hsf:cT rs[n].1 b=none:=by
    unfold cY at hs;rw[ht]at hs;simpa [hn] using hs
   have hlen:=hf rs[n] (c9 _);unfold mV;rw[ae];exact ⟨cb (by rw[hlen,hb.1]),Oh hlen t1 hsf hl hb⟩
  ·have:=no rs[j] (c9 _) (by simpa using t2 j hj);simp[this]
noncomputable def mZ(name:List Nat)(rss:List (List Row))(b:List Nat):D:=.tup (.str name::rss.map λrs=>aU (aR rs b))
noncomputable def jU(name:List Nat)(rss:List (List Row))(b:List Nat):D:=.tup [.str b,mZ name rss b]
inductive Lv (name:List Nat) (rss:List (List Row)):List Nat->D->List (List Nat)->Prop
 |leaf (b:List Nat) (h:∀rs∈rss,cY rs b=none):Lv name rss b (mZ name rss b) [b]
 |node (b:List Nat) (n:Nat) (z o:D) (l m:List (List Nat)) (h:b[n]?=some 42) (hz:Lv name rss (b.set n 48) z l) (ho:Lv name rss (b.set n 49) o m):Lv name rss b (.tup [.str jR,.int n,z,o]) (l++m)
theorem Gr.lv{name:List Nat}{rss:List (List Row)}{b:List Nat}{d:D}(h:Gr name rss b d):∃bs,Lv name rss b d bs:=by
 induction h with
 |leaf b h=>exact ⟨_,.leaf b h⟩
 |node b n z o h _ _ hz ho=>
  obtain ⟨l,hl⟩:=hz;obtain ⟨m,hm⟩:=ho;exact ⟨_,.node b n z o l m h hl hm⟩
theorem Lv.len{name:List Nat}{rss:List (List Row)}{b:List Nat}{d:D}{bs:List (List Nat)}(h:Lv name rss b d bs):bs.length<=2 ^ stc b:=by
 induction h with
 |leaf b h=>exact Nat.one_le_two_pow
 |node b n z o l m h _ _ hz ho=>
  have e1:=jT h (show 48≠42 by decide);have e2:=jT h (show 49≠42 by decide);rw[<-e1,Nat.pow_succ,aw];have e3:stc (b.set n 49)=stc (b.set n 48):=by omega
  rw[e3]at ho;omega
theorem Lv.len'{name:List Nat}{rss:List (List Row)}{b:List Nat}{d:D}{bs:List (List Nat)}(h:Lv name rss b d bs)(hb:b.length<=12):bs.length<=4096:=by
 have h1:=h.len;have h2:stc b<=12:=bv (List.countP_le_length) hb;have h3:=Nat.pow_le_pow_right (show 0 < 2 by decide) h2;have h4:2 ^ 12=4096:=by decide
 omega
theorem Lv.box{name:List Nat}{rss:List (List Row)}{b:List Nat}{d:D}{bs:List (List Nat)}(h:Lv name rss b d bs):∀c∈bs,c.length=b.length/\∀rs∈rss,cY rs c=none:=by
 induction h with
 |leaf b h=>intro c hc;rw[a7.mp hc];exact ⟨rfl,h⟩
 |node b n z o l m h _ _ hz ho=>
  intro c hc;rcases a8.mp hc with hc |hc
  ·have:=hz c hc;rw[d4]at this;exact this
  ·have:=ho c hc;rw[d4]at this;exact this
theorem Lv.okf{w:Nat}{name:List Nat}{rss:List (List Row)}{b:List Nat}{d:D}{bs:List (List Nat)}(h:Lv name rss b d bs):okF w b->∀c∈bs,okF w c:=by
 induction h with
 |leaf b h=>intro hb c hc;rw[a7.mp hc];exact hb
 |node b n z o l m h _ _ hz ho=>
  intro hb c hc;rcases a8.mp hc with hc |hc
  ·exact hz (Oc hb adk) c hc
  ·exact ho (Oc hb adl) c hc
theorem Oj{w:Nat}{f l:List Nat}(h:okF w f)(hf:Fits f l):∀s∈l,s=48\/s=49:=by
 intro s hs;obtain ⟨i,hi,rfl⟩:=List.getElem_of_mem hs;have hif:i < f.length:=by rw[hf.1];exact hi
 have:=hf.2 i f[i] l[i] (by simp[hif]) (by simp[hi]);rcases h.2 f[i] (c9 _) with e |e |e <;> rw[e]at this <;> simp[alt]at this <;> omega
noncomputable def isPlace(m:Int):D->Bool
 |.int i=>decide (0<=i)&&decide (i < m)
 |_=>false
noncomputable def fJ:List D->Option D
 |[.int m,x]=>if nr x then some (.bl (isPlace m x)) else none
 |_=>none
theorem adu (Φ:aa) (h1:Φ "is_whole"=aQ iI) (ds:List D) (G:DH) (d:D) (h:fJ ds=some d):au Φ lU noE (env0 ds 0) G (ends λd' G'=>G'=G/\d'=d):=by
 unfold fJ at h;split at h
 ·rename_i m x;split at h
  ·rename_i hx;cases h;have hf:iI [x]=some (.bl (whole x)):=if_pos hx;simp_arith[lU,h1];refine d8 hf ?_;cases x <;> first | (simp[nr]at hx;done) | (simp_arith[whole,isPlace];first | (simp;done) |skip)
   rename_i i;cases hi:decide (0<=i) with
   |true=>simp
   |false=>simp
  ·cases h
 ·cases h
theorem adv{m i:Nat}{G:DH}{k:D->DH->Prop}{E:EK}(h:i < m)(hk:k (.bl true) G):(aQ fJ).t [.int m,.int i] G k E:=
 d8 (by unfold fJ;simp only[nr,if_true,isPlace];rw[cb (by omega),cb (by omega)];rfl) hk
noncomputable def gb:List D->Option D
 |[.str name,.int many,.tup (.str s::r)]=>some (.bl ((((r.length+1:Nat):Int)==many+1)&&(s==name)))
 |_=>none
theorem adw(Φ:aa)(ds:List D)(G:DH)(d:D)(h:gb ds=some d):au Φ lQ noE (env0 ds 0) G (ends λd' G'=>G'=G/\d'=d):=by
 unfold gb at h;split at h
 ·rename_i name many s r;cases h;simp_arith[lQ];cases he:(((r.length+1:Nat):Int)==many+1) with
  |false=>simp_arith[Bool.false_and]
  |true=>simp_arith[Bool.true_and]
 ·cases h
theorem adx{name s:List Nat}{m:Int}{r:List D}{G:DH}{k:D->DH->Prop}{E:EK}(h:s≠name)(hk:k (.bl false) G):(aQ gb).t [.str name,.int m,.tup (.str s::r)] G k E:=
 d8 (by unfold gb;dsimp only;rw[cS.mpr h,Bool.and_false]) hk
theorem ady{name:List Nat}{m:Int}{r:List D}{G:DH}{k:D->DH->Prop}{E:EK}(h:(r.length:Int)=m)(hk:k (.bl true) G):(aQ gb).t [.str name,.int m,.tup (.str name::r)] G k E:=
 d8 (by unfold gb;dsimp only;rw[BEq.rfl,Bool.and_true,aE.mpr (by omega)]) hk
noncomputable def oI:Option Int->D
 |some i=>.int i
 |none=>.non
inductive T where
 |lf (r:List (Option Int))
 |sp (i:Int) (z o:T)
noncomputable def T.d(name:List Nat):T->D
 |.lf r=>.tup (.str name::r.map oI)
 |.sp i z o=>.tup [.str jR,.int i,z.d name,o.d name]
noncomputable def T.dep:T->Nat
 |.lf _=>0
 |.sp _ z o=>max z.dep o.dep+1
noncomputable def iR(b:List Nat)(i:Int):Bool:=decide (0<=i)&&b[i.toNat]?==some 42
noncomputable def T.lvs:T->List Nat->Option (List (List Nat×List (Option Int)))
 |.lf r,b=>some [(b,r)]
 |.sp i z o,b=>match iR b i with
  |true=>(match z.lvs (b.set i.toNat 48),o.lvs (b.set i.toNat 49) with |some l,some m=>some (l++m) |_,_=>none)
  |false=>none
noncomputable def m5(name:List Nat)(x:List Nat×List (Option Int)):D:=.tup [.str x.1,.tup (.str name::x.2.map oI)]
noncomputable def eF(name:List Nat):Option (List (List Nat×List (Option Int)))->D
 |none=>.non
 |some l=>.lst (l.map (m5 name))
theorem T.lvs_len:∀(t:T){b:List Nat}{l:List (List Nat×List (Option Int))},t.lvs b=some l->l.length<=2 ^ t.dep
 |.lf r,b,l,h=>by cases h;exact Nat.one_le_two_pow
 |.sp i z o,b,l,h=>by
  rw[T.lvs]at h;split at h
  ·split at h
   ·rename_i l1 l2 h1 h2;cases h;have e1:=z.lvs_len h1;have e2:=o.lvs_len h2;have e3:=Nat.pow_le_pow_right (show 0 < 2 by decide) (Nat.le_max_left z.dep o.dep);have e4:=Nat.pow_le_pow_right (show 0 < 2 by decide) (Nat.le_max_right z.dep o.dep);rw[aw,T.dep,Nat.pow_succ];omega
   ·cases h
  ·cases h
theorem T.lvs_len'{n:Nat}{t:T}{b:List Nat}{l:List (List Nat×List (Option Int))}(h:t.lvs b=some l)(hn:t.dep < n)(hn':n<=12):l.length<=4096:=by
 have h1:=t.lvs_len h;have h3:=Nat.pow_le_pow_right (show 0 < 2 by decide) (show t.dep<=12 by omega);have h4:2 ^ 12=4096:=by decide
 omega
structure TA where
 name:List Nat
 b:List Nat
 t:T
noncomputable def Ol(n:Nat)(a:TA):Prop:=a.name≠jR/\a.b.length<=12/\a.t.dep < n/\n<=12
noncomputable def dI(n:Nat):RF.Spec:=bZ (λa:TA=>[.str a.b,a.t.d a.name]) (Ol n) (λa=>eF a.name (a.t.lvs a.b))
theorem zc{n:Nat}{name b:List Nat}{t:T}{G:DH}{k:D->DH->Prop}{E:EK}(h1:name≠jR)(h2:b.length<=12)(h3:t.dep < n)(h4:n<=12)(hk:k (eF name (t.lvs b)) G):(dI n).t [.str b,t.d name] G k E:=cB ⟨name,b,t⟩ rfl ⟨h1,h2,h3,h4⟩ hk
theorem adz(ds:List D)(G:DH)(a:(dI 0).A):¬(dI 0).pre ds G a:=λ⟨_,_,_,_,h,_⟩=>by omega
theorem adA{b:List Nat}{i:Int}(h:iR b i=true):0<=i/\∃n:Nat,i=n/\n < b.length/\b[n]?=some 42:=by
 unfold iR at h;rw[ae]at h;have h1:=dc h.1;have h2:b[i.toNat]?=some 42:=by simpa using h.2
 exact ⟨h1,i.toNat,by omega,(av.mp h2).1,h2⟩
theorem adB (Φ:aa) (n:Nat) (h0:Φ "leaves"=dI n) (h1:Φ "is_named"=aQ gb) (h2:Φ "is_place"=aQ fJ) (h3:Φ "with_sign"=aQ gP) (a:TA) (G:DH) (h:Ol (n+1) a):au Φ iG noE (env0 [.str a.b,a.t.d a.name] 3) G (ends λd G'=>G'=G/\d=eF a.name (a.t.lvs a.b)):=by
 obtain ⟨name,b,t⟩:=a;obtain ⟨hne,hbl,hd,hn⟩:=h;dsimp only at hne hbl hd ⊢;cases t with
 |lf r=>
  simp_all_arith[iG];refine seq λM hM=>?_;simp_arith[h1,T.d];refine adx hne ?_;simp_arith[T.lvs,eF,bq,dn,m5];exact ⟨by decide,by decide⟩
 |sp i z o=>
  rw[T.dep]at hd;simp_all_arith[iG];refine seq λM hM=>?_;simp_arith[h1,T.d];refine ady rfl ?_;simp_arith[ends];refine hM _ _ (seq λM hM=>?_);simp_arith[ends];refine hM _ _ (seq λM hM=>?_);simp_arith[h2];refine d8 (d:=.bl (isPlace b.length (.int i))) rfl ?_;cases hst:iR b i with
  |false=>
   rw[T.lvs,hst];cases hp:isPlace b.length (.int i) with
   |false=>simp_arith[eF]
   |true=>
    unfold isPlace at hp;rw[ae]at hp;have p1:=dc hp.1;have p2:=dc hp.2;obtain ⟨m,rfl⟩:∃m:Nat,i=m:=⟨i.toNat,by omega⟩;have hm:m < b.length:=by omega
    have hc:b[m]?=some b[m]:=ba hm;have hne42:((b[m]==42):Bool)=false:=by unfold iR at hst;rw[cb (by omega),Bool.true_and,dP,hc]at hst;simpa using hst
    simp_arith[ends];refine bJ (a:=b[m]) (bT hc) ?_;simp_arith[jP,hne42,eF]
  |true=>
   obtain ⟨_,m,rfl,hm,hc⟩:=adA hst;have hp:isPlace b.length (.int (m:Int))=true:=by show (decide (0<=(m:Int))&&decide ((m:Int) < b.length))=true;rw[cb (by omega),cb (by omega)];rfl
   have hl:(T.sp (m:Int) z o).lvs b=match z.lvs (b.set m 48),o.lvs (b.set m 49) with |some l,some m=>some (l++m) |_,_=>none:=by rw[T.lvs,hst,dP]
   rw[hp];simp_arith[ends];refine bJ (a:=42) (bT hc) ?_;simp_arith[BEq.rfl];refine hM _ _ (seq λM hM=>?_);simp_arith[h0,h3];refine uE hm (by omega) (zc hne (by rw[d4];exact hbl) (by omega) (by omega) (hM _ _ (seq λM hM=>?_)));simp_arith[h0,h3];refine uE hm (by omega) (zc hne (by rw[d4];exact hbl) (by omega) (by omega) (hM _ _ (seq λM hM=>?_)));cases e1:z.lvs (b.set m 48) with
   |none=>
    rw[e1]at hl;simp_arith[hl,eF]
   |some l1=>
    cases e2:o.lvs (b.set m 49) with
    |none=>
     rw[e1,e2]at hl;simp_arith[hl,eF]
    |some l2=>
     rw[e1,e2]at hl;have q1:=T.lvs_len' e1 (n:=n) (by omega) (by omega);have q2:=T.lvs_len' e2 (n:=n) (by omega) (by omega);simp_arith[eF];refine hM _ _ (last ?_);simp_arith[ah,bX,hl,eF];have hsz:sz=1000000:=rfl;omega
theorem adC(o:Option Nat):aU o=oI (o.map λn=>(n:Int)):=by cases o <;> rfl
noncomputable def jV(rss:List (List Row))(c:List Nat):List (Option Int):=rss.map λrs=>(aR rs c).map λn=>(n:Int)
theorem Om{rss:List (List Row)}{c:List Nat}:(jV rss c).map oI=rss.map λrs=>aU (aR rs c):=by unfold jV;rw[List.map_map];exact List.map_congr_left λrs _=>(adC _).symm
theorem Lv.tree{name:List Nat}{rss:List (List Row)}{b:List Nat}{d:D}{bs:List (List Nat)}(h:Lv name rss b d bs):∃t:T,d=t.d name/\t.dep<=stc b/\t.lvs b=some (bs.map λc=>(c,jV rss c)):=by
 induction h with
 |leaf b h=>exact ⟨.lf (jV rss b),by rw[T.d,Om];rfl,eI _,rfl⟩
 |node b n z o l m h _ _ hz ho=>
  obtain ⟨tz,rfl,d1,e1⟩:=hz;obtain ⟨tO,rfl,d2,e2⟩:=ho;have s1:=jT h (show 48≠42 by decide);have s2:=jT h (show 49≠42 by decide);refine ⟨.sp n tz tO,rfl,?_,?_⟩
  ·rw[T.dep];have:=Nat.max_le.mpr ⟨show tz.dep<=stc (b.set n 48) from d1,show tO.dep<=stc (b.set n 48) by omega⟩;omega
  ·have hs:iR b (n:Int)=true:=by unfold iR;rw[cb (by omega),dP,h];rfl
   rw[T.lvs,hs,dP,e1,e2];simp
theorem adD{name:List Nat}{rss:List (List Row)}{c:List Nat}:m5 name (c,jV rss c)=jU name rss c:=by unfold m5 jU mZ;rw[Om]
theorem Oo{n:Nat}{name:List Nat}{rss:List (List Row)}{b:List Nat}{d:D}{bs:List (List Nat)}{G:DH}{k:D->DH->Prop}{E:EK}(h:Lv name rss b d bs)(h1:name≠jR)(h2:b.length<=12)(h3:stc b < n)(hk:k (.lst (bs.map (jU name rss))) G)(h4:n<=12:=by decide):(dI n).t [.str b,d] G k E:=by
 obtain ⟨t,rfl,e1,e2⟩:=h.tree;refine zc h1 h2 (by omega) h4 ?_;rw[e2,eF,List.map_map];have:(m5 name∘λc=>(c,jV rss c))=jU name rss:=by funext c;exact adD
 rw[this];exact hk
noncomputable def gf:List Nat->List (List Nat)
 |[]=>[[]]
 |c::f=>(alt c).flatMap λs=>(gf f).map (s::·)
theorem Oq:∀(f:List Nat)(acc:List (List Nat)),f.foldl step1 acc=acc.flatMap λt=>(gf f).map (t ++ ·)
 |[],acc=>by simp[gf]
 |c::f,acc=>by
  rw[List.foldl_cons,Oq f,step1,List.flatMap_assoc];congr 1;funext t;rw[gf,List.flatMap_map,List.map_flatMap];congr 1;funext s;rw[List.map_map];congr 1;funext x;simp
theorem Ot(f:List Nat):fZ f=gf f:=by unfold fZ;rw[Oq];simp
noncomputable def bj(l:List Nat):List Nat:=l.map λa=>if a=42 then 48 else a
noncomputable def iT:List D->Option D
 |[.str l]=>if decide (l.length<=1000) then some (.str (bj l)) else none
 |_=>none
theorem Ou{l:List Nat}{G:DH}{k:D->DH->Prop}{E:EK}(h:l.length<=1000)(hk:k (.str (bj l)) G):(aQ iT).t [.str l] G k E:=d8 (if_pos (cb h)) hk
theorem adE{b l:List Nat}{n:Nat}(h:Fits b l)(hn:b[n]?=some 42):Fits (b.set n 48) l\/Fits (b.set n 49) l:=by
 obtain ⟨hl,he⟩:=av.mp hn;have hnl:n < l.length:=by rw[<-h.1];exact hl
 have hs:=h.2 n 42 l[n] hn (ba hnl);have put:∀c,l[n]=c->c≠42->Fits (b.set n c) l:=by
  intro c hc hc42;refine ⟨by rw[d4];exact h.1,λi x y hx hy=>?_⟩;rw[List.getElem?_set]at hx;by_cases hi:n=i
  ·subst hi;rw[if_pos rfl,if_pos hl]at hx;rw[ba hnl]at hy;cases hx;cases hy;unfold alt;rw[if_neg hc42,hc];simp
  ·rw[if_neg hi]at hx;exact h.2 i x y hx hy
 unfold alt at hs;rw[if_pos rfl]at hs;have:l[n]=48\/l[n]=49:=by simpa using hs
 rcases this with e |e
 ·exact .inl (put 48 e (by decide))
 ·exact .inr (put 49 e (by decide))
theorem Ov{b l:List Nat}{n c:Nat}(h:Fits (b.set n c) l)(hn:b[n]?=some 42)(hc:c=48\/c=49):Fits b l:=by
 have hl:=(av.mp hn).1;refine ⟨by have:=h.1;rwa [d4]at this,λi x y hx hy=>?_⟩;by_cases hi:n=i
 ·subst hi;rw[hn]at hx;cases hx;have:=h.2 n c y (by rw[List.getElem?_set,if_pos rfl,if_pos hl]) hy;unfold alt at this ⊢;rw[if_neg (by omega)]at this;rw[if_pos rfl];have e:y=c:=by simpa using this
  rw[e];simpa using hc
 ·exact h.2 i x y (by rw[List.getElem?_set,if_neg hi];exact hx) hy
theorem Lv.cover{name:List Nat}{rss:List (List Row)}{b:List Nat}{d:D}{bs:List (List Nat)}(h:Lv name rss b d bs):∀l,Fits b l->∃c∈bs,Fits c l:=by
 induction h with
 |leaf b h=>exact λl hl=>⟨b,by simp,hl⟩
 |node b n z o l m h _ _ hz ho=>
  intro w hw;rcases adE hw h with e |e
  ·obtain ⟨c,hc,hf⟩:=hz w e;exact ⟨c,a8.mpr (.inl hc),hf⟩
  ·obtain ⟨c,hc,hf⟩:=ho w e;exact ⟨c,a8.mpr (.inr hc),hf⟩
theorem Lv.within{name:List Nat}{rss:List (List Row)}{b:List Nat}{d:D}{bs:List (List Nat)}(h:Lv name rss b d bs):∀c∈bs,∀l,Fits c l->Fits b l:=by
 induction h with
 |leaf b h=>intro c hc l hl;rw[a7.mp hc]at hl;exact hl
 |node b n z o l m h _ _ hz ho=>
  intro c hc w hw;rcases a8.mp hc with hc |hc
  ·exact Ov (hz c hc w hw) h (.inl rfl)
  ·exact Ov (ho c hc w hw) h (.inr rfl)
theorem adF{a s:Nat}{f l:List Nat}(h:Fits (a::f) (s::l)):s∈alt a/\Fits f l:=
 ⟨h.2 0 a s rfl rfl,by have:=h.1;simpa using this,λi c t h1 h2=>h.2 (i+1) c t (by simpa using h1) (by simpa using h2)⟩
theorem adG{a s:Nat}{f l:List Nat}(h1:s∈alt a)(h2:Fits f l):Fits (a::f) (s::l):=⟨by simp[h2.1],λi c t hc ht=>by
 cases i with
 |zero=>simp at hc ht;rw[<-hc,<-ht];exact h1
 |succ i=>exact h2.2 i c t (by simpa using hc) (by simpa using ht)⟩
theorem m6:∀c:List Nat,Fits c (bj c)
 |[]=>⟨rfl,λi c s h=>by simp at h⟩
 |a::c=>by
  show Fits (a::c) ((if a=42 then 48 else a)::bj c);refine adG ?_ (m6 c);unfold alt;split <;> simp
theorem zf:∀{c l:List Nat},Fits c l->¬l < bj c
 |[],l,h=>by
  have:l=[]:=c6.mp h.1.symm;subst this;exact List.lt_irrefl _
 |a::c,[],h=>by have:=h.1;simp at this
 |a::c,s::l,h=>by
  obtain ⟨h1,h2⟩:=adF h;show ¬(s::l) < ((if a=42 then 48 else a)::bj c);rw[fN];have ih:=zf h2;unfold alt at h1;split at h1
  ·rename_i e;rw[if_pos e];have:s=48\/s=49:=by simpa using h1
   rintro (q |q)
   ·omega
   ·exact ih q.2
  ·rename_i e;rw[if_neg e];have:s=a:=by simpa using h1
   rintro (q |q)
   ·omega
   ·exact ih q.2
theorem zg:∀{x m a:List Nat},x < m->¬a < m->x < a
 |x,[],a,h,_=>absurd h (by simp)
 |x,b::m,[],_,h=>absurd (by simp) h
 |[],b::m,y::a,_,_=>by simp
 |c::x,b::m,y::a,h,g=>by
  rw[fN]at h g ⊢;have g1:¬y < b:=λe=>g (.inl e);rcases h with h |⟨h1,h2⟩
  ·exact .inl (by omega)
  ·by_cases e:y=b
   ·exact .inr ⟨by omega,zg h2 λz=>g (.inr ⟨e,z⟩)⟩
   ·exact .inl (by omega)
theorem zj:∀f:List Nat,(gf f).Pairwise (· < ·)
 |[]=>by simp[gf]
 |c::f=>by
  have ih:=zj f;have one:∀s:Nat,((gf f).map (s::·)).Pairwise (· < ·):=λs=>List.pairwise_map.mpr (ih.imp λh=>fN.mpr (.inr ⟨rfl,h⟩));rw[gf];unfold alt;split
  ·rw[List.flatMap_cons,List.flatMap_cons,List.flatMap_nil,eW,List.pairwise_append];refine ⟨one 48,one 49,λa ha b hb=>?_⟩;obtain ⟨x,_,rfl⟩:=ca.mp ha;obtain ⟨y,_,rfl⟩:=ca.mp hb;exact fN.mpr (.inl (by decide))
  ·rw[List.flatMap_cons,List.flatMap_nil,eW];exact one c
theorem Ow{u:List (List Nat)}{m:List Nat}(h:u.Pairwise (· < ·))(hm:m∈u)(hl:∀x∈u,¬x < m):u.head?=some m:=by
 cases u with
 |nil=>cases hm
 |cons a u=>
  rcases aS.mp hm with e |hm
  ·rw[e];rfl
  ·exact absurd ((List.pairwise_cons.mp h).1 m hm) (hl a br)
theorem Oz{ds:List D}{ls:List (List Nat)}{k:D->Prop}(h0:bV ds=none)(h:bh ds=some ls)(hk:∀m,m∈ls->(∀a,a∈ls->¬a < m)->k (.str m)):opB .min [.lst ds] k:=by show j6 [.lst ds] k;unfold j6;dsimp only;rw[h0,h];exact hk
noncomputable def OD:List Nat:=[117,110,100,101,114]
noncomputable def OJ:List Nat:=[119,111,114,100]
noncomputable def du:List Nat:=[104,105,100,100,101,110]
noncomputable def cU(rs:List Row)(n:Nat)(f:List Nat):List (List Nat):=(fZ f).filter λl=>(fH (rs.take n) l).isNone
noncomputable def jW:RF.Spec:=bZ (λa:Nat×List Row×Nat=>[aq a.1 a.2.1,.int a.2.2]) (λa=>okB a.1 a.2.1/\a.2.2 < a.2.1.length) (λ_=>.non)
theorem uF{w n:Nat}{rs:List Row}{G:DH}{k:D->DH->Prop}{E:EK}(h:okB w rs)(hn:n < rs.length)(hk:k .non G):jW.t [aq w rs,.int n] G k E:=cB (w,rs,n) rfl ⟨h,hn⟩ hk
theorem adH (Φ:aa) (h1:Φ "need_book"=iK) (h2:Φ "is_place"=aQ fJ) (a:Nat×List Row×Nat) (G:DH) (h:okB a.1 a.2.1/\a.2.2 < a.2.1.length):au Φ lV noE (env0 [aq a.1 a.2.1,.int a.2.2] 0) G (ends λd G'=>G'=G/\d=.non):=by obtain ⟨w,rs,n⟩:=a;obtain ⟨hb,hn⟩:=h;dsimp only at hb hn ⊢;simp_all_arith[lV];refine seq λM hM=>?_;simp_arith[h1];refine mU hb (hM _ _ (last ?_));simp_arith[aq,h2,ah];refine adv hn ?_;simp_arith[and_self]
noncomputable def zm(rs:List Row)(n:Nat)(f:List Nat)(d:D):Prop:=
 (∃m,(cU rs n f).head?=some m/\d=.tup [.str OJ,.str m])\/(cU rs n f=[]/\∃t bs,d=.tup [.str du,t]/\Lv OD [rs.take n] f t bs/\∀c∈bs,(aR (rs.take n) c).isSome=true)
noncomputable def uG:RF.Spec:=ghS (A:=Nat×List Row×Nat) (λa ds _=>ds=[aq a.1 a.2.1,.int a.2.2]/\okB a.1 a.2.1/\a.2.2 < a.2.1.length) (λa G d G'=>G'=G/\∃r,a.2.1[a.2.2]?=some r/\zm a.2.1 a.2.2 r.1 d)
theorem adI{w n:Nat}{rs:List Row}{r:Row}{G:DH}{k:D->DH->Prop}{E:EK}(h:okB w rs)(hn:rs[n]?=some r)(hk:∀d,zm rs n r.1 d->k d G):uG.t [aq w rs,.int n] G k E:=
 cJ (w,rs,n) ⟨rfl,h,(av.mp hn).1⟩ λd G' hx=>by
  obtain ⟨e,r',er,q⟩:=hx;subst e;have er:rs[n]?=some r':=er;rw[hn]at er;cases er;exact hk d q
theorem adJ{l:List D}{n:Nat}:cut l none (some (n:Int))=l.take n:=uq l n
theorem adK (Φ:aa) (h1:Φ "need_row"=jW) (h2:Φ "grown"=eE 9) (h3:Φ "leaves"=dI 9) (h4:Φ "least"=aQ iT) (a:Nat×List Row×Nat) (ds:List D) (G:DH) (h:ds=[aq a.1 a.2.1,.int a.2.2]/\okB a.1 a.2.1/\a.2.2 < a.2.1.length):
  au Φ lW noE (env0 ds 4) G (ends λd G'=>G'=G/\∃r,a.2.1[a.2.2]?=some r/\zm a.2.1 a.2.2 r.1 d):=by
 obtain ⟨w,rs,n⟩:=a;obtain ⟨rfl,hb,hn⟩:=h;dsimp only at hb hn ⊢;have hw6:=hb.w6;have hc:rs[n]?=some rs[n]:=ba hn;have hf:=hb.form rs[n] (c9 hn);have hfl:=hf.1;have hrt:∀r∈rs.take n,okF w r.1:=λr hr=>hb.form r (List.mem_of_mem_take hr);simp_all_arith[lW];refine seq λM hM=>?_;simp_arith[h1];refine uF hb hn (hM _ _ (seq λM hM=>?_));simp_arith[aq];refine hM _ _ (seq λM hM=>?_);simp_arith[ends];refine bJ (a:=aB rs[n]) (bT (by rw[bS,hc];rfl)) ?_;simp_arith[aB];refine hM _ _ (seq λM hM=>?_);simp_arith[h2,adJ];have er:[D.tup (List.take n (rs.map aB))]=dH [rs.take n]:=by rw[<-List.map_take];rfl
 have hst:stc rs[n].1<=6:=bv List.countP_le_length (by omega);rw[er];refine ⟨by decide,uD (name:=OD) ⟨by simp,by decide,λrs' hrs' r hr=>by rw[a7.mp hrs']at hr;exact (hrt r hr).1,by omega⟩ hfl (by omega) λt ht=>hM _ _ (seq λM hM=>?_)⟩;obtain ⟨bs,hL⟩:=ht.lv;have hlen:=hL.len' (by omega);simp_arith[h3];refine Oo hL (by decide) (by omega) (by omega) ?_;simp_arith[ends];refine CompG.inv (P:=λi acc ρ G'=>(∃o1 o2,ρ=[o1,o2])/\G'=G/\acc=((bs.take i).filter λc=>(aR (rs.take n) c).isNone).map λc=>D.str (bj c)) ⟨⟨_,_,rfl⟩,rfl,rfl⟩ (λ_ _ _ _ _=>trivial) (by rw[ah];have hsz:sz=1000000:=rfl;omega) ?_ ?_
 ·rintro i d acc ρ G' hd ⟨⟨o1,o2,rfl⟩,rfl,rfl⟩ kk hk;rw[bS]at hd;obtain ⟨c,hcb,rfl⟩:=bi.mp hd;have hcl:=(hL.box c (cy hcb)).1;have htk:bs.take (i+1)=bs.take i++[c]:=by rw[fg,hcb];rfl
  simp_arith[jU,mZ,bq,dn];cases htc:aR (rs.take n) c with
  |some j=>
   simp_arith[aU];exact hk _ _ _ ⟨⟨_,_,rfl⟩,rfl,by rw[htk,fy];simp[htc]⟩
  |none=>
   simp_arith[aU,h4];refine Ou (by omega) (hk _ _ _ ⟨⟨_,_,rfl⟩,rfl,by rw[htk,fy];simp[htc]⟩)
 ·rintro acc ρ G' ⟨_,rfl,rfl⟩;rw[ah,fm];refine hM _ _ (seq λM hM=>?_);have meet:∀c∈bs,∀l,Fits c l->fH (rs.take n) l=aR (rs.take n) c:=by
   intro c hc l hl;obtain ⟨e1,e2⟩:=hL.box c hc;have okc:=hL.okf hf c hc;exact Oi (λr hr=>by rw[(hrt r hr).1,e1,hfl]) (e2 _ (by simp)) (Oj okc hl) hl
  cases hfr:bs.filter λc=>(aR (rs.take n) c).isNone with
  |nil=>
   have hall:∀c∈bs,(aR (rs.take n) c).isSome=true:=by
    intro c hc;have:=fF.mp hfr c hc;cases h:aR (rs.take n) c with
    |none=>rw[h]at this;exact absurd rfl this
    |some _=>rfl
   simp_arith[dn];refine hM _ _ (last ?_);simp_arith[ends];refine ⟨by decide,rs[n],hc,.inr ⟨?_,t,bs,rfl,hL,hall⟩⟩;unfold cU;rw[fF];intro l hl;obtain ⟨c,hc',hfc⟩:=hL.cover l (jN.mp hl);rw[meet c hc' l hfc];have:=hall c hc';cases h:aR (rs.take n) c with
   |none=>rw[h]at this;cases this
   |some _=>simp
  |cons c0 cs=>
   have hne:(!(List.isEmpty (D.str (bj c0)::cs.map λc=>D.str (bj c))))=true:=rfl;simp_arith[bq,hne];rw[<-bq (f:=λc=>D.str (bj c)),<-hfr];have es:bh ((bs.filter λc=>(aR (rs.take n) c).isNone).map λc=>D.str (bj c))=some ((bs.filter λc=>(aR (rs.take n) c).isNone).map bj):=strs_map _ _;have ei:bV ((bs.filter λc=>(aR (rs.take n) c).isNone).map λc=>D.str (bj c))=none:=by rw[hfr];rfl
   refine Oz ei es λm hm hlow=>?_;obtain ⟨c,hcm,rfl⟩:=ca.mp hm;obtain ⟨hcb,hcn⟩:=dS.mp hcm;have htn:aR (rs.take n) c=none:=by simpa using hcn
   refine ⟨by decide,rs[n],hc,.inl ⟨bj c,?_,rfl⟩⟩;refine Ow ?_ ?_ ?_
   ·unfold cU;rw[Ot];exact (zj _).filter _
   ·unfold cU;rw[dS];refine ⟨jN.mpr (hL.within c hcb _ (m6 c)),?_⟩;rw[meet c hcb _ (m6 c),htn];rfl
   ·intro x hx hlt;unfold cU at hx;obtain ⟨hx1,hx2⟩:=dS.mp hx;obtain ⟨c',hc',hfc⟩:=hL.cover x (jN.mp hx1);rw[meet c' hc' x hfc]at hx2;have hlow':=hlow (bj c') (ca.mpr ⟨c',dS.mpr ⟨hc',hx2⟩,rfl⟩);exact zf hfc (zg hlt hlow')
noncomputable def nI(n:Nat):D:=.int (n:Int)
noncomputable def eG(rs:List Row):List Nat:=(List.range rs.length).filter λn=>match rs[n]? with |some r=>(cU rs n r.1).isEmpty |none=>false
theorem adL{rs:List Row}{i:Nat}{r:Row}(h:rs[i]?=some r):((List.range (i+1)).filter λn=>match rs[n]? with |some r=>(cU rs n r.1).isEmpty |none=>false)=((List.range i).filter λn=>match rs[n]? with |some r=>(cU rs n r.1).isEmpty |none=>false)++(if (cU rs i r.1).isEmpty then [i] else []):=by rw[List.range_succ,fy];congr 1;rw[List.filter_cons,h];cases hf:(cU rs i r.1).isEmpty <;> simp only[hf] <;> rfl
theorem adM(rs:List Row):(eG rs).length<=rs.length:=bv (List.length_filter_le _ _) (by simp)
noncomputable def jX:RF.Spec:=ghS (A:=Nat×List Row) (λa ds _=>ds=[aq a.1 a.2]/\okB a.1 a.2) (λa G d G'=>∃q,d=.ref q/\G q=none/\G' q=some (.lst ((eG a.2).map nI))/\Sa G G')
theorem adN{w:Nat}{rs:List Row}{G:DH}{k:D->DH->Prop}{E:EK}(h:okB w rs)(hk:∀q G',G q=none->G' q=some (.lst ((eG rs).map nI))->Sa G G'->k (.ref q) G'):jX.t [aq w rs] G k E:=
 cJ (w,rs) ⟨rfl,h⟩ λd G' ⟨q,e1,e2,e3,e4⟩=>by subst e1;exact hk q G' e2 e3 e4
theorem adO (Φ:aa) (h1:Φ "need_book"=iK) (h2:Φ "reach"=uG) (a:Nat×List Row) (ds:List D) (G:DH) (h:ds=[aq a.1 a.2]/\okB a.1 a.2):
  au Φ lX noE (env0 ds 0) G (ends λd G'=>∃q,d=.ref q/\G q=none/\G' q=some (.lst ((eG a.2).map nI))/\Sa G G'):=by
 obtain ⟨w,rs⟩:=a;obtain ⟨rfl,hb⟩:=h;dsimp only at hb ⊢;have hlen:=hb.len;simp_all_arith[lX];refine seq λM hM=>?_;simp_arith[h1];refine mU hb (hM _ _ (last ?_));have e0:aq w rs=.tup [.int w,.tup (rs.map aB)]:=rfl;simp_arith[e0,ah];refine ⟨by omega,CompG.inv (P:=λi acc ρ G'=>(∃o,ρ=[o,some (.tup [.int w,.tup (rs.map aB)])])/\G'=G/\acc=((List.range i).filter λn=>match rs[n]? with |some r=>(cU rs n r.1).isEmpty |none=>false).map nI) ⟨⟨_,rfl⟩,rfl,rfl⟩ (λ_ _ _ _ _=>trivial) (by simp[bu];have hsz:sz=1000000:=rfl;omega) ?_ ?_⟩
 ·rintro i d acc ρ G' hd ⟨⟨o,rfl⟩,rfl,rfl⟩ kk hk;have hi:i < rs.length:=by
   have:=(av.mp hd).1;simpa [bu] using this
  have hdi:d=.int (i:Int):=by unfold bu at hd;rw[bS,List.getElem?_range (by simpa using hi)]at hd;simpa using hd.symm
  subst hdi;have hc:rs[i]?=some rs[i]:=ba hi;have ht:=adL hc;simp_arith[h2];rw[<-e0];refine adI hb hc λd' hq=>?_;rcases hq with ⟨m,hm,rfl⟩ |⟨hn,t,bs,rfl,hL,hall⟩
  ·have hne:(cU rs i rs[i].1).isEmpty=false:=by
    cases h:cU rs i rs[i].1 with
    |nil=>rw[h]at hm;cases hm
    |cons _ _=>rfl
   have eb:(([119,111,114,100]==[104,105,100,100,101,110]):Bool)=false:=by decide
   simp_arith[OJ,eb];exact hk _ _ _ ⟨⟨_,rfl⟩,rfl,by rw[ht,hne];simp[nI]⟩
  ·have hne:(cU rs i rs[i].1).isEmpty=true:=by rw[hn];rfl
   simp_arith[du,BEq.rfl];exact hk _ _ _ ⟨⟨_,rfl⟩,rfl,by rw[ht,hne];simp[nI]⟩
 ·rintro acc ρ G' ⟨_,rfl,rfl⟩;intro q hq;exact ⟨q,rfl,hq,by rw[aP];simp[bu,eG],Sa.new hq⟩
theorem adP{w:Nat}{G:DH}{k:D->DH->Prop}{E:EK}(h:w<=1000)(hk:k (.str (List.replicate w 42)) G):(aQ iQ).t [.int w] G k E:=
 d8 (d:=.str (List.replicate w 42)) (by unfold iQ;dsimp only;rw[if_pos (by simp only[ae,ci];omega),dP]) hk
noncomputable def O1:List Nat:=[115,97,109,101]
noncomputable def O2:List Nat:=[112,97,114,116,101,100]
noncomputable def O3:List Nat:=[97,108,105,107,101]
noncomputable def uH:RF.Spec:=bZ (λa:Nat×List Row×List Row=>[aq a.1 a.2.1,aq a.1 a.2.2]) (λa=>okB a.1 a.2.1/\okB a.1 a.2.2) (λ_=>.non)
theorem adQ{w:Nat}{rs ss:List Row}{G:DH}{k:D->DH->Prop}{E:EK}(h:okB w rs)(h':okB w ss)(hk:k .non G):uH.t [aq w rs,aq w ss] G k E:=cB (w,rs,ss) rfl ⟨h,h'⟩ hk
theorem adR (Φ:aa) (h1:Φ "need_book"=iK) (a:Nat×List Row×List Row) (G:DH) (h:okB a.1 a.2.1/\okB a.1 a.2.2):au Φ lY noE (env0 [aq a.1 a.2.1,aq a.1 a.2.2] 0) G (ends λd G'=>G'=G/\d=.non):=by obtain ⟨w,rs,ss⟩:=a;obtain ⟨hb,hc⟩:=h;dsimp only at hb hc ⊢;simp_all_arith[lY];refine seq λM hM=>?_;simp_arith[h1];refine mU hb (hM _ _ (seq λM hM=>?_));simp_arith[h1];refine mU hc (hM _ _ (last ?_));simp_arith[aq,BEq.rfl,and_self]
noncomputable def b7(rs:List Row)(o:Option Nat):Option (List Nat):=o.bind λn=>rs[n]?.map (·.2)
theorem O4{rs:List Row}{o:Option Nat}:jQ rs o=bG (b7 rs o):=by
 cases o with
 |none=>rfl
 |some n=>
  unfold jQ b7;dsimp only[Option.bind];cases rs[n]? <;> rfl
structure SD where
 w:Nat
 rs:List Row
 ss:List Row
 name:List Nat
 o:Option Nat
 p:Option Nat
noncomputable def sSD:RF.Spec:=bZ (λa:SD=>[aq a.w a.rs,aq a.w a.ss,.tup [.str a.name,aU a.o,aU a.p]]) (λa=>(∀n,a.o=some n->n < a.rs.length)/\∀n,a.p=some n->n < a.ss.length) (λa=>.bl (b7 a.rs a.o==b7 a.ss a.p))
theorem adS{w:Nat}{rs ss:List Row}{name:List Nat}{o p:Option Nat}{G:DH}{k:D->DH->Prop}{E:EK}(h1:∀n,o=some n->n < rs.length)(h2:∀n,p=some n->n < ss.length)(hk:k (.bl (b7 rs o==b7 ss p)) G):sSD.t [aq w rs,aq w ss,.tup [.str name,aU o,aU p]] G k E:=cB ⟨w,rs,ss,name,o,p⟩ rfl ⟨h1,h2⟩ hk
theorem adT (Φ:aa) (h1:Φ "deed_of"=uA) (a:SD) (G:DH) (h:(∀n,a.o=some n->n < a.rs.length)/\∀n,a.p=some n->n < a.ss.length):au Φ lZ noE (env0 [aq a.w a.rs,aq a.w a.ss,.tup [.str a.name,aU a.o,aU a.p]] 0) G (ends λd G'=>G'=G/\d=.bl (b7 a.rs a.o==b7 a.ss a.p)):=by obtain ⟨w,rs,ss,name,o,p⟩:=a;obtain ⟨ho,hp⟩:=h;dsimp only at ho hp ⊢;simp_arith[lZ,h1];refine NZ ho (NZ hp ?_);rw[O4,O4];cases b7 rs o <;> cases b7 ss p <;> simp_arith[bG] <;> first |done | (simp;done) | (refine ⟨by decide,?_⟩;simp;done)
noncomputable def eH(w:Nat)(rs ss:List Row):List (List Nat):=(fZ (List.replicate w 42)).filter λl=>!(b7 rs (fH rs l)==b7 ss (fH ss l))
noncomputable def eN(rs ss:List Row)(c:List Nat):Bool:=b7 rs (aR rs c)==b7 ss (aR ss c)
noncomputable def zp(w:Nat)(rs ss:List Row)(d:D):Prop:=
 (∃m,(eH w rs ss).head?=some m/\d=.tup [.str O2,.str m])\/(eH w rs ss=[]/\∃t bs,d=.tup [.str O3,t]/\Lv O1 [rs,ss] (List.replicate w 42) t bs/\∀c∈bs,eN rs ss c=true)
noncomputable def uI:RF.Spec:=ghS (A:=Nat×List Row×List Row) (λa ds _=>ds=[aq a.1 a.2.1,aq a.1 a.2.2]/\okB a.1 a.2.1/\okB a.1 a.2.2) (λa G d G'=>G'=G/\zp a.1 a.2.1 a.2.2 d)
theorem adU{w:Nat}{rs ss:List Row}{G:DH}{k:D->DH->Prop}{E:EK}(h:okB w rs)(h':okB w ss)(hk:∀d,zp w rs ss d->k d G):uI.t [aq w rs,aq w ss] G k E:=
 cJ (w,rs,ss) ⟨rfl,h,h'⟩ λd G' hx=>by
  obtain ⟨e,q⟩:=hx;subst e;exact hk d q
theorem adV (Φ:aa) (h1:Φ "need_two_books"=uH) (h2:Φ "grown"=eE 9) (h3:Φ "leaves"=dI 9) (h4:Φ "least"=aQ iT) (h5:Φ "stars"=aQ iQ) (h6:Φ "same_deeds"=sSD) (a:Nat×List Row×List Row) (ds:List D) (G:DH) (h:ds=[aq a.1 a.2.1,aq a.1 a.2.2]/\okB a.1 a.2.1/\okB a.1 a.2.2):
  au Φ mq noE (env0 ds 3) G (ends λd G'=>G'=G/\zp a.1 a.2.1 a.2.2 d):=by
 obtain ⟨w,rs,ss⟩:=a;obtain ⟨rfl,hb,hb'⟩:=h;dsimp only at hb hb' ⊢;have hw6:=hb.w6;have hst:=adt w;have hrl:∀r∈rs,r.1.length=w:=λr hr=>(hb.form r hr).1;have hsl:∀r∈ss,r.1.length=w:=λr hr=>(hb'.form r hr).1;have e0:∀xs:List Row,D.tup [.int w,.tup (xs.map aB)]=aq w xs:=λ_=>rfl;simp_all_arith[mq];refine seq λM hM=>?_;simp_arith[h1];refine adQ hb hb' (hM _ _ (seq λM hM=>?_));simp_arith[aq,h5];refine adP (by omega) (hM _ _ (seq λM hM=>?_));simp_arith[h2];have er:[D.tup (rs.map aB),.tup (ss.map aB)]=dH [rs,ss]:=rfl;rw[er];refine ⟨by decide,uD (name:=O1) ⟨by simp,by decide,λxs hxs r hr=>?_,by omega⟩ de (by omega) λt ht=>hM _ _ (seq λM hM=>?_)⟩
 ·rcases aS.mp hxs with e |hxs
  ·rw[e]at hr;exact hrl r hr
  ·rw[a7.mp hxs]at hr;exact hsl r hr
 obtain ⟨bs,hL⟩:=ht.lv;have hlen:=hL.len' (by rw[de];omega);simp_arith[h3];refine Oo hL (by decide) (by rw[de];omega) (by omega) ?_;simp_arith[ends];refine CompG.inv (P:=λi acc ρ G'=>(∃o1 o2,ρ=[o1,o2,some (.tup [.int w,.tup (rs.map aB)]),some (.tup [.int w,.tup (ss.map aB)])])/\G'=G/\acc=((bs.take i).filter λc=>!eN rs ss c).map λc=>D.str (bj c)) ⟨⟨_,_,rfl⟩,rfl,rfl⟩ (λ_ _ _ _ _=>trivial) (by rw[ah];have hsz:sz=1000000:=rfl;omega) ?_ ?_
 ·rintro i d acc ρ G' hd ⟨⟨o1,o2,rfl⟩,rfl,rfl⟩ kk hk;rw[bS]at hd;obtain ⟨c,hcb,rfl⟩:=bi.mp hd;have hcl:=(hL.box c (cy hcb)).1;rw[de]at hcl;have htk:bs.take (i+1)=bs.take i++[c]:=by rw[fg,hcb];rfl
  simp_arith[jU,mZ,bq,dn,h6];rw[e0,e0];refine adS (λn hn=>uC hn) (λn hn=>uC hn) ?_;have es:(b7 rs (aR rs c)==b7 ss (aR ss c))=eN rs ss c:=rfl;rw[es];cases hsb:eN rs ss c with
  |true=>
   simp_arith[ends];exact hk _ _ _ ⟨⟨_,_,rfl⟩,rfl,by rw[htk,fy];simp[hsb]⟩
  |false=>
   simp_arith[h4];refine Ou (by omega) (hk _ _ _ ⟨⟨_,_,rfl⟩,rfl,by rw[htk,fy];simp[hsb]⟩)
 ·rintro acc ρ G' ⟨_,rfl,rfl⟩;rw[ah,fm];refine hM _ _ (seq λM hM=>?_);have meet:∀xs∈[rs,ss],∀c∈bs,∀l,Fits c l->fH xs l=aR xs c:=by
   intro xs hxs c hc l hl;obtain ⟨e1,e2⟩:=hL.box c hc;rw[de]at e1;have okc:=hL.okf (ac4 w) c hc;refine Oi (λr hr=>?_) (e2 _ hxs) (Oj okc hl) hl;rcases aS.mp hxs with e |hxs
   ·rw[e]at hr;rw[hrl r hr,e1]
   ·rw[a7.mp hxs]at hr;rw[hsl r hr,e1]
  have both:∀c∈bs,∀l,Fits c l->(b7 rs (fH rs l)==b7 ss (fH ss l))=eN rs ss c:=by intro c hc l hl;rw[meet rs (by simp) c hc l hl,meet ss (by simp) c hc l hl];rfl
  cases hfr:bs.filter λc=>!eN rs ss c with
  |nil=>
   have hall:∀c∈bs,eN rs ss c=true:=by
    intro c hc;have:=fF.mp hfr c hc;cases h:eN rs ss c with
    |false=>rw[h]at this;exact absurd rfl this
    |true=>rfl
   simp_arith[dn];refine hM _ _ (last ?_);simp_arith[ends];refine ⟨by decide,.inr ⟨?_,t,bs,rfl,hL,hall⟩⟩;unfold eH;rw[fF];intro l hl;obtain ⟨c,hc',hfc⟩:=hL.cover l (jN.mp hl);rw[both c hc' l hfc,hall c hc'];simp
  |cons c0 cs=>
   have hne:(!(List.isEmpty (D.str (bj c0)::cs.map λc=>D.str (bj c))))=true:=rfl;simp_arith[bq,hne];rw[<-bq (f:=λc=>D.str (bj c)),<-hfr];have es:bh ((bs.filter λc=>!eN rs ss c).map λc=>D.str (bj c))=some ((bs.filter λc=>!eN rs ss c).map bj):=strs_map _ _;have ei:bV ((bs.filter λc=>!eN rs ss c).map λc=>D.str (bj c))=none:=by rw[hfr];rfl
   refine Oz ei es λm hm hlow=>?_;obtain ⟨c,hcm,rfl⟩:=ca.mp hm;obtain ⟨hcb,hcn⟩:=dS.mp hcm;refine ⟨by decide,.inl ⟨bj c,?_,rfl⟩⟩;refine Ow ?_ ?_ ?_
   ·unfold eH;rw[Ot];exact (zj _).filter _
   ·unfold eH;rw[dS];refine ⟨jN.mpr (hL.within c hcb _ (m6 c)),?_⟩;rw[both c hcb _ (m6 c)];exact hcn
   ·intro x hx hlt;unfold eH at hx;obtain ⟨hx1,hx2⟩:=dS.mp hx;obtain ⟨c',hc',hfc⟩:=hL.cover x (jN.mp hx1);rw[both c' hc' x hfc]at hx2;have hlow':=hlow (bj c') (ca.mpr ⟨c',dS.mpr ⟨hc',hx2⟩,rfl⟩);exact zf hfc (zg hlt hlow')
noncomputable def m7:RF.Spec:=bZ (λa:Nat×List Row×List Row=>[aq a.1 a.2.1,aq a.1 a.2.2]) (λa=>okB a.1 a.2.1/\okB a.1 a.2.2) (λa=>bG (eH a.1 a.2.1 a.2.2).head?)
theorem O5{w:Nat}{rs ss:List Row}{G:DH}{k:D->DH->Prop}{E:EK}(h:okB w rs)(h':okB w ss)(hk:k (bG (eH w rs ss).head?) G):m7.t [aq w rs,aq w ss] G k E:=cB (w,rs,ss) rfl ⟨h,h'⟩ hk
theorem adW (Φ:aa) (h1:Φ "alike"=uI) (a:Nat×List Row×List Row) (G:DH) (h:okB a.1 a.2.1/\okB a.1 a.2.2):au Φ my noE (env0 [aq a.1 a.2.1,aq a.1 a.2.2] 2) G (ends λd G'=>G'=G/\d=bG (eH a.1 a.2.1 a.2.2).head?):=by
 obtain ⟨w,rs,ss⟩:=a;obtain ⟨hb,hb'⟩:=h;dsimp only at hb hb' ⊢;have eb:(([97,108,105,107,101]==[112,97,114,116,101,100]):Bool)=false:=by decide
 simp_all_arith[my];refine seq λM hM=>?_;simp_arith[h1];refine adU hb hb' λd hq=>?_;rcases hq with ⟨m,hm,rfl⟩ |⟨hnil,t,bs,rfl,_,_⟩
 ·simp_arith[O2];refine hM _ _ (last ?_);simp_arith[BEq.rfl,hm,bG,and_self]
 ·simp_arith[O3];refine hM _ _ (last ?_);simp_arith[eb,hnil,List.head?_nil,bG,and_self]
theorem O6{rs:List Row}{n:Nat}(h:n < rs.length):(rs.map aB)[n]?=some (aB (rs.getD n ([],[]))):=by rw[bS,eh,ba h];rfl
noncomputable def wo(rs:List Row)(n:Nat):List Row:=rs.take n++rs.drop (n+1)
theorem uJ{rs:List Row}{n:Nat}(hn:n < rs.length):(wo rs n).length+1=rs.length:=by unfold wo;rw[aw,bo,ce];omega
theorem zq{w n:Nat}{rs:List Row}(hb:okB w rs)(hn:n < rs.length):okB w (wo rs n):=hb.sub (by have:=uJ hn;omega) λr hr=>by
 rcases a8.mp hr with h |h
 ·exact List.mem_of_mem_take h
 ·exact List.mem_of_mem_drop h
noncomputable def sWo:RF.Spec:=bZ (λa:Nat×List Row×Nat=>[aq a.1 a.2.1,.int a.2.2]) (λa=>okB a.1 a.2.1/\a.2.2 < a.2.1.length) (λa=>aq a.1 (wo a.2.1 a.2.2))
theorem O7{w n:Nat}{rs:List Row}{G:DH}{k:D->DH->Prop}{E:EK}(h:okB w rs)(hn:n < rs.length)(hk:k (aq w (wo rs n)) G):sWo.t [aq w rs,.int n] G k E:=cB (w,rs,n) rfl ⟨h,hn⟩ hk
theorem zr{α β:Type}(f:α->β)(l:List α)(n:Nat):cut (l.map f) (some ((n:Int)+1)) none=(l.drop (n+1)).map f:=mW f l (n+1)
theorem adX (Φ:aa) (h1:Φ "need_row"=jW) (a:Nat×List Row×Nat) (G:DH) (h:okB a.1 a.2.1/\a.2.2 < a.2.1.length):au Φ mz noE (env0 [aq a.1 a.2.1,.int a.2.2] 2) G (ends λd G'=>G'=G/\d=aq a.1 (wo a.2.1 a.2.2)):=by obtain ⟨w,rs,n⟩:=a;obtain ⟨hb,hn⟩:=h;dsimp only at hb hn ⊢;have hlen:=hb.len;simp_all_arith[mz];refine seq λM hM=>?_;simp_arith[h1];refine uF hb hn (hM _ _ (seq λM hM=>?_));simp_arith[aq];refine hM _ _ (last ?_);simp_arith[iM,zr,ah,bo,ce];refine ⟨by have hsz:sz=1000000:=rfl;omega,by decide,?_⟩;unfold wo aq;rw[bX]
noncomputable def oS (q:Addr):D:=.obj "Sieve" "books" q
noncomputable def stk(w:Nat)(bs:List (List Row)):List D:=bs.map (aq w)
theorem zu(w:Nat)(as:List (List Row))(rs:List Row):stk w (as++[rs])=stk w as++[aq w rs]:=by unfold stk;rw[bX];rfl
theorem O8(w:Nat)(bs:List (List Row)):(stk w bs).length=bs.length:=ah _
structure Sv where
 q:Addr
 w:Nat
 as:List (List Row)
 rs:List Row
noncomputable def svG(a:Sv)(G:DH):Prop:=G a.q=some (.lst (stk a.w (a.as++[a.rs])))/\a.as.length < 1000/\okB a.w a.rs
noncomputable def eO:RF.Spec:=ghS (A:=Sv) (λa ds G=>ds=[oS a.q]/\svG a G) (λa G d G'=>G'=G/\d=aq a.w a.rs)
theorem dm{q:Addr}{w:Nat}{as:List (List Row)}{rs:List Row}{G:DH}{k:D->DH->Prop}{E:EK}(h:svG ⟨q,w,as,rs⟩ G)(hk:k (aq w rs) G):eO.t [oS q] G k E:=cJ (⟨q,w,as,rs⟩:Sv) ⟨rfl,h⟩ λd G' hx=>by
 obtain ⟨rfl,rfl⟩:=hx;exact hk
theorem adY(Φ:aa)(a:Sv)(ds:List D)(G:DH)(h:ds=[oS a.q]/\svG a G):au Φ mC noE (env0 ds 0) G (ends λd G'=>G'=G/\d=aq a.w a.rs):=by obtain ⟨q,w,as,rs⟩:=a;obtain ⟨rfl,g,hl,hb⟩:=h;dsimp only at g hl hb ⊢;rw[zu]at g;simp_arith[mC,oS,gC,bx g,qm,and_self,true_and]
noncomputable def tld(w:Nat)(rs ss:List Row):D:=bG (eH w rs ss).head?
noncomputable def O9(a:Sv×List Row)(ds:List D)(G:DH):Prop:=ds=[oS a.1.q,.tup (a.2.map aB)]/\svG a.1 G/\a.1.as.length < 100/\okB a.1.w a.2
noncomputable def Pa(a:Sv×List Row)(G:DH)(d:D)(G':DH):Prop:=G'=aF G a.1.q (.lst (stk a.1.w (a.1.as++[a.1.rs]++[a.2])))/\d=tld a.1.w a.1.rs a.2
noncomputable def jY:RF.Spec:=ghS (A:=Sv×List Row) O9 Pa
theorem zx{q:Addr}{w:Nat}{as:List (List Row)}{rs ss:List Row}{G:DH}{k:D->DH->Prop}{E:EK}(h:svG ⟨q,w,as,rs⟩ G)(h1:as.length < 100)(h2:okB w ss)(hk:k (tld w rs ss) (aF G q (.lst (stk w (as++[rs]++[ss]))))):jY.t [oS q,.tup (ss.map aB)] G k E:=cJ ((⟨q,w,as,rs⟩,ss):Sv×List Row) ⟨rfl,h,h1,h2⟩ λd G' hx=>by
 obtain ⟨rfl,rfl⟩:=hx;exact hk
theorem adZ:(Str.ofString "book"==Str.ofString "books")=false:=by ac_rfl
theorem ad0:(Str.ofString "turn"==Str.ofString "books")=false:=by ac_rfl
theorem dq {q:Addr}:dz "Sieve" "book" (.obj "Sieve" "books" q):=⟨rfl,adZ⟩
theorem zy {q:Addr}:dz "Sieve" "turn" (.obj "Sieve" "books" q):=⟨rfl,ad0⟩
theorem ad1 (Φ:aa) (h1:Φ "Sieve.book"=eO) (h2:Φ "parting_word"=m7) (a:Sv×List Row) (ds:List D) (G:DH) (h:O9 a ds G):au Φ mF noE (env0 ds 1) G (ends (Pa a G)):=by obtain ⟨⟨q,w,as,rs⟩,ss⟩:=a;obtain ⟨rfl,hv,h100,hss⟩:=h;have hv':=hv;obtain ⟨g,hl,hb⟩:=hv';dsimp only at g hl hb h100 hss ⊢;simp_all_arith[mF];refine seq λM hM=>?_;simp_arith[oS,h1];refine ⟨dq,dm hv (hM _ _ (seq λM hM=>?_))⟩;simp_arith[gC,aq,bR g,true_and,O8];have e0:∀xs:List Row,D.tup [.int w,.tup (xs.map aB)]=aq w xs:=λ_=>rfl;refine ⟨by decide,by rw[aw,bP];have hsz:sz=1000000:=rfl;omega,hM _ _ (last ?_)⟩;rw[e0,e0,<-zu];have hv2:svG ⟨q,w,as++[rs],ss⟩ (aF G q (.lst (stk w (as++[rs]++[ss])))):=⟨aP,by rw[aw,bP];show as.length+1 < 1000;omega,hss⟩;simp_arith[h1,h2];refine ⟨dq,dm hv2 (O5 hb hss ?_)⟩;exact ⟨rfl,rfl⟩
noncomputable def cZ(rs:List Row)(n:Nat)(r:Row):List Row:=rs.take n++[r]++rs.drop n
theorem zz{w n:Nat}{rs:List Row}{r:Row}(hb:okB w rs)(hl:rs.length < 12)(hf:okF w r.1)(hd:okD r.2):okB w (cZ rs n r):=by
 have hm:∀x∈cZ rs n r,x∈rs\/x=r:=λx hx=>by
  unfold cZ at hx;rcases a8.mp hx with h |h
  ·rcases a8.mp h with h |h
   ·exact .inl (List.mem_of_mem_take h)
   ·exact .inr (a7.mp h)
  ·exact .inl (List.mem_of_mem_drop h)
 refine ⟨hb.w1,hb.w6,?_,λx hx=>?_,λx hx=>?_⟩
 ·unfold cZ;rw[aw,aw,bo,ce,bP];omega
 ·rcases hm x hx with h |rfl
  ·exact hb.form x h
  ·exact hf
 ·rcases hm x hx with h |rfl
  ·exact hb.deed x h
  ·exact hd
noncomputable def mvR(rs:List Row)(n p:Nat):List Row:=cZ (wo rs n) p (rs.getD n ([],[]))
theorem getD_mem{rs:List Row}{n:Nat}(hn:n < rs.length):rs.getD n ([],[])∈rs:=by rw[eh,ba hn];exact c9 hn
theorem Pb{w n p:Nat}{rs:List Row}(hb:okB w rs)(hn:n < rs.length):okB w (mvR rs n p):=
 zz (zq hb hn) (by have:=uJ hn;have:=hb.len;omega) (hb.form _ (getD_mem hn)) (hb.deed _ (getD_mem hn))
structure Chg where
 s:Sv
 ss:List Row
noncomputable def jZ(a:Chg)(G:DH)(d:D)(G':DH):Prop:=G'=aF G a.s.q (.lst (stk a.s.w (a.s.as++[a.s.rs]++[a.ss])))/\d=tld a.s.w a.s.rs a.ss
structure PutS where
 s:Sv
 n:Nat
 r:Row
noncomputable def PutS.c(a:PutS):Chg:=⟨a.s,cZ a.s.rs a.n a.r⟩
noncomputable def Pg(a:PutS)(ds:List D)(G:DH):Prop:=ds=[oS a.s.q,.int (a.n:Nat),.str a.r.1,.str a.r.2]/\svG a.s G/\a.s.as.length < 50/\a.n<=a.s.rs.length/\a.s.rs.length < 12/\okF a.s.w a.r.1/\okD a.r.2
noncomputable def zA:RF.Spec:=ghS (A:=PutS) Pg (λa=>jZ a.c)
theorem ad2 (Φ:aa) (h1:Φ "Sieve.book"=eO) (h2:Φ "Sieve.turn"=jY) (h3:Φ "is_place"=aQ fJ) (h4:Φ "is_form"=uy) (h5:Φ "is_deed"=uz) (a:PutS) (ds:List D) (G:DH) (h:Pg a ds G):au Φ mJ noE (env0 ds 2) G (ends (jZ a.c G)):=by
 obtain ⟨⟨q,w,as,rs⟩,n,f,e⟩:=a;obtain ⟨rfl,hv,h50,hn,h12,hf,hd⟩:=h;have hv':=hv;obtain ⟨g,hl,hb⟩:=hv';dsimp only at g hl hb h50 hn h12 hf hd ⊢;have hw6:=hb.w6;simp_all_arith[mJ];refine seq λM hM=>?_;simp_arith[oS,h1];refine ⟨dq,dm hv ?_⟩;simp_arith[aq];refine hM _ _ (seq λM hM=>?_);simp_arith[h3,ah];have hp:isPlace ((rs.length:Int)+1) (.int (n:Int))=true:=by show (decide (0<=(n:Int))&&decide ((n:Int) < (rs.length:Int)+1))=true;rw[cb (by omega),cb (by omega)];rfl
 refine d8 (show fJ [.int ((rs.length:Int)+1),.int (n:Int)]=some (.bl true) from by rw[<-hp];rfl) ?_;simp_arith[ends];refine hM _ _ (seq λM hM=>?_);simp_arith[h4,h5];have ef:(w:Int)=(f.length:Int):=by rw[hf.1]
 rw[ef];refine cB f rfl ⟨by rw[hf.1];omega,hf.2⟩ ?_;simp_arith[ends];refine cB e rfl hd ?_;simp_arith[ends];refine hM _ _ (seq λM hM=>?_);simp_arith[ah,cq (show ¬(12:Int)<=(rs.length:Int) by omega)];refine hM _ _ (last ?_);simp_arith[h2,iM,mW,ah,bo,ce];have em:(rs.take n).map aB++[D.tup [.str f,.str e]]++(rs.drop n).map aB=(cZ rs n (f,e)).map aB:=by unfold cZ;rw[bX,bX];rfl
 rw[em];refine ⟨zy,by decide,by decide,by have hsz:sz=1000000:=rfl;omega,by rw[aw,ah,bo,bP];have hsz:sz=1000000:=rfl;omega,?_⟩;exact zx hv (by omega) (zz hb h12 hf hd) ⟨rfl,rfl⟩
structure OutS where
 s:Sv
 n:Nat
noncomputable def OutS.c(a:OutS):Chg:=⟨a.s,wo a.s.rs a.n⟩
noncomputable def Ph(a:OutS)(ds:List D)(G:DH):Prop:=ds=[oS a.s.q,.int (a.n:Nat)]/\svG a.s G/\a.s.as.length < 50/\a.n < a.s.rs.length
noncomputable def zB:RF.Spec:=ghS (A:=OutS) Ph (λa=>jZ a.c)
theorem ad3 (Φ:aa) (h1:Φ "Sieve.book"=eO) (h2:Φ "Sieve.turn"=jY) (h3:Φ "without"=sWo) (a:OutS) (ds:List D) (G:DH) (h:Ph a ds G):au Φ mH noE (env0 ds 0) G (ends (jZ a.c G)):=by obtain ⟨⟨q,w,as,rs⟩,n⟩:=a;obtain ⟨rfl,hv,h50,hn⟩:=h;have hv':=hv;obtain ⟨g,hl,hb⟩:=hv';dsimp only at g hl hb h50 hn ⊢;simp_all_arith[mH];refine last ?_;simp_arith[oS,h1,h2,h3];refine ⟨zy,dq,dm hv (O7 hb hn ?_)⟩;simp_arith[aq];exact zx hv (by omega) (zq hb hn) ⟨rfl,rfl⟩
structure MovS where
 s:Sv
 n:Nat
 p:Nat
noncomputable def MovS.c(a:MovS):Chg:=⟨a.s,mvR a.s.rs a.n a.p⟩
noncomputable def Pj(a:MovS)(ds:List D)(G:DH):Prop:=ds=[oS a.s.q,.int (a.n:Nat),.int (a.p:Nat)]/\svG a.s G/\a.s.as.length < 50/\a.n < a.s.rs.length/\a.p < a.s.rs.length
noncomputable def zE:RF.Spec:=ghS (A:=MovS) Pj (λa=>jZ a.c)
theorem ad4 (Φ:aa) (h1:Φ "Sieve.book"=eO) (h2:Φ "Sieve.turn"=jY) (h3:Φ "without"=sWo) (h4:Φ "need_row"=jW) (a:MovS) (ds:List D) (G:DH) (h:Pj a ds G):au Φ mG noE (env0 ds 2) G (ends (jZ a.c G)):=by
 obtain ⟨⟨q,w,as,rs⟩,n,p⟩:=a;obtain ⟨rfl,hv,h50,hn,hp⟩:=h;have hv':=hv;obtain ⟨g,hl,hb⟩:=hv';dsimp only at g hl hb h50 hn hp ⊢;have hlen:=hb.len;have hwl:=uJ hn;simp_all_arith[mG];refine seq λM hM=>?_;simp_arith[oS,h1,h4];refine ⟨dq,dm hv (uF hb hn (hM _ _ (seq λM hM=>?_)))⟩;simp_arith[h1,h4];refine ⟨dq,dm hv (uF hb hp (hM _ _ (seq λM hM=>?_)))⟩;simp_arith[h1];refine ⟨dq,dm hv ?_⟩;simp_arith[aq];refine bJ (a:=aB (rs.getD n ([],[]))) (bT (O6 hn)) (hM _ _ (seq λM hM=>?_));simp_arith[h1,h3];refine ⟨dq,dm hv (O7 hb hn ?_)⟩;simp_arith[aq];refine hM _ _ (last ?_);simp_arith[h2,iM,mW,ah,bo,ce];have em:((wo rs n).take p).map aB++[aB (rs.getD n ([],[]))]++((wo rs n).drop p).map aB=(mvR rs n p).map aB:=by unfold mvR cZ;rw[bX,bX];rfl
 rw[em];refine ⟨zy,by decide,by have hsz:sz=1000000:=rfl;omega,by rw[aw,ah,bo,bP];have hsz:sz=1000000:=rfl;omega,?_⟩;exact zx hv (by omega) (Pb hb hn) ⟨rfl,rfl⟩
noncomputable def Pk(a:Sv×List Row)(G:DH)(d:D)(G':DH):Prop:=G'=aF G a.1.q (.lst (stk a.1.w (a.1.as++[a.1.rs])))/\d=tld a.1.w a.2 a.1.rs
noncomputable def Pn(a:Sv×List Row)(ds:List D)(G:DH):Prop:=ds=[oS a.1.q]/\G a.1.q=some (.lst (stk a.1.w (a.1.as++[a.1.rs]++[a.2])))/\a.1.as.length < 100/\okB a.1.w a.1.rs/\okB a.1.w a.2
noncomputable def zF:RF.Spec:=ghS (A:=Sv×List Row) Pn Pk
theorem ad5 (Φ:aa) (h1:Φ "Sieve.book"=eO) (h2:Φ "parting_word"=m7) (a:Sv×List Row) (ds:List D) (G:DH) (h:Pn a ds G):au Φ mD noE (env0 ds 1) G (ends (Pk a G)):=by
 obtain ⟨⟨q,w,as,rs⟩,ss⟩:=a;obtain ⟨rfl,g,h100,hb,hss⟩:=h;dsimp only at g h100 hb hss ⊢;have hl:((stk w (as++[rs]++[ss])).length:Int)≠1:=by rw[O8,aw,aw];simp;omega
 simp_all_arith[mD];refine seq λM hM=>?_;simp_arith[oS,gC,bx g,true_and,cS.mpr hl];refine hM _ _ (seq λM hM=>?_);simp_arith[gC,true_and];unfold gD;dsimp only;rw[g];dsimp only;rw[zu,aw,bP,Nat.add_sub_cancel,List.getElem?_append_right (ax _),Nat.sub_self,List.dropLast_concat];show M _ _;refine hM _ _ (last ?_);have hv2:svG ⟨q,w,as,rs⟩ (aF G q (.lst (stk w (as++[rs])))):=⟨aP,by dsimp only;omega,hb⟩;simp_arith[h1,h2];refine ⟨dq,dm hv2 (O5 hss hb ?_)⟩;exact ⟨rfl,rfl⟩
noncomputable def j0:RF.Spec:=ghS (A:=Nat×List Row) (λa ds _=>ds=[aq a.1 a.2]/\okB a.1 a.2) (λa G d G'=>∃q,d=oS q/\G q=none/\G'=aF G q (.lst (stk a.1 [a.2])))
theorem zG{w:Nat}{rs:List Row}{G:DH}{k:D->DH->Prop}{E:EK}(hb:okB w rs)(hk:∀q,G q=none->k (oS q) (aF G q (.lst (stk w [rs])))):j0.t [aq w rs] G k E:=cJ (w,rs) ⟨rfl,hb⟩ λd G' hx=>by
 obtain ⟨q,rfl,hq,rfl⟩:=hx;exact hk q hq
theorem ad6 (Φ:aa) (h1:Φ "need_book"=iK) (h2:Φ "Sieve"=j0) (d:D) (G:DH) (kk:D->DH->Prop) (E:EK) (h:(Φ "Sieve").t [d] G kk E):(Φ "need_book").t [d] G (λ_ G1=>∀q,G1 q=none->kk (.obj "Sieve" "books" q) (aF G1 q (.lst [d]))) E:=by
 rw[h2]at h;rw[h1];obtain ⟨⟨⟨w,rs⟩,G0⟩,hp,hq,_⟩:=h;obtain ⟨e,hd,hb⟩:=hp;dsimp only at e hd hb;have hd:d=aq w rs:=by simpa using hd
 subst e hd;exact mU hb λq hq'=>hq _ _ ⟨q,rfl,hq',rfl⟩
noncomputable def lR(rs:List Row):D:=.lst (rs.map aB)
noncomputable def uK:List Nat:=[112,117,116]
noncomputable def c7:List Nat:=[98,97,99,107]
noncomputable def uL:List Nat:=[111,117,116]
noncomputable def uM:List Nat:=[109,111,118,101]
noncomputable def uN:RF.Spec:=bZ (A:=List Row) (λrs=>[lR rs]) (λrs=>rs.length<=12) (λrs=>.lst ((rs.map (·.1)).map D.str))
theorem ad7{rs:List Row}{G:DH}{k:D->DH->Prop}{E:EK}(h:rs.length<=12)(hk:k (.lst ((rs.map (·.1)).map D.str)) G):uN.t [lR rs] G k E:=cB rs rfl h hk
noncomputable def Pq:D->D
 |.tup (a::_)=>a
 |_=>.non
theorem ad8(Φ:aa)(rs:List Row)(G:DH)(h:rs.length<=12):au Φ yw noE (env0 [lR rs] 0) G (ends λd G'=>G'=G/\d=.lst ((rs.map (·.1)).map D.str)):=by
 simp_arith[yw,lR];refine CompG.map (f:=Pq) (I:=λρ=>∃o,ρ=[o]) ⟨_,rfl⟩ trivial (by rw[ah];have hsz:sz=1000000:=rfl;omega) ?_ ?_
 ·rintro d ρ hd ⟨o,rfl⟩ kk hk;obtain ⟨r,_,rfl⟩:=ca.mp hd;simp_arith[aB];exact hk _ ⟨_,rfl⟩
 ·simp_arith[ends];have e:(rs.map aB).map Pq=(rs.map (·.1)).map D.str:=by rw[List.map_map,List.map_map];rfl
  rw[e]
noncomputable def gQ(w:Nat)(as:List (List Row))(rs:List Row)(wd:List Nat)(pc:D)(bs:List Row):Prop:=
 (∃(n:Nat)(r:Row),wd=uK/\pc=.tup [.int (n:Int),.str r.1,.str r.2]/\bs=cZ rs n r/\n<=rs.length/\rs.length < 12/\okF w r.1/\okD r.2)\/
 (wd=c7/\pc=.tup []/\∃as',as=as'++[bs])\/
 (∃n:Nat,wd=uL/\pc=.tup [.int (n:Int)]/\bs=wo rs n/\n < rs.length)\/
 (∃n p:Nat,wd=uM/\pc=.tup [.int (n:Int),.int (p:Int)]/\bs=mvR rs n p/\n < rs.length/\p < rs.length)
structure C60 where
 p:Addr
 w:Nat
 as:List (List Row)
 rs:List Row
noncomputable def Pr(a:C60)(ds:List D)(G:DH):Prop:=ds=[.ref a.p,.int (a.w:Nat),lR a.rs,.lst (a.as.map lR)]/\Pen G a.p/\okB a.w a.rs
noncomputable def uO(a:C60)(G:DH)(d:D)(G':DH):Prop:=∃wd pc bs,d=.tup [.str wd,pc,lR bs]/\gQ a.w a.as a.rs wd pc bs/\Pen G' a.p/\Sb a.p G G'
noncomputable def uP:RF.Spec:=ghS (A:=C60) Pr uO
theorem ad9{p:Addr}{w:Nat}{as:List (List Row)}{rs:List Row}{G:DH}{k:D->DH->Prop}{E:EK}(hp:Pen G p)(hb:okB w rs)(hk:∀wd pc bs G',gQ w as rs wd pc bs->Pen G' p->Sb p G G'->k (.tup [.str wd,pc,lR bs]) G'):uP.t [.ref p,.int (w:Nat),lR rs,.lst (as.map lR)] G k E:=cJ (⟨p,w,as,rs⟩:C60) ⟨rfl,hp,hb⟩ λd G' hx=>by
 obtain ⟨wd,pc,bs,rfl,h1,h2,h3⟩:=hx;exact hk wd pc bs G' h1 h2 h3
theorem m8(rs:List Row):nrs (rs.map aB)=true:=yd λd hd=>by obtain ⟨r,_,rfl⟩:=ca.mp hd;rfl
theorem zH(as:List (List Row)):nrs (as.map lR)=true:=yd λd hd=>by
 obtain ⟨r,_,rfl⟩:=ca.mp hd;exact m8 r
theorem aea (Φ:aa) (h1:Φ "_law_take"=di) (h2:Φ "_law_form_like"=mQ) (h3:Φ "_law_forms"=uN) (h4:Φ "_law_deeds_of"=mR) (a:C60) (ds:List D) (G:DH) (h:Pr a ds G):au Φ yx noE (env0 ds 6) G (ends (uO a G)):=by
 obtain ⟨p,w,as,rs⟩:=a;obtain ⟨rfl,hp,hb⟩:=h;dsimp only at hp hb ⊢;have hw1:=hb.w1;have hw6:=hb.w6;have hlen:=hb.len;have gr:(nr (lR rs)=true/\nr (D.lst [])=true/\min (dpt (lR rs)) (dpt (.lst []))<=60):=⟨m8 rs,rfl,bv (eL _ _) (by decide)⟩;have ge:(nr (.lst (as.map lR))=true/\nr (D.lst [])=true/\min (dpt (.lst (as.map lR))) (dpt (.lst []))<=60):=⟨zH as,rfl,bv (eL _ _) (by decide)⟩;simp_all_arith[yx];refine seq λM hM=>?_;simp_arith[h1];refine bM hp (by decide) (by decide) λkd G1 hkd hp1 sb1=>hM _ _ (seq λM hM=>?_);simp_arith[h1,lR,ah];refine bM hp1 (by omega) (by omega) λn G2 hn hp2 sb2=>hM _ _ ?_;have sb12:=sb1.trans sb2;have eR:D.lst (rs.map aB)=lR rs:=rfl;rw[eR]
 -- put
 have put:∀(R:ak->DH->Prop) o6 o7 o8 o9,rs.length < 12->au Φ (.cons (.asg (.nm 6) (.call "_law_form_like" (.cons (.var 0) (.cons (.var 1) (.cons (.call "_law_forms" (.cons (.var 2) .nil)) .nil))))) (.cons (.asg (.nm 7) (.idx (.call "_law_deeds_of" (.cons (.var 0) (.cons (.cst (.int 1)) .nil))) (.cst (.int 0)))) (.cons (.ret (.tup (.cons (.cst (.str [112,117,116])) (.cons (.tup (.cons (.var 5) (.cons (.var 6) (.cons (.var 7) .nil)))) (.cons (.bin .Add true (.bin .Add true (.slc true (.var 2) .no (.ob (.var 5))) (.lst true (.cons (.tup (.cons (.var 6) (.cons (.var 7) .nil))) .nil))) (.slc true (.var 2) (.ob (.var 5)) .no)) .nil))))) .nil))) noE [some (.ref p),some (.int (w:Int)),some (lR rs),some (.lst (as.map lR)),some (.int (kd:Int)),some (.int (n:Int)),o6,o7,o8,o9] G2 ⟨R,uO ⟨p,w,as,rs⟩ G,λ_ _=>False,λ_ _=>False⟩:=by
  intro R o6 o7 o8 o9 h12;refine seq λM hM=>?_;simp_arith[h2,h3];refine ad7 hlen (Nt (fs:=rs.map (·.1)) hp2 (by omega) (by omega) rfl (by rw[ah];omega) (λf hf=>?_) λf G3 hf hp3 sb3=>hM _ _ (seq λM hM=>?_))
  ·obtain ⟨r,hr,rfl⟩:=ca.mp hf;exact hb.form r hr
  simp_arith[h4];refine NK hp3 (by decide) (by decide) λxs G4 hx0 _ hxs hp4 sb4=>?_;simp_arith[ends];refine ye (i:=0) (by decide) (by rw[ah];omega) λy hy=>?_;obtain ⟨e,he,rfl⟩:=ca.mp hy;refine hM _ _ (last ?_);simp_arith[lR,iM,mW,ah,bo,ce];have em:(rs.take n).map aB++[D.tup [.str f,.str e]]++(rs.drop n).map aB=(cZ rs n (f,e)).map aB:=by unfold cZ;rw[bX,bX];rfl
  rw[em];repeat refine af (by first |decide | ((try simp only[aw,ah,bo,bP]);have hsz:sz=1000000:=rfl;omega)) ?_
  exact ⟨uK,_,cZ rs n (f,e),rfl,.inl ⟨n,(f,e),rfl,rfl,rfl,show n<=rs.length by omega,h12,hf,hxs e he⟩,hp4,sb12.trans (sb3.trans sb4)⟩
 have env:[some (D.ref p),some (.int (w:Int)),some (lR rs),some (.lst (as.map lR)),some (.int (kd:Int)),some (.int (n:Int)),none,none,none,none]=[some (D.ref p),some (.int (w:Int)),some (.lst (rs.map aB)),some (.lst (as.map lR)),some (.int (kd:Int)),some (.int (n:Int)),none,none,none,none]:=rfl;refine seq λM hM=>?_;have rest:¬(rs=[]/\as=[])->M [some (D.ref p),some (.int (w:Int)),some (lR rs),some (.lst (as.map lR)),some (.int (kd:Int)),some (.int (n:Int)),none,none,none,none] G2:=λhne=>by
  refine hM _ _ ?_;have back:∀(R:ak->DH->Prop),as≠[]->au Φ (.cons (.ret (.tup (.cons (.cst (.str [98,97,99,107])) (.cons (.tup .nil) (.cons (.idx (.var 3) (.neg (.cst (.int 1)))) .nil))))) .nil) noE [some (D.ref p),some (.int (w:Int)),some (lR rs),some (.lst (as.map lR)),some (.int (kd:Int)),some (.int (n:Int)),none,none,none,none] G2 ⟨R,uO ⟨p,w,as,rs⟩ G,λ_ _=>False,λ_ _=>False⟩:=λR ha=>by
   have e:as=as.dropLast++[as.getLast ha]:=(dr ha).symm;generalize as.dropLast=as' at e;generalize as.getLast ha=bs at e;subst e;refine last ?_;simp_arith[bX,bq,dn,qm];exact ⟨by decide,c7,_,bs,rfl,.inr (.inl ⟨rfl,rfl,as',rfl⟩),hp2,sb12⟩
  refine seq λM hM=>?_;have rest2:rs≠[]->M [some (D.ref p),some (.int (w:Int)),some (lR rs),some (.lst (as.map lR)),some (.int (kd:Int)),some (.int (n:Int)),none,none,none,none] G2:=λhr=>by
   have hr0:0 < rs.length:=fv.mpr hr;have hz:((n:Int) % (rs.length:Int))=((n % rs.length:Nat):Int):=by omega
   have hm:n % rs.length < rs.length:=Nat.mod_lt _ hr0;refine hM _ _ (seq λM hM=>?_);simp_arith[lR,ah];rw[hz];generalize n % rs.length=m at hm ⊢;have hwl:=uJ hm;have ew:(rs.take m).map aB++(rs.drop (m+1)).map aB=(wo rs m).map aB:=by unfold wo;rw[bX]
   refine ⟨by omega,hM _ _ (seq λM hM=>?_)⟩;by_cases h7:(kd:Int) < 7
   ·simp_arith[cb h7,iM,zr,ah,bo,ce];rw[ew];repeat refine af (by first |decide | ((try simp only[aw,ah,bo,bP]);have hsz:sz=1000000:=rfl;omega)) ?_
    exact ⟨uL,_,wo rs m,rfl,.inr (.inr (.inl ⟨m,rfl,rfl,rfl,hm⟩)),hp2,sb12⟩
   ·simp_arith[cq h7];refine hM _ _ (seq λM hM=>?_);simp_arith[h1,ah];refine bM hp2 (by omega) (by omega) λpl G3 hpl hp3 sb3=>hM _ _ (seq λM hM=>?_);simp_arith[iM,zr,ah,bo,ce];rw[ew];repeat refine af (by first |decide | ((try simp only[aw,ah,bo,bP]);have hsz:sz=1000000:=rfl;omega)) ?_
    refine hM _ _ (last ?_);simp_arith[iM,mW,ah,bo,ce];have em:((wo rs m).take pl).map aB++[aB (rs.getD m ([],[]))]++((wo rs m).drop pl).map aB=(mvR rs m pl).map aB:=by unfold mvR cZ;rw[bX,bX];rfl
    refine ⟨by decide,bJ (a:=aB (rs.getD m ([],[]))) (bT (O6 hm)) ⟨by decide,by have hsz:sz=1000000:=rfl;omega,by rw[aw,ah,bo,bP];have hsz:sz=1000000:=rfl;omega,by decide,?_⟩⟩;rw[em];exact ⟨uM,_,mvR rs m pl,rfl,.inr (.inr (.inr ⟨m,pl,rfl,rfl,rfl,hm,show pl < rs.length by omega⟩)),hp3,sb12.trans sb3⟩
  simp_arith![lR,ah,yc];have g1:nrs (rs.map aB)=true/\min (aV (rs.map aB)+1) (0+1)<=60:=⟨m8 _,bv (eL _ _) (by decide)⟩;have g2:nrs (as.map lR)=true/\min (aV (as.map lR)+1) (0+1)<=60:=⟨zH _,bv (eL _ _) (by decide)⟩;have tail:(match (rs.map aB).isEmpty with |true=>as≠[] |false=>True):=by
   cases rs with
   |nil=>exact λe=>hne ⟨rfl,e⟩
   |cons r l=>trivial
  cases hk4:((kd:Int)==4) with
  |true=>
   refine ⟨g2,?_⟩;cases as with
   |nil=>
    cases rs with
    |nil=>exact absurd ⟨rfl,rfl⟩ hne
    |cons r l=>exact ⟨g1,rest2 (List.cons_ne_nil _ _)⟩
   |cons x as=>exact back _ (List.cons_ne_nil _ _)
  |false=>
   refine ⟨g1,?_⟩;cases rs with
   |nil=>exact back _ (λe=>hne ⟨rfl,e⟩)
   |cons r l=>exact rest2 (List.cons_ne_nil _ _)
 have ern:∀{r:Row}{l:List Row},bK ((r::l).map aB) []=false:=λ{r l}=>rfl;simp_arith![lR,ah,yc];cases hk4:decide ((kd:Int) < 4) with
 |true=>
  cases hl:decide ((rs.length:Int) < 12) with
  |true=>exact put _ _ _ _ _ (by have:=dc hl;omega)
  |false=>
   have hl':¬(rs.length:Int) < 12:=of_decide_eq_false hl;obtain ⟨r,l,rfl⟩:∃r l,rs=r::l:=by
    cases rs with
    |nil=>exact absurd (by decide) hl'
    |cons r l=>exact ⟨r,l,rfl⟩
   exact ⟨⟨m8 _,bv (eL _ _) (by decide)⟩,rest λh=>nomatch h.1⟩
 |false=>
  cases rs with
  |cons r l=>exact ⟨⟨m8 _,bv (eL _ _) (by decide)⟩,rest λh=>nomatch h.1⟩
  |nil=>
   refine ⟨⟨rfl,by decide⟩,?_⟩;cases as with
   |nil=>exact ⟨⟨rfl,by decide⟩,put _ _ _ _ _ (by decide)⟩
   |cons x as=>exact ⟨⟨zH _,bv (eL _ _) (by decide)⟩,rest λh=>nomatch h.2⟩
noncomputable def elN(wd:List Nat)(as:List (List Row))(rs:List Row):List (List Row):=if wd=c7 then as.dropLast else as++[rs]
theorem Pu{w:Nat}{as:List (List Row)}{rs bs:List Row}{wd:List Nat}{pc:D}(hb:okB w rs)(ha:∀x∈as,okB w x)(h:gQ w as rs wd pc bs):okB w bs/\(∀x∈elN wd as rs,okB w x)/\(elN wd as rs).length<=as.length+1:=by
 have app:∀x∈as++[rs],okB w x:=λx hx=>by
  rcases a8.mp hx with h |h
  ·exact ha x h
  ·rw[a7.mp h];exact hb
 have ne1:uK≠c7:=by decide
 have ne2:uL≠c7:=by decide
 have ne3:uM≠c7:=by decide
 rcases h with ⟨n,r,rfl,rfl,rfl,hn,h12,hf,hd⟩ |⟨rfl,rfl,as',rfl⟩ |⟨n,rfl,rfl,rfl,hn⟩ |⟨n,p,rfl,rfl,rfl,hn,hp⟩
 ·unfold elN;rw[if_neg ne1];exact ⟨zz hb h12 hf hd,app,by simp⟩
 ·unfold elN;rw[if_pos rfl,List.dropLast_concat];exact ⟨ha _ (ay _ (a7.mpr rfl)),λx hx=>ha x (dA _ hx),by simp;omega⟩
 ·unfold elN;rw[if_neg ne2];exact ⟨zq hb hn,app,by simp⟩
 ·unfold elN;rw[if_neg ne3];exact ⟨Pb hb hn,app,by simp⟩
structure Do60 where
 s:Sv
 wd:List Nat
 pc:D
 bs:List Row
noncomputable def pDo(a:Do60)(ds:List D)(G:DH):Prop:=ds=[oS a.s.q,.str a.wd,a.pc]/\svG a.s G/\a.s.as.length < 50/\(∀x∈a.s.as,okB a.s.w x)/\gQ a.s.w a.s.as a.s.rs a.wd a.pc a.bs
noncomputable def qDo(a:Do60)(G:DH)(d:D)(G':DH):Prop:=G'=aF G a.s.q (.lst (stk a.s.w (elN a.wd a.s.as a.s.rs++[a.bs])))/\d=tld a.s.w a.s.rs a.bs
noncomputable def sDo:RF.Spec:=ghS (A:=Do60) pDo qDo
theorem Px{q:Addr}{w:Nat}{as:List (List Row)}{rs bs:List Row}{wd:List Nat}{pc:D}{G:DH}{k:D->DH->Prop}{E:EK}(hv:svG ⟨q,w,as,rs⟩ G)(hl:as.length < 50)(ha:∀x∈as,okB w x)(hc:gQ w as rs wd pc bs)(hk:k (tld w rs bs) (aF G q (.lst (stk w (elN wd as rs++[bs]))))):sDo.t [oS q,.str wd,pc] G k E:=cJ (⟨⟨q,w,as,rs⟩,wd,pc,bs⟩:Do60) ⟨rfl,hv,hl,ha,hc⟩ λd G' hx=>by
 obtain ⟨rfl,rfl⟩:=hx;exact hk
theorem aeb {q:Addr}:dz "Sieve" "put" (.obj "Sieve" "books" q):=⟨rfl,by ac_rfl⟩
theorem aec {q:Addr}:dz "Sieve" "out" (.obj "Sieve" "books" q):=⟨rfl,by ac_rfl⟩
theorem aed {q:Addr}:dz "Sieve" "move" (.obj "Sieve" "books" q):=⟨rfl,by ac_rfl⟩
theorem aee {q:Addr}:dz "Sieve" "back" (.obj "Sieve" "books" q):=⟨rfl,by ac_rfl⟩
theorem aef (Φ:aa) (h1:Φ "Sieve.put"=zA) (h2:Φ "Sieve.out"=zB) (h3:Φ "Sieve.move"=zE) (h4:Φ "Sieve.back"=zF) (a:Do60) (ds:List D) (G:DH) (h:pDo a ds G):au Φ jM noE (env0 ds 0) G (ends (qDo a G)):=by
 obtain ⟨⟨q,w,as,rs⟩,wd,pc,bs⟩:=a;obtain ⟨rfl,hv,h50,ha,hc⟩:=h;have hv':=hv;obtain ⟨g,hl,hb⟩:=hv';dsimp only at g hl hb h50 ha hc ⊢;rcases hc with ⟨n,r,rfl,rfl,rfl,hn,h12,hf,hd⟩ |⟨rfl,rfl,as',rfl⟩ |⟨n,rfl,rfl,rfl,hn⟩ |⟨n,p,rfl,rfl,rfl,hn,hp⟩
 ·simp_arith[jM,uK,oS,BEq.rfl,h1];exact ⟨aeb,cJ (⟨⟨q,w,as,rs⟩,n,r⟩:PutS) ⟨rfl,hv,h50,hn,h12,hf,hd⟩ λd G' hx=>hx⟩
 ·have e1:(([98,97,99,107]:List Nat)==[112,117,116])=false:=by decide
  have e2:(([98,97,99,107]:List Nat)==[111,117,116])=false:=by decide
  have e3:(([98,97,99,107]:List Nat)==[109,111,118,101])=false:=by decide
  simp_arith[jM,c7,oS,e1,e2,e3,h4];refine ⟨aee,cJ ((⟨q,w,as',bs⟩,rs):Sv×List Row) ⟨rfl,g,?_,ha _ (ay _ (a7.mpr rfl)),hb⟩ λd G' hx=>?_⟩
  ·rw[aw]at h50;dsimp only;omega
  ·unfold qDo elN;dsimp only;rw[if_pos (show [98,97,99,107]=c7 from rfl),List.dropLast_concat];exact hx
 ·have e1:(([111,117,116]:List Nat)==[112,117,116])=false:=by decide
  simp_arith[jM,uL,oS,BEq.rfl,e1,h2];exact ⟨aec,cJ (⟨⟨q,w,as,rs⟩,n⟩:OutS) ⟨rfl,hv,h50,hn⟩ λd G' hx=>hx⟩
 ·have e1:(([109,111,118,101]:List Nat)==[112,117,116])=false:=by decide
  have e2:(([109,111,118,101]:List Nat)==[111,117,116])=false:=by decide
  simp_arith[jM,uM,oS,BEq.rfl,e1,e2,h3];exact ⟨aed,cJ (⟨⟨q,w,as,rs⟩,n,p⟩:MovS) ⟨rfl,hv,h50,hn,hp⟩ λd G' hx=>hx⟩
structure El60 where
 as:List (List Row)
 wd:List Nat
 rs:List Row
noncomputable def uQ:RF.Spec:=bZ (A:=El60) (λa=>[.lst (a.as.map lR),.str a.wd,lR a.rs]) (λa=>a.as.length < 1000/\(a.wd=c7->a.as≠[])) (λa=>.lst ((elN a.wd a.as a.rs).map lR))
theorem aeg{as:List (List Row)}{wd:List Nat}{rs:List Row}{G:DH}{k:D->DH->Prop}{E:EK}(h1:as.length < 1000)(h2:wd=c7->as≠[])(hk:k (.lst ((elN wd as rs).map lR)) G):uQ.t [.lst (as.map lR),.str wd,lR rs] G k E:=cB (⟨as,wd,rs⟩:El60) rfl ⟨h1,h2⟩ hk
theorem aeh{l:List D}{a:D}:cut (l++[a]) none (some (-1))=l:=by
 have e:HT.sIx (l++[a]).length (l++[a]).length (some (-1))=l.length:=by show (if (-1:Int) < 0 then ((-1:Int)+((l++[a]).length:Int)).toNat else min (-1:Int).toNat (l++[a]).length)=l.length;rw[if_pos (by decide),aw,bP];omega
 unfold cut;rw[e,show HT.sIx (l++[a]).length 0 none=0 from rfl,List.drop_zero,Nat.sub_zero,List.take_left]
theorem aei(Φ:aa)(a:El60)(G:DH)(h:a.as.length < 1000/\(a.wd=c7->a.as≠[])):au Φ uv noE (env0 [.lst (a.as.map lR),.str a.wd,lR a.rs] 0) G (ends λd G'=>G'=G/\d=.lst ((elN a.wd a.as a.rs).map lR)):=by
 obtain ⟨as,wd,rs⟩:=a;obtain ⟨h1,h2⟩:=h;dsimp only at h1 h2 ⊢;by_cases hw:wd=c7
 ·have ha:=h2 hw;have e:as=as.dropLast++[as.getLast ha]:=(dr ha).symm;unfold elN;rw[if_pos hw];subst hw;generalize as.dropLast=as' at e ⊢;generalize as.getLast ha=bs at e;subst e;simp_arith[uv,c7,BEq.rfl,bX,bq,dn,aeh,and_self]
 ·have e:(wd==[98,97,99,107])=false:=cS.mpr hw;unfold elN;rw[if_neg hw];simp_arith[uv,e,ah];refine ⟨by decide,by have hsz:sz=1000000:=rfl;omega,?_⟩;rw[bX];rfl
theorem aej{w:Nat}{as:List (List Row)}{rs bs:List Row}{wd:List Nat}{pc:D}(h:gQ w as rs wd pc bs):wd=c7->as≠[]:=by
 rintro rfl;rcases h with ⟨n,r,e,_⟩ |⟨_,_,as',rfl⟩ |⟨n,e,_⟩ |⟨n,p,e,_⟩
 ·exact absurd e (by decide)
 ·simp
 ·exact absurd e (by decide)
 ·exact absurd e (by decide)
theorem Py{Φ:aa}{elt:Ex}{tg:Tg}{a b:D}{g:Hld}{ρ:ak}{G:DH}{k:List D->DH->Prop}(hg:held g G)(h:aO tg a ρ G λρ1=>wpE Φ elt noE ρ1 G λy G3=>held g G3/\aO tg b ρ1 G3 λρ2=>wpE Φ elt noE ρ2 G3 λz G4=>held g G4/\k [y,z] G4):CompG Φ elt tg .yes [a,b] g ρ G k:=by refine ⟨hg,(by decide:(0:Nat) < sz),cN (λρ1 h1=>?_) tg h⟩;refine aC elt (λy G3 h3=>?_) h1;obtain ⟨hg3,h3⟩:=h3;refine ⟨hg3,(by decide:(1:Nat) < sz),cN (λρ2 h4=>?_) tg h3⟩;refine aC elt (λz G4 h5=>?_) h4;exact ⟨h5.1,(by decide:(2:Nat)<=sz),h5.2⟩
noncomputable def alk(G:DH):Nat->D->D->Prop
 |0,_,_=>False
 |n+1,a,b=>(∃o:Option (List Nat),a=bG o/\b=bG o)\/(∃i:Nat,a=nI i/\b=nI i)\/(∃xs ys:List D,xs.length=ys.length/\xs.length<=100000/\(∀(i:Nat)(x y:D),xs[i]?=some x->ys[i]?=some y->alk G n x y)/\((a=.tup xs/\b=.tup ys)\/(a=.lst xs/\b=.lst ys)\/(∃p q,a=.ref p/\b=.ref q/\G p=some (.lst xs)/\G q=some (.lst ys))))
noncomputable def Pz(n:Nat)(ds:List D)(G:DH):Prop:=∃a b,ds=[a,b]/\alk G n a b
noncomputable def eQ(n:Nat):RF.Spec:=bB (Pz n) (λ_ G d G'=>G'=G/\d=.bl true)
theorem zJ{n:Nat}{a b:D}{G:DH}{k:D->DH->Prop}{E:EK}(h:alk G n a b)(hk:k (.bl true) G):(eQ n).t [a,b] G k E:=
 bQ ⟨a,b,rfl,h⟩ λd G' h=>by obtain ⟨e1,e2⟩:=h;subst e1 e2;exact hk
theorem zK (Φ:aa) (n:Nat) (h1:Φ "_law_same"=eQ n) {xs ys:List D} {G:DH} {g:Hld} {k:List D->DH->Prop} (hg:held g G) (hs:xs.length<=100000) (ha:∀(i:Nat) (x y:D),xs[i]?=some x->ys[i]?=some y->alk G n x y)
  (he:k (List.replicate (bH xs ys).length (.bl true)) G):CompG Φ (Ex.call "_law_same" (Exs.cons (Ex.var 0) (Exs.cons (Ex.var 1) Exs.nil))) (Tg.tp (Tgs.cons (Tg.nm 0) (Tgs.cons (Tg.nm 1) Tgs.nil))) Tx.yes (bH xs ys) g [none,none] G k:=by
 refine CompG.inv (P:=λi acc ρ G'=>(∃o1 o2,ρ=[o1,o2])/\G'=G/\acc=List.replicate i (.bl true)) ⟨⟨_,_,rfl⟩,rfl,rfl⟩ (λ_ _ _ _ p=>by rw[p.2.1];exact hg) (by rw[uh];have hsz:sz=1000000:=rfl;omega) ?_ ?_
 ·rintro i d acc ρ G' hd' ⟨⟨o1,o2,rfl⟩,rfl,rfl⟩ kk hk;obtain ⟨a,b,q1,q2,rfl⟩:=xU _ _ i d hd';simp_arith[h1];exact zJ (ha i a b q1 q2) (hk _ _ _ ⟨⟨_,_,rfl⟩,rfl,List.replicate_succ'.symm⟩)
 ·rintro acc ρ G' ⟨_,rfl,rfl⟩;exact he
theorem aek (Φ:aa) (n:Nat) (h1:Φ "_law_same"=eQ n) (ds:List D) (G:DH) (h:Pz (n+1) ds G):au Φ gO noE (env0 ds 0) G (ends λd G'=>G'=G/\d=.bl true):=by
 obtain ⟨a,b,rfl,h⟩:=h;rcases h with ⟨o,rfl,rfl⟩ |⟨i,rfl,rfl⟩ |⟨xs,ys,hl,hs,ha,h⟩
 ·cases o with
  |none=>simp_arith[gO,bG]
  |some l=>simp_arith[gO,bG,BEq.rfl]
 ·simp_arith[gO,nI,BEq.rfl]
 ·rcases h with ⟨rfl,rfl⟩ |⟨rfl,rfl⟩ |⟨p,q,rfl,rfl,gp,gq⟩
  ·simp_arith[gO];simp_arith[hl,bne_self_eq_false,BEq.rfl];refine zK Φ n h1 (by trivial) hs ha ?_;rw[yK,yL,yM];simp
  ·simp_arith[gO];simp_arith[hl,bne_self_eq_false,BEq.rfl];refine zK Φ n h1 (by trivial) hs ha ?_;rw[yK,yL,yM];simp
  ·simp_arith[gO,bx gp,bx gq,jG gp,jG gq];simp_arith[hl,bne_self_eq_false,BEq.rfl,bx gp,bx gq,jG gp,jG gq];refine zK Φ n h1 (by exact ⟨gp,gq,trivial⟩) hs ha ?_;rw[yK,yL,yM];simp
theorem ael(ds:List D)(G:DH)(a:(eQ 0).A):¬(eQ 0).pre ds G a:=λh=>by
 obtain ⟨_,_,_,_,h⟩:=h;exact h
theorem zL{G:DH}{n:Nat}{xs:List D}(h:∀x∈xs,alk G n x x)(i:Nat)(x y:D)(e1:xs[i]?=some x)(e2:xs[i]?=some y):alk G n x y:=by rw[e1]at e2;cases e2;exact h x (cy e1)
theorem zM{G:DH}{n:Nat}{xs:List D}(hl:xs.length<=100000)(h:∀x∈xs,alk G n x x):alk G (n+1) (.tup xs) (.tup xs):=.inr (.inr ⟨xs,xs,rfl,hl,zL h,.inl ⟨rfl,rfl⟩⟩)
theorem PK{G:DH}{w:Nat}{rs:List Row}(hb:okB w rs):alk G 4 (aq w rs) (aq w rs):=by
 have hlen:=hb.len;refine zM (by simp) λx hx=>?_;simp only[aS,eM,or_false]at hx;rcases hx with rfl |rfl
 ·exact .inr (.inl ⟨w,rfl,rfl⟩)
 ·refine zM (by rw[ah];omega) λx hx=>?_;obtain ⟨r,_,rfl⟩:=ca.mp hx;refine zM (by simp) λx hx=>?_;simp only[aS,eM,or_false]at hx;rcases hx with rfl |rfl
  ·exact .inl ⟨some r.1,rfl,rfl⟩
  ·exact .inl ⟨some r.2,rfl,rfl⟩
theorem PL{G:DH}:∀{n:Nat}{a b:D},alk G n a b->alk G (n+1) a b
 |0,_,_,h=>h.elim
 |n+1,a,b,h=>by
  rcases h with h |h |⟨xs,ys,h1,h2,h3,h4⟩
  ·exact .inl h
  ·exact .inr (.inl h)
  ·exact .inr (.inr ⟨xs,ys,h1,h2,λi x y e1 e2=>PL (h3 i x y e1 e2),h4⟩)
theorem aem{G:DH}{w:Nat}{rs:List Row}{o:Option (List Nat)}{p q:Addr}{l:List Nat}(hb:okB w rs)(gp:G p=some (.lst (l.map nI)))(gq:G q=some (.lst (l.map nI)))(hl:l.length<=100000):alk G 5 (.lst [.lst [bG o],aq w rs,.ref p]) (.lst [.lst [bG o],aq w rs,.ref q]):=by
 refine .inr (.inr ⟨[.lst [bG o],aq w rs,.ref p],[.lst [bG o],aq w rs,.ref q],rfl,by simp,λi x y e1 e2=>?_,.inr (.inl ⟨rfl,rfl⟩)⟩);match i,e1,e2 with
 |0,e1,e2=>
  cases e1;cases e2;refine .inr (.inr ⟨_,_,rfl,by simp,zL λx hx=>?_,.inr (.inl ⟨rfl,rfl⟩)⟩);rw[a7.mp hx];exact .inl ⟨o,rfl,rfl⟩
 |1,e1,e2=>
  cases e1;cases e2;exact PK hb
 |2,e1,e2=>
  cases e1;cases e2;refine .inr (.inr ⟨_,_,rfl,by rw[ah];exact hl,zL λx hx=>?_,.inr (.inr ⟨p,q,rfl,rfl,gp,gq⟩)⟩);obtain ⟨j,_,rfl⟩:=ca.mp hx;exact .inr (.inl ⟨j,rfl,rfl⟩)
 |i+3,e1,_=>cases e1
theorem PN {q:Addr}:dz "Sieve" "hidden" (.obj "Sieve" "books" q):=⟨rfl,by ac_rfl⟩
noncomputable def m9:RF.Spec:=ghS (A:=Sv) (λa ds G=>ds=[oS a.q]/\svG a G) (λa G d G'=>∃q,d=.ref q/\G q=none/\G' q=some (.lst ((eG a.rs).map nI))/\Sa G G')
theorem PP{q:Addr}{w:Nat}{as:List (List Row)}{rs:List Row}{G:DH}{k:D->DH->Prop}{E:EK}(h:svG ⟨q,w,as,rs⟩ G)(hk:∀q' G',G q'=none->G' q'=some (.lst ((eG rs).map nI))->Sa G G'->k (.ref q') G'):m9.t [oS q] G k E:=cJ (⟨q,w,as,rs⟩:Sv) ⟨rfl,h⟩ λd G' hx=>by
 obtain ⟨q',rfl,h0,h1,h2⟩:=hx;exact hk q' G' h0 h1 h2
theorem aen (Φ:aa) (h1:Φ "Sieve.book"=eO) (h2:Φ "hidden_reached"=jX) (a:Sv) (ds:List D) (G:DH) (h:ds=[oS a.q]/\svG a G):au Φ yE noE (env0 ds 0) G (ends λd G'=>∃q,d=.ref q/\G q=none/\G' q=some (.lst ((eG a.rs).map nI))/\Sa G G'):=by obtain ⟨q,w,as,rs⟩:=a;obtain ⟨rfl,hv⟩:=h;have hb:=hv.2.2;dsimp only at hb ⊢;simp_arith[yE,oS,h1,h2];refine ⟨dq,dm hv (adN hb λq' G' h0 g s=>?_)⟩;exact ⟨q',rfl,h0,g,s⟩
structure Stp where
 wd:List Nat
 pc:D
 rs:List Row
 bs:List Row
noncomputable def hD(s:Stp):D:=.tup [.str s.wd,s.pc]
noncomputable def tD(w:Nat)(s:Stp):D:=tld w s.rs s.bs
noncomputable def Rn(w:Nat):List Stp->List (List Row)->List Row->List (List Row)->List Row->Prop
 |[],as,rs,as',rs'=>as'=as/\rs'=rs
 |s::l,as,rs,as',rs'=>s.rs=rs/\gQ w as rs s.wd s.pc s.bs/\Rn w l (elN s.wd as rs) s.bs as' rs'
theorem PQ{w:Nat}{wd:List Nat}{pc:D}{bs rs1:List Row}{as1:List (List Row)}(hc:gQ w as1 rs1 wd pc bs):∀{l:List Stp}{as:List (List Row)}{rs:List Row},Rn w l as rs as1 rs1->Rn w (l++[⟨wd,pc,rs1,bs⟩]) as rs (elN wd as1 rs1) bs
 |[],as,rs,h=>by obtain ⟨rfl,rfl⟩:=h;exact ⟨rfl,hc,rfl,rfl⟩
 |s::l,as,rs,h=>⟨h.1,h.2.1,PQ hc h.2.2⟩
structure Al63 where
 s:Addr
 h:Addr
 w:Nat
 b0:List Row
 l:List Stp
 e:Stp
 as:List (List Row)
 rs:List Row
 x:D
 y:D
 z:D
noncomputable def pAl(a:Al63)(ds:List D)(G:DH):Prop:=ds=[.ref a.s]/\G a.s=some (.lst [a.x,a.y,a.z,.ref a.h,aq a.w a.b0])/\G a.h=some (.lst ((a.l++[a.e]).map hD))/\okB a.w a.b0/\Rn a.w (a.l++[a.e]) [] a.b0 a.as a.rs/\a.l.length<=40
noncomputable def qAl(a:Al63)(G:DH)(d:D)(G':DH):Prop:=∃q,d=.lst [.lst [tD a.w a.e],aq a.w a.rs,.ref q]/\G q=none/\G' q=some (.lst ((eG a.rs).map nI))/\Sa G G'
noncomputable def zN:RF.Spec:=ghS (A:=Al63) pAl qAl
theorem aeo{l:List D}{a:D}:cut (l++[a]) (some (-1)) none=[a]:=by
 have e:HT.sIx (l++[a]).length 0 (some (-1))=l.length:=by show (if (-1:Int) < 0 then ((-1:Int)+((l++[a]).length:Int)).toNat else min (-1:Int).toNat (l++[a]).length)=l.length;rw[if_pos (by decide),aw,bP];omega
 unfold cut;rw[e,show HT.sIx (l++[a]).length (l++[a]).length none=(l++[a]).length from rfl,aw,bP,List.drop_left,Nat.add_sub_cancel_left];rfl
theorem aep (Φ:aa) (h1:Φ "Sieve"=j0) (h2:Φ "_law_do"=sDo) (h3:Φ "Sieve.book"=eO) (h4:Φ "Sieve.hidden"=m9) (a:Al63) (ds:List D) (G:DH) (hh:pAl a ds G):au Φ yF noE (env0 ds 4) G (ends (qAl a G)):=by
 obtain ⟨s,h,w,b0,l,e,as,rs,x,y,z⟩:=a;obtain ⟨rfl,gs,gh,hb,hrn,h40⟩:=hh;dsimp only at gs gh hb hrn h40 ⊢;simp_all_arith[yF];refine seq λM hM=>?_;simp_arith[bx gs,h1];refine zG hb λq hq=>hM _ _ (seq λM hM=>?_);simp_arith[ends];intro t ht;refine hM _ _ (seq λM hM=>?_);have htq:t≠q:=λe=>by rw[e,aP]at ht;cases ht
 have ht0:G t=none:=by rw[cI htq]at ht;exact ht
 have sa1:Sa G (aF (aF G q (.lst (stk w [b0]))) t (.lst [])):=(Sa.new hq).then ht0 Sb.upd;have gq1:(aF (aF G q (.lst (stk w [b0]))) t (.lst [])) q=some (.lst (stk w ([]++[b0]))):=by rw[cI htq.symm];exact aP
 have gt1:(aF (aF G q (.lst (stk w [b0]))) t (.lst [])) t=some (.lst []):=aP;generalize aF (aF G q (.lst (stk w [b0]))) t (.lst [])=G1 at sa1 gq1 gt1 ⊢;have hL:(l++[e]).length=l.length+1:=by rw[aw,bP]
 simp_arith![bx (sa1 _ _ gs),jG (sa1 _ _ gh)];refine ForG.inv (P:=λi ρ G'=>∃o3 o4 as1 rs1,ρ=[some (.ref s),some (oS q),some (.ref t),o3,o4]/\Sa G G'/\G' q=some (.lst (stk w (as1++[rs1])))/\G' t=some (.lst (((l++[e]).take i).map (tD w)))/\as1.length<=i/\okB w rs1/\(∀x∈as1,okB w x)/\Rn w ((l++[e]).drop i) as1 rs1 as rs) ⟨_,_,[],b0,rfl,sa1,gq1,gt1,ax _,hb,(λ_ hx=>nomatch hx),hrn⟩ (λ_ _ _ p=>by obtain ⟨_,_,_,_,_,sa,_⟩:=p;exact ⟨sa _ _ gh,trivial⟩) ?_ ?_
 ·rintro i d ρ G2 hd ⟨o3,o4,as1,rs1,rfl,sa,gq,gt,hal,hb1,has,hr⟩ kk hk;rw[bS]at hd;obtain ⟨st,hst,rfl⟩:=bi.mp hd;obtain ⟨hi,hst⟩:=av.mp hst;rw[bp hi,hst]at hr;obtain ⟨hrs,hc,hr⟩:=hr;obtain ⟨hbs,hels,hell⟩:=Pu hb1 has hc;simp_arith![hD];refine last ?_;simp_arith[h2,bR gt,true_and];refine Px (q:=q) (rs:=rs1) ⟨gq,by dsimp only;omega,hb1⟩ (by omega) has hc ?_;have gt2:(aF G2 q (.lst (stk w (elN st.wd as1 rs1++[st.bs])))) t=some (.lst (((l++[e]).take i).map (tD w))):=by rw[cI htq];exact gt
  simp_arith[bR gt2,ah,bo];refine ⟨by have hsz:sz=1000000:=rfl;omega,hk _ _ ⟨_,_,elN st.wd as1 rs1,st.bs,rfl,(sa.then hq Sb.upd).then ht0 Sb.upd,by rw[cI htq.symm];exact aP,?_,by omega,hbs,hels,hr⟩⟩;rw[aP,fg,ba hi,hst,bX,<-hrs];rfl
 ·rintro ρ G2 ⟨o3,o4,as1,rs1,rfl,sa,gq,gt,hal,hb1,has,hr⟩;rw[ah]at gt hal hr;rw[eg]at hr;obtain ⟨rfl,rfl⟩:=hr;rw[fm,bX]at gt;refine hM _ _ (last ?_);have hv:svG ⟨q,w,as,rs⟩ G2:=⟨gq,by dsimp only;omega,hb1⟩;simp_arith[bx gt,h3,h4,oS];refine ⟨dq,dm hv ⟨PN,PP hv λq' G7 hq' gq' sa7=>?_⟩⟩;refine ⟨by decide,q',?_,?_,gq',sa.trans sa7⟩
  ·rw[aeo]
  ·cases hx:G q' with
   |none=>rfl
   |some o=>rw[sa _ _ hx]at hq';cases hq'
structure Ad where
 s:Addr
 h:Addr
 q:Addr
noncomputable def sL(A:Ad)(w:Nat)(rs:List Row)(as:List (List Row))(b0:List Row):List D:=[.int w,lR rs,.lst (as.map lR),.ref A.h,aq w b0]
noncomputable def St(A:Ad)(G:DH)(i:Nat):Prop:=∃(w:Nat)(rs:List Row)(as:List (List Row))(b0:List Row)(l:List Stp),G A.s=some (.lst (sL A w rs as b0))/\G A.h=some (.lst (l.map hD))/\G A.q=some (.lst (stk w (as++[rs])))/\okB w rs/\(∀x∈as,okB w x)/\okB w b0/\as.length<=i/\l.length<=i/\Rn w l [] b0 as rs
theorem St.keep{A:Ad}{G G':DH}{i j:Nat}(h:St A G i)(f1:∀o,G A.s=some o->G' A.s=some o)(f2:∀o,G A.h=some o->G' A.h=some o)(f3:∀o,G A.q=some o->G' A.q=some o)(hij:i<=j):St A G' j:=by obtain ⟨w,rs,as,b0,l,g1,g2,g3,h1,h2,h3,h4,h5,h6⟩:=h;exact ⟨w,rs,as,b0,l,f1 _ g1,f2 _ g2,f3 _ g3,h1,h2,h3,bv h4 hij,bv h5 hij,h6⟩
noncomputable def Dj(p:Addr)(A B:Ad):Prop:=[p,A.s,A.h,A.q,B.s,B.h,B.q].Nodup
theorem Dj.swap{p:Addr}{A B:Ad}(h:Dj p A B):Dj p B A:=(List.Perm.cons p (List.perm_append_comm (l₁:=[A.s,A.h,A.q]) (l₂:=[B.s,B.h,B.q]))).nodup_iff.mp h
structure Md(s h:Addr)(w:Nat)(rs:List Row)(G:DH):Prop where
 gs:G s=some (.lst [.int w,lR rs,.lst [],.ref h,aq w rs])
 gh:G h=some (.lst [])
 ok:okB w rs
theorem Md.sa{s h:Addr}{w:Nat}{rs:List Row}{G G':DH}(m:Md s h w rs G)(sa:Sa G G'):Md s h w rs G':=⟨sa _ _ m.gs,sa _ _ m.gh,m.ok⟩
noncomputable def P0(p:Addr)(_:DH)(d:D)(G':DH):Prop:=∃s0 h0 w0 rs0 s1 h1 w1 rs1,d=.lst [.ref s0,.ref s1]/\Md s0 h0 w0 rs0 G'/\Md s1 h1 w1 rs1 G'/\Pen G' p/\[p,s0,h0,s1,h1].Nodup
noncomputable def zO:RF.Spec:=ghS (A:=Addr) (λp ds G=>ds=[.ref p]/\Pen G p) P0
theorem aeq (Φ:aa) (h1:Φ "_law_book"=ux) (h2:Φ "_law_anew"=mK) (h3:Φ "_law_take"=di) (p:Addr) (ds:List D) (G:DH) (h:ds=[.ref p]/\Pen G p):au Φ yD noE (env0 ds 1) G (ends (P0 p G)):=by
 obtain ⟨rfl,hp⟩:=h;simp_all_arith[yD];refine seq λM hM=>?_;simp_arith[h1,h2];refine NB (w:=5) (m:=6) hp (by decide) (by decide) (by decide) λw0 rs0 G1 hb0 _ _ hp1 _=>?_;refine N5 hp1 λG2 hp2 _=>?_;refine NB (w:=5) (m:=8) hp2 (by decide) (by decide) (by decide) λw1 rs1 G3 hb1 _ _ hp3 _=>?_;refine ⟨by decide,λq hq=>hM _ _ (seq λM hM=>?_)⟩;have hpq:=hp3.ne hq;have fin:∀(w1:Nat)(rs1:List Row)(G5:DH),okB w1 rs1->Pen G5 p->G5 q=some (.lst [aq w0 rs0,aq w1 rs1])->M [some (.ref p),some (.ref q)] G5:=λw1 rs1 G5 hb1 hp5 gq=>by
  refine hM _ _ (last ?_);simp_arith[jG gq];refine Py ⟨gq,trivial⟩ ?_;have e0:∀(w:Nat)(xs:List Row),aq w xs=.tup [.int w,.tup (xs.map aB)]:=λ_ _=>rfl;have l0:=hb0.len;have l1:=hb1.len;simp_arith[e0,ah];intro a1 ha1;have s1:=Sa.new (o:=.lst []) ha1;have g1:=aP (G:=G5) (a:=a1) (o:=.lst []);generalize aF G5 a1 (.lst [])=Ga at s1 g1 ⊢;refine ⟨by decide,λa2 ha2=>?_⟩;have s2:=Sa.new (o:=.lst [.int w0,.lst (rs0.map aB),.lst [],.ref a1,.tup [.int w0,.tup (rs0.map aB)]]) ha2;have m2:Md a2 a1 w0 rs0 (aF Ga a2 (.lst [.int w0,.lst (rs0.map aB),.lst [],.ref a1,.tup [.int w0,.tup (rs0.map aB)]])):=⟨aP,s2 _ _ g1,hb0⟩;generalize aF Ga a2 (.lst [.int w0,.lst (rs0.map aB),.lst [],.ref a1,.tup [.int w0,.tup (rs0.map aB)]])=Gb at s2 m2 ⊢;refine ⟨⟨s2 _ _ (s1 _ _ gq),trivial⟩,λa3 ha3=>?_⟩;have s3:=Sa.new (o:=.lst []) ha3;have g3:=aP (G:=Gb) (a:=a3) (o:=.lst []);generalize aF Gb a3 (.lst [])=Gc at s3 g3 ⊢;refine ⟨by decide,λa4 ha4=>?_⟩;have s4:=Sa.new (o:=.lst [.int w1,.lst (rs1.map aB),.lst [],.ref a3,.tup [.int w1,.tup (rs1.map aB)]]) ha4;have m4:Md a4 a3 w1 rs1 (aF Gc a4 (.lst [.int w1,.lst (rs1.map aB),.lst [],.ref a3,.tup [.int w1,.tup (rs1.map aB)]])):=⟨aP,s4 _ _ g3,hb1⟩;generalize aF Gc a4 (.lst [.int w1,.lst (rs1.map aB),.lst [],.ref a3,.tup [.int w1,.tup (rs1.map aB)]])=Gd at s4 m4 ⊢;refine ⟨⟨s4 _ _ (s3 _ _ (s2 _ _ (s1 _ _ gq))),trivial⟩,?_⟩;have n1:=hp5.ne ha1;have n2:=(hp5.sa s1).ne ha2;have n3:=((hp5.sa s1).sa s2).ne ha3;have n4:=(((hp5.sa s1).sa s2).sa s3).ne ha4;have n5:=bU g1 ha2;have n6:=bU m2.gs ha3;have n7:=bU m2.gh ha3;have n8:=bU (s3 _ _ m2.gs) ha4;have n9:=bU (s3 _ _ m2.gh) ha4;have n10:=bU g3 ha4;refine ⟨a2,a1,w0,rs0,a4,a3,w1,rs1,rfl,(m2.sa s3).sa s4,m4,(((hp5.sa s1).sa s2).sa s3).sa s4,?_⟩;simp only[d5,aS,eM,or_false,not_or,List.nodup_nil,ez,not_false_eq_true];exact ⟨⟨n2,n1,n4,n3⟩,⟨n5.symm,n8,n6⟩,⟨n9,n7⟩,n10.symm⟩
 simp_arith[h3];refine bM (hp3.sa (Sa.new hq)) (by decide) (by decide) λt G4 ht hp4 sb4=>?_;have gq4:=sb4 _ _ (aP (G:=G3) (a:=q) (o:=.lst [aq w0 rs0,aq w1 rs1])) hpq.symm;simp_arith[bx gq4,bR gq4];cases ht0:((t:Int)==0) with
 |false=>exact fin w1 rs1 G4 hb1 hp4 gq4
 |true=>exact fin w0 rs0 _ hb0 (hp4.sb Sb.upd hpq) aP
theorem St.sb{A:Ad}{G G':DH}{i:Nat}{x:Addr}(h:St A G i)(s:Sb x G G')(n1:A.s≠x)(n2:A.h≠x)(n3:A.q≠x):St A G' i:=h.keep (λo g=>s _ _ g n1) (λo g=>s _ _ g n2) (λo g=>s _ _ g n3) (ax _)
theorem St.sa{A:Ad}{G G':DH}{i:Nat}(h:St A G i)(s:Sa G G'):St A G' i:=h.keep (λo g=>s _ _ g) (λo g=>s _ _ g) (λo g=>s _ _ g) (ax _)
theorem Dj.all{p:Addr}{A B:Ad}(h:Dj p A B):(p≠A.s/\p≠A.h/\p≠A.q/\p≠B.s/\p≠B.h/\p≠B.q)/\(A.s≠A.h/\A.s≠A.q/\A.s≠B.s/\A.s≠B.h/\A.s≠B.q)/\(A.h≠A.q/\A.h≠B.s/\A.h≠B.h/\A.h≠B.q)/\(A.q≠B.s/\A.q≠B.h/\A.q≠B.q):=by unfold Dj at h;simp only[d5,aS,eM,or_false,not_or,List.nodup_nil,ez,not_false_eq_true]at h;exact ⟨h.1,h.2.1,h.2.2.1,h.2.2.2.1⟩
structure F63(Φ:aa):Prop where
 opn:Φ "_law_open"=yJ
 anew:Φ "_law_anew"=mK
 take:Φ "_law_take"=di
 sts:Φ "_law_states"=zO
 make:Φ "Sieve"=j0
 chg:Φ "_law_drawn_change"=uP
 do_:Φ "_law_do"=sDo
 eld:Φ "_law_elder"=uQ
 sbk:Φ "Sieve.book"=eO
 hid:Φ "Sieve.hidden"=m9
 same:Φ "_law_same"=eQ 5
 al:Φ "_law_alone"=zN
theorem aer(Φ:aa)(F:F63 Φ)(ds:List D)(G:DH)(h:∃ns:List Int,ds=[.scr ns]/\ns.length<=63):au Φ yG noE (env0 ds 12) G (ends λd _=>d=.bl true):=by
 obtain ⟨ns,rfl,hl⟩:=h;simp_all_arith[yG];refine seq λM hM=>?_;simp_arith[F.opn];refine bQ ⟨ns,rfl,hl⟩ λd' G1 hx=>?_;obtain ⟨p,e1,_,hp,_⟩:=hx;subst e1;refine hM _ _ (seq λM hM=>?_);simp_arith[F.anew,F.sts];refine N5 hp λG2 hp2 _=>?_;refine cJ p ⟨rfl,hp2⟩ λd3 G3 hx=>?_;obtain ⟨s0,h0,w0,rs0,s1,h1,w1,rs1,rfl,m0,m1,hp3,nd⟩:=hx;refine hM _ _ (seq λM hM=>?_);simp_arith[ends];refine Py trivial ?_;simp_arith[bx m0.gs,F.make];refine zG m0.ok λq0 hq0=>⟨trivial,?_⟩;have t0:=Sa.new (o:=.lst (stk w0 [rs0])) hq0;have g0:=aP (G:=G3) (a:=q0) (o:=.lst (stk w0 [rs0]));generalize aF G3 q0 (.lst (stk w0 [rs0]))=G4 at t0 g0 ⊢;simp_arith[bx (m1.sa t0).gs];refine zG m1.ok λq1 hq1=>⟨trivial,?_⟩;have t1:=Sa.new (o:=.lst (stk w1 [rs1])) hq1;have g1:=aP (G:=G4) (a:=q1) (o:=.lst (stk w1 [rs1]));generalize aF G4 q1 (.lst (stk w1 [rs1]))=G5 at t1 g1 ⊢;have hp5:=(hp3.sa t0).sa t1;have m0':=(m0.sa t0).sa t1;have m1':=(m1.sa t0).sa t1;have hA:St ⟨s0,h0,q0⟩ G5 0:=⟨w0,rs0,[],rs0,[],m0'.gs,m0'.gh,t1 _ _ g0,m0.ok,(λ_ hx=>nomatch hx),m0.ok,ax _,ax _,rfl,rfl⟩;have hB:St ⟨s1,h1,q1⟩ G5 0:=⟨w1,rs1,[],rs1,[],m1'.gs,m1'.gh,g1,m1.ok,(λ_ hx=>nomatch hx),m1.ok,ax _,ax _,rfl,rfl⟩;have dj:Dj p ⟨s0,h0,q0⟩ ⟨s1,h1,q1⟩:=by have a1:=hp3.ne hq0;have a2:=(hp3.sa t0).ne hq1;have b1:=bU m0.gs hq0;have b2:=bU m0.gh hq0;have b3:=bU m1.gs hq0;have b4:=bU m1.gh hq0;have c1:=bU (m0.sa t0).gs hq1;have c2:=bU (m0.sa t0).gh hq1;have c3:=bU (m1.sa t0).gs hq1;have c4:=bU (m1.sa t0).gh hq1;have d1:=bU g0 hq1;simp only[d5,aS,eM,or_false,not_or,List.nodup_nil,ez,not_false_eq_true]at nd;obtain ⟨⟨e1,e2,e3,e4⟩,⟨e5,e6,e7⟩,⟨e8,e9⟩,e10⟩:=nd;unfold Dj;simp only[d5,aS,eM,or_false,not_or,List.nodup_nil,ez,not_false_eq_true];exact ⟨⟨e1,e2,a1,e3,e4,a2⟩,⟨e5,b1,e6,e7,c1⟩,⟨b2,e8,e9,c2⟩,⟨b3.symm,b4.symm,d1⟩,⟨e10,c3⟩,c4⟩
 clear m0 m1 m0' m1' hp3 nd t0 t1 g0 g1 hq0 hq1;generalize eA:(⟨s0,h0,q0⟩:Ad)=A at hA dj;generalize eB:(⟨s1,h1,q1⟩:Ad)=B at hB dj;obtain ⟨rfl,rfl,rfl⟩:A.s=s0/\A.h=h0/\A.q=q0:=by subst eA;exact ⟨rfl,rfl,rfl⟩
 obtain ⟨rfl,rfl,rfl⟩:B.s=s1/\B.h=h1/\B.q=q1:=by subst eB;exact ⟨rfl,rfl,rfl⟩
 clear eA eB;refine hM _ _ (seq λM hM=>?_);simp_arith![F.take];refine bM hp5 (by decide) (by decide) λt G6 ht hp6 sb6=>?_;simp_arith![ends];obtain ⟨⟨p1,p2,p3,p4,p5,p6⟩,_⟩:=dj.all;refine ⟨by omega,ForG.inv (P:=λi ρ G'=>(∃o4 o5 o6 o7 o8 o9 o10 o11 o12,ρ=[some (.scr ns),some (.ref p),some (.lst [.ref A.s,.ref B.s]),some (.lst [oS A.q,oS B.q]),o4,o5,o6,o7,o8,o9,o10,o11,o12])/\Pen G' p/\St A G' i/\St B G' i) ⟨⟨_,_,_,_,_,_,_,_,_,rfl⟩,hp6,hA.sb sb6 p1.symm p2.symm p3.symm,hB.sb sb6 p4.symm p5.symm p6.symm⟩ (λ_ _ _ _=>trivial) ?_ ?_⟩
 ·rintro i d ρ G7 hd ⟨⟨o4,o5,o6,o7,o8,o9,o10,o11,o12,rfl⟩,hp7,hA7,hB7⟩ kk hk;have hi:i < 19:=by
   have:=(av.mp hd).1;unfold bu at this;rw[ah,List.length_range]at this;omega
  simp_arith![ends];refine seq λM hM=>?_;simp_arith[F.take];refine bM hp7 (by decide) (by decide) λj G8 hj hp8 sb8=>hM _ _ (seq λM hM=>?_);have hA8:=hA7.sb sb8 p1.symm p2.symm p3.symm;have hB8:=hB7.sb sb8 p4.symm p5.symm p6.symm;obtain ⟨C,K,c1,c2,c3,c4,djc,hC,hK,back⟩:∃C K:Ad,atI [D.ref A.s,.ref B.s] (j:Int)=some (.ref C.s)/\atI [D.ref A.s,.ref B.s] (1 - (j:Int))=some (.ref K.s)/\atI [oS A.q,oS B.q] (j:Int)=some (oS C.q)/\atI [oS A.q,oS B.q] (1 - (j:Int))=some (oS K.q)/\Dj p C K/\St C G8 i/\St K G8 i/\∀G' j,St C G' j->St K G' j->St A G' j/\St B G' j:=by
   have:j=0\/j=1:=by omega
   rcases this with rfl |rfl
   ·exact ⟨A,B,rfl,rfl,rfl,rfl,dj,hA8,hB8,λ_ _ a b=>⟨a,b⟩⟩
   ·exact ⟨B,A,rfl,rfl,rfl,rfl,dj.swap,hB8,hA8,λ_ _ a b=>⟨b,a⟩⟩
  clear hA7 hB7 hA8 hB8 p1 p2 p3 p4 p5 p6 hA hB;obtain ⟨⟨p1,p2,p3,p4,p5,p6⟩,⟨s1,s2,s3,s4,s5⟩,⟨h1,h2,h3,h4⟩,q1,q2,q3⟩:=djc.all;obtain ⟨w,rs,as,b0,l,gs,gh,gq,hb,has,hb0,hal,hll,hrn⟩:=hC;unfold sL at gs;simp_arith[ends];refine bJ c1 (hM _ _ (seq λM hM=>?_));simp_arith[bx gs,F.chg];refine ad9 (rs:=rs) hp8 hb λwd pc bs G9 hc hp9 sb9=>?_;obtain ⟨hbs,hels,hell⟩:=Pu hb has hc;simp_arith[ends];refine hM _ _ (seq λM hM=>?_);have gs9:=sb9 _ _ gs p1.symm;have gh9:=sb9 _ _ gh p2.symm;have gq9:=sb9 _ _ gq p3.symm;have hK9:=hK.sb sb9 p4.symm p5.symm p6.symm;simp_arith[F.do_];refine bJ c3 (Px (q:=C.q) (rs:=rs) ⟨gq9,by dsimp only;omega,hb⟩ (by omega) has hc (hM _ _ (seq λM hM=>?_)));have u10:=Sb.upd (G:=G9) (p:=C.q) (o:=.lst (stk w (elN wd as rs++[bs])));have gq10:=aP (G:=G9) (a:=C.q) (o:=.lst (stk w (elN wd as rs++[bs])));generalize aF G9 C.q (.lst (stk w (elN wd as rs++[bs])))=G10 at u10 gq10 ⊢;have gs10:=u10 _ _ gs9 s2;have gh10:=u10 _ _ gh9 h1;have hp10:=hp9.sb u10 p3;have hK10:=hK9.sb u10 q1.symm q2.symm q3.symm;simp_arith[bx gs10,F.eld];refine aeg (rs:=rs) (by omega) (aej hc) ?_;simp_arith[bR gs10];refine hM _ _ (seq λM hM=>?_);have u11:=Sb.upd (G:=G10) (p:=C.s) (o:=.lst [.int w,lR rs,.lst ((elN wd as rs).map lR),.ref C.h,aq w b0]);have gs11:=aP (G:=G10) (a:=C.s) (o:=.lst [.int w,lR rs,.lst ((elN wd as rs).map lR),.ref C.h,aq w b0]);generalize aF G10 C.s (.lst [.int w,lR rs,.lst ((elN wd as rs).map lR),.ref C.h,aq w b0])=G11 at u11 gs11 ⊢;have gh11:=u11 _ _ gh10 s1.symm;have gq11:=u11 _ _ gq10 s2.symm;have hp11:=hp10.sb u11 p1;have hK11:=hK10.sb u11 s3.symm s4.symm s5.symm;simp_arith[bR gs11];refine hM _ _ (seq λM hM=>?_);have u12:=Sb.upd (G:=G11) (p:=C.s) (o:=.lst [.int w,lR bs,.lst ((elN wd as rs).map lR),.ref C.h,aq w b0]);have gs12:=aP (G:=G11) (a:=C.s) (o:=.lst [.int w,lR bs,.lst ((elN wd as rs).map lR),.ref C.h,aq w b0]);generalize aF G11 C.s (.lst [.int w,lR bs,.lst ((elN wd as rs).map lR),.ref C.h,aq w b0])=G12 at u12 gs12 ⊢;have gh12:=u12 _ _ gh11 s1.symm;have gq12:=u12 _ _ gq11 s2.symm;have hp12:=hp11.sb u12 p1;have hK12:=hK11.sb u12 s3.symm s4.symm s5.symm;simp_arith[bx gs12,bR gh12,ah];refine ⟨by decide,by have hsz:sz=1000000:=rfl;omega,hM _ _ (seq λM hM=>?_)⟩;have u13:=Sb.upd (G:=G12) (p:=C.h) (o:=.lst (l.map hD++[.tup [.str wd,pc]]));have gh13:=aP (G:=G12) (a:=C.h) (o:=.lst (l.map hD++[.tup [.str wd,pc]]));generalize aF G12 C.h (.lst (l.map hD++[.tup [.str wd,pc]]))=G13 at u13 gh13 ⊢;have gs13:=u13 _ _ gs12 s1;have gq13:=u13 _ _ gq12 h1.symm;have hp13:=hp12.sb u13 p2;have hK13:=hK12.sb u13 h2.symm h3.symm h4.symm;have hv13:svG ⟨C.q,w,elN wd as rs,bs⟩ G13:=⟨gq13,by dsimp only;omega,hbs⟩;simp_arith[F.sbk,F.hid];refine ⟨by decide,bJ c3 ⟨dq,dm hv13 ?_⟩⟩;refine bJ c3 ⟨PN,PP hv13 λq' G14 hq' gq' sa14=>?_⟩;refine ⟨by decide,hM _ _ (seq λM hM=>?_)⟩;have gs14:=sa14 _ _ gs13;have gh14:G14 C.h=some (.lst ((l++[(⟨wd,pc,rs,bs⟩:Stp)]).map hD)):=by rw[sa14 _ _ gh13,bX];rfl
  have hrn':=PQ hc hrn;simp_arith[F.same,F.al];refine cJ (⟨C.s,C.h,w,b0,l,⟨wd,pc,rs,bs⟩,elN wd as rs,bs,.int w,lR bs,.lst ((elN wd as rs).map lR)⟩:Al63) ⟨rfl,gs14,gh14,hb0,hrn',by dsimp only;omega⟩ λd15 G15 hx=>?_;obtain ⟨q2',rfl,hq2,gq2,sa15⟩:=hx;have gq15:=sa15 _ _ gq';have hhn:=adM bs;have hbl:=hbs.len;refine zJ (aem (o:=(eH w rs bs).head?) hbs gq15 gq2 (by omega)) ?_;simp_arith[ends];refine hM _ _ (seq λM hM=>?_);simp_arith[bR gq15,ah];refine ⟨by have hsz:sz=1000000:=rfl;omega,hM _ _ (seq λM hM=>?_)⟩;have sa16:Sa G13 _:=(sa14.trans sa15).then hq' (Sb.upd (o:=.lst ((eG bs).map nI++[.int 0])));generalize aF G15 q' (.lst ((eG bs).map nI++[.int 0]))=G16 at sa16 ⊢;have hC16:St C G16 (i+1):=⟨w,bs,elN wd as rs,b0,l++[⟨wd,pc,rs,bs⟩],sa16 _ _ gs13,by rw[sa16 _ _ gh13,bX];rfl,sa16 _ _ gq13,hbs,hels,hb0,by omega,by rw[aw,bP];omega,hrn'⟩;have hK16:=hK13.sa sa16;have hK17:=hK16.keep (j:=i+1) (λ_ h=>h) (λ_ h=>h) (λ_ h=>h) (fk _);have hp16:=hp13.sa sa16;obtain ⟨w2,rs2,as2,b2,l2,gs2,_,gq2,hb2,_,_,hal2,_⟩:=hK16;unfold sL at gs2;simp_arith[ends];refine bJ c2 (hM _ _ (last ?_));simp_arith[F.same,F.sbk,bx gs2];refine bJ c4 ⟨dq,dm (rs:=rs2) ⟨gq2,by dsimp only;omega,hb2⟩ ?_⟩;simp_arith[bx gs2,lR];have e0:D.tup [.int w2,.tup (rs2.map aB)]=aq w2 rs2:=rfl;rw[e0];refine ⟨by decide,zJ (PL (PK hb2)) ?_⟩;simp_arith[ends];exact hk _ _ ⟨⟨_,_,_,_,_,_,_,_,_,rfl⟩,hp16,back _ _ hC16 hK17⟩
 ·rintro ρ G7 ⟨_,_,_,_⟩;refine hM _ _ (last ?_);simp_arith[ends]
end RF
namespace HD
open PySem PySem.W
noncomputable def sv(x:Str)(t:Nat):Value:=.str x t
noncomputable def ri(n:Nat):Value:=.int n 0
noncomputable def gR (l:List Value):Obj:=⟨.type "tuple",none,.seq ⟨l⟩ 0,⟨[]⟩⟩
noncomputable def fK(c:Value)(l:List Value):Obj:=⟨c,none,.fields ⟨l⟩,⟨[]⟩⟩
noncomputable def ni:Str:="/claim/cut.py"
noncomputable def zP(n q:Str)(ln ac fl a b:Nat)(isf:Bool)(l1 l2 tm:Value)(t t2:Nat):Obj:=
 fK (.type "code") [sv n t,sv q (t+1),sv ni (t+2),ri ln,ri ac,ri 0,ri 0,ri fl,.ref a,.bool isf,ri 181,.ref b,.none,l1,l2,tm,ri t2,ri ln,sv ni (t2+1)]
noncomputable def toks(t:Nat):List Str->List Value
 |[]=>[]
 |x::r=>sv x t::toks (t+1) r
noncomputable def fdO(n q:Str)(p:Arguments)(b:List Stmt)(sc:Scope)(g:Nat)(md cd:Value):Data:=
 .func { name:=n,qualname:=q,params:=p,body:=.stmts b,scope:=sc,globals:=g,closure:=[],defaults:=.none,kwdefaults:=.none,pyModule:=md,code:=cd }
noncomputable def enO(P:Params)(k:Str)(t:Nat)(v:Value):DictEntry:={ hash:=PyData.keyHash P k,key:=sv k t,val:=v }
noncomputable def nq (l:List DictEntry) (e:Nat):Obj:=⟨.type "dict",none,.dict ⟨l⟩ e,⟨[]⟩⟩
noncomputable def frO (c l:Nat) (md:Value):Obj:=⟨.type "frame",none,.plain,⟨[some (.ref c),some (.ref 3),some (.ref l),none,some md,none,some (.ref 0)]⟩⟩
noncomputable def bfO (s:String) (v:Value):Obj:=fK (.type "builtin_function_or_method") [.builtin s,v]
noncomputable def veM:List Value:=[.type "ValueError",.type "Exception",.type "BaseException",.type "object"]
noncomputable def uR (b:Expr):Bool:=match b with |.Name n _=>n==("ValueError":Str) |_=>false
noncomputable def fnO(q:Str)(a t:Nat)(md:Value)(n:Str)(p:Arguments)(b:List Stmt)(sc:Scope)(ln:Nat):List Obj:=match localNames p sc (.stmts b) with
 |some l=>[gR [],fK .none [],gR (toks (t+3) l.1),gR [],⟨.none,none,fdO n q p b sc 0 .none .none,⟨[]⟩⟩,
   zP n q ln p.args.length 3 a (a+1) true (.ref (a+2)) (.ref (a+3)) (.ref (a+4)) t (t+3+l.1.length),⟨.type "function",none,fdO n q p b sc 3 md (.ref (a+5)),⟨[]⟩⟩]
 |none=>[gR [],fK .none [],⟨.none,none,fdO n q p b sc 0 .none .none,⟨[]⟩⟩,
   zP n q ln p.args.length 3 a (a+1) true .none .none (.ref (a+2)) t (t+3),⟨.type "function",none,fdO n q p b sc 3 md (.ref (a+3)),⟨[]⟩⟩]
noncomputable def fnA(p:Arguments)(b:List Stmt)(sc:Scope):Nat:=match localNames p sc (.stmts b) with |some _=>7 |none=>5
noncomputable def fnT(p:Arguments)(b:List Stmt)(sc:Scope):Nat:=match localNames p sc (.stmts b) with |some l=>l.1.length+5 |none=>5
noncomputable def dot:Str:="."
structure MO where
 os:List Obj
 es:List DictEntry
 cs:List Value
 a:Nat
 t:Nat
noncomputable def uT(P:Params)(c:Str)(md:Value):List Stmt->Nat->Nat->MO
 |.FunctionDef n p b _ _ _ sc _ _ pos::r,a,t=>
  let m:=uT P c md r (a+fnA p b sc) (t+fnT p b sc+1)
  ⟨fnO (c++dot++n) a t md n p b sc pos.line++m.os,enO P n (t+fnT p b sc) (.ref (a+fnA p b sc - 1))::m.es,ri pos.line::ri pos.col::.ref (a+fnA p b sc - 2)::m.cs,m.a,m.t⟩
 |_::r,a,t=>uT P c md r a t
 |[],a,t=>⟨[],[],[],a,t⟩
noncomputable def clA(P:Params)(a:Nat)(b:List Stmt):Nat:=(uT P dot .none b (a+7) 0).a+2
noncomputable def stO(P:Params)(r:Nat)(sub:List Value)(a t:Nat)(md:Value)(s:Stmt):List Obj:=match s with
 |.FunctionDef n p b _ _ _ sc _ _ pos=>fnO n a t md n p b sc pos.line
 |.ClassDef n bs _ body _ _ _ _ _ st pos=>
  let m:=uT P n md body (a+7) (t+12)
  let c:=m.a+2
  let u:=m.t+st.length
  let d1:=[enO P "__module__" (t+7) md]
  let d2:=enO P "__firstlineno__" (t+11) (.int pos.line (t+10))::m.es++[enO P "__static_attributes__" u (.ref m.a)]
  let b:List Value:=match bs with |b::_=>(match uR b with |true=>[.type "ValueError"] |false=>[.ref r]) |[]=>[]
  let own:Bool:=match bs with |[]=>true |_=>false
  let ve:Bool:=match bs with |b::_=>uR b |[]=>false
  let wr (v:Nat):Obj:=fK (.type "getset_descriptor") [sv "__weakref__" v,.ref c,.builtin "ExceptionGroup.__weakref__",.none]
  let typ (mro:List Value) (sub:List Value) (nw:String):Obj:=
   ⟨.type "type",none,.cls { name:=n,bases:=(match own with |true=>[.type "object"] |false=>b),mro:=.ref c::mro,ns:=m.a+1,qualname:=n,subclasses:=sub },
    ⟨[(match own with |true=>none |false=>some (.ref a)),none,some (sv n t),some (sv n (t+8)),some (.builtin nw),some (.bool true)]⟩⟩
  [gR b,bfO "type.__prepare__" (.type "type"),nq (d1++enO P "__qualname__" (t+9) (sv n (t+8))::d2) (4+m.es.length),gR [],fK .none m.cs,
   zP n n pos.line 0 0 (a+3) (a+4) false .none .none .none (t+2) (t+5),frO (a+5) (a+2) md]++m.os++[gR (toks m.t st)] ++
  (match own with
  |true=>[nq (d1++d2++[enO P "__dict__" (u+2) (.ref (c+1)),enO P "__weakref__" (u+4) (.ref (c+2)),enO P "__doc__" (u+5) .none]) 4,typ [.type "object"] [] "object.__new__",
    fK (.type "getset_descriptor") [sv "__dict__" (u+1),.ref c,.builtin "function.__dict__",.builtin "function.__dict__#set"],wr (u+3)]
  |false=>(match ve with
   |true=>[nq (d1++d2++[enO P "__weakref__" (u+2) (.ref (c+1)),enO P "__doc__" (u+3) .none]) 3,typ veM sub "ValueError.__new__",wr (u+1)]
   |false=>[nq (d1++d2++[enO P "__doc__" (u+1) .none]) 2,typ (.ref r::veM) [] "ValueError.__new__"])) ++
  [fK (.type "super") [.ref c,.ref c,.ref c],bfO "object.__init_subclass__" (.ref c)]
 |_=>[]
noncomputable def mdO(t:Nat)(md:Value)(s:Stmt):Value:=match s with
 |.Assign [.Name n _] (.Constant (.str x) _ _) _=>(match n==("__name__":Str) with |true=>sv x t |false=>md)
 |_=>md
noncomputable def enS(P:Params)(lk:Str->Value)(t u a a':Nat)(s:Stmt):List DictEntry:=match s with
 |.Assign [.Name n _] (.Name y _) _=>[enO P n t (lk y)]
 |.FunctionDef n _ _ _ _ _ _ _ _ _=>[enO P n (u-1) (.ref (a'-1))]
 |.ClassDef n _ _ b _ _ _ _ _ _ _=>[enO P n (u-1) (.ref (clA P a b))]
 |.Assign [.Name n _] (.Constant c _ _) _=>(match n==("__name__":Str) with
  |true=>[]
  |false=>[enO P n (t+1) (match c with |.int i=>.int i t |.str x=>sv x t |_=>.none)])
 |_=>[]
noncomputable def fnS(a':Nat)(s:Stmt):List (Str×Value):=match s with
 |.FunctionDef n _ _ _ _ _ _ _ _ _=>[(n,.ref (a'-1))]
 |_=>[]
noncomputable def cdS(a a':Nat)(s:Stmt):List Value:=match s with
 |.FunctionDef _ _ _ _ _ _ _ _ _ pos=>[ri pos.line,ri pos.col,.ref (a'-2)]
 |.ClassDef _ _ _ _ _ _ _ _ _ _ pos=>[ri pos.line,ri pos.col,.ref (a+5)]
 |_=>[]
noncomputable def sbS(P:Params)(a:Nat)(s:Stmt):List Value:=match s with
 |.ClassDef _ bs _ b0 _ _ _ _ _ _ _=>(match bs with |b::_=>(match uR b with |true=>[] |false=>[.ref (clA P a b0)]) |[]=>[])
 |_=>[]
noncomputable def aes(P:Params)(a:Nat)(s:Stmt):List Nat:=match s with
 |.ClassDef _ bs _ b0 _ _ _ _ _ _ _=>(match bs with |b::_=>(match uR b with |true=>[clA P a b0] |false=>[]) |[]=>[])
 |_=>[]
noncomputable def fold{α:Type}(f:Nat->Nat->Nat->Nat->Value->Stmt->List α):List (Nat×Nat)->Value->List Stmt->List α
 | (a,t)::(a',u)::r,md,s::ss=>f a a' t u md s++fold f ((a',u)::r) (mdO t md s) ss
 |_,_,_=>[]
noncomputable def Qa:List (Nat×Nat)->Value->List Stmt->Value
 | (_,t)::r,md,s::ss=>Qa r (mdO t md s) ss
 |_,md,_=>md
noncomputable def gU:Value:=sv "__main__" 164
noncomputable def aet(P:Params)(v:Value):List DictEntry:=
 [enO P "__name__" 165 v,enO P "__doc__" 166 .none,enO P "__package__" 167 .none,enO P "__loader__" 168 (.builtin "__main__.__loader__#opaque"),enO P "__spec__" 169 .none,
  enO P "__annotations__" 170 (.ref 6),enO P "__builtins__" 171 (.ref 4),enO P "__file__" 173 (sv ni 172),enO P "__cached__" 174 .none]
noncomputable def ents(N:List (Nat×Nat))(b:List Stmt)(P:Params):List DictEntry:=aet P (Qa N gU b)++fold (λa a' t u _ s=>enS P (λy=>((fold (λ_ a' _ _ _ s=>fnS a' s) N gU b).lookup y).getD .none) t u a a' s) N gU b
noncomputable def put{α:Type}:Nat->α->List α->List α
 |_,_,[]=>[]
 |0,x,_::r=>x::r
 |n+1,x,y::r=>y::put n x r
noncomputable def Qc(cs:List Value):List Obj:=[gR [],fK .none cs,
 fK (.type "code") [sv "<module>" 182,sv "<module>" 183,sv ni 184,ri 1,ri 0,ri 0,ri 0,ri 0,.ref 11,.bool false,ri 181,.ref 12,.none,.none,.none,.none,ri 185,ri 1,sv ni 186],frO 13 3 gU]
noncomputable def aeu(B:List Obj):List Obj:=B++Qc []
noncomputable def objs(B:List Obj)(N:List (Nat×Nat))(b:List Stmt)(P:Params):List Obj:=
 let es:=ents N b P
 put 3 (nq es es.length) (B++Qc (fold (λa a' _ _ _ s=>cdS a a' s) N gU b) ++
  fold (λa _ t _ md s=>stO P ((fold (λa _ _ _ _ s=>aes P a s) N gU b).headD 0) (fold (λa _ _ _ _ s=>sbS P a s) N gU b) a t md s) N gU b)
noncomputable def evs{α:Type}:List α->List α
 |[]=>[]
 |[x]=>[x]
 |x::_::r=>x::evs r
noncomputable def bt:Nat->List Obj->BT
 |0,_=>.nil
 |_,[]=>.nil
 |n+1,x::r=>.node x (bt n (evs r)) (bt n (evs r.tail))
noncomputable def nameless(s:Stmt):Bool:=match s with
 |.Assign [.Name n _] _ _=>!(n==("__name__":Str))
 |_=>true
noncomputable def pick:Nat->List Nat->List Obj->Frag
 |i,a::r,o::os=>(match Nat.beq a i with |true=>(a,o)::pick (i+1) r os |false=>pick (i+1) (a::r) os)
 |_,_,_=>[]
end HD
noncomputable def PySem.W.Fast.tw12661109207476511186:PySem.Program:=PySem.Challenge.pw_starsieve_k63_two_sieves_by_turns
theorem PySem.W.Fast.te12661109207476511186:PySem.Challenge.pw_starsieve_k63_two_sieves_by_turns=PySem.W.Fast.tw12661109207476511186:=rfl
namespace HK
open PySem PySem.W PySem.W.Fast
noncomputable def pw:Program:=PySem.Challenge.pw_starsieve_k63_two_sieves_by_turns
noncomputable def rl:OpenLaw:=PySem.Challenge.rw_starsieve_k63_two_sieves_by_turns
noncomputable def NN:List (Nat×Nat):=[(15,187),(15,189),(28,207),(40,223),(52,239),(64,255),(76,271),(88,287),(100,303),(112,319),(112,321),(112,323),(119,330),(126,337),(133,345),(138,351),(145,359),(152,367),(157,373),(164,382),(171,393),(178,400),(178,402),(178,404),(178,406),(178,408),(183,414),(190,422),(195,428),(202,435),(209,443),(216,451),(223,463),(230,471),(230,473),(237,480),(244,489),(251,500),(258,510),(265,521),(270,527),(270,529),(277,538),(282,544),(289,554),(289,556),(296,566),(296,568),(301,574),(306,580),(306,581),(306,583),(383,682),(383,684),(390,695),(397,705),(404,712),(411,723),(416,729),(423,737),(430,747),(437,757),(444,769),(449,775),(456,789),(461,795),(466,801),(473,817),(480,826),(487,835),(492,841),(499,852),(504,858)]
noncomputable def L1(P:Params):List Obj:=HD.objs (boot_heap P).objs.toList NN pw.main.body P
noncomputable def H1(P:Params):Heap:=⟨⟨L1 P⟩,{}⟩
noncomputable def T1(P:Params):BT:=HD.bt 12 (L1 P)
noncomputable def LA(P:Params):List Obj:=HD.aeu (boot_heap P).objs.toList
noncomputable def HA(P:Params):Heap:=⟨⟨LA P⟩,{}⟩
noncomputable def T0(P:Params):BT:=HD.bt 5 (LA P)
noncomputable def env:Env:={ scope:=pw.main.scope,locals:=mainNs,globals:=mainNs,cells:=[],code:=.ref 13,frame:=some 14 }
noncomputable def bE:List Stmt:=behindTheImports pw
noncomputable def cE:Code:=.body bE env
noncomputable def p0:Pos:=⟨0,0,0,0⟩
noncomputable def B:List Frame:=[topFrame p0]
noncomputable def ann:Option Value:=some (.ref 6)
noncomputable def qv:Program:={ pw with main:={ pw.main with body:=pw.main.body.filter HD.nameless } }
noncomputable def as:List Nat:=[3,23,24,36,37,48,49,60,61,72,73,84,85,96,97,108,109,117,118,124,125,131,132,136,137,150,151,162,163,169,170,176,177,181,182,188,189,193,194,200,201,207,208,214,215,228,229,235,236,242,243,249,250,256,257,263,264,268,269,275,276,280,281,287,288,294,295,299,300,304,305,318,319,325,326,339,340,346,347,353,354,360,361,367,368,374,375,377,378,388,389,395,396,402,403,409,410,414,415,421,422,428,429,435,436,442,443,447,448,454,455,459,460,464,465,471,472,478,479,485,486,490,491,497,498,502,503]
noncomputable def K(P:Params):Frag:=HD.pick 0 as (L1 P)
noncomputable def Xt(s:Shared):Bool:=xlAt qv [] s&&recOk (RowW.records rl.row.toRowW) s
noncomputable def see{α:Type}(_:α):Bool:=true
theorem primed:(see T1&&see T0&&see H1&&see HA&&see cE&&see B&&see env&&see bE&&see qv&&see K&&see Xt)=true:=by k_qdec
theorem pre(w:World)(os:OsState):topGo treeTable pw w 11 ann 12 ⟨boot_heap w.params,⟨[]⟩,boot_drawn,boot_toks,os⟩ (topStub pw)=some (⟨HA w.params,⟨[]⟩,{},187,os⟩,⟨denote treeTable cE,cE,p0,B⟩):=by have _:=primed;rw[PySem.W.Fast.te15667345088766844465,PySem.W.Fast.te14364793385576792824,PySem.W.Fast.te1032975242618825031,PySem.W.Fast.te8093259214132618727,PySem.W.Fast.te1718297227530528222,PySem.W.Fast.te11892475500146522536];rfl'
theorem block(w:World)(os:OsState):segRun treeTable pw w 11 ann 1 2 ⟨HA w.params,⟨[]⟩,{},187,os⟩ (blockOf bE env cE p0 B)=some (.next,SharedT.abs ⟨T0 w.params,15,{},⟨[]⟩,{},187,os⟩,cE,p0):=by rw[PySem.W.Fast.te14374325043358763698,PySem.W.Fast.te14364793385576792824,PySem.W.Fast.te1032975242618825031,PySem.W.Fast.te8093259214132618727,PySem.W.Fast.te1718297227530528222,PySem.W.Fast.te14938417808399470215,PySem.W.Fast.te16330338443398637341,PySem.W.Fast.te10239294469119128424];rfl'
theorem piece(w:World)(os:OsState):segRunT treeTable pw w 11 ann 1 9000 ⟨T0 w.params,15,{},⟨[]⟩,{},187,os⟩ (piecesOf bE env cE p0 B)=some (.next,⟨T1 w.params,504,{},⟨[]⟩,{},858,os⟩,cE,⟨343,0,362,15⟩):=by rw[PySem.W.Fast.te10110043849684766642,PySem.W.Fast.te14364793385576792824,PySem.W.Fast.te1032975242618825031,PySem.W.Fast.te13069687644243786066,PySem.W.Fast.te14938417808399470215,PySem.W.Fast.te1718297227530528222,PySem.W.Fast.te16330338443398637341,PySem.W.Fast.te10239294469119128424];rfl'
theorem fin(w:World)(os:OsState):topRun treeTable pw w 11 ann 3 (SharedT.abs ⟨T1 w.params,504,{},⟨[]⟩,{},858,os⟩) ⟨doneF .next,cE,⟨343,0,362,15⟩,B⟩=some ⟨H1 w.params,⟨[]⟩,{},858,os⟩:=by rw[PySem.W.Fast.te14082659384304107361,PySem.W.Fast.te14364793385576792824,PySem.W.Fast.te1032975242618825031,PySem.W.Fast.te13069687644243786066,PySem.W.Fast.te1718297227530528222,PySem.W.Fast.te14158929756966004236];rfl'
theorem run(w:World)(os:OsState):topRun treeTable pw w 11 ann (12+(2+(9000+3))) ⟨boot_heap w.params,⟨[]⟩,boot_drawn,boot_toks,os⟩ (topStub pw)=some ⟨H1 w.params,⟨[]⟩,{},858,os⟩:=by refine go_top (pre w os) (piece_block (block w os) ?_);have h:=piece_app (rest:=[]) (segRun_of (piece w os)) (piece_nil (fin w os));rw[List.append_nil]at h;exact h
theorem size (w:World):((boot_heap w.params).isNs mainGlobals&&(Array.mk []:Array GenState).size==0,(boot_heap w.params).objs.size,(boot_heap w.params).nsMap mainGlobals "__annotations__")=(true,11,ann):=by rfl'
theorem aev(w:World)(os:OsState):(staticsOk (importedModules pw.main.body) (boot_heap w.params) (H1 w.params)&&namesBound pw (H1 w.params)&&gensDone ⟨H1 w.params,⟨[]⟩,{},858,os⟩&&laidKept (boot_heap w.params) (H1 w.params))=true:=by rw[PySem.W.Fast.te1032975242618825031,PySem.W.Fast.te14158929756966004236,PySem.W.Fast.te5923862056798008813];rfl'
theorem aew (w:World) (os:OsState):openSeen qv ["hidden_reached"] (importedModules pw.main.body) Xt true ⟨H1 w.params,⟨[]⟩,{},858,os⟩=openGood qv ["hidden_reached"]:=by rw[PySem.W.Fast.te1032975242618825031,PySem.W.Fast.te14158929756966004236,PySem.W.Fast.te5923862056798008813,PySem.W.Fast.te3994408356199485718,PySem.W.Fast.te3154452736318265832,PySem.W.Fast.te4187177175401517315];rfl'
theorem aex(w:World):as.map (H1 w.params).get?=(K w.params).map (λp=>some p.2):=by rw[PySem.W.Fast.te14158929756966004236,PySem.W.Fast.te538113369711794958];rfl'
theorem eAs(P:Params):as=(K P).map (·.1):=by rw[PySem.W.Fast.te538113369711794958];rfl'
noncomputable def hook:Hook:=kHook K as eAs
theorem left:LeftO pw qv ["hidden_reached"] Xt hook.obs hook.val 12000:=by refine LeftO.of_pieces (boot_open (by rfl') (by decide) (λs=>by rfl')) size run (by decide) λw=>funext λos=>?_;exact Prod.ext (aev w os) (Prod.ext (aew w os) (aex w))
end HK
namespace Lk63
open PySem PySem.Spec PyProof.Rows L2 RF
open PySem.W (mg_of mg_none_of)
noncomputable def Φ:aa:=λf=>if f="is_deed" then uz else if f="is_text_of" then yV else if f="is_form" then uy else if f="is_row" then yW else if f="is_whole" then aQ iI else if f="is_width" then yX else if f="is_book" then yZ else if f="need_book" then iK else if f="both" then aQ mX else if f="first_touching" then mY else if f="splitting_place" then uB else if f="with_sign" then aQ gP else if f="grown" then eE 9 else if f="least" then aQ iT else if f="is_named" then aQ gb else if f="is_place" then aQ fJ else if f="leaves" then dI 9 else if f="need_row" then jW else if f="reach" then uG else if f="hidden" then jX else if f="hidden_reached" then jX else if f="need_two_books" then uH else if f="deed_of" then uA else if f="same_deeds" then sSD else if f="stars" then aQ iQ else if f="alike" then uI else if f="parting_word" then m7 else if f="without" then sWo else if f="_law_anew" then mK else if f="_law_spread" then uw else if f="_law_take" then di else if f="_law_signs" then mL else if f="_law_deeds_of" then mR else if f="_law_form" then yI else if f="_law_wider" then iJ else if f="_law_within" then iJ else if f="_law_form_like" then mQ else if f="_law_forms" then uN else if f="_law_drawn_change" then uP else if f="_law_elder" then uQ else if f="_law_open" then yJ else if f="_law_same" then eQ 5 else if f="_law_book" then ux else if f="_law_states" then zO else if f="Sieve" then j0 else if f="Sieve.book" then eO else if f="Sieve.hidden" then m9 else if f="Sieve.back" then zF else if f="Sieve.turn" then jY else if f="Sieve.move" then zE else if f="Sieve.out" then zB else if f="Sieve.put" then zA else if f="_law_do" then sDo else if f="_law_alone" then zN else if f="law" then mO else bB (λ_ _=>False) (λ_ _ _ _=>False)
noncomputable def zQ:Φ "is_deed"=uz:=by rfl'
noncomputable def Qd:Φ "is_text_of"=yV:=by rfl'
noncomputable def zR:Φ "is_form"=uy:=by rfl'
noncomputable def Qe:Φ "is_row"=yW:=by rfl'
noncomputable def zT:Φ "is_whole"=aQ iI:=by rfl'
noncomputable def Qf:Φ "is_width"=yX:=by rfl'
noncomputable def Qg:Φ "is_book"=yZ:=by rfl'
noncomputable def nu:Φ "need_book"=iK:=by rfl'
noncomputable def Qh:Φ "both"=aQ mX:=by rfl'
noncomputable def zU:Φ "first_touching"=mY:=by rfl'
noncomputable def Qi:Φ "splitting_place"=uB:=by rfl'
noncomputable def zV:Φ "with_sign"=aQ gP:=by rfl'
noncomputable def zW:Φ "grown"=eE 9:=by rfl'
noncomputable def zX:Φ "least"=aQ iT:=by rfl'
noncomputable def Qj:Φ "is_named"=aQ gb:=by rfl'
noncomputable def uU:Φ "is_place"=aQ fJ:=by rfl'
noncomputable def zY:Φ "leaves"=dI 9:=by rfl'
noncomputable def uV:Φ "need_row"=jW:=by rfl'
noncomputable def Qk:Φ "reach"=uG:=by rfl'
noncomputable def Ql:Φ "hidden"=jX:=by rfl'
noncomputable def Qm:Φ "hidden_reached"=jX:=by rfl'
noncomputable def Qn:Φ "need_two_books"=uH:=by rfl'
noncomputable def Qo:Φ "deed_of"=uA:=by rfl'
noncomputable def Qp:Φ "same_deeds"=sSD:=by rfl'
noncomputable def Qq:Φ "stars"=aQ iQ:=by rfl'
noncomputable def Qs:Φ "alike"=uI:=by rfl'
noncomputable def zZ:Φ "parting_word"=m7:=by rfl'
noncomputable def z6:Φ "without"=sWo:=by rfl'
noncomputable def z7:Φ "_law_anew"=mK:=by rfl'
noncomputable def Qt:Φ "_law_spread"=uw:=by rfl'
noncomputable def eU:Φ "_law_take"=di:=by rfl'
noncomputable def z8:Φ "_law_signs"=mL:=by rfl'
noncomputable def z9:Φ "_law_deeds_of"=mR:=by rfl'
noncomputable def Qu:Φ "_law_form"=yI:=by rfl'
noncomputable def Qv:Φ "_law_wider"=iJ:=by rfl'
noncomputable def Qw:Φ "_law_within"=iJ:=by rfl'
noncomputable def Aa:Φ "_law_form_like"=mQ:=by rfl'
noncomputable def Qx:Φ "_law_forms"=uN:=by rfl'
noncomputable def Qy:Φ "_law_drawn_change"=uP:=by rfl'
noncomputable def Qz:Φ "_law_elder"=uQ:=by rfl'
noncomputable def QB:Φ "_law_open"=yJ:=by rfl'
noncomputable def QC:Φ "_law_same"=eQ 5:=by rfl'
noncomputable def QD:Φ "_law_book"=ux:=by rfl'
noncomputable def QF:Φ "_law_states"=zO:=by rfl'
theorem Ab:Φ "Sieve"=j0:=by rfl'
theorem gj:Φ "Sieve.book"=eO:=by rfl'
theorem Ac:Φ "Sieve.hidden"=m9:=by rfl'
theorem QG:Φ "Sieve.back"=zF:=by rfl'
theorem uW:Φ "Sieve.turn"=jY:=by rfl'
theorem QH:Φ "Sieve.move"=zE:=by rfl'
theorem QJ:Φ "Sieve.out"=zB:=by rfl'
theorem QK:Φ "Sieve.put"=zA:=by rfl'
noncomputable def Ae:Φ "_law_do"=sDo:=by rfl'
noncomputable def QL:Φ "_law_alone"=zN:=by rfl'
noncomputable def bt:List String:=["all","bool","enumerate","int","isinstance","len","list","min","range","str","tuple","zip"]
noncomputable def cn:List (String×D):=[("LETTERS",(.str [97,98,99,100,101,102,103,104,105,106,107,108,109,110,111,112,113,114,115,116,117,118,119,120,121,122])),("LONGEST_DEED",(.int 8)),("MOST_ROWS",(.int 12)),("WIDEST",(.int 6))]
noncomputable def xs:List (String×Bool):=[("NoBook",true),("NoMatch",true),("NoWord",true),("NoRow",true),("NoForm",true),("Full",true),("Nothing",true)]
abbrev CK:=λN s f o b=>aD (aH N (ao s) f bt cn xs o) b (aG s)=true
abbrev BB:=λ(l:PySem.W.OpenLaw) (w:World) (mg:Str->Option Value) (base:Heap) k f o=>Bse Φ l.prog w (HK.K w.params) mg base (CX1 l.prog w) k f bt cn xs o
abbrev NQ:=λP (s:Str) (n:Nat)=>PySem.W.nsIn (HK.K P) mainGlobals s=some (some (.ref n))
abbrev BQ:=λP fd ps=>Binds (HK.K P) fd ps []
abbrev LN:Str:="law_starsieve_k63_two_sieves_by_turns"
noncomputable def f0:List (String×Nat):=[]
noncomputable def o0:OT:={}
noncomputable def f1:=("is_deed",1)::f0
noncomputable def f2:=("is_text_of",3)::f1
noncomputable def f3:=("is_form",2)::f2
noncomputable def f4:=("is_row",2)::f3
noncomputable def f5:=("is_whole",1)::f4
noncomputable def f6:=("is_width",1)::f5
noncomputable def f7:=("is_book",1)::f6
noncomputable def f8:=("need_book",1)::f7
noncomputable def f9:=("both",2)::f8
noncomputable def f10:=("first_touching",2)::f9
noncomputable def f11:=("splitting_place",2)::f10
noncomputable def f12:=("with_sign",3)::f11
noncomputable def f13:=("grown",3)::f12
noncomputable def f14:=("least",1)::f13
noncomputable def f15:=("is_named",3)::f14
noncomputable def f16:=("is_place",2)::f15
noncomputable def f17:=("leaves",2)::f16
noncomputable def f18:=("need_row",2)::f17
noncomputable def f19:=("reach",2)::f18
noncomputable def f20:=("hidden",1)::f19
noncomputable def f21:=("hidden_reached",1)::f20
noncomputable def f22:=("need_two_books",2)::f21
noncomputable def f23:=("deed_of",2)::f22
noncomputable def f24:=("same_deeds",3)::f23
noncomputable def f25:=("stars",1)::f24
noncomputable def f26:=("alike",2)::f25
noncomputable def f27:=("parting_word",2)::f26
noncomputable def f28:=("without",2)::f27
noncomputable def f29:=("_law_anew",1)::f28
noncomputable def f30:=("_law_spread",2)::f29
noncomputable def f31:=("_law_take",2)::f30
noncomputable def f32:=("_law_signs",3)::f31
noncomputable def f33:=("_law_deeds_of",2)::f32
noncomputable def f34:=("_law_form",2)::f33
noncomputable def f35:=("_law_wider",2)::f34
noncomputable def f36:=("_law_within",2)::f35
noncomputable def f37:=("_law_form_like",3)::f36
noncomputable def f38:=("_law_forms",1)::f37
noncomputable def f39:=("_law_drawn_change",4)::f38
noncomputable def f40:=("_law_elder",3)::f39
noncomputable def f41:=("_law_open",1)::f40
noncomputable def f42:=("_law_same",2)::f41
noncomputable def f43:=("_law_book",3)::f42
noncomputable def f44:=("_law_states",1)::f43
noncomputable def o1:OT:={ o0 with fl:=("Sieve","books")::o0.fl }
noncomputable def o2:OT:={ o1 with ks:=("Sieve",1)::o1.ks }
noncomputable def o3:OT:={ o2 with ms:=("Sieve.book","Sieve","book",1)::o2.ms }
noncomputable def o4:OT:={ o3 with ms:=("Sieve.hidden","Sieve","hidden",1)::o3.ms }
noncomputable def o5:OT:={ o4 with ms:=("Sieve.back","Sieve","back",1)::o4.ms }
noncomputable def o6:OT:={ o5 with ms:=("Sieve.turn","Sieve","turn",2)::o5.ms }
noncomputable def o7:OT:={ o6 with ms:=("Sieve.move","Sieve","move",3)::o6.ms }
noncomputable def o8:OT:={ o7 with ms:=("Sieve.out","Sieve","out",2)::o7.ms }
noncomputable def o9:OT:={ o8 with ms:=("Sieve.put","Sieve","put",4)::o8.ms }
noncomputable def f45:=("_law_do",3)::f44
noncomputable def f46:=("_law_alone",1)::f45
noncomputable def S(i:Nat):Stmt:=HK.pw.main.body.getD i (.Pass ⟨0,0,0,0⟩)
noncomputable def SM(i j:Nat):Stmt:=match S i with |.ClassDef _ _ _ b _ _ _ _ _ _ _=>b.getD j (.Pass ⟨0,0,0,0⟩) |s=>s
noncomputable def nA:Stmt:=S 25
theorem aey:fnB ["thing"] ["thing"] (ao nA)=true:=by ac_rfl
theorem aez:CK ["thing"] nA f0 o0 lB:=by ac_rfl
noncomputable def nF:Stmt:=S 14
theorem aeA:fnB ["signs","width","thing"] ["signs","width","thing"] (ao nF)=true:=by ac_rfl
theorem aeB:CK ["signs","width","thing"] nF f1 o0 lC:=by ac_rfl
noncomputable def nG:Stmt:=S 16
theorem aeC:fnB ["width","thing"] ["width","thing"] (ao nG)=true:=by ac_rfl
theorem aeD:CK ["width","thing"] nG f2 o0 lE:=by ac_rfl
noncomputable def nH:Stmt:=S 26
theorem aeE:fnB ["width","thing"] ["width","thing"] (ao nH)=true:=by ac_rfl
theorem aeF:CK ["width","thing"] nH f3 o0 lF:=by ac_rfl
noncomputable def nJ:Stmt:=S 11
theorem aeG:fnB ["thing"] ["thing"] (ao nJ)=true:=by ac_rfl
theorem aeH:CK ["thing"] nJ f4 o0 lG:=by ac_rfl
noncomputable def nM:Stmt:=S 12
theorem aeI:fnB ["thing"] ["thing"] (ao nM)=true:=by ac_rfl
theorem aeJ:CK ["thing"] nM f5 o0 lH:=by ac_rfl
noncomputable def nO:Stmt:=S 27
theorem aeK:fnB ["thing","width","rows"] ["thing"] (ao nO)=true:=by ac_rfl
theorem aeL:CK ["thing","width","rows"] nO f6 o0 lJ:=by ac_rfl
noncomputable def nP:Stmt:=S 28
theorem aeM:fnB ["book"] ["book"] (ao nP)=true:=by ac_rfl
theorem aeN:CK ["book"] nP f7 o0 lK:=by ac_rfl
noncomputable def nQ:Stmt:=S 19
theorem aeO:fnB ["form","other","shared","one","two"] ["form","other"] (ao nQ)=true:=by ac_rfl
theorem aeP:CK ["form","other","shared","one","two"] nQ f8 o0 lL:=by ac_rfl
noncomputable def nR:Stmt:=S 37
theorem aeQ:fnB ["rows","box","number","row"] ["rows","box"] (ao nR)=true:=by ac_rfl
theorem aeR:CK ["rows","box","number","row"] nR f9 o0 lM:=by ac_rfl
noncomputable def nT:Stmt:=S 38
theorem aeS:fnB ["rows","box","number","at","sign"] ["rows","box"] (ao nT)=true:=by ac_rfl
theorem aeT:CK ["rows","box","number","at","sign"] nT f10 o0 lN:=by ac_rfl
noncomputable def nU:Stmt:=S 18
theorem aeU:fnB ["form","at","sign"] ["form","at","sign"] (ao nU)=true:=by ac_rfl
theorem aeV:CK ["form","at","sign"] nU f11 o0 lO:=by ac_rfl
noncomputable def nW:Stmt:=S 39
theorem aeW:fnB ["name","many_rows","box","rows","at","zero","one"] ["name","many_rows","box"] (ao nW)=true:=by ac_rfl
theorem aeX:CK ["name","many_rows","box","rows","at","zero","one"] nW f13 o0 jK:=by ac_rfl
noncomputable def nY:Stmt:=S 20
noncomputable def nZ:Stmt:=S 35
theorem aeY:fnB ["name","many","thing"] ["name","many","thing"] (ao nZ)=true:=by ac_rfl
theorem aeZ:CK ["name","many","thing"] nZ f14 o0 lQ:=by ac_rfl
noncomputable def oh:Stmt:=S 13
theorem ae0:fnB ["many","thing"] ["many","thing"] (ao oh)=true:=by ac_rfl
theorem ae1:CK ["many","thing"] oh f15 o0 lU:=by ac_rfl
noncomputable def ou:Stmt:=S 36
theorem ae2:fnB ["box","tree","at","zero","one"] ["box","tree"] (ao ou)=true:=by ac_rfl
theorem ae3:CK ["box","tree","at","zero","one"] ou f17 o0 iG:=by ac_rfl
noncomputable def oA:Stmt:=S 30
theorem ae4:fnB ["book","number"] ["book","number"] (ao oA)=true:=by ac_rfl
theorem ae5:CK ["book","number"] oA f17 o0 lV:=by ac_rfl
noncomputable def oE:Stmt:=S 47
theorem ae6:fnB ["book","number","rows","form","tree","free"] ["book","number"] (ao oE)=true:=by ac_rfl
theorem ae7:CK ["book","number","rows","form","tree","free"] oE f18 o0 lW:=by ac_rfl
noncomputable def oF:Stmt:=S 48
theorem ae8:fnB ["book"] ["book"] (ao oF)=true:=by ac_rfl
theorem ae9:CK ["book"] oF f19 o0 lX:=by ac_rfl
noncomputable def oG:Stmt:=S 29
theorem afa:fnB ["one","other"] ["one","other"] (ao oG)=true:=by ac_rfl
theorem afb:CK ["one","other"] oG f21 o0 lY:=by ac_rfl
noncomputable def oH:Stmt:=S 32
theorem afc:fnB ["book","number"] ["book","number"] (ao oH)=true:=by ac_rfl
theorem afd:CK ["book","number"] oH f22 o0 jL:=by ac_rfl
noncomputable def oJ:Stmt:=S 41
theorem afe:fnB ["one","other","leaf"] ["one","other","leaf"] (ao oJ)=true:=by ac_rfl
theorem afg:CK ["one","other","leaf"] oJ f23 o0 lZ:=by ac_rfl
noncomputable def oK:Stmt:=S 34
theorem afh:fnB ["width"] ["width"] (ao oK)=true:=by ac_rfl
theorem afi:CK ["width"] oK f24 o0 mj:=by ac_rfl
noncomputable def oM:Stmt:=S 42
theorem afj:fnB ["one","other","box","tree","parting"] ["one","other"] (ao oM)=true:=by ac_rfl
theorem afk:CK ["one","other","box","tree","parting"] oM f25 o0 mq:=by ac_rfl
noncomputable def oN:Stmt:=S 43
theorem afl:fnB ["one","other","name","shown"] ["one","other"] (ao oN)=true:=by ac_rfl
theorem afm:CK ["one","other","name","shown"] oN f26 o0 my:=by ac_rfl
noncomputable def oO:Stmt:=S 45
theorem afn:fnB ["book","number","width","rows"] ["book","number"] (ao oO)=true:=by ac_rfl
theorem afo:CK ["book","number","width","rows"] oO f27 o0 mz:=by ac_rfl
noncomputable def oR:Stmt:=S 55
theorem afp:fnB ["pen"] ["pen"] (ao oR)=true:=by ac_rfl
theorem afq:CK ["pen"] oR f28 o0 yj:=by ac_rfl
noncomputable def oU:Stmt:=S 53
theorem afr:fnB ["cell","at","one","two","three"] ["cell","at"] (ao oU)=true:=by ac_rfl
theorem afs:CK ["cell","at","one","two","three"] oU f29 o0 yl:=by ac_rfl
noncomputable def oV:Stmt:=S 56
theorem aft:fnB ["pen","many","at","cell","found"] ["pen","many"] (ao oV)=true:=by ac_rfl
theorem afu:CK ["pen","many","at","cell","found"] oV f30 o0 ym:=by ac_rfl
noncomputable def oW:Stmt:=S 57
theorem afv:fnB ["pen","width","signs"] ["pen","width","signs"] (ao oW)=true:=by ac_rfl
theorem afw:CK ["pen","width","signs"] oW f31 o0 yo:=by ac_rfl
noncomputable def oX:Stmt:=S 62
theorem afx:fnB ["pen","most","some","turn","found","letters"] ["pen","most"] (ao oX)=true:=by ac_rfl
theorem afy:CK ["pen","most","some","turn","found","letters"] oX f32 o0 yp:=by ac_rfl
noncomputable def oY:Stmt:=S 58
theorem afz:fnB ["pen","width"] ["pen","width"] (ao oY)=true:=by ac_rfl
theorem afA:CK ["pen","width"] oY f33 o0 yq:=by ac_rfl
noncomputable def oZ:Stmt:=S 60
theorem afB:fnB ["pen","form","found","sign"] ["pen","form"] (ao oZ)=true:=by ac_rfl
theorem afC:CK ["pen","form","found","sign"] oZ f34 o0 yr:=by ac_rfl
noncomputable def ph:Stmt:=S 59
theorem afD:fnB ["pen","form","found","sign"] ["pen","form"] (ao ph)=true:=by ac_rfl
theorem afE:CK ["pen","form","found","sign"] ph f35 o0 yt:=by ac_rfl
noncomputable def pq:Stmt:=S 61
theorem afF:fnB ["pen","width","forms","kind","form","at"] ["pen","width","forms"] (ao pq)=true:=by ac_rfl
theorem afG:CK ["pen","width","forms","kind","form","at"] pq f36 o0 yu:=by ac_rfl
noncomputable def pA:Stmt:=S 65
theorem afH:fnB ["rows"] ["rows"] (ao pA)=true:=by ac_rfl
theorem afI:CK ["rows"] pA f37 o0 yw:=by ac_rfl
noncomputable def pB:Stmt:=S 66
theorem afJ:fnB ["pen","width","rows","elder","kind","at","form","one","place","others"] ["pen","width","rows","elder"] (ao pB)=true:=by ac_rfl
theorem afK:CK ["pen","width","rows","elder","kind","at","form","one","place","others"] pB f38 o0 yx:=by ac_rfl
noncomputable def pC:Stmt:=S 68
theorem afL:fnB ["elder","word","rows"] ["elder","word","rows"] (ao pC)=true:=by ac_rfl
theorem afM:CK ["elder","word","rows"] pC f39 o0 uv:=by ac_rfl
noncomputable def pF:Stmt:=S 54
theorem afN:fnB ["script","cells","k","cell"] ["script"] (ao pF)=true:=by ac_rfl
theorem afO:CK ["script","cells","k","cell"] pF f40 o0 yz:=by ac_rfl
noncomputable def pG:Stmt:=S 64
theorem afP:fnB ["found","due"] ["found","due"] (ao pG)=true:=by ac_rfl
theorem afQ:CK ["found","due"] pG f42 o0 gO:=by ac_rfl
noncomputable def pH:Stmt:=S 63
theorem afR:fnB ["pen","widest","most","width","deeds","forms","rows","k"] ["pen","widest","most"] (ao pH)=true:=by ac_rfl
theorem afS:CK ["pen","widest","most","width","deeds","forms","rows","k"] pH f42 o0 yC:=by ac_rfl
noncomputable def pI:Stmt:=S 69
theorem afT:fnB ["pen","books"] ["pen"] (ao pI)=true:=by ac_rfl
theorem afU:CK ["pen","books"] pI f43 o0 yD:=by ac_rfl
noncomputable def pJ:Stmt:=SM 51 0
theorem afV:fnB ["self","book"] ["self","book"] (ao pJ)=true:=by ac_rfl
theorem afW:ut (aH ["self","book"] (ao pJ) f44 bt cn xs o1) "need_book" "books" (aG pJ)=true:=by ac_rfl
noncomputable def pK:Stmt:=SM 51 1
theorem afX:fnB ["self"] ["self"] (ao pK)=true:=by ac_rfl
theorem afY:CK ["self"] pK f44 o2 mC:=by ac_rfl
noncomputable def pL:Stmt:=SM 51 3
theorem afZ:fnB ["self"] ["self"] (ao pL)=true:=by ac_rfl
theorem af0:CK ["self"] pL f44 o3 yE:=by ac_rfl
noncomputable def pM:Stmt:=SM 51 8
theorem af1:fnB ["self","undone"] ["self"] (ao pM)=true:=by ac_rfl
theorem af2:CK ["self","undone"] pM f44 o4 mD:=by ac_rfl
noncomputable def pN:Stmt:=SM 51 4
theorem af3:fnB ["self","rows","before"] ["self","rows"] (ao pN)=true:=by ac_rfl
theorem af4:CK ["self","rows","before"] pN f44 o5 mF:=by ac_rfl
noncomputable def pO:Stmt:=SM 51 7
theorem af5:fnB ["self","number","place","row","others"] ["self","number","place"] (ao pO)=true:=by ac_rfl
theorem af6:CK ["self","number","place","row","others"] pO f44 o6 mG:=by ac_rfl
noncomputable def pP:Stmt:=SM 51 6
theorem af7:fnB ["self","number"] ["self","number"] (ao pP)=true:=by ac_rfl
theorem af8:CK ["self","number"] pP f44 o7 mH:=by ac_rfl
noncomputable def pQ:Stmt:=SM 51 5
theorem af9:fnB ["self","number","form","deed","width","rows"] ["self","number","form","deed"] (ao pQ)=true:=by ac_rfl
theorem aga:CK ["self","number","form","deed","width","rows"] pQ f44 o8 mJ:=by ac_rfl
noncomputable def pR:Stmt:=S 67
theorem agb:fnB ["sieve","word","pieces"] ["sieve","word","pieces"] (ao pR)=true:=by ac_rfl
theorem agc:CK ["sieve","word","pieces"] pR f44 o9 jM:=by ac_rfl
noncomputable def pU:Stmt:=S 70
theorem agd:fnB ["state","sieve","told","word","pieces"] ["state"] (ao pU)=true:=by ac_rfl
theorem age:CK ["state","sieve","told","word","pieces"] pU f45 o9 yF:=by ac_rfl
noncomputable def pW:Stmt:=S 71
theorem agf:fnB ["script","pen","states","sieves","turn","at","state","word","pieces","behind","told","found","other"] ["script"] (ao pW)=true:=by ac_rfl
theorem agg:CK ["script","pen","states","sieves","turn","at","state","word","pieces","behind","told","found","other"] pW f46 o9 yG:=by ac_rfl
theorem QM:(Str.ofString "0":Str)=tx [48]:=by ac_rfl
theorem agh:(Str.ofString "*":Str)=tx [42]:=by ac_rfl
theorem agi:FnScope ["form"] ["form"] (ao nY):=⟨rfl,rfl,rfl,by ac_rfl,rfl,by ac_rfl,by ac_rfl⟩
noncomputable def agj:Sp:=λvs H Q _=>∃l:List Nat,vs=[.str (tx l)]/\l.length<=1000/\Q (.str (tx (bj l))) H
theorem agk {P:Program} {w:World} {K:PF} {mg:Str->Option Value} {base:Heap} {f:Addr} {fd:FuncData} (F:Fun K "least" "least" nY f fd):FnOk P w K mg base CX0 1 f fd ["form"] agj:=by
 refine F.ok1 agi rfl (by ac_rfl) (λ_=>rfl) (λvs H Q E h=>?_) (λcdv A outer s H vs Q E hr h=>?_)
 ·obtain ⟨l,rfl,_⟩:=h;rfl
 ·obtain ⟨l,rfl,hl,q⟩:=h;refine ⟨_,X7 (Yb (pv 0) (by ac_rfl)),?_⟩;refine ⟨_,rfl,_,rfl,?_,?_⟩
  ·rw[QM,bN,bN];simp;omega
  ·rw[agh,QM,X8];exact q
theorem agl {P:Program} {w:World} {K:PF} {mg:Str->Option Value} {base:Heap} {f:Addr} {fd:FuncData} (F:Fun K "least" "least" nY f fd):FnOk P w K mg base CX0 1 f fd ["form"] (lift K 1 (aQ iT)):=by
 refine (agk F).imp λvs H Q E h=>?_;obtain ⟨e0,Fz,G,ds,r,t,⟨ds',G'⟩,⟨e1,e2⟩,e3,e4⟩:=h;cases e1;obtain ⟨d,hd⟩:=Option.isSome_iff_exists.mp e2;have hd2:=hd;unfold iT at hd;split at hd
 ·rename_i l;split at hd
  ·rename_i hl;cases hd;obtain ⟨v,rfl,rv⟩:=bw t;obtain ⟨rfl,_⟩:=rv;have hl':l.length<=1000:=of_decide_eq_true hl;exact ⟨l,rfl,hl',(e3 _ _ ⟨rfl,hd2⟩).now r ⟨rfl,by unfold bj;rw[List.length_map];exact Nat.le_trans hl' (by decide)⟩⟩
  ·cases hd
 ·cases hd
noncomputable def fdM(n:Str)(st:Stmt)(m:Str)(t c:Nat):FuncData:=PySem.W.fnOf n n (iZ st) (aG st) (ao st) .none .none .none (.str m t) none (.ref c) .none
theorem mkF {K:PF} {n m:Str} {st:Stmt} {a t c:Nat}(l:K.lookup a=some ⟨.type "function",none,.func (fdM n st m t c),⟨[]⟩⟩:=by rfl')(h1:PySem.W.codeIn K (.ref c) n=true:=by eq_refl)(h2:PySem.W.keepIn K (.ref a)=true:=by eq_refl):Fun K n n st a (fdM n st m t c):=Ce l h1 h2
theorem tK:type_of% @PySem.W.Fast.te538113369711794958:=PySem.W.Fast.te538113369711794958
local macro_rules|`(tactic|ac_nf)=>`(tactic|(intro _ _ _ _ _ _ us hl;first|(obtain ⟨_,h⟩:=bY hl;subst h;rfl)|(obtain ⟨_,_,h⟩:=bz hl;subst h;rfl)|(obtain ⟨_,_,_,h⟩:=dG hl;subst h;rfl)|(obtain ⟨_,_,_,_,h⟩:=Ni hl;subst h;rfl)))
local macro_rules|`(tactic|eq_refl)=>`(tactic|(first|rw[tK]|(unfold NQ;rw[tK]));rfl')
section
variable {P:Params}
noncomputable def fdQ(n q:Str)(st:Stmt)(m:Str)(t c:Nat):FuncData:=PySem.W.fnOf n q (iZ st) (aG st) (ao st) .none .none .none (.str m t) none (.ref c) .none
theorem mkQ {K:PF} {n q m:Str} {st:Stmt} {a t c:Nat}(l:K.lookup a=some ⟨.type "function",none,.func (fdQ n q st m t c),⟨[]⟩⟩:=by rfl')(h1:PySem.W.codeIn K (.ref c) q=true:=by eq_refl)(h2:PySem.W.keepIn K (.ref a)=true:=by eq_refl):Fun K n q st a (fdQ n q st m t c):=Ce l h1 h2
theorem fL:NQ P "Sieve" 378:=by eq_refl
theorem gk:Cls (HK.K P) 378:=⟨by eq_refl,by eq_refl,by eq_refl,by eq_refl⟩
theorem QQ:NoAttr (HK.K P) 378 (Str.ofString "books"):=by show PySem.W.findIn (HK.K P) (.ref 378) (Str.ofString "books")=some none;rw[tK];rfl'
noncomputable def QR:FuncData:=fdM "is_deed" nA "starsieve.books" 400 181
theorem QS:Fun (HK.K P) "is_deed" "is_deed" nA 182 QR:=mkF
theorem agm:NQ P "is_deed" 182:=by eq_refl
theorem lB:BQ P QR ["thing"]:=QS.binds (by ac_nf)
noncomputable def QT:FuncData:=fdM "is_text_of" nF "starsieve.forms" 319 136
theorem QV:Fun (HK.K P) "is_text_of" "is_text_of" nF 137 QT:=mkF
theorem agn:NQ P "is_text_of" 137:=by eq_refl
theorem lC:BQ P QT ["signs","width","thing"]:=QV.binds (by ac_nf)
noncomputable def QW:FuncData:=fdM "is_form" nG "starsieve.forms" 319 150
theorem QX:Fun (HK.K P) "is_form" "is_form" nG 151 QW:=mkF
theorem ago:NQ P "is_form" 151:=by eq_refl
theorem lE:BQ P QW ["width","thing"]:=QX.binds (by ac_nf)
noncomputable def QZ:FuncData:=fdM "is_row" nH "starsieve.books" 400 188
theorem Q0:Fun (HK.K P) "is_row" "is_row" nH 189 QZ:=mkF
theorem agp:NQ P "is_row" 189:=by eq_refl
theorem lF:BQ P QZ ["width","thing"]:=Q0.binds (by ac_nf)
noncomputable def Q3:FuncData:=fdM "is_whole" nJ "starsieve.forms" 319 117
theorem Q4:Fun (HK.K P) "is_whole" "is_whole" nJ 118 Q3:=mkF
theorem agq:NQ P "is_whole" 118:=by eq_refl
theorem lG:BQ P Q3 ["thing"]:=Q4.binds (by ac_nf)
noncomputable def Q5:FuncData:=fdM "is_width" nM "starsieve.forms" 319 124
theorem Q6:Fun (HK.K P) "is_width" "is_width" nM 125 Q5:=mkF
theorem agr:NQ P "is_width" 125:=by eq_refl
theorem lH:BQ P Q5 ["thing"]:=Q6.binds (by ac_nf)
noncomputable def Q7:FuncData:=fdM "is_book" nO "starsieve.books" 400 193
theorem Q8:Fun (HK.K P) "is_book" "is_book" nO 194 Q7:=mkF
theorem ags:NQ P "is_book" 194:=by eq_refl
theorem lJ:BQ P Q7 ["thing"]:=Q8.binds (by ac_nf)
noncomputable def Q9:FuncData:=fdM "need_book" nP "starsieve.books" 400 200
theorem Ra:Fun (HK.K P) "need_book" "need_book" nP 201 Q9:=mkF
theorem agt:NQ P "need_book" 201:=by eq_refl
theorem lK:BQ P Q9 ["book"]:=Ra.binds (by ac_nf)
noncomputable def Rb:FuncData:=fdM "both" nQ "starsieve.forms" 319 169
theorem Rc:Fun (HK.K P) "both" "both" nQ 170 Rb:=mkF
theorem agu:NQ P "both" 170:=by eq_refl
theorem lL:BQ P Rb ["form","other"]:=Rc.binds (by ac_nf)
noncomputable def Rf:FuncData:=fdM "first_touching" nR "starsieve.laid" 471 256
theorem Rg:Fun (HK.K P) "first_touching" "first_touching" nR 257 Rf:=mkF
theorem agv:NQ P "first_touching" 257:=by eq_refl
theorem lM:BQ P Rf ["rows","box"]:=Rg.binds (by ac_nf)
noncomputable def Rh:FuncData:=fdM "splitting_place" nT "starsieve.laid" 471 263
theorem Ri:Fun (HK.K P) "splitting_place" "splitting_place" nT 264 Rh:=mkF
theorem agw:NQ P "splitting_place" 264:=by eq_refl
theorem lN:BQ P Rh ["rows","box"]:=Ri.binds (by ac_nf)
noncomputable def Rj:FuncData:=fdM "with_sign" nU "starsieve.forms" 319 162
theorem Rk:Fun (HK.K P) "with_sign" "with_sign" nU 163 Rj:=mkF
theorem agx:NQ P "with_sign" 163:=by eq_refl
theorem lO:BQ P Rj ["form","at","sign"]:=Rk.binds (by ac_nf)
noncomputable def Af:FuncData:=fdM "grown" nW "starsieve.laid" 471 268
theorem uX:Fun (HK.K P) "grown" "grown" nW 269 Af:=mkF
theorem Rm:NQ P "grown" 269:=by eq_refl
theorem jK:BQ P Af ["name","many_rows","box"]:=uX.binds (by ac_nf)
noncomputable def Ro:FuncData:=fdM "least" nY "starsieve.forms" 319 176
theorem Ag:Fun (HK.K P) "least" "least" nY 177 Ro:=mkF
theorem agy:NQ P "least" 177:=by eq_refl
theorem agz:BQ P Ro ["form"]:=Ag.binds (by ac_nf)
noncomputable def Rp:FuncData:=fdM "is_named" nZ "starsieve.laid" 471 242
theorem Rq:Fun (HK.K P) "is_named" "is_named" nZ 243 Rp:=mkF
theorem agA:NQ P "is_named" 243:=by eq_refl
theorem lQ:BQ P Rp ["name","many","thing"]:=Rq.binds (by ac_nf)
noncomputable def Rt:FuncData:=fdM "is_place" oh "starsieve.forms" 319 131
theorem Ru:Fun (HK.K P) "is_place" "is_place" oh 132 Rt:=mkF
theorem agB:NQ P "is_place" 132:=by eq_refl
theorem lU:BQ P Rt ["many","thing"]:=Ru.binds (by ac_nf)
noncomputable def Ah:FuncData:=fdM "leaves" ou "starsieve.laid" 471 249
theorem uY:Fun (HK.K P) "leaves" "leaves" ou 250 Ah:=mkF
theorem Rv:NQ P "leaves" 250:=by eq_refl
theorem iG:BQ P Ah ["box","tree"]:=uY.binds (by ac_nf)
noncomputable def Rw:FuncData:=fdM "need_row" oA "starsieve.books" 400 214
theorem Rx:Fun (HK.K P) "need_row" "need_row" oA 215 Rw:=mkF
theorem agC:NQ P "need_row" 215:=by eq_refl
theorem lV:BQ P Rw ["book","number"]:=Rx.binds (by ac_nf)
noncomputable def Ry:FuncData:=fdM "reach" oE "starsieve.reached" 566 299
theorem Rz:Fun (HK.K P) "reach" "reach" oE 300 Ry:=mkF
theorem agD:NQ P "reach" 300:=by eq_refl
theorem lW:BQ P Ry ["book","number"]:=Rz.binds (by ac_nf)
noncomputable def RB:FuncData:=fdM "hidden" oF "starsieve.reached" 566 304
theorem RC:Fun (HK.K P) "hidden" "hidden" oF 305 RB:=mkF
theorem RD:NQ P "hidden" 305:=by eq_refl
theorem lX:BQ P RB ["book"]:=RC.binds (by ac_nf)
theorem agE:NQ P "hidden_reached" 305:=by eq_refl
noncomputable def RG:FuncData:=fdM "need_two_books" oG "starsieve.books" 400 207
theorem RJ:Fun (HK.K P) "need_two_books" "need_two_books" oG 208 RG:=mkF
theorem agF:NQ P "need_two_books" 208:=by eq_refl
theorem lY:BQ P RG ["one","other"]:=RJ.binds (by ac_nf)
noncomputable def RK:FuncData:=fdM "deed_of" oH "starsieve.books" 400 228
theorem RL:Fun (HK.K P) "deed_of" "deed_of" oH 229 RK:=mkF
theorem agG:NQ P "deed_of" 229:=by eq_refl
theorem jL:BQ P RK ["book","number"]:=RL.binds (by ac_nf)
noncomputable def RM:FuncData:=fdM "same_deeds" oJ "starsieve.alike" 527 275
theorem RN:Fun (HK.K P) "same_deeds" "same_deeds" oJ 276 RM:=mkF
theorem agH:NQ P "same_deeds" 276:=by eq_refl
theorem lZ:BQ P RM ["one","other","leaf"]:=RN.binds (by ac_nf)
noncomputable def RP:FuncData:=fdM "stars" oK "starsieve.laid" 471 235
theorem RQ:Fun (HK.K P) "stars" "stars" oK 236 RP:=mkF
theorem agI:NQ P "stars" 236:=by eq_refl
theorem mj:BQ P RP ["width"]:=RQ.binds (by ac_nf)
noncomputable def RT:FuncData:=fdM "alike" oM "starsieve.alike" 527 280
theorem RV:Fun (HK.K P) "alike" "alike" oM 281 RT:=mkF
theorem agJ:NQ P "alike" 281:=by eq_refl
theorem mq:BQ P RT ["one","other"]:=RV.binds (by ac_nf)
noncomputable def RW:FuncData:=fdM "parting_word" oN "starsieve.alike" 527 287
theorem RX:Fun (HK.K P) "parting_word" "parting_word" oN 288 RW:=mkF
theorem agK:NQ P "parting_word" 288:=by eq_refl
theorem my:BQ P RW ["one","other"]:=RX.binds (by ac_nf)
noncomputable def RZ:FuncData:=fdM "without" oO "starsieve.lean" 554 294
theorem R0:Fun (HK.K P) "without" "without" oO 295 RZ:=mkF
theorem agL:NQ P "without" 295:=by eq_refl
theorem mz:BQ P RZ ["book","number"]:=R0.binds (by ac_nf)
noncomputable def R1:FuncData:=fdM "_law_anew" oR LN 682 402
theorem R3:Fun (HK.K P) "_law_anew" "_law_anew" oR 403 R1:=mkF
theorem agM:NQ P "_law_anew" 403:=by eq_refl
theorem agN:BQ P R1 ["pen"]:=R3.binds (by ac_nf)
noncomputable def R4:FuncData:=fdM "_law_spread" oU LN 682 388
theorem R5:Fun (HK.K P) "_law_spread" "_law_spread" oU 389 R4:=mkF
theorem agO:NQ P "_law_spread" 389:=by eq_refl
theorem agP:BQ P R4 ["cell","at"]:=R5.binds (by ac_nf)
noncomputable def R6:FuncData:=fdM "_law_take" oV LN 682 409
theorem R7:Fun (HK.K P) "_law_take" "_law_take" oV 410 R6:=mkF
theorem agQ:NQ P "_law_take" 410:=by eq_refl
theorem agR:BQ P R6 ["pen","many"]:=R7.binds (by ac_nf)
noncomputable def R8:FuncData:=fdM "_law_signs" oW LN 682 414
theorem R9:Fun (HK.K P) "_law_signs" "_law_signs" oW 415 R8:=mkF
theorem agS:NQ P "_law_signs" 415:=by eq_refl
theorem agT:BQ P R8 ["pen","width","signs"]:=R9.binds (by ac_nf)
noncomputable def Sd:FuncData:=fdM "_law_deeds_of" oX LN 682 447
theorem Sg:Fun (HK.K P) "_law_deeds_of" "_law_deeds_of" oX 448 Sd:=mkF
theorem agU:NQ P "_law_deeds_of" 448:=by eq_refl
theorem agV:BQ P Sd ["pen","most"]:=Sg.binds (by ac_nf)
noncomputable def Sh:FuncData:=fdM "_law_form" oY LN 682 421
theorem Sq:Fun (HK.K P) "_law_form" "_law_form" oY 422 Sh:=mkF
theorem agW:NQ P "_law_form" 422:=by eq_refl
theorem agX:BQ P Sh ["pen","width"]:=Sq.binds (by ac_nf)
noncomputable def Ss:FuncData:=fdM "_law_wider" oZ LN 682 435
theorem Su:Fun (HK.K P) "_law_wider" "_law_wider" oZ 436 Ss:=mkF
theorem agY:NQ P "_law_wider" 436:=by eq_refl
theorem agZ:BQ P Ss ["pen","form"]:=Su.binds (by ac_nf)
noncomputable def Sw:FuncData:=fdM "_law_within" ph LN 682 428
theorem Sy:Fun (HK.K P) "_law_within" "_law_within" ph 429 Sw:=mkF
theorem ag0:NQ P "_law_within" 429:=by eq_refl
theorem ag1:BQ P Sw ["pen","form"]:=Sy.binds (by ac_nf)
noncomputable def SJ:FuncData:=fdM "_law_form_like" pq LN 682 442
theorem SN:Fun (HK.K P) "_law_form_like" "_law_form_like" pq 443 SJ:=mkF
theorem ag2:NQ P "_law_form_like" 443:=by eq_refl
theorem ag3:BQ P SJ ["pen","width","forms"]:=SN.binds (by ac_nf)
noncomputable def SQ:FuncData:=fdM "_law_forms" pA LN 682 464
theorem SX:Fun (HK.K P) "_law_forms" "_law_forms" pA 465 SQ:=mkF
theorem ag4:NQ P "_law_forms" 465:=by eq_refl
theorem ag5:BQ P SQ ["rows"]:=SX.binds (by ac_nf)
noncomputable def S5:FuncData:=fdM "_law_drawn_change" pB LN 682 471
theorem S6:Fun (HK.K P) "_law_drawn_change" "_law_drawn_change" pB 472 S5:=mkF
theorem ag6:NQ P "_law_drawn_change" 472:=by eq_refl
theorem ag7:BQ P S5 ["pen","width","rows","elder"]:=S6.binds (by ac_nf)
noncomputable def S7:FuncData:=fdM "_law_elder" pC LN 682 485
theorem S8:Fun (HK.K P) "_law_elder" "_law_elder" pC 486 S7:=mkF
theorem ag8:NQ P "_law_elder" 486:=by eq_refl
theorem ag9:BQ P S7 ["elder","word","rows"]:=S8.binds (by ac_nf)
noncomputable def S9:FuncData:=fdM "_law_open" pF LN 682 395
theorem Tc:Fun (HK.K P) "_law_open" "_law_open" pF 396 S9:=mkF
theorem aha:NQ P "_law_open" 396:=by eq_refl
theorem ahb:BQ P S9 ["script"]:=Tc.binds (by ac_nf)
noncomputable def Ai:FuncData:=fdM "_law_same" pG LN 682 459
theorem uZ:Fun (HK.K P) "_law_same" "_law_same" pG 460 Ai:=mkF
theorem Td:NQ P "_law_same" 460:=by eq_refl
theorem Te:BQ P Ai ["found","due"]:=uZ.binds (by ac_nf)
noncomputable def Tf:FuncData:=fdM "_law_book" pH LN 682 454
theorem Th:Fun (HK.K P) "_law_book" "_law_book" pH 455 Tf:=mkF
theorem ahc:NQ P "_law_book" 455:=by eq_refl
theorem ahd:BQ P Tf ["pen","widest","most"]:=Th.binds (by ac_nf)
noncomputable def Ti:FuncData:=fdM "_law_states" pI LN 682 490
theorem Tj:Fun (HK.K P) "_law_states" "_law_states" pI 491 Ti:=mkF
theorem ahe:NQ P "_law_states" 491:=by eq_refl
theorem ahf:BQ P Ti ["pen"]:=Tj.binds (by ac_nf)
noncomputable def Tn:FuncData:=fdQ "__init__" "Sieve.__init__" pJ "starsieve.sieve" 581 318
theorem Tp:Fun (HK.K P) "__init__" "Sieve.__init__" pJ 319 Tn:=mkQ
theorem ahg:Mk (HK.K P) 378 319:=⟨by eq_refl,by eq_refl,by eq_refl,by eq_refl⟩
theorem ahh:BQ P Tn ["self","book"]:=Tp.binds (by ac_nf)
noncomputable def Tq:FuncData:=fdQ "book" "Sieve.book" pK "starsieve.sieve" 581 325
theorem Tt:Fun (HK.K P) "book" "Sieve.book" pK 326 Tq:=mkQ
theorem ahi:Meth (HK.K P) 378 (Str.ofString "book") 326:=⟨by eq_refl,by eq_refl,by eq_refl⟩
theorem mC:BQ P Tq ["self"]:=Tt.binds (by ac_nf)
noncomputable def Tu:FuncData:=fdQ "hidden" "Sieve.hidden" pL "starsieve.sieve" 581 339
theorem Tv:Fun (HK.K P) "hidden" "Sieve.hidden" pL 340 Tu:=mkQ
theorem ahj:Meth (HK.K P) 378 (Str.ofString "hidden") 340:=⟨by eq_refl,by eq_refl,by eq_refl⟩
theorem ahk:BQ P Tu ["self"]:=Tv.binds (by ac_nf)
noncomputable def Tw:FuncData:=fdQ "back" "Sieve.back" pM "starsieve.sieve" 581 374
theorem Tz:Fun (HK.K P) "back" "Sieve.back" pM 375 Tw:=mkQ
theorem ahl:Meth (HK.K P) 378 (Str.ofString "back") 375:=⟨by eq_refl,by eq_refl,by eq_refl⟩
theorem mD:BQ P Tw ["self"]:=Tz.binds (by ac_nf)
noncomputable def TF:FuncData:=fdQ "turn" "Sieve.turn" pN "starsieve.sieve" 581 346
theorem TQ:Fun (HK.K P) "turn" "Sieve.turn" pN 347 TF:=mkQ
theorem ahm:Meth (HK.K P) 378 (Str.ofString "turn") 347:=⟨by eq_refl,by eq_refl,by eq_refl⟩
theorem mF:BQ P TF ["self","rows"]:=TQ.binds (by ac_nf)
noncomputable def TV:FuncData:=fdQ "move" "Sieve.move" pO "starsieve.sieve" 581 367
theorem TX:Fun (HK.K P) "move" "Sieve.move" pO 368 TV:=mkQ
theorem ahn:Meth (HK.K P) 378 (Str.ofString "move") 368:=⟨by eq_refl,by eq_refl,by eq_refl⟩
theorem mG:BQ P TV ["self","number","place"]:=TX.binds (by ac_nf)
noncomputable def TY:FuncData:=fdQ "out" "Sieve.out" pP "starsieve.sieve" 581 360
theorem T3:Fun (HK.K P) "out" "Sieve.out" pP 361 TY:=mkQ
theorem aho:Meth (HK.K P) 378 (Str.ofString "out") 361:=⟨by eq_refl,by eq_refl,by eq_refl⟩
theorem mH:BQ P TY ["self","number"]:=T3.binds (by ac_nf)
noncomputable def T4:FuncData:=fdQ "put" "Sieve.put" pQ "starsieve.sieve" 581 353
theorem T5:Fun (HK.K P) "put" "Sieve.put" pQ 354 T4:=mkQ
theorem ahp:Meth (HK.K P) 378 (Str.ofString "put") 354:=⟨by eq_refl,by eq_refl,by eq_refl⟩
theorem mJ:BQ P T4 ["self","number","form","deed"]:=T5.binds (by ac_nf)
noncomputable def T6:FuncData:=fdM "_law_do" pR LN 682 478
theorem T7:Fun (HK.K P) "_law_do" "_law_do" pR 479 T6:=mkF
theorem ahq:NQ P "_law_do" 479:=by eq_refl
theorem ahr:BQ P T6 ["sieve","word","pieces"]:=T7.binds (by ac_nf)
noncomputable def T8:FuncData:=fdM "_law_alone" pU LN 682 497
theorem T9:Fun (HK.K P) "_law_alone" "_law_alone" pU 498 T8:=mkF
theorem ahs:NQ P "_law_alone" 498:=by eq_refl
theorem aht:BQ P T8 ["state"]:=T9.binds (by ac_nf)
noncomputable def Aj:FuncData:=fdM "law" pW LN 682 502
theorem ahu:Fun (HK.K P) "law" "law" pW 503 Aj:=mkF
theorem ahv:NQ P "law" 503:=by eq_refl
theorem ahw:PySem.W.nsIn (HK.K P) mainGlobals "all"=some none:=by eq_refl
theorem ahx:PySem.W.nsIn (HK.K P) mainGlobals "bool"=some none:=by eq_refl
theorem ahy:PySem.W.nsIn (HK.K P) mainGlobals "enumerate"=some none:=by eq_refl
theorem ahz:PySem.W.nsIn (HK.K P) mainGlobals "int"=some none:=by eq_refl
theorem ahA:PySem.W.nsIn (HK.K P) mainGlobals "isinstance"=some none:=by eq_refl
theorem ahB:PySem.W.nsIn (HK.K P) mainGlobals "len"=some none:=by eq_refl
theorem ahC:PySem.W.nsIn (HK.K P) mainGlobals "list"=some none:=by eq_refl
theorem ahD:PySem.W.nsIn (HK.K P) mainGlobals "min"=some none:=by eq_refl
theorem ahE:PySem.W.nsIn (HK.K P) mainGlobals "range"=some none:=by eq_refl
theorem ahF:PySem.W.nsIn (HK.K P) mainGlobals "str"=some none:=by eq_refl
theorem ahG:PySem.W.nsIn (HK.K P) mainGlobals "tuple"=some none:=by eq_refl
theorem ahH:PySem.W.nsIn (HK.K P) mainGlobals "zip"=some none:=by eq_refl
theorem ahI:PySem.W.nsIn (HK.K P) mainGlobals "LETTERS"=some (some (.str "abcdefghijklmnopqrstuvwxyz" 406)):=by eq_refl
theorem ahJ:PySem.W.nsIn (HK.K P) mainGlobals "LONGEST_DEED"=some (some (.int 8 404)):=by eq_refl
theorem ahK:PySem.W.nsIn (HK.K P) mainGlobals "MOST_ROWS"=some (some (.int 12 402)):=by eq_refl
theorem ahL:PySem.W.nsIn (HK.K P) mainGlobals "WIDEST"=some (some (.int 6 321)):=by eq_refl
theorem x_s:xsB (HK.K P) xs=true:=by eq_refl
end
section
variable {l:PySem.W.OpenLaw} {w:World} {h:Heap} {mg:Str->Option Value} {base:Heap} (X:(HK.K w.params).In h) (G:h.Ns mainGlobals mg)
include X G
theorem B0:BB l w mg base 0 f0 o0:=bse trivial ⟨mg_none_of X G ahw,mg_none_of X G ahx,mg_none_of X G ahy,mg_none_of X G ahz,mg_none_of X G ahA,mg_none_of X G ahB,mg_none_of X G ahC,mg_none_of X G ahD,mg_none_of X G ahE,mg_none_of X G ahF,mg_none_of X G ahG,mg_none_of X G ahH,trivial⟩ ⟨acn (mg_of X G ahI) (by ac_rfl) (by decide),yg (mg_of X G ahJ),yg (mg_of X G ahK),yg (mg_of X G ahL),trivial⟩ X G x_s
theorem B1:BB l w mg base 1 f1 o0:=(B0 X G).step QS lB (mg_of X G agm) zQ 0 aey aez rfl rfl (cR (λa G h=>acW Φ  a G h))
theorem B2:BB l w mg base 2 f2 o0:=(B1 X G).step QV lC (mg_of X G agn) Qd 0 aeA aeB rfl rfl (cR (λa G h=>acU Φ  a G h))
theorem B3:BB l w mg base 3 f3 o0:=(B2 X G).step QX lE (mg_of X G ago) zR 0 aeC aeD rfl rfl (cR (λa G h=>acV Φ Qd a G h))
theorem B4:BB l w mg base 4 f4 o0:=(B3 X G).step Q0 lF (mg_of X G agp) Qe 0 aeE aeF rfl rfl (cR (λa G h=>acX Φ zR zQ a G h))
theorem B5:BB l w mg base 5 f5 o0:=(B4 X G).step Q4 lG (mg_of X G agq) zT 0 aeG aeH rfl rfl (jF (λds G d h=>acD Φ  ds G d h))
theorem B6:BB l w mg base 6 f6 o0:=(B5 X G).step Q6 lH (mg_of X G agr) Qf 0 aeI aeJ rfl rfl (cR (λa G h=>acY Φ zT a G h))
theorem B7:BB l w mg base 7 f7 o0:=(B6 X G).step Q8 lJ (mg_of X G ags) Qg 2 aeK aeL rfl rfl (cR (λa G h=>acZ Φ Qf Qe a G h))
theorem B8:BB l w mg base 8 f8 o0:=(B7 X G).step Ra lK (mg_of X G agt) nu 0 aeM aeN rfl rfl (cR (λa G h=>ac0 Φ Qg a G h))
theorem B9:BB l w mg base 9 f9 o0:=(B8 X G).step Rc lL (mg_of X G agu) Qh 3 aeO aeP rfl rfl (jF (λds G d h=>ac7 Φ  ds G d h))
theorem B10:BB l w mg base 10 f10 o0:=(B9 X G).step Rg lM (mg_of X G agv) zU 2 aeQ aeR rfl rfl (bW (λds G h=>adf Φ Qh ds G h))
theorem B11:BB l w mg base 11 f11 o0:=(B10 X G).step Ri lN (mg_of X G agw) Qi 3 aeS aeT rfl rfl (bW (λds G h=>adi Φ zU ds G h))
theorem B12:BB l w mg base 12 f12 o0:=(B11 X G).step Rk lO (mg_of X G agx) zV 0 aeU aeV rfl rfl (jF (λds G d h=>ac9 Φ  ds G d h))
theorem Ua:∀n:Nat,FnOk l.prog w (HK.K w.params) mg base (CX1 l.prog w) (12+n) 269 Af ["name","many_rows","box"] (lift (HK.K w.params) 3 (eE n))
 |0=>yh adq
 |n+1=>jE (fs:=f13) uX ((B12 X G).self (by ac_rfl) (Ua n) uX.kp jK (mg_of X G Rm)) (eE (n+1)) 3 4 aeW aeX rfl rfl (bW (λds G h=>adp (gM Φ "grown" (eE n)) n (if_pos rfl) (jJ zU rfl) (jJ Qi rfl) (jJ zV rfl) ds G h))
theorem B13:BB l w mg base 21 f13 o0:=(B12 X G).add (j:=9) zW (Ua X G 9) uX.kp jK (mg_of X G Rm)
theorem B14:BB l w mg base 22 f14 o0:=(B13 X G).add (j:=1) zX ((agl Ag).cx.mono (by decide)) Ag.kp agz (mg_of X G agy)
theorem B15:BB l w mg base 23 f15 o0:=(B14 X G).step Rq lQ (mg_of X G agA) Qj 0 aeY aeZ rfl rfl (jF (λds G d h=>adw Φ  ds G d h))
theorem B16:BB l w mg base 24 f16 o0:=(B15 X G).step Ru lU (mg_of X G agB) uU 0 ae0 ae1 rfl rfl (jF (λds G d h=>adu Φ zT ds G d h))
theorem Ub:∀n:Nat,FnOk l.prog w (HK.K w.params) mg base (CX1 l.prog w) (24+n) 250 Ah ["box","tree"] (lift (HK.K w.params) 2 (dI n))
 |0=>yh adz
 |n+1=>jE (fs:=f17) uY ((B16 X G).self (by ac_rfl) (Ub n) uY.kp iG (mg_of X G Rv)) (dI (n+1)) 2 3 ae2 ae3 rfl rfl (cR (λa G h=>adB (gM Φ "leaves" (dI n)) n (if_pos rfl) (jJ Qj rfl) (jJ uU rfl) (jJ zV rfl) a G h))
theorem B17:BB l w mg base 33 f17 o0:=(B16 X G).add (j:=9) zY (Ub X G 9) uY.kp iG (mg_of X G Rv)
theorem B18:BB l w mg base 34 f18 o0:=(B17 X G).step Rx lV (mg_of X G agC) uV 0 ae4 ae5 rfl rfl (cR (λa G h=>adH Φ nu uU a G h))
theorem B19:BB l w mg base 35 f19 o0:=(B18 X G).step Rz lW (mg_of X G agD) Qk 4 ae6 ae7 rfl rfl (cQ (λa ds G h=>adK Φ uV zW zY zX a ds G h))
theorem B20:BB l w mg base 36 f20 o0:=(B19 X G).step RC lX (mg_of X G RD) Ql 0 ae8 ae9 rfl rfl (cQ (λa ds G h=>adO Φ nu Qk a ds G h))
theorem B21:BB l w mg base 37 f21 o0:=(B20 X G).alias (x:="hidden") (by ac_rfl) (Qm.trans Ql.symm) ((mg_of X G agE).trans (mg_of X G RD).symm)
theorem B22:BB l w mg base 38 f22 o0:=(B21 X G).step RJ lY (mg_of X G agF) Qn 0 afa afb rfl rfl (cR (λa G h=>adR Φ nu a G h))
theorem B23:BB l w mg base 39 f23 o0:=(B22 X G).step RL jL (mg_of X G agG) Qo 0 afc afd rfl rfl (bW (λds G h=>ac2 Φ  ds G h))
theorem B24:BB l w mg base 40 f24 o0:=(B23 X G).step RN lZ (mg_of X G agH) Qp 0 afe afg rfl rfl (cR (λa G h=>adT Φ Qo a G h))
theorem B25:BB l w mg base 41 f25 o0:=(B24 X G).step RQ mj (mg_of X G agI) Qq 0 afh afi rfl rfl (jF (λds G d h=>ada Φ  ds G d h))
theorem B26:BB l w mg base 42 f26 o0:=(B25 X G).step RV mq (mg_of X G agJ) Qs 3 afj afk rfl rfl (cQ (λa ds G h=>adV Φ Qn zW zY zX Qq Qp a ds G h))
theorem B27:BB l w mg base 43 f27 o0:=(B26 X G).step RX my (mg_of X G agK) zZ 2 afl afm rfl rfl (cR (λa G h=>adW Φ Qs a G h))
theorem B28:BB l w mg base 44 f28 o0:=(B27 X G).step R0 mz (mg_of X G agL) z6 2 afn afo rfl rfl (cR (λa G h=>adX Φ uV a G h))
theorem B29:BB l w mg base 45 f29 o0:=(B28 X G).step R3 agN (mg_of X G agM) z7 0 afp afq rfl rfl (bW (λds G h=>acw Φ  ds G h))
theorem B30:BB l w mg base 46 f30 o0:=(B29 X G).step R5 agP (mg_of X G agO) Qt 3 afr afs rfl rfl (bW (λds G h=>acv Φ  ds G h))
theorem B31:BB l w mg base 47 f31 o0:=(B30 X G).step R7 agR (mg_of X G agQ) eU 3 aft afu rfl rfl (bW (λds G h=>acx Φ Qt ds G h))
theorem B32:BB l w mg base 48 f32 o0:=(B31 X G).step R9 agT (mg_of X G agS) z8 0 afv afw rfl rfl (bW (λds G h=>acA Φ eU ds G h))
theorem B33:BB l w mg base 49 f33 o0:=(B32 X G).step Sg agV (mg_of X G agU) z9 4 afx afy rfl rfl (bW (λds G h=>acO Φ eU z8 ds G h))
theorem B34:BB l w mg base 50 f34 o0:=(B33 X G).step Sq agX (mg_of X G agW) Qu 0 afz afA rfl rfl (bW (λds G h=>acB Φ eU z8 ds G h))
theorem B35:BB l w mg base 51 f35 o0:=(B34 X G).step Su agZ (mg_of X G agY) Qv 2 afB afC rfl rfl (bW (λds G h=>acH Φ eU ds G h))
theorem B36:BB l w mg base 52 f36 o0:=(B35 X G).step Sy ag1 (mg_of X G ag0) Qw 2 afD afE rfl rfl (bW (λds G h=>acG Φ eU ds G h))
theorem B37:BB l w mg base 53 f37 o0:=(B36 X G).step SN ag3 (mg_of X G ag2) Aa 3 afF afG rfl rfl (bW (λds G h=>acL Φ eU Qu Qw Qv ds G h))
theorem B38:BB l w mg base 54 f38 o0:=(B37 X G).step SX ag5 (mg_of X G ag4) Qx 0 afH afI rfl rfl (cR (λa G h=>ad8 Φ  a G h))
theorem B39:BB l w mg base 55 f39 o0:=(B38 X G).step S6 ag7 (mg_of X G ag6) Qy 6 afJ afK rfl rfl (cQ (λa ds G h=>aea Φ eU Aa Qx z9 a ds G h))
theorem B40:BB l w mg base 56 f40 o0:=(B39 X G).step S8 ag9 (mg_of X G ag8) Qz 0 afL afM rfl rfl (cR (λa G h=>aei Φ  a G h))
theorem B41:BB l w mg base 57 f41 o0:=(B40 X G).step Tc ahb (mg_of X G aha) QB 3 afN afO rfl rfl (bW (λds G h=>acC Φ  ds G h))
theorem Uc:∀n:Nat,FnOk l.prog w (HK.K w.params) mg base (CX1 l.prog w) (57+n) 460 Ai ["found","due"] (lift (HK.K w.params) 2 (eQ n))
 |0=>yh ael
 |n+1=>jE (fs:=f42) uZ ((B41 X G).self (by ac_rfl) (Uc n) uZ.kp Te (mg_of X G Td)) (eQ (n+1)) 2 0 afP afQ rfl rfl (bW (λds G h=>aek (gM Φ "_law_same" (eQ n)) n (if_pos rfl) ds G h))
theorem B42:BB l w mg base 62 f42 o0:=(B41 X G).add (j:=5) QC (Uc X G 5) uZ.kp Te (mg_of X G Td)
theorem B43:BB l w mg base 63 f43 o0:=(B42 X G).step Th ahd (mg_of X G ahc) QD 5 afR afS rfl rfl (bW (λds G h=>acP Φ eU z9 Aa ds G h))
theorem B44:BB l w mg base 64 f44 o0:=(B43 X G).step Tj ahf (mg_of X G ahe) QF 1 afT afU rfl rfl (cQ (λa ds G h=>aeq Φ QD z7 eU a ds G h))
theorem BF:BB l w mg base 64 f44 o1:=(B44 X G).addF ⟨378,fL,gk,QQ⟩
theorem B45:BB l w mg base 66 f44 o2:=(BF X G).addK (j:=2) (acu (BF X G) Tp ahh (mg_of X G fL) fL gk QQ ahg afV afW rfl rfl (λd G kk E h=>ad6 Φ nu Ab d G kk E h))
theorem B46:BB l w mg base 67 f44 o3:=(B45 X G).stepM0 Tt mC fL gk ahi gj 0 afX afY rfl rfl (cQ (λa ds G h=>adY Φ  a ds G h))
theorem B47:BB l w mg base 68 f44 o4:=(B46 X G).stepM0 Tv ahk fL gk ahj Ac 0 afZ af0 rfl rfl (cQ (λa ds G h=>aen Φ gj Qm a ds G h))
theorem B48:BB l w mg base 69 f44 o5:=(B47 X G).stepM0 Tz mD fL gk ahl QG 1 af1 af2 rfl rfl (cQ (λa ds G h=>ad5 Φ gj zZ a ds G h))
theorem B49:BB l w mg base 70 f44 o6:=(B48 X G).stepM0 TQ mF fL gk ahm uW 1 af3 af4 rfl rfl (cQ (λa ds G h=>ad1 Φ gj zZ a ds G h))
theorem B50:BB l w mg base 71 f44 o7:=(B49 X G).stepM0 TX mG fL gk ahn QH 2 af5 af6 rfl rfl (cQ (λa ds G h=>ad4 Φ gj uW z6 uV a ds G h))
theorem B51:BB l w mg base 72 f44 o8:=(B50 X G).stepM0 T3 mH fL gk aho QJ 0 af7 af8 rfl rfl (cQ (λa ds G h=>ad3 Φ gj uW z6 a ds G h))
theorem B52:BB l w mg base 73 f44 o9:=(B51 X G).stepM0 T5 mJ fL gk ahp QK 2 af9 aga rfl rfl (cQ (λa ds G h=>ad2 Φ gj uW uU zR zQ a ds G h))
theorem B53:BB l w mg base 74 f45 o9:=(B52 X G).step T7 ahr (mg_of X G ahq) Ae 0 agb agc rfl rfl (cQ (λa ds G h=>aef Φ QK QJ QH QG a ds G h))
theorem B54:BB l w mg base 75 f46 o9:=(B53 X G).step T9 aht (mg_of X G ahs) QL 4 agd age rfl rfl (cQ (λa ds G h=>aep Φ Ab Ae gj Ac a ds G h))
theorem ahM:FnOk l.prog w (HK.K w.params) mg base (CX1 l.prog w) 76 503 Aj ["script"] (lift (HK.K w.params) 1 (mO)):=jE ahu (B54 X G) (mO) 1 12 agf agg rfl rfl (bW (λds G h=>aer Φ ⟨QB,z7,eU,QF,Ab,Qy,Ae,Qz,gj,Ac,QC,QL⟩ ds G h))
omit X G in
theorem all (fa:Addr) (X:(HK.K w.params).In h) (G:h.Ns mainGlobals mg) (hfa:mg "law"=some (.ref fa)):∃fd:FuncData,(∀(s:Shared) (v:Value),BindsTo s fd ⟨[v],[]⟩ [("script",v)])/\∀base:Heap,(HK.K w.params).In base->base.Ns mainGlobals mg->FnOk l.prog w (HK.K w.params) mg base (CX1 l.prog w) 76 fa fd ["script"] (lift (HK.K w.params) 1 (mO)):=by have e:=hfa.symm.trans (PySem.W.mg_of X G ahv);cases e;exact ⟨Aj,λs v=>.of_eq rfl,λbase _ _=>ahM X G⟩
end
theorem walk {l:PySem.W.OpenLaw} {q:Program} {loose:List Str} {XP:(Str->Option Value)->Heap->Prop} {d:DefRec} (hn:l.most=some 63) (hdf:d.params.defaults=[]) (hdn:d.name="law"):
  PySem.W.WalkO q loose XP HK.hook.says l.row.toRowW d [] (λf vs=>PySem.call f vs):=
 L2.XH (n:=63) (k:=76) (x:="script") (K:=HK.K) (CX:=λw=>CX1 l.prog w) (sp:=λw=>lift (HK.K w.params) 1 (mO)) hn (by decide) hdf ⟨rfl,by decide,by decide⟩ (λ_ _ Y=>Y) (λw mg fa h X G hmg=>all fa X G (hdn ▸ hmg)) (λw H a ns hl hO hS=>aco (acp λns _ hl=>⟨ns,rfl,hl⟩) (HK.K w.params) H a ns hl hO hS) λ_ _ _ _ _ z=>acb z
end Lk63
open PySem PySem.W PyProof.Rows
set_option maxHeartbeats 0 in
theorem PySem.Challenge.cw_starsieve_k63_two_sieves_by_turns_holds : PySem.Challenge.rw_starsieve_k63_two_sieves_by_turns.Holds := by
 have said:PySem.Challenge.rw_starsieve_k63_two_sieves_by_turns.row.wellSaid=true:=by ac_rfl
 refine ⟨by ac_rfl,?_⟩;refine PySem.W.holds_open (q:=HK.qv) (loose:=["hidden_reached"]) (Xt:=HK.Xt) (XP:=XL HK.qv []) (Yf:=HK.hook.obs) (Ya:=HK.hook.val) (YP:=HK.hook.says) (N:=12000) HK.left HK.hook.of HK.hook.keeps
  (λs e=>xl_of s (Bool.and_eq_true_iff.mp e).1) XL.keeps (by rfl) (by rfl) (by rfl) (λs e=>recFacts_of (Bool.and_eq_true_iff.mp e).2) (by rfl) (by assumption) (by ac_rfl) ⟨rfl,rfl,rfl,rfl,rfl,by ac_rfl⟩ ?hw ?hc
 case hw=>exact ⟨[.list []],by ac_rfl,by ac_rfl⟩
 exact Lk63.walk rfl rfl rfl
