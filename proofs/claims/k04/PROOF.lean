import PyProof.Rows.All
import Wide.All
import OpenK.AllK
import Wide.FinOn
import Lean
import PyProof.EqAt
import PyProof.EqKinds
import PyProof.TupleCall
import PyProof.NeKinds
import PyProof.FactsAll.range_2
import PyProof.FactsAll.tuple_2
import PyProof.FactsAll.tuple
import PyProof.ListRange
import PyProof.ExcInit
import PySem.Challenge.RW_starsieve_k04_forms_joined
set_option compiler.extract_closed false
set_option bootstrap.genMatcherCode false
set_option genSizeOf false
set_option Elab.async false
set_option maxRecDepth 100000
noncomputable section
local macro_rules|`(tactic|rfl')=>`(tactic|kernel_rfl)
local macro_rules|`(tactic|ac_rfl)=>`(tactic|decide +kernel)
abbrev PF:=PySem.W.Frag
set_option linter.all false
namespace L2
open PySem PySem.Spec PyProof.Rows
def ae:=@PySem.wpAny_bind
def af:=@Bool.and_eq_true
def ag:=@And.intro
def ah:=@PySem.Heap.get?_push_of_some
def al:=@PyProof.Rows.wpS_bind
def am:=@PySem.wpAny_pure
def ap:=@PyProof.Rows.wpS_pure
def av:=@Nat.le_refl
def aw:=@List.size_toArray
def ax:=@List.length_map
def ay:=@PySem.Heap.lt_size
def aE:=@beq_iff_eq
def aI:=@PySem.Heap.get?_push_size
def aS:=@List.mem_append_right
def aT:=@List.mem_cons_self
def a7:=@List.getElem?_eq_some_iff
def a8:=@List.mem_singleton
def a9:=@List.getElem?_eq_getElem
def ba:=@Option.some.injEq
def bb:=@List.mem_cons
def bd:=@List.length_append
def bg:=@List.append_assoc
theorem bn:type_of% @Array.length_toList:=@Array.length_toList
def bo:=@List.mem_cons_of_mem
def bp:=@Nat.lt_of_lt_of_le
def bq:=@List.contains_iff_mem
def br:=@Bool.false_ne_true
def bv:=@List.mem_of_getElem?
def bP:=@Option.some.inj
def bS:=@Option.map_eq_some_iff
def bX:=@Array.toList_append
def b6:=@Nat.ne_of_lt
def b9:=@PySem.Heap.SameBut.update
def cb:=@PySem.Heap.size_push
def ce:=@List.getElem?_map
def cf:=@List.mem_append
def ci:=@List.all_eq_true
def ck:=@decide_eq_true_iff
def cm:=@List.drop_eq_getElem_cons
theorem cp:type_of% @List.replicate_succ:=@List.replicate_succ
def cq:=@PySem.wpAny_holding
def cr:=@PySem.wpAny_mono
def cw:=@Nat.le_trans
def cx:=@List.perm_append_comm
def cy:=@List.mem_map
def cK:=@List.length_eq_zero_iff
def cS:=@decide_eq_false
theorem c6:type_of% @List.length_cons:=@List.length_cons
def c8:=@Option.isSome_iff_exists
def c9:=@List.length_take
def de:=@PyProof.Rows.wpS_forRange
def df:=@Bool.or_eq_true
def dn:=@List.getElem?_eq_none
def dr:=@Int.eq_ofNat_of_zero_le
def dv:=@Array.toList_extract
def dy:=@List.map_cons
def dA:=@List.length_drop
def dE:=@Nat.lt_succ_of_lt
def dL:=@Nat.lt_irrefl
def dP:=@PySem.W.kia_one
def dQ:=@PySem.wpAny_field
def dS:=@PySem.sizeLine_eq
def d6:=@congrArg
def eh:=@Nat.le_succ
def er:=@Nat.le_add_right
def et:=@PySem.wpAny_rule
def eA:=@PySem.wpAny_call_entry
def eI:=@List.take_of_length_le
def eJ:=@List.map_map
def eK:=@List.getElem?_set_self
def eL:=@List.getD_eq_getElem?_getD
def eM:=@List.drop_eq_nil_of_le
def eP:=@List.Perm.refl
def eR:=@PySem.mem_of_lookup
def eS:=@List.nodup_cons
def eT:=@PySem.wpAny_seqItems
def eW:=@Array.getElem?_toList
def e8:=@PySem.F.called_set
def e9:=@List.not_mem_nil
def fb:=@Nat.ne_of_gt
def fe:=@decide_eq_true
def ff:=@List.mem_append_left
def fg:=@List.getElem?_set_ne
def fh:=@PySem.F.plainAttrs_list
def fm:=@List.take_add_one
def fo:=@List.dropLast_concat_getLast
theorem fq:type_of% @List.extract_eq_take_drop:=@List.extract_eq_take_drop
def fv:=@PySem.wpAny_truthy_bool
def fw:=@PySem.wpAny_setState_of
def fx:=@PySem.wpAny_newObj_type
def fy:=@PySem.wpAny_callSpecial?_slot
def fA:=@List.take_append_drop
def fE:=@List.getElem?_append_left
def fF:=@Array.getElem?_eq_getElem
def fN:=@List.Perm.of_eq
def fR:=@PySem.wpAny_setField_rec
def fS:=@Nat.zero_le
def fT:=@Array.toList_push
def gc:=@PySem.Heap.get?_update_self
def gd:=@PyProof.Rows.slot_tuple_getitem
def ge:=@beq_eq_false_iff_ne
def gl:=@Nat.lt_succ_self
def gp:=@PyProof.Rows.wpS_modify
def gs:=@Bool.false_eq_true
def gt:=@PySem.wpAny_setField
def gu:=@Bool.eq_iff_iff
def gx:=@bne_self_eq_false
def gy:=@PyProof.Rows.callWith_type1
theorem gz:type_of% @List.flatten_cons:=@List.flatten_cons
def gE:=@Bool.not_eq_true'
def gI:=@List.take_length
def gL:=@List.map_nil
def gN:=@PyProof.Rows.F.plain_set_update_loop
def gS:=@Nat.add_sub_cancel'
def gT:=@List.map_congr_left
def gV:=@PySem.call_meets
def gX:=@PySem.F.slot_tuple_iterator_next
def g0:=@PySem.Around.under_plainId
def g6:=@List.append_nil
def g7:=@List.Perm.trans
def g9:=@Int.emod_nonneg
def hJ:=@Int.emod_lt_of_pos
def hV:=@PySem.wpAny_standAt
def hW:=@List.length_range
def hX:=@Bool.and_false
def hZ:=@PySem.codeAny_builtin
def ia:=@PySem.wpAny_Call_Name_kw
def ib:=@List.getElem?_toArray
def ic:=@List.mem_flatMap
def ii:=@List.drop_length
def ij:=@PySem.wpAny_loadPart_at
theorem im:type_of% @Int.toNat_natCast:=@Int.toNat_natCast
abbrev Key:=Sum Int Str
def vU:Key->Value->Bool
 |.inl k,v=>Value.isInt k v
 |.inr x,v=>Value.isStrOf x v
def Lx(w:World):Key->Int
 |.inl k=>hashInt k
 |.inr x=>hashStr w x
theorem eF:∀{k:Key}{v:Value},vU k v=true->(∃i t,k=Sum.inl i/\v=Value.int i t)\/(∃x t,k=Sum.inr x/\v=Value.str x t)
 |.inl i,v,h=>by
  obtain ⟨t,e⟩:=Value.isInt_shape (k:=i) (v:=v) h;exact .inl ⟨i,t,rfl,e⟩
 |.inr x,v,h=>by
  obtain ⟨t,e⟩:=Value.isStrOf_shape (x:=x) (v:=v) h;exact .inr ⟨x,t,rfl,e⟩
theorem Lz(a b:Int):decide ((Sum.inl a:Key)=Sum.inl b)=(a==b):=by
 by_cases e:a=b
 ·subst e;simp
 ·have h:¬(Sum.inl a:Key)=Sum.inl b:=λq=>e (Sum.inl.inj q);rw[cS h];exact (ge.mpr e).symm
theorem LC(a b:Str):decide ((Sum.inr a:Key)=Sum.inr b)=decide (a=b):=by
 by_cases e:a=b
 ·subst e;simp
 ·have h:¬(Sum.inr a:Key)=Sum.inr b:=λq=>e (Sum.inr.inj q);rw[cS h,cS e]
theorem LK(a:Int)(b:Str):decide ((Sum.inl a:Key)=Sum.inr b)=false:=cS (λq=>nomatch q)
theorem LQ(a:Str)(b:Int):decide ((Sum.inr a:Key)=Sum.inl b)=false:=cS (λq=>nomatch q)
def qu(prog:Program)(w:World):PySem.KeyKind prog w Key where
 is:=vU
 hash:=Lx w
 inj:=λv a b ha hb=>by
  rcases eF ha with ⟨i,t,rfl,rfl⟩ |⟨x,t,rfl,rfl⟩
  ·rcases eF hb with ⟨j,u,rfl,e⟩ |⟨y,u,rfl,e⟩
   ·injection e with e1 _;rw[e1]
   ·exact nomatch e
  ·rcases eF hb with ⟨j,u,rfl,e⟩ |⟨y,u,rfl,e⟩
   ·exact nomatch e
   ·injection e with e1 _;rw[e1]
 byValue:=λk v h=>by
  rcases eF h with ⟨i,t,rfl,rfl⟩ |⟨x,t,rfl,rfl⟩ <;> rfl
 pyHash:=λhv h=>by
  rcases eF hv with ⟨i,t,rfl,rfl⟩ |⟨x,t,rfl,rfl⟩
  ·exact wpAny_pyHash_int h
  ·exact wpAny_pyHash_str h
 eqBool:=λhu hv h=>by
  rcases eF hu with ⟨i,t,rfl,rfl⟩ |⟨x,t,rfl,rfl⟩
  ·rcases eF hv with ⟨j,u,rfl,rfl⟩ |⟨y,u,rfl,rfl⟩
   ·rw[Lz]at h;exact wpAny_eqBool_int h
   ·rw[LK]at h;exact SeqAt.EqAt.int_str i t y u _ _ _ _ h
  ·rcases eF hv with ⟨j,u,rfl,rfl⟩ |⟨y,u,rfl,rfl⟩
   ·rw[LQ]at h;exact SeqAt.EqAt.str_int x t j u _ _ _ _ h
   ·rw[LC]at h;exact wpAny_eqBool_str h
 «strs»:=λk x t v h=>by
  rcases eF h with ⟨i,u,rfl,e⟩ |⟨y,u,rfl,e⟩
  ·exact nomatch e
  ·injection e with e1 _;subst e1;cases v <;> rfl
inductive V where
 |non |bl (b:Bool) |int (i:Int) |str (x:Str) |byt (b:Array UInt8) |flt (b:UInt64) |ref (a:Addr) |ty (n:String)
 deriving DecidableEq
def RelV:V->Value->Prop
 |.non,u=>u=Value.none
 |.bl b,u=>u=Value.bool b
 |.int i,u=>∃t,u=Value.int i t
 |.str x,u=>∃t,u=Value.str x t
 |.byt b,u=>∃t,u=Value.bytes b t
 |.flt b,u=>∃t,u=Value.float b t
 |.ref a,u=>u=Value.ref a
 |.ty n,u=>u=Value.type n
abbrev Vals:List V->List Value->Prop:=Paired RelV
theorem Vals.length{xs:List V}{us:List Value}(r:Vals xs us):xs.length=us.length:=Paired.length r
theorem Vals.get:∀{xs:List V}{us:List Value}{i:Nat}{x:V},Vals xs us->xs[i]?=some x->∃u,us[i]?=some u/\RelV x u
 |_,_,_,_,.nil,e=>by simp at e
 |_,_,0,_,.cons r _,e=>by simp at e;subst e;exact ⟨_,rfl,r⟩
 |_,_,i+1,x,.cons _ t,e=>by
  obtain ⟨u,h1,h2⟩:=Vals.get (i:=i) (x:=x) t (by simpa using e);exact ⟨u,by simpa using h1,h2⟩
theorem Vals.set{x:V}{u:Value}(r:RelV x u):∀{xs:List V}{us:List Value}(i:Nat),Vals xs us->Vals (xs.set i x) (us.set i u)
 |_,_,_,.nil=>.nil
 |_,_,0,.cons _ t=>.cons r t
 |_,_,i+1,.cons q t=>.cons q (Vals.set r i t)
theorem Vals.append:∀{xs ys:List V}{us ws:List Value},Vals xs us->Vals ys ws->Vals (xs++ys) (us++ws)
 |_,_,_,_,.nil,s=>s
 |_,_,_,_,.cons r t,s=>.cons r (Vals.append t s)
theorem Vals.take:∀{xs:List V}{us:List Value}(n:Nat),Vals xs us->Vals (xs.take n) (us.take n)
 |_,_,0,_=>.nil
 |_,_,_+1,.nil=>.nil
 |_,_,n+1,.cons r t=>.cons r (Vals.take n t)
theorem Vals.drop:∀{xs:List V}{us:List Value}(n:Nat),Vals xs us->Vals (xs.drop n) (us.drop n)
 |_,_,0,r=>r
 |_,_,_+1,.nil=>.nil
 |_,_,n+1,.cons _ t=>Vals.drop n t
def RelO:Option V->Option Value->Prop
 |some v,some u=>RelV v u
 |none,none=>True
 |_,_=>False
def KV{κ:Type}:List (κ×V)->List (κ×Value)->Prop:=Paired λ(p:κ×V) (q:κ×Value)=>p.1=q.1/\RelV p.2 q.2
def kV:Key->V
 |.inl i=>.int i
 |.inr x=>.str x
inductive HO where
 |lst (xs:List V)
 |tup (xs:List V)
 |dK (kvs:List (Key×V)) |dT (kvs:List (List Key×V))
 |set (S:Int->Bool) (n:Nat)
 |ins (C dx:Addr) (fs:List (Str×V))
 |own (x:Addr)
 |xd (fs:List (Str×V))
 |met (f x:Addr)
 |rng (lo hi:Int)
 |frz (o:Obj) (u:HO)
 |tbl (ps:Array Value)
 |ext (φ:Heap->Prop)
abbrev Hp:=Addr->Option HO
def upd(H:Hp)(a:Addr)(o:HO):Hp:=λb=>if b=a then some o else H b
theorem cg{H:Hp}{a:Addr}{o:HO}:upd H a o a=some o:=by unfold upd;rw[if_pos rfl]
theorem aB{H:Hp}{a b:Addr}{o:HO}(h:b≠a):upd H a o b=H b:=by unfold upd;rw[if_neg h]
theorem vV{H:Hp}{a b:Addr}{o u:HO}(h:H a=some o)(h':H b=some u)(d:o≠u):a≠b:=by intro e;subst e;rw[h]at h';exact d (bP h')
theorem aV{H:Hp}{a b:Addr}{o:HO}(h:H a=some o)(h':H b=none):a≠b:=by intro e;subst e;rw[h]at h';cases h'
section
variable (P:Program) (w:World)
def ObjOk(H:Hp)(h:Heap)(a:Addr):HO->Prop
 |.lst xs=>xs.length<=sizeLine/\∃(its:List Value) (n:Nat),Vals xs its/\h.get? a=some { cls:=.type "list",data:=.seq its.toArray n }
 |.tup xs=>xs.length<=sizeLine/\∃its:List Value,Vals xs its/\IsTup h a its.toArray
 |.dK kvs=>kvs.length<=sizeLine/\(a==sysModules)=false/\∃vs,KV kvs vs/\h.DictOf (qu P w) a vs
 |.dT kvs=>kvs.length<=sizeLine/\(a==sysModules)=false/\∃xs:List (List Key×Addr×Value),
   Paired (λ(p:List Key×V) (q:List Key×Addr×Value)=>p.1=q.1/\H q.2.1=some (.tup (p.1.map kV))/\RelV p.2 q.2.2) kvs xs/\
   ∃o es ep,h.get? a=some o/\o.ExactDict/\o.data=.dict es ep/\es.toList=xs.map (entryOfKey (tupleKind (qu P w)))/\(xs.map (·.1)).Nodup
 |.set S n=>h.SetOf (intKind P w) a S n
 |.ins C dx fs=>H dx=some (.own a)/\fs.length<=1000/\dx≠a/\h.get? a=some (PySem.W.instObj C dx)/\
   ∃mA,h.Ns1 dx mA/\(∀f,RelO (fs.lookup f) (mA f))/\PySem.Within mA (fs.map (·.1))
 |.own _=>∃o,h.get? a=some o
 |.xd fs=>∃mA,h.Ns1 a mA/\∀f,RelO (fs.lookup f) (mA f)
 |.rng lo hi=>∃t u v,h.get? a=some { cls:=.type "range",data:=.fields #[.int lo t,.int hi u,.int 1 v] }
 |.frz o u=>h.get? a=some o/\ObjOk H h a u
 |.tbl ps=>h.get? a=some { cls:=.none,data:=.fields ps }
 |.met f x=>h.get? a=some (PySem.W.methodObj (.ref f) (.ref x))
 |.ext φ=>φ h/\(∃o,h.get? a=some o)/\∀h1 h2:Heap,φ h1->(∀o,h1.get? a=some o->h2.get? a=some o)->φ h2
def HOk(H:Hp)(h:Heap):Prop:=∀a o,H a=some o->ObjOk P w H h a o
end
section
variable {P:Program} {w:World} {H H':Hp} {h h':Heap} {a:Addr} {o:HO}
theorem ObjOk.lt(x:ObjOk P w H h a o):a < h.objs.size:=by
 cases o with
 |lst xs=>obtain ⟨_,_,_,_,e⟩:=x;exact ay e
 |tup xs=>obtain ⟨_,_,_,p⟩:=x;exact p.lt
 |dK kvs=>obtain ⟨_,_,_,_,o,_,_,e,_⟩:=x;exact ay e
 |dT kvs=>obtain ⟨_,_,_,_,o,_,_,e,_⟩:=x;exact ay e
 |set S n=>obtain ⟨o,_,_,_,e,_⟩:=x;exact ay e
 |ins C dx fs=>obtain ⟨_,_,_,e,_⟩:=x;exact ay e
 |own y=>obtain ⟨_,e⟩:=x;exact ay e
 |xd fs=>obtain ⟨_,⟨_,_,_,e,_⟩,_⟩:=x;exact ay e
 |rng lo hi=>obtain ⟨_,_,_,e⟩:=x;exact ay e
 |frz ob u=>obtain ⟨e,_⟩:=x;exact ay e
 |tbl ps=>exact ay (show h.get? a=some _ from x)
 |met f y=>exact ay (show h.get? a=some _ from x)
 |ext φ=>obtain ⟨_,⟨_,e⟩,_⟩:=x;exact ay e
theorem Paired.mapP{α β:Type}{F G:α->β->Prop}:∀{l₁:List α}{l₂:List β},Paired F l₁ l₂->(∀a b,F a b->G a b)->Paired G l₁ l₂
 |_,_,.nil,_=>.nil
 |_,_,.cons r t,f=>.cons (f _ _ r) (Paired.mapP t f)
theorem ObjOk.stay(x:ObjOk P w H h a o)(k:∀b u,(b=a\/H b=some (.own a))->h.get? b=some u->h'.get? b=some u)
  (ho:∀b,H b=some (.own a)->H' b=some (.own a)) (ht:∀b xs,H b=some (.tup xs)->H' b=some (.tup xs)):ObjOk P w H' h' a o:=by
 induction o with
 |lst xs=>obtain ⟨z,its,n,r,e⟩:=x;exact ⟨z,its,n,r,k _ _ (.inl rfl) e⟩
 |tup xs=>obtain ⟨z,its,r,ob,e,c⟩:=x;exact ⟨z,its,r,ob,k _ _ (.inl rfl) e,c⟩
 |dK kvs=>obtain ⟨z,y,vs,r,ob,es,ep,e,c⟩:=x;exact ⟨z,y,vs,r,ob,es,ep,k _ _ (.inl rfl) e,c⟩
 |dT kvs=>
  obtain ⟨z,y,xs,r,ob,es,ep,e,c⟩:=x;exact ⟨z,y,xs,Paired.mapP r λp q z=>⟨z.1,ht _ _ z.2.1,z.2.2⟩,ob,es,ep,k _ _ (.inl rfl) e,c⟩
 |set S n=>obtain ⟨ob,es,ep,t,e,c⟩:=x;exact ⟨ob,es,ep,t,k _ _ (.inl rfl) e,c⟩
 |ins C dx fs=>
  obtain ⟨d,z,ne,e,mA,⟨od,es,ep,e2,c⟩,r⟩:=x;exact ⟨ho _ d,z,ne,k _ _ (.inl rfl) e,mA,⟨od,es,ep,k _ _ (.inr d) e2,c⟩,r⟩
 |own y=>obtain ⟨ob,e⟩:=x;exact ⟨ob,k _ _ (.inl rfl) e⟩
 |xd fs=>obtain ⟨mA,⟨od,es,ep,e,c⟩,r⟩:=x;exact ⟨mA,⟨od,es,ep,k _ _ (.inl rfl) e,c⟩,r⟩
 |rng lo hi=>obtain ⟨t,u,v,e⟩:=x;exact ⟨t,u,v,k _ _ (.inl rfl) e⟩
 |frz ob u ih=>obtain ⟨e,q⟩:=x;exact ⟨k _ _ (.inl rfl) e,ih q⟩
 |tbl ps=>
  have e:h.get? a=some { cls:=.none,data:=.fields ps }:=x;show h'.get? a=some { cls:=.none,data:=.fields ps };exact k a _ (.inl rfl) e
 |met f y=>
  have e:h.get? a=some (PySem.W.methodObj (.ref f) (.ref y)):=x;show h'.get? a=some (PySem.W.methodObj (.ref f) (.ref y));exact k a _ (.inl rfl) e
 |ext φ=>obtain ⟨p,⟨o,e⟩,st⟩:=x;exact ⟨st _ _ p λo q=>k _ _ (.inl rfl) q,⟨o,k _ _ (.inl rfl) e⟩,st⟩
theorem HOk.lt(x:HOk P w H h)(e:H a=some o):a < h.objs.size:=(x a o e).lt
theorem HOk.fresh(x:HOk P w H h)(e:h.objs.size<=a):H a=none:=by
 cases q:H a with
 |none=>rfl
 |some u=>exact absurd (bp (x.lt q) e) (dL _)
theorem HOk.kept(x:HOk P w H h)(k:∀b u,h.get? b=some u->h'.get? b=some u):HOk P w H h':=λa o e=>
 (x a o e).stay (λb u _ q=>k b u q) (λ_ q=>q) λ_ _ q=>q
theorem HOk.laid(x:HOk P w H h)(k:∀b u,h.get? b=some u->h'.get? b=some u)(hp:h.objs.size<=a)(new:ObjOk P w (upd H a o) h' a o):HOk P w (upd H a o) h':=λb u e=>by
 have hn:=x.fresh hp;by_cases hb:b=a
 ·subst hb;rw[cg]at e;cases e;exact new
 ·rw[aB hb]at e;exact (x b u e).stay (λc v _ q=>k c v q) (λc q=>by rw[aB (aV q hn)];exact q) λc xs q=>by rw[aB (aV q hn)];exact q
end
def Rd(H:Hp)(a:Addr)(u:HO):Prop:=H a=some u\/∃o,H a=some (.frz o u)
theorem Rd.ok{P:Program}{w:World}{H:Hp}{h:Heap}{a:Addr}{u:HO}(r:Rd H a u)(x:HOk P w H h):ObjOk P w H h a u:=by
 rcases r with r |⟨o,r⟩
 ·exact x a u r
 ·obtain ⟨_,q⟩:=x a _ r;exact q
noncomputable def Mut:Option HO->Prop
 |some (.lst _)=>True
 |some (.dK _)=>True
 |some (.dT _)=>True
 |some (.set _ _)=>True
 |some (.ins _ _ _)=>True
 |some (.ext _)=>True
 |_=>False
section
variable {P:Program} {w:World} {H:Hp} {h h':Heap} {x e:Addr} {o':HO}
theorem HOk.write(ok:HOk P w H h)(mu:Mut (H x))(he:e=x\/H e=some (.own x))(k:∀b u,b≠e->h.get? b=some u->h'.get? b=some u)(heo:∃u,h'.get? e=some u)
  (new:ObjOk P w (upd H x o') h' x o'):HOk P w (upd H x o') h':=λb u q=>by
 have nown:∀c y,H c=some (.own y)->c≠x:=λc y r z=>by subst z;rw[r]at mu;exact mu
 have ntup:∀c xs,H c=some (.tup xs)->c≠x:=λc xs r z=>by subst z;rw[r]at mu;exact mu
 by_cases hb:b=x
 ·subst hb;rw[cg]at q;cases q;exact new
 ·rw[aB hb]at q;by_cases hbe:b=e
  ·have q':H b=some (.own x):=by
    rcases he with z |z
    ·exact absurd (hbe.trans z) hb
    ·rw[hbe];exact z
   rw[q]at q';cases q';obtain ⟨v,hv⟩:=heo;exact ⟨v,by rw[hbe];exact hv⟩
  ·refine (ok b u q).stay (λc v hc r=>k c v ?_ r) (λc r=>by rw[aB (nown c b r)];exact r) λc xs r=>by rw[aB (ntup c xs r)];exact r
   rcases hc with rfl |hc
   ·exact hbe
   ·rintro rfl;rcases he with z |z
    ·exact nown c b hc z
    ·rw[hc]at z;cases z;exact hb rfl
end
structure Un(fs ex:List Addr)(H H':Hp)(h h':Heap):Prop where
 keep:∀b o,h.get? b=some o->H b=none->b∉fs->b∉ex->h'.get? b=some o
 slot:∀b o,h.get? b=some o->H b=none->b∈fs->b∉ex->∃sl,h'.get? b=some { o with slots:=sl }
 free:∀b o,h.get? b=some o->H b=none->b∉ex->H' b=none
 there:∀b o,h.get? b=some o->b∉ex->∃o',h'.get? b=some o'
 tups:∀b xs,H b=some (.tup xs)->H' b=some (.tup xs)
 frzs:∀b o u,H b=some (.frz o u)->H' b=some (.frz o u)
 tbls:∀b ps,H b=some (.tbl ps)->∃more,H' b=some (.tbl (ps++more))
section
variable {fs fs' ex ex':List Addr} {H H1 H2:Hp} {h h1 h2 h':Heap} {a x e:Addr} {o:HO}
theorem Un.any(u:Un fs ex H H1 h h1){b:Addr}{ob:Obj}(q:h.get? b=some ob)(n:H b=none)(hx:b∉ex):∃sl,h1.get? b=some { ob with slots:=sl }:=by
 by_cases hb:b∈fs
 ·exact u.slot b ob q n hb hx
 ·exact ⟨ob.slots,u.keep b ob q n hb hx⟩
theorem Un.kept(k:∀b u,h.get? b=some u->h'.get? b=some u):Un fs ex H H h h':=
 ⟨λb ob q _ _ _=>k b ob q,λb ob q _ _ _=>⟨ob.slots,k b ob q⟩,λ_ _ _ n _=>n,λb ob q _=>⟨ob,k b ob q⟩,λ_ _ q=>q,λ_ _ _ q=>q,λ_ ps q=>⟨#[],by rw[q];simp⟩⟩
theorem Un.refl:Un fs ex H H h h:=Un.kept λ_ _ q=>q
theorem Un.laid(k:∀b u,h.get? b=some u->h'.get? b=some u)(hp:h.objs.size<=a)(hn:H a=none):Un fs ex H (upd H a o) h h' where
 keep:=λb u q _ _ _=>k b u q
 slot:=λb u q _ _ _=>⟨u.slots,k b u q⟩
 free:=λb u q n _=>by rw[aB (b6 (bp (ay q) hp))];exact n
 there:=λb u q _=>⟨u,k b u q⟩
 tups:=λb xs q=>by rw[aB (aV q hn)];exact q
 frzs:=λb u xs q=>by rw[aB (aV q hn)];exact q
 tbls:=λb ps q=>⟨#[],by rw[aB (aV q hn),q];simp⟩
theorem Un.write(mu:Mut (H x))(he:e=x\/H e=some (.own x))(k:∀b u,b≠e->h.get? b=some u->h'.get? b=some u)(heo:∃u,h'.get? e=some u):Un fs ex H (upd H x o) h h':=by
 have hx:∀b,H b=none->b≠x:=λb n z=>by subst z;rw[n]at mu;exact mu
 have hb:∀b,H b=none->b≠e:=λb n z=>by
  subst z;rcases he with r |r
  ·exact hx b n r
  ·rw[n]at r;cases r
 have hm:∀b u,H b=some u->¬Mut (some u)->b≠x:=λb u q nm z=>by subst z;rw[q]at mu;exact nm mu
 refine ⟨λb u q n _ _=>k b u (hb b n) q,λb u q n _ _=>⟨u.slots,k b u (hb b n) q⟩,λb u q n _=>by rw[aB (hx b n)];exact n,λb u q _=>?_,
  λb xs q=>by rw[aB (hm b _ q λz=>z)];exact q,λb u xs q=>by rw[aB (hm b _ q λz=>z)];exact q,λb ps q=>⟨#[],by rw[aB (hm b _ q λz=>z),q];simp⟩⟩
 by_cases hbe:b=e
 ·subst hbe;exact heo
 ·exact ⟨u,k b u hbe q⟩
end
def trk(h:Heap)(H:Hp):List Addr:=(List.range h.objs.size).filter λa=>(H a).isSome
def eG(h:Heap)(H:Hp):Heap:=PySem.W.hideAll h (trk h H)
theorem LR(h:Heap)(H:Hp):(eG h H).objs.size=h.objs.size:=PySem.W.hideAll_size _ _
theorem Ma{h:Heap}{H:Hp}{b:Addr}{o:Obj}(e:h.get? b=some o)(n:H b=none):(eG h H).get? b=some o:=
 PySem.W.hideAll_get _ e λhm=>by
  have q:(H b).isSome=true:=(List.mem_filter.mp hm).2;rw[n]at q;simp at q
theorem Mg{h:Heap}{H:Hp}{b:Addr}{o:Obj}(e:(eG h H).get? b=some o):h.get? b=some o/\H b=none:=by
 have e':h.get? b=some o:=PySem.W.of_hideAll (trk h H) e;refine ⟨e',?_⟩;cases q:H b with
 |none=>rfl
 |some x=>
  have hm:b∈trk h H:=List.mem_filter.mpr ⟨List.mem_range.mpr (ay e'),by simp[q]⟩;have z:(eG h H).get? b=none:=PySem.W.hideAll_none (trk h H) hm;rw[z]at e;cases e
noncomputable def Mh(g h:Heap)(L:Addr):List (Addr×Obj):=(List.range h.objs.size).filterMap λa=>if a=L\/(g.get? a).isSome=true then none else (h.get? a).map λo=>(a,o)
def rest(g h:Heap)(L d:Addr):List (Addr×Obj):=(Mh g h L).filter λp=>decide (p.1≠d)
structure Mod(K:PF)(mg:Str->Option Value)(base:Heap):Prop where
 kin:K.In base
 glob:base.Ns mainGlobals mg
 blt:∃mb,base.Ns builtinsNs mb/\∀x:Str,x≠"__name__"->mb x=bootBuiltins x
 nolimit:base.NoLimit
structure Cx where
 prog:Program
 w:World
 K:PF
 mg:Str->Option Value
 base:Heap
 A:Around
 N:List Str
 s₀:Shared
 H₀:Hp
 env:Env
 outer:List Env
 stack:List Env
 ex:List Addr
 fn:Str->Bool
 calm:Bool
 pn:List (Addr×Obj)
 xe:Value->Shared->Prop
def frs(l:List Env):List Addr:=l.filterMap (·.frame)
abbrev Cx.fs(X:Cx):List Addr:=frs X.outer
def Vis(sc:Scope)(x:Str):Prop:=sc.names.lookup x=some .local\/sc.names.lookup x=some .cell\/sc.names.lookup x=some .free
def Loc(sc:Scope)(x:Str):Prop:=sc.names.lookup x=some .local\/sc.names.lookup x=some .cell
def Look(env:Env)(h:Heap)(m:Str->Option Value)(x:Str)(u:Value):Prop:=
 (env.kindOf x=some .local/\m x=some u)\/((env.kindOf x=some .cell\/env.kindOf x=some .free)/\∃c,env.cells.lookup x=some c/\h.IsCell c (some u))
structure Cx.Ok(X:Cx):Prop where
 mod:Mod X.K X.mg X.base
 kind:X.env.scope.kind=.function
 glob:X.env.globals=mainGlobals
 blt:X.env.builtins=builtinsNs
 above:X.s₀.heap.objs.size<=X.env.locals
 inj:∀x y c,X.env.cells.lookup x=some c->X.env.cells.lookup y=some c->x=y
 has:∀x,(X.env.kindOf x=some .cell\/X.env.kindOf x=some .free)->∃c,X.env.cells.lookup x=some c
 cab:∀x c,X.fn x=true->X.env.cells.lookup x=some c->X.s₀.heap.objs.size<=c
 hd:X.calm=true->X.A.handled=none
 frames:X.A.frames=some X.stack
 stk:X.stack=X.outer\/(X.stack=X.env::X.outer/\X.env.frame=some X.env.locals)
 exf:∀b∈X.ex,b≠X.env.locals/\∀x c,X.env.cells.lookup x=some c->c≠b
 bs:∀b o,X.base.get? b=some o->X.s₀.heap.get? b=some o/\X.H₀ b=none
 bsz:X.base.objs.size<=X.s₀.heap.objs.size
 noex:∀b o,X.base.get? b=some o->b∉X.ex
 exfs:∀b∈X.ex,b∉X.fs
 funs:X.s₀.heap.FunFrames X.base X.outer
 frf:∀b∈X.fs,X.H₀ b=none
structure Inv(X:Cx)(pins:List (Addr×Obj))(σ:List (Option V))(H:Hp)(s:Shared):Prop where
 ok:X.Ok
 os:s.os=X.s₀.os
 bare:AllBare s.gens
 base:Un X.fs X.ex X.H₀ H X.s₀.heap s.heap
 loc:∃m,s.heap.Ns X.env.locals m/\∀(i:Nat)(x:Str)(v:V),X.N[i]?=some x->σ[i]?=some (some v)->Vis X.env.scope x->∃u,RelV v u/\Look X.env s.heap m x u
 cell:∀x c,X.env.cells.lookup x=some c->∃v,s.heap.IsCell c v
 free:H X.env.locals=none
 freeC:∀x c,X.env.cells.lookup x=some c->H c=none
 pin:∀p∈X.pn++pins,s.heap.get? p.1=some p.2/\H p.1=none/\p.1≠X.env.locals/\p.1∉X.fs/\∀v,p.2.data≠.cell v
 hok:HOk X.prog X.w H s.heap
 len:σ.length=X.N.length
section
variable {X:Cx} {pins:List (Addr×Obj)} {σ:List (Option V)} {H H':Hp} {s:Shared} {h':Heap}
theorem Cx.Ok.nofr(ok:X.Ok){b:Addr}{o:Obj}(e:X.base.get? b=some o):b∉X.fs:=λhb=>by
 have:=(ok.funs.mem hb).1;rw[e]at this;cases this
theorem Inv.bs(I:Inv X pins σ H s):∀b o,X.base.get? b=some o->s.heap.get? b=some o/\H b=none:=λb o e=>
 ⟨I.base.keep b o (I.ok.bs b o e).1 (I.ok.bs b o e).2 (I.ok.nofr e) (I.ok.noex b o e),I.base.free b o (I.ok.bs b o e).1 (I.ok.bs b o e).2 (I.ok.noex b o e)⟩
theorem Inv.bk(I:Inv X pins σ H s):∀b o,X.base.get? b=some o->s.heap.get? b=some o:=λb o e=>(I.bs b o e).1
theorem Inv.mod(I:Inv X pins σ H s):Mod X.K X.mg X.base:=I.ok.mod
theorem Inv.kIn(I:Inv X pins σ H s):X.K.In s.heap:=I.ok.mod.kin.keeps I.bk
theorem Inv.lt(I:Inv X pins σ H s):X.env.locals < s.heap.objs.size:=let ⟨_,hn,_⟩:=I.loc;hn.lt
theorem Inv.sz(I:Inv X pins σ H s):X.s₀.heap.objs.size<=s.heap.objs.size:=cw I.ok.above (Nat.le_of_lt I.lt)
theorem Inv.nofs(I:Inv X pins σ H s){a:Addr}(h:s.heap.objs.size<=a):a∉X.fs:=λhb=>by
 obtain ⟨_,o,ho,_⟩:=I.ok.funs.mem hb;exact absurd (bp (ay ho) (cw I.sz h)) (dL _)
theorem Inv.cne(I:Inv X pins σ H s):∀x c,X.env.cells.lookup x=some c->c≠X.env.locals:=λx c e z=>by
 obtain ⟨v,o,ho,hd⟩:=I.cell x c e;obtain ⟨m,⟨o',es,ep,ho',hd',_⟩,_⟩:=I.loc;rw[z,ho']at ho;cases ho;rw[hd']at hd;cases hd
theorem Inv.funs(I:Inv X pins σ H s):s.heap.FunFrames X.base X.outer:=by
 have all:∀(l:List Env),(∀b∈frs l,b∈X.fs)->X.s₀.heap.FunFrames X.base l->s.heap.FunFrames X.base l:=by
  intro l;induction l with
  |nil=>intro _ _;trivial
  |cons env r ih=>
   intro hs hl;obtain ⟨hk,⟨L,o,hf,hn,ho,hd⟩,hr⟩:=hl;have hL:L∈X.fs:=hs L (by unfold frs;rw[List.filterMap_cons,hf];exact aT);obtain ⟨sl,e⟩:=I.base.slot L o ho (I.ok.frf L hL) hL λz=>I.ok.exfs L z hL;exact ⟨hk,⟨L,_,hf,hn,e,hd⟩,ih (λb hb=>hs b (by unfold frs;rw[List.filterMap_cons,hf];exact bo _ hb)) hr⟩
 exact all X.outer (λ_ hb=>hb) I.ok.funs
theorem Inv.stack(I:Inv X pins σ H s):s.heap.FunFrames X.base X.stack:=by
 rcases I.ok.stk with e |⟨e,hf⟩
 ·rw[e];exact I.funs
 ·rw[e];obtain ⟨m,hn,_⟩:=I.loc;refine .cons (by rw[I.ok.kind];decide) hf hn ?_ I.funs;exact Heap.get?_none_of_le (cw I.ok.bsz I.ok.above)
theorem Inv.stkSub(I:Inv X pins σ H s):∀b∈frs X.stack,b∈X.env.locals::X.fs:=λb hb=>by
 rcases I.ok.stk with e |⟨e,hf⟩
 ·rw[e]at hb;exact bo _ hb
 ·rw[e]at hb;unfold frs at hb;rw[List.filterMap_cons,hf]at hb;exact hb
theorem Inv.stkFree(I:Inv X pins σ H s):∀b∈frs X.stack,H b=none:=λb hb=>by
 rcases bb.mp (I.stkSub b hb) with e |hb
 ·rw[e];exact I.free
 ·obtain ⟨_,o,ho,_⟩:=I.ok.funs.mem hb;exact I.base.free b o ho (I.ok.frf b hb) λz=>I.ok.exfs b z hb
theorem Inv.step{g':Array GenState}{t':Nat}{d':Drawn}{ch:List Addr}(I:Inv X pins σ H s)
  (hch:∀b∈ch,(b∈X.ex\/X.s₀.heap.objs.size<=b)/\b≠X.env.locals/\(∀x c,X.env.cells.lookup x=some c->c≠b)/\∀p∈X.pn++pins,p.1≠b)
  (keep:∀b o,b≠X.env.locals->b∉X.fs->b∉ch->s.heap.get? b=some o->H b=none->h'.get? b=some o)
  (slot:∀b o,b≠X.env.locals->b∈X.fs->b∉ch->s.heap.get? b=some o->H b=none->∃sl,h'.get? b=some { o with slots:=sl }) (free:∀b o,b∉ch->s.heap.get? b=some o->H b=none->H' b=none)
  (there:∀b o,b∉ch->s.heap.get? b=some o->∃o',h'.get? b=some o')
  (tups:∀b xs,H b=some (.tup xs)->H' b=some (.tup xs)) (frzs:∀b o u,H b=some (.frz o u)->H' b=some (.frz o u)) (tbls:∀b ps,H b=some (.tbl ps)->∃more,H' b=some (.tbl (ps++more)))
  (ns:∀m,s.heap.Ns X.env.locals m->h'.Ns X.env.locals m) (hok:HOk X.prog X.w H' h') (hg:AllBare g'):
  Inv X pins σ H' { s with heap:=h',gens:=g',drawn:=d',toks:=t' }:=by
 have neL:∀b o,X.s₀.heap.get? b=some o->b≠X.env.locals:=λb o e=>b6 (bp (ay e) I.ok.above);have neC:∀b o,X.s₀.heap.get? b=some o->b∉X.ex->b∉ch:=λb o e hx hb=>by
  rcases (hch b hb).1 with z |z
  ·exact hx z
  ·exact absurd (bp (ay e) z) (dL _)
 have cellK:∀x c,X.env.cells.lookup x=some c->∀v,s.heap.IsCell c v->h'.IsCell c v:=λx c e v ⟨o,ho,hd⟩=>by
  have nch:c∉ch:=λz=>(hch c z).2.2.1 x c e rfl;by_cases hc:c∈X.fs
  ·obtain ⟨sl,q⟩:=slot c o (I.cne x c e) hc nch ho (I.freeC x c e);exact ⟨_,q,hd⟩
  ·exact ⟨o,keep c o (I.cne x c e) hc nch ho (I.freeC x c e),hd⟩
 refine ⟨I.ok,I.os,hg,⟨λb o e n hb hx=>?_,λb o e n hb hx=>?_,λb o e n hx=>?_,λb o e hx=>?_,λb xs e=>tups b xs (I.base.tups b xs e),λb o xs e=>frzs b o xs (I.base.frzs b o xs e),λb ps e=>?_⟩,?_,λx c e=>?_,?_,λx c e=>?_,λp hp=>?_,hok,I.len⟩
 ·exact keep b o (neL b o e) hb (neC b o e hx) (I.base.keep b o e n hb hx) (I.base.free b o e n hx)
 ·obtain ⟨sl,e1⟩:=I.base.slot b o e n hb hx;obtain ⟨sl',e2⟩:=slot b _ (neL b o e) hb (neC b o e hx) e1 (I.base.free b o e n hx);exact ⟨sl',e2⟩
 ·obtain ⟨o',e1⟩:=I.base.there b o e hx;exact free b o' (neC b o e hx) e1 (I.base.free b o e n hx)
 ·obtain ⟨o',e1⟩:=I.base.there b o e hx;exact there b o' (neC b o e hx) e1
 ·obtain ⟨m1,e1⟩:=I.base.tbls b ps e;obtain ⟨m2,e2⟩:=tbls b _ e1;exact ⟨m1++m2,by rw[e2,Array.append_assoc]⟩
 ·obtain ⟨m,hn,hl⟩:=I.loc;refine ⟨m,ns m hn,λi x v e1 e2 e3=>?_⟩;obtain ⟨u,r,l⟩:=hl i x v e1 e2 e3;refine ⟨u,r,?_⟩;rcases l with l |⟨k,c,e,z⟩
  ·exact .inl l
  ·exact .inr ⟨k,c,e,cellK x c e _ z⟩
 ·obtain ⟨v,z⟩:=I.cell x c e;exact ⟨v,cellK x c e v z⟩
 ·obtain ⟨m,⟨o,_,_,ho,_⟩,_⟩:=I.loc;exact free _ o (λz=>(hch _ z).2.1 rfl) ho I.free
 ·obtain ⟨v,o,ho,hd⟩:=I.cell x c e;exact free c o (λz=>(hch c z).2.2.1 x c e rfl) ho (I.freeC x c e)
 ·obtain ⟨e,n,ne,nf,d⟩:=I.pin p hp;have nch:p.1∉ch:=λz=>(hch p.1 z).2.2.2 p hp rfl;exact ⟨keep p.1 p.2 ne nf nch e n,free p.1 p.2 nch e n,ne,nf,d⟩
theorem Inv.un{t':Nat}(I:Inv X pins σ H s)(u:Un X.fs [] H H' s.heap h')(hok:HOk X.prog X.w H' h'):Inv X pins σ H' { s with heap:=h',toks:=t' }:=by
 obtain ⟨m,⟨o,es,ep,ho,r⟩,_⟩:=id I.loc;obtain ⟨sl,hL⟩:=u.any ho I.free (by simp);exact I.step (g':=s.gens) (d':=s.drawn) (ch:=[]) (λ_ z=>nomatch z) (λb o _ hb _ e n=>u.keep b o e n hb (by simp)) (λb o _ hb _ e n=>u.slot b o e n hb (by simp)) (λb o _ e n=>u.free b o e n (by simp)) (λb o _ e=>u.there b o e (by simp)) u.tups u.frzs u.tbls (λm' hm=>by
  obtain ⟨o',es',ep',ho',r'⟩:=hm;rw[ho]at ho';cases ho';exact ⟨_,es',ep',hL,r'⟩) hok I.bare
theorem Inv.call{g':Array GenState}{t':Nat}{d':Drawn}{ch:List Addr}(I:Inv X pins σ H s)(u:Un (frs X.stack) ch H H' s.heap h')(hok:HOk X.prog X.w H' h')(hg:AllBare g')
  (hch:∀b∈ch,(b∈X.ex\/X.s₀.heap.objs.size<=b)/\b≠X.env.locals/\(∀x c,X.env.cells.lookup x=some c->c≠b)/\∀p∈X.pn++pins,p.1≠b):
  Inv X pins σ H' { s with heap:=h',gens:=g',drawn:=d',toks:=t' }:=by
 obtain ⟨m,⟨o,es,ep,ho,r⟩,_⟩:=id I.loc;obtain ⟨sl,hL⟩:=u.any ho I.free λz=>(hch _ z).2.1 rfl;exact I.step (ch:=ch) hch (λb o hL hb hc e n=>u.keep b o e n (λz=>(bb.mp (I.stkSub b z)).elim hL hb) hc) (λb o _ _ hc e n=>u.any e n hc) (λb o hc e n=>u.free b o e n hc) (λb o hc e=>u.there b o e hc) u.tups u.frzs u.tbls (λm' hm=>by
  obtain ⟨o',es',ep',ho',r'⟩:=hm;rw[ho]at ho';cases ho';exact ⟨_,es',ep',hL,r'⟩) hok hg
theorem Inv.turned{t':Nat}{it:Addr}(I:Inv X pins σ H s)(k:∀b o,b≠it->s.heap.get? b=some o->h'.get? b=some o)(hn:H it=none)(hL:it≠X.env.locals)
  (h1:it∈X.ex\/X.s₀.heap.objs.size<=it) (h2:∀x c,X.env.cells.lookup x=some c->c≠it) (h3:∀p∈X.pn++pins,p.1≠it):Inv X pins σ H { s with heap:=h',toks:=t' }:=by
 have nit:∀b u,H b=some u->b≠it:=λb u e z=>by rw[z,hn]at e;cases e
 refine I.step (g':=s.gens) (d':=s.drawn) (ch:=[it]) (λb hb=>?_) (λb o _ _ hc e _=>k b o (λz=>hc (by simp[z])) e) (λb o _ _ hc e _=>⟨o.slots,k b o (λz=>hc (by simp[z])) e⟩) (λ_ _ _ _ n=>n)
  (λb o hc e=>⟨o,k b o (λz=>hc (by simp[z])) e⟩) (λ_ _ e=>e) (λ_ _ _ e=>e) (λb ps e=>⟨#[],by rw[e];simp⟩) (λm hm=>?_) (λb u e=>?_) I.bare
 ·have e:b=it:=by simpa using hb
  subst e;exact ⟨h1,hL,h2,h3⟩
 ·obtain ⟨o,es,ep,ho,r⟩:=hm;exact ⟨o,es,ep,k _ o (Ne.symm hL) ho,r⟩
 ·refine (I.hok b u e).stay (λc v hc q=>k c v ?_ q) (λ_ q=>q) λ_ _ q=>q;rcases hc with z |z
  ·rw[z];exact nit b u e
  ·exact nit c _ z
theorem Inv.tok(I:Inv X pins σ H s)(t:Nat):Inv X pins σ H { s with toks:=t }:=I.un (h':=s.heap) (t':=t) Un.refl I.hok
theorem Inv.kept{t':Nat}(I:Inv X pins σ H s)(k:∀b u,s.heap.get? b=some u->h'.get? b=some u):Inv X pins σ H { s with heap:=h',toks:=t' }:=I.un (Un.kept k) (I.hok.kept k)
theorem Inv.laid{a:Addr}{o:HO}{t':Nat}(I:Inv X pins σ H s)(k:∀b u,s.heap.get? b=some u->h'.get? b=some u)(hp:s.heap.objs.size<=a)(new:ObjOk X.prog X.w (upd H a o) h' a o):
  Inv X pins σ (upd H a o) { s with heap:=h',toks:=t' }:=I.un (Un.laid k hp (I.hok.fresh hp)) (I.hok.laid k hp new)
theorem Inv.write{x e:Addr}{o:HO}{t':Nat}(I:Inv X pins σ H s)(mu:Mut (H x))(he:e=x\/H e=some (.own x))(k:∀b u,b≠e->s.heap.get? b=some u->h'.get? b=some u)(heo:∃u,h'.get? e=some u)
  (new:ObjOk X.prog X.w (upd H x o) h' x o):Inv X pins σ (upd H x o) { s with heap:=h',toks:=t' }:=I.un (Un.write mu he k heo) (I.hok.write mu he k heo new)
theorem Inv.pins_of{pins':List (Addr×Obj)}(I:Inv X pins σ H s)(h:∀p∈pins',s.heap.get? p.1=some p.2/\H p.1=none/\p.1≠X.env.locals/\p.1∉X.fs/\∀v,p.2.data≠.cell v):Inv X pins' σ H s:=
 ⟨I.ok,I.os,I.bare,I.base,I.loc,I.cell,I.free,I.freeC,λp hp=>(cf.mp hp).elim (λz=>I.pin p (ff _ z)) (h p),I.hok,I.len⟩
theorem vW{N:List Str}(hN:N.Nodup){i j:Nat}{x:Str}(a:N[i]?=some x)(b:N[j]?=some x):i=j:=by obtain ⟨h1,e1⟩:=a7.mp a;obtain ⟨h2,e2⟩:=a7.mp b;exact (List.getElem_inj hN).mp (e1.trans e2.symm)
theorem Mi{M:Model}{A:Around}{E:Value->Shared->Prop}{i:Nat}{x:Str}{v:V}{u:Value}{Q:Unit->Shared->Prop}(I:Inv X pins σ H s)(hN:X.N.Nodup)(hi:X.N[i]?=some x)(hx:Loc X.env.scope x)(r:RelV v u)
  (h:∀s',Inv X pins (σ.set i (some v)) H s'->(∃a,Heap.SameBut a s.heap s'.heap/\(a=X.env.locals\/X.env.cells.lookup x=some a))->Q () s') (hf:X.fn x=true\/X.env.scope.names.lookup x=some .local:=by first |exact .inl rfl |exact .inr rfl |assumption):wpAny M A (storeName X.env x u) Q E s:=by
 obtain ⟨m,hn,hl⟩:=id I.loc;have hcls:(X.env.scope.kind==.class||(X.env.scope.kind==.module&&X.env.locals != X.env.globals))=false:=by rw[I.ok.kind];rfl
 have hiσ:i < σ.length:=by rw[I.len];exact (a7.mp hi).1
 have cne:=I.cne;have tracked:∀{a:Addr}{h':Heap},(∃o,s.heap.get? a=some o/\H a=none)->Heap.SameBut a s.heap h'->HOk X.prog X.w H h':=λ{a h'} ha hs b ob e=>by
  obtain ⟨_,_,hfree⟩:=ha;refine (I.hok b ob e).stay (λc w' hc q=>(hs.2 c ?_).trans q) (λ_ q=>q) λ_ _ q=>q;rintro rfl;rcases hc with rfl |hc
  ·rw[hfree]at e;cases e
  ·rw[hfree]at hc;cases hc
 rcases hx with hk |hk
 ·refine wpAny_storeName_local hk hn (λh' hn' hs=>?_) hcls;obtain ⟨oL,_,_,hoL,_⟩:=id hn;refine h _ ⟨I.ok,I.os,I.bare,⟨λb o e n hb hx=>?_,λb o e n hb hx=>?_,I.base.free,λb o e hx=>?_,I.base.tups,I.base.frzs,I.base.tbls⟩,⟨_,hn',λj y v' e1 e2 e3=>?_⟩,λy c e=>?_,I.free,I.freeC,λp hp=>?_,tracked ⟨oL,hoL,I.free⟩ hs,by simpa using I.len⟩ ⟨_,hs,.inl rfl⟩
  ·exact (hs.2 b (b6 (bp (ay e) I.ok.above))).trans (I.base.keep b o e n hb hx)
  ·obtain ⟨sl,e1⟩:=I.base.slot b o e n hb hx;exact ⟨sl,(hs.2 b (b6 (bp (ay e) I.ok.above))).trans e1⟩
  ·obtain ⟨o',e1⟩:=I.base.there b o e hx;exact ⟨o',(hs.2 b (b6 (bp (ay e) I.ok.above))).trans e1⟩
  ·by_cases hj:j=i
   ·subst hj;rw[hi]at e1;cases e1;rw[eK hiσ]at e2;cases e2;exact ⟨u,r,.inl ⟨hk,by simp⟩⟩
   ·rw[fg (Ne.symm hj)]at e2;obtain ⟨u',r',q⟩:=hl j y v' e1 e2 e3;refine ⟨u',r',?_⟩;rcases q with ⟨k,e⟩ |⟨k,c,e,z⟩
    ·refine .inl ⟨k,?_⟩;have:y≠x:=λe=>hj (vW hN e1 (e ▸ hi));simp[this,e]
    ·exact .inr ⟨k,c,e,z.sameBut hs (cne y c e)⟩
  ·obtain ⟨w',z⟩:=I.cell y c e;exact ⟨w',z.sameBut hs (cne y c e)⟩
  ·obtain ⟨e,n,ne,nf,d⟩:=I.pin p hp;exact ⟨(hs.2 p.1 ne).trans e,n,ne,nf,d⟩
 ·have hfn:X.fn x=true:=by
   rcases hf with z |z
   ·exact z
   ·rw[z]at hk;cases hk
  obtain ⟨c,hc⟩:=I.ok.has x (.inl hk);obtain ⟨w',z⟩:=I.cell x c hc;refine wpAny_storeName_cell I.ok.kind hk hc z (λh' hc' hs=>?_);obtain ⟨oc,hoc,hocd⟩:=id z;refine h { s with heap:=h' } ⟨I.ok,I.os,I.bare,⟨λb o e n hb hx=>?_,λb o e n hb hx=>?_,I.base.free,λb o e hx=>?_,I.base.tups,I.base.frzs,I.base.tbls⟩,⟨m,hn.sameBut hs (Ne.symm (cne x c hc)),λj y v' e1 e2 e3=>?_⟩,λy c' e=>?_,I.free,I.freeC,λp hp=>?_,tracked ⟨oc,hoc,I.freeC x c hc⟩ hs,by simpa using I.len⟩ ⟨c,hs,.inr hc⟩
  ·exact (hs.2 b (b6 (bp (ay e) (I.ok.cab x c hfn hc)))).trans (I.base.keep b o e n hb hx)
  ·obtain ⟨sl,e1⟩:=I.base.slot b o e n hb hx;exact ⟨sl,(hs.2 b (b6 (bp (ay e) (I.ok.cab x c hfn hc)))).trans e1⟩
  ·obtain ⟨o',e1⟩:=I.base.there b o e hx;exact ⟨o',(hs.2 b (b6 (bp (ay e) (I.ok.cab x c hfn hc)))).trans e1⟩
  ·by_cases hj:j=i
   ·subst hj;rw[hi]at e1;cases e1;rw[eK hiσ]at e2;cases e2;exact ⟨u,r,.inr ⟨.inl hk,c,hc,hc'⟩⟩
   ·rw[fg (Ne.symm hj)]at e2;obtain ⟨u',r',q⟩:=hl j y v' e1 e2 e3;refine ⟨u',r',?_⟩;rcases q with q |⟨k,c',e,z'⟩
    ·exact .inl q
    ·refine .inr ⟨k,c',e,z'.sameBut hs ?_⟩;rintro rfl;exact hj (vW hN e1 (I.ok.inj _ _ _ e hc ▸ hi))
  ·by_cases hcc:c'=c
   ·subst hcc;exact ⟨_,hc'⟩
   ·obtain ⟨w2,z2⟩:=I.cell y c' e;exact ⟨w2,z2.sameBut hs hcc⟩
  ·obtain ⟨e,n,ne,nf,d⟩:=I.pin p hp;refine ⟨(hs.2 p.1 ?_).trans e,n,ne,nf,d⟩;intro q;rw[q,hoc]at e;have q':oc=p.2:=bP e;exact d w' (by rw[<-q'];exact hocd)
theorem qw{M:Model}{A:Around}{E:Value->Shared->Prop}{i:Nat}{x:Str}{v:V}{u:Value}{Q:Unit->Shared->Prop}(I:Inv X pins σ H s)(hN:X.N.Nodup)(hi:X.N[i]?=some x)(hx:Loc X.env.scope x)(r:RelV v u)
  (h:∀s',Inv X pins (σ.set i (some v)) H s'->Q () s') (hf:X.fn x=true\/X.env.scope.names.lookup x=some .local:=by first |exact .inl rfl |exact .inr rfl |assumption):wpAny M A (storeName X.env x u) Q E s:=
 Mi I hN hi hx r (λs' I' _=>h s' I') hf
theorem Inv.call'{s':Shared}{ch:List Addr}(I:Inv X pins σ H s)(ho:s'.os=s.os)(u:Un (frs X.stack) ch H H' s.heap s'.heap)(hok:HOk X.prog X.w H' s'.heap)(hg:AllBare s'.gens)
  (hch:∀b∈ch,(b∈X.ex\/X.s₀.heap.objs.size<=b)/\b≠X.env.locals/\(∀x c,X.env.cells.lookup x=some c->c≠b)/\∀p∈X.pn++pins,p.1≠b):Inv X pins σ H' s':=by
 obtain ⟨h',g',d',t',o'⟩:=s';have e:o'=s.os:=ho;subst e;exact I.call (g':=g') (t':=t') (d':=d') u hok hg hch
end
abbrev XK:=Value->Option Addr->Hp->Prop
abbrev St:=List (Option V)
abbrev VK:=V->Hp->Prop
abbrev TE:=St->Hp->VK->Prop
abbrev TT:=St->Hp->(Bool->Hp->Prop)->Prop
abbrev TA:=St->Hp->(List V->Hp->Prop)->Prop
structure Ends where
 nx:St->Hp->Prop
 rt:VK
 bk:St->Hp->Prop:=λ_ _=>False
 ct:St->Hp->Prop:=λ_ _=>False
abbrev TS:=Ends->St->Hp->Prop
def EP(X:Cx)(pins:List (Addr×Obj))(σ:St)(Q:VK)(u:Value)(s':Shared):Prop:=∃v H',Inv X pins σ H' s'/\RelV v u/\Q v H'
def TP(X:Cx)(pins:List (Addr×Obj))(σ:St)(Q:Bool->Hp->Prop)(b:Bool)(s':Shared):Prop:=∃H',Inv X pins σ H' s'/\Q b H'
def AP(X:Cx)(pins:List (Addr×Obj))(σ:St)(Q:List V->Hp->Prop)(us:List Value)(s':Shared):Prop:=∃vs H',Inv X pins σ H' s'/\Vals vs us/\Q vs H'
def SP(X:Cx)(pins:List (Addr×Obj))(D:Ends)(f:Flow)(s':Shared):Prop:=
 match f with
 |.next=>∃σ' H',Inv X pins σ' H' s'/\D.nx σ' H'
 |.brk=>∃σ' H',Inv X pins σ' H' s'/\D.bk σ' H'
 |.cont=>∃σ' H',Inv X pins σ' H' s'/\D.ct σ' H'
 |.ret u=>∃v σ' H',Inv X pins σ' H' s'/\RelV v u/\D.rt v H'
def PE(X:Cx)(e:Expr)(t:TE):Prop:=
 ∀(pins:List (Addr×Obj))(s:Shared)(σ:St)(H:Hp)(Q:VK),Inv X pins σ H s->t σ H Q->wpAny (model X.prog X.w) X.A (eval e X.env) (EP X pins σ Q) X.xe s
def PT(X:Cx)(e:Expr)(t:TT):Prop:=
 ∀(pins:List (Addr×Obj))(s:Shared)(σ:St)(H:Hp)(Q:Bool->Hp->Prop),Inv X pins σ H s->t σ H Q->wpAny (model X.prog X.w) X.A (isTrue e X.env (eval e X.env)) (TP X pins σ Q) X.xe s
def PW(X:Cx)(e:Expr)(t:TT):Prop:=
 ∀(whole:Sem Value)(pins:List (Addr×Obj))(s:Shared)(σ:St)(H:Hp)(Q:Bool->Hp->Prop),Inv X pins σ H s->t σ H Q->wpAny (model X.prog X.w) X.A (isTrue e X.env whole) (TP X pins σ Q) X.xe s
theorem PW.pt{X:Cx}{e:Expr}{t:TT}(h:PW X e t):PT X e t:=h _
def PA(X:Cx)(es:List Expr)(t:TA):Prop:=
 ∀(pos:Pos)(pins:List (Addr×Obj))(s:Shared)(σ:St)(H:Hp)(Q:List V->Hp->Prop),Inv X pins σ H s->t σ H Q->wpAny (model X.prog X.w) X.A (spliced (backTo pos (starEach es X.env))) (AP X pins σ Q) X.xe s
def PS(X:Cx)(st:Stmt)(t:TS):Prop:=
 ∀(pins:List (Addr×Obj))(s:Shared)(σ:St)(H:Hp)(D:Ends),Inv X pins σ H s->t D σ H->wpAny (model X.prog X.w) X.A (exec st X.env) (SP X pins D) X.xe s
def PSs(X:Cx)(st:List Stmt)(t:TS):Prop:=
 ∀(pins:List (Addr×Obj))(s:Shared)(σ:St)(H:Hp)(D:Ends),Inv X pins σ H s->t D σ H->wpAny (model X.prog X.w) X.A (execs st X.env) (SP X pins D) X.xe s
theorem thn{α:Type}{t:Sem α}{Q Q':α->Shared->Prop}{M:Model}{A:Around}{E:Value->Shared->Prop}{s:Shared}(h:wpAny M A t Q E s)(hQ:∀a s,Q a s->Q' a s):wpAny M A t Q' E s:=cr h hQ λ_ _ x=>x
section
variable {X:Cx}
theorem bin{a b:Expr}{ta tb:TE}(ha:PE X a ta)(hb:PE X b tb){pins:List (Addr×Obj)}{s:Shared}{σ:St}{H:Hp}{R:V->V->Hp->Prop}(I:Inv X pins σ H s)(h:ta σ H λx H1=>tb σ H1 λy H2=>R x y H2)
  {α:Type} {Q:α->Shared->Prop} {f:Value->Value->Sem α}
  (hf:∀v u s2 x y H2,Inv X pins σ H2 s2->RelV x v->RelV y u->R x y H2->wpAny (model X.prog X.w) X.A (f v u) Q X.xe s2):
  wpAny (model X.prog X.w) X.A (eval a X.env) (λv s₁=>wpAny (model X.prog X.w) X.A (eval b X.env) (λu s₂=>wpAny (model X.prog X.w) X.A (f v u) Q X.xe s₂) X.xe s₁) X.xe s:=by
 refine thn (ha pins s σ H _ I h) λv s1 ⟨x,H1,I1,r1,q1⟩=>?_;refine thn (hb pins s1 σ H1 _ I1 q1) λu s2 ⟨y,H2,I2,r2,q2⟩=>?_;exact hf v u s2 x y H2 I2 r1 r2 q2
def Mj(i:Nat):TE:=λσ H Q=>∃v,σ[i]?=some (some v)/\Q v H
def tC(v:V):TE:=λ_ H Q=>Q v H
theorem Ml {i:Nat} {x:Str} {pos:Pos} (hN:X.N[i]?=some x) (hv:Vis X.env.scope x) (hd:(x==("__debug__":Str))=false:=by decide) (hcd:(x==("__classdict__":Str))=false:=by decide):PE X (.Name x pos) (Mj i):=by
 intro pins s σ H Q I h;obtain ⟨v,e,h⟩:=h;obtain ⟨m,hn,hl⟩:=I.loc;obtain ⟨u,r,l⟩:=hl i x v hN e hv;have fin:EP X pins σ Q u s:=⟨v,H,I,r,h⟩;rcases l with ⟨hk,hm⟩ |⟨hk,c,hc,hcell⟩
 ·exact wpAny_Name (wpAny_loadName_local I.ok.kind hk hn hm fin) hd
 ·rcases hk with hk |hk
  ·exact wpAny_Name (wpAny_loadName_cell I.ok.kind hk hc hcell fin) hd
  ·exact wpAny_Name (wpAny_loadName_free I.ok.kind hk hc hcell fin hcd) hd
theorem Mm{i j pos}:PE X (.Constant (.int i) j pos) (tC (.int i)):=λ_ _ _ H _ I h=>wpAny_Constant_int ⟨.int i,H,I.tok _,⟨_,rfl⟩,h⟩
theorem Mp{b j pos}:PE X (.Constant (.bool b) j pos) (tC (.bl b)):=λ_ _ _ H _ I h=>Constant_bool ⟨.bl b,H,I,rfl,h⟩
theorem Mq{j pos}:PE X (.Constant .none j pos) (tC .non):=λ_ _ _ H _ I h=>Constant_none ⟨.non,H,I,rfl,h⟩
theorem Mr{x j pos}:PE X (.Constant (.str x) j pos) (tC (.str x)):=λ_ _ _ H _ I h=>Calls.Constant_str ⟨.str x,H,I.tok _,⟨_,rfl⟩,h⟩
def Gl(X:Cx)(x:Str):Prop:=X.env.kindOf x=some .globalImplicit
theorem qx{E:Value->Shared->Prop}{pins:List (Addr×Obj)}{s:Shared}{σ:St}{H:Hp}{x:Str}{u:Value}{pos:Pos}{Q:Value->Shared->Prop}(I:Inv X pins σ H s)(hg:Gl X x)(hm:X.mg x=some u)(h:Q u s)
  (hd:(x==("__debug__":Str))=false:=by decide):wpAny (model X.prog X.w) X.A (eval (.Name x pos) X.env) Q E s:=
 Calls.Name_function_global I.ok.kind hg (Calls.loadGlobal_global (by rw[I.ok.glob];exact I.mod.glob.keeps I.bk) hm h) hd
theorem gn{E:Value->Shared->Prop}{pins:List (Addr×Obj)}{s:Shared}{σ:St}{H:Hp}{x:Str}{u:Value}{pos:Pos}{Q:Value->Shared->Prop}(I:Inv X pins σ H s)(hg:Gl X x)(hm:X.mg x=none)(hv:bootBuiltins x=some u)(h:Q u s)
  (hn:x≠"__name__":=by decide) (hd:(x==("__debug__":Str))=false:=by decide):wpAny (model X.prog X.w) X.A (eval (.Name x pos) X.env) Q E s:=by
 obtain ⟨mb,h1,h2⟩:=I.mod.blt;exact Calls.Name_function_global I.ok.kind hg (Calls.loadGlobal_builtin (by rw[I.ok.glob];exact I.mod.glob.keeps I.bk) hm (by rw[I.ok.blt];exact h1.keeps I.bk) ((h2 x hn).trans hv) h) hd
theorem Ms {x:Str} {v:V} {u:Value} {pos:Pos} (hg:Gl X x) (hm:X.mg x=none) (hv:bootBuiltins x=some u) (r:RelV v u) (hn:x≠"__name__":=by decide) (hd:(x==("__debug__":Str))=false:=by decide):PE X (.Name x pos) (tC v):=
 λ_ _ _ H _ I h=>gn I hg hm hv ⟨v,H,I,r,h⟩ hn hd
variable {a b:Expr} {ta tb:TE} {pos:Pos}
variable {tA tB':TT} {rest:List Expr}
def Mt(t u:TT):TT:=λσ H Q=>t σ H λc H1=>if c=true then u σ H1 Q else Q false H1
def tOr(t u:TT):TT:=λσ H Q=>t σ H λc H1=>if c=true then Q true H1 else u σ H1 Q
def Mu(t:TT):TT:=λσ H Q=>t σ H λc H1=>Q (!c) H1
theorem Mv(ha:PT X a tA):PW X (.BoolOp .And [a] pos) tA:=by
 intro wh pins s σ H Q I h;refine isTrue_and (thn (ha pins s σ H Q I h) λc s1 e=>?_);cases c with
 |true=>exact isTrue_and_nil e
 |false=>exact e
theorem Mw(ha:PT X a tA):PW X (.BoolOp .Or [a] pos) tA:=by
 intro wh pins s σ H Q I h;refine isTrue_or (thn (ha pins s σ H Q I h) λc s1 e=>?_);cases c with
 |false=>exact isTrue_or_nil e
 |true=>exact e
theorem Mx(ha:PT X a tA)(hb:PW X (.BoolOp .And (b::rest) pos) tB'):PW X (.BoolOp .And (a::b::rest) pos) (Mt tA tB'):=by
 intro wh pins s σ H Q I h;refine isTrue_and (thn (ha pins s σ H _ I h) λc s1 ⟨H1,I1,q1⟩=>?_);cases c with
 |true=>exact hb wh pins s1 σ H1 Q I1 q1
 |false=>exact ⟨H1,I1,q1⟩
theorem My(ha:PT X a tA)(hb:PW X (.BoolOp .Or (b::rest) pos) tB'):PW X (.BoolOp .Or (a::b::rest) pos) (tOr tA tB'):=by
 intro wh pins s σ H Q I h;refine isTrue_or (thn (ha pins s σ H _ I h) λc s1 ⟨H1,I1,q1⟩=>?_);cases c with
 |true=>exact ⟨H1,I1,q1⟩
 |false=>exact hb wh pins s1 σ H1 Q I1 q1
theorem Mz(ha:PT X a tA):PT X (.UnaryOp .Not a pos) (Mu tA):=by intro pins s σ H Q I h;exact isTrue_not (ha pins s σ H (λc H1=>Q (!c) H1) I h)
def MF(ta tb:TE):TE:=λσ H Q=>ta σ H λx H1=>∃c,x=.bl c/\if c=true then tb σ H1 Q else Q (.bl false) H1
def MJ(ta tb:TE):TE:=λσ H Q=>ta σ H λx H1=>∃c,x=.bl c/\if c=true then Q (.bl true) H1 else tb σ H1 Q
theorem MK{op}{t:TE}(h:PE X a t):PE X (.BoolOp op [a] pos) t:=λpins s σ H Q I hw=>BoolOp_one (h pins s σ H Q I hw)
theorem MN(ha:PE X a ta)(hb:PE X (.BoolOp .And (b::rest) pos) tb):PE X (.BoolOp .And (a::b::rest) pos) (MF ta tb):=by
 intro pins s σ H Q I h;refine BoolOp_and (thn (ha pins s σ H _ I h) λv s1 ⟨x,H1,I1,r1,q1⟩=>?_);obtain ⟨c,rfl,q1⟩:=q1;cases r1;refine fv ?_;cases c with
 |true=>exact hb pins s1 σ H1 Q I1 q1
 |false=>exact ⟨.bl false,H1,I1,rfl,q1⟩
theorem MP(ha:PE X a ta)(hb:PE X (.BoolOp .Or (b::rest) pos) tb):PE X (.BoolOp .Or (a::b::rest) pos) (MJ ta tb):=by
 intro pins s σ H Q I h;refine BoolOp_or (thn (ha pins s σ H _ I h) λv s1 ⟨x,H1,I1,r1,q1⟩=>?_);obtain ⟨c,rfl,q1⟩:=q1;cases r1;refine fv ?_;cases c with
 |false=>exact hb pins s1 σ H1 Q I1 q1
 |true=>exact ⟨.bl true,H1,I1,rfl,q1⟩
end
def SqL(K:PF)(H:Hp)(a:Addr)(xs:List V):Prop:=
 Rd H a (.lst xs)\/
  ∃(o:Obj) (its:Array Value) (n:Nat),K.lookup a=some o/\o.cls=.type "list"/\o.dict=none/\o.data=.seq its n/\its.size<=sizeLine/\Vals xs its.toList
def SqT(K:PF)(H:Hp)(a:Addr)(xs:List V):Prop:=
 Rd H a (.tup xs)\/
  ∃(o:Obj) (its:Array Value) (n:Nat),K.lookup a=some o/\o.cls=.type "tuple"/\o.data=.seq its n/\its.size<=sizeLine/\Vals xs its.toList
noncomputable def MT:Value->Option V
 |.none=>some .non
 |.bool b=>some (.bl b)
 |.int i _=>some (.int i)
 |.str x _=>some (.str x)
 |.bytes b _=>some (.byt b)
 |.float b _=>some (.flt b)
 |.ref a=>some (.ref a)
 |.type n=>some (.ty n)
 |_=>none
theorem RelV.abs{x:V}{u:Value}(r:RelV x u):MT u=some x:=by
 cases x with
 |non=>cases r;rfl
 |bl _=>cases r;rfl
 |int _=>obtain ⟨t,rfl⟩:=r;rfl
 |str _=>obtain ⟨t,rfl⟩:=r;rfl
 |byt _=>obtain ⟨t,rfl⟩:=r;rfl
 |flt _=>obtain ⟨t,rfl⟩:=r;rfl
 |ref _=>cases r;rfl
 |ty _=>cases r;rfl
theorem RelV.inj{x y:V}{u:Value}(r:RelV x u)(q:RelV y u):x=y:=bP (r.abs.symm.trans q.abs)
theorem Vals.inj:∀{xs ys:List V}{us:List Value},Vals xs us->Vals ys us->xs=ys
 |_,_,_,.nil,.nil=>rfl
 |_,_,_,.cons r t,.cons r' t'=>by rw[r.inj r',Vals.inj t t']
section
variable {X:Cx} {pins:List (Addr×Obj)} {σ:St} {H:Hp} {s:Shared} {a:Addr} {xs ys:List V}
theorem SqL.of{K:PF}(h:H a=some (.lst xs)):SqL K H a xs:=.inl (.inl h)
theorem SqT.of{K:PF}(h:H a=some (.tup xs)):SqT K H a xs:=.inl (.inl h)
theorem Inv.list(I:Inv X pins σ H s)(h:SqL X.K H a xs):∃its:List Value,Vals xs its/\PlainL s.heap a its.toArray/\xs.length<=sizeLine:=by
 rcases h with h |⟨o,its,n,hk,hc,hd,hs,hz,r⟩
 ·obtain ⟨z,its,n,r,e⟩:=h.ok I.hok;exact ⟨its,r,⟨_,n,e,rfl,rfl,rfl⟩,z⟩
 ·refine ⟨its.toList,r,⟨o,n,I.kIn a o hk,hc,hd,by simpa using hs⟩,?_⟩;have e:=r.length;simp only[bn]at e;omega
theorem Inv.tuple(I:Inv X pins σ H s)(h:SqT X.K H a xs):∃its:List Value,Vals xs its/\IsTup s.heap a its.toArray/\xs.length<=sizeLine:=by
 rcases h with h |⟨o,its,n,hk,hc,hs,hz,r⟩
 ·obtain ⟨z,its,r,p⟩:=h.ok I.hok;exact ⟨its,r,p,z⟩
 ·refine ⟨its.toList,r,⟨o,I.kIn a o hk,hc,n,by simpa using hs⟩,?_⟩;have e:=r.length;simp only[bn]at e;omega
theorem Inv.list_inj(I:Inv X pins σ H s)(h:SqL X.K H a xs)(h':SqL X.K H a ys):xs=ys:=by
 obtain ⟨its,r,⟨o,n,e,_,_,d⟩,_⟩:=I.list h;obtain ⟨its',r',⟨o',n',e',_,_,d'⟩,_⟩:=I.list h';rw[e]at e';cases e';rw[d]at d';injection d' with d1 _;have:its=its':=by simpa using d6 Array.toList d1
 subst this;exact r.inj r'
theorem Inv.tuple_inj(I:Inv X pins σ H s)(h:SqT X.K H a xs)(h':SqT X.K H a ys):xs=ys:=by
 obtain ⟨its,r,⟨o,e,_,n,d⟩,_⟩:=I.tuple h;obtain ⟨its',r',⟨o',e',_,n',d'⟩,_⟩:=I.tuple h';rw[e]at e';cases e';rw[d]at d';injection d' with d1 _;have:its=its':=by simpa using d6 Array.toList d1
 subst this;exact r.inj r'
end
abbrev Cx.wish(X:Cx)(E:Value->Shared->Prop):Cx:={ X with xe:=E }
abbrev Cx.nox(X:Cx):Cx:=X.wish λ_ _=>False
theorem Cx.Ok.wish{X:Cx}(ok:X.Ok)(E:Value->Shared->Prop):(X.wish E).Ok:=
 ⟨ok.mod,ok.kind,ok.glob,ok.blt,ok.above,ok.inj,ok.has,ok.cab,ok.hd,ok.frames,ok.stk,ok.exf,ok.bs,ok.bsz,ok.noex,ok.exfs,ok.funs,ok.frf⟩
theorem Cx.Ok.unwish{X:Cx}{E:Value->Shared->Prop}(ok:(X.wish E).Ok):X.Ok:=
 ⟨ok.mod,ok.kind,ok.glob,ok.blt,ok.above,ok.inj,ok.has,ok.cab,ok.hd,ok.frames,ok.stk,ok.exf,ok.bs,ok.bsz,ok.noex,ok.exfs,ok.funs,ok.frf⟩
section
variable {X:Cx} {pins:List (Addr×Obj)} {σ:St} {H:Hp} {s:Shared} {E:Value->Shared->Prop}
theorem Inv.wish(I:Inv X pins σ H s)(E:Value->Shared->Prop):Inv (X.wish E) pins σ H s:=⟨I.ok.wish E,I.os,I.bare,I.base,I.loc,I.cell,I.free,I.freeC,I.pin,I.hok,I.len⟩
theorem Inv.unwish(I:Inv (X.wish E) pins σ H s):Inv X pins σ H s:=⟨I.ok.unwish,I.os,I.bare,I.base,I.loc,I.cell,I.free,I.freeC,I.pin,I.hok,I.len⟩
theorem SP.unwish{D:Ends}{f:Flow}{s':Shared}(h:SP (X.wish E) pins D f s'):SP X pins D f s':=by
 cases f with
 |next=>obtain ⟨σ',H',I,q⟩:=h;exact ⟨σ',H',I.unwish,q⟩
 |brk=>obtain ⟨σ',H',I,q⟩:=h;exact ⟨σ',H',I.unwish,q⟩
 |cont=>obtain ⟨σ',H',I,q⟩:=h;exact ⟨σ',H',I.unwish,q⟩
 |ret u=>obtain ⟨v,σ',H',I,r,q⟩:=h;exact ⟨v,σ',H',I.unwish,r,q⟩
theorem PSs.nox{st:List Stmt}{t:TS}(h:PSs X.nox st t):PSs X st t:=λpins s σ H D I hw=>
 cr (h pins s σ H D (I.wish _) hw) (λ_ _ q=>q.unwish) λ_ _ z=>False.elim z
end
section
variable {X:Cx} {st:Stmt} {rest:List Stmt} {t u:TS} {e:Expr} {te:TE} {pos:Pos}
def vX:TS:=λD σ H=>D.nx σ H
def M3(t u:TS):TS:=λD σ H=>t { D with nx:=u D } σ H
theorem M4:PSs X [] vX:=λ_ _ σ H _ I h=>wpAny_execs_nil ⟨σ,H,I,h⟩
theorem M5(h1:PS X st t)(h2:PSs X rest u):PSs X (st::rest) (M3 t u):=by
 intro pins s σ H D I h;refine wpAny_execs_cons (thn (h1 pins s σ H { D with nx:=u D } I h) λf s1 q=>?_);cases f with
 |next=>
  obtain ⟨σ',H',I',q⟩:=q;exact h2 pins s1 σ' H' D I' q
 |ret v=>exact q
 |brk=>exact q
 |cont=>exact q
def M6:TS:=λD σ H=>D.bk σ H
def M7:TS:=λD σ H=>D.ct σ H
theorem M8:PS X (.Pass pos) vX:=λ_ _ σ H _ I h=>wpAny_Pass ⟨σ,H,I,h⟩
theorem M9:PS X (.Break pos) M6:=λ_ _ σ H _ I h=>wpAny_Break ⟨σ,H,I,h⟩
theorem Nb:PS X (.Continue pos) M7:=λ_ _ σ H _ I h=>wpAny_Continue ⟨σ,H,I,h⟩
theorem Inv.quiet{pins:List (Addr×Obj)}{σ:St}{H:Hp}{s:Shared}(I:Inv X pins σ H s):interactive X.env=false:=by simp[interactive,I.ok.kind]
def Nf(te:TE):TS:=λD σ H=>te σ H λ_ H1=>D.nx σ H1
theorem Ng(he:PE X e te)(hs:swapsWith e none pos.line X.env=pure false:=by rfl):PS X (.Expr e pos) (Nf te):=by intro pins s σ H D I h;exact wpAny_Expr_any (thn (he pins s σ H _ I h) λv s1 ⟨x,H1,I1,r1,q1⟩=>⟨σ,H1,I1,q1⟩) I.quiet hs
def Nh(te:TE):TS:=λD σ H=>te σ H D.rt
theorem Ni(he:PE X e te):PS X (.Return (some e) pos) (Nh te):=by intro pins s σ H D I h;exact wpAny_Return_some (thn (he pins s σ H _ I h) λv s1 ⟨x,H1,I1,r1,q1⟩=>⟨x,σ,H1,I1,r1,q1⟩)
def Nj:TS:=λD _ H=>D.rt .non H
theorem Nk:PS X (.Return none pos) Nj:=λ_ _ σ H _ I h=>wpAny_Return_none ⟨.non,σ,H,I,rfl,h⟩
def Nm(c:TT)(t u:TS):TS:=λD σ H=>c σ H λb H1=>if b=true then t D σ H1 else u D σ H1
theorem Np{c:Expr}{a b:List Stmt}{tc:TT}(hc:PT X c tc)(ha:PSs X a t)(hb:PSs X b u):PS X (.If c a b pos) (Nm tc t u):=by
 intro pins s σ H D I h;refine wpAny_If (thn (hc pins s σ H _ I h) λd s1 ⟨H1,I1,q1⟩=>?_);cases d with
 |true=>exact ha pins s1 σ H1 D I1 q1
 |false=>exact hb pins s1 σ H1 D I1 q1
def Nq:TS:=λ_ _ _=>False
theorem Nr:PS X st Nq:=λ_ _ _ _ _ _ h=>h.elim
end
abbrev TG:=V->St->Hp->(St->Hp->Prop)->Prop
abbrev TGs:=List V->St->Hp->(St->Hp->Prop)->Prop
def PG(X:Cx)(target:Expr)(t:TG):Prop:=
 ∀(pins:List (Addr×Obj))(s:Shared)(σ:St)(H:Hp)(v:V)(u:Value)(Q:St->Hp->Prop),Inv X pins σ H s->RelV v u->t v σ H Q->
  wpAny (model X.prog X.w) X.A (assign target X.env u) (λ_ s'=>∃σ' H',Inv X pins σ' H' s'/\Q σ' H') X.xe s
def PGs(X:Cx)(ts:List Expr)(t:TGs):Prop:=
 ∀(pins:List (Addr×Obj))(s:Shared)(σ:St)(H:Hp)(vs:List V)(us:List Value)(Q:St->Hp->Prop),Inv X pins σ H s->Vals vs us->t vs σ H Q->
  wpAny (model X.prog X.w) X.A (assignInOrder ((assignEach ts X.env).map (·.2)) us) (λ_ s'=>∃σ' H',Inv X pins σ' H' s'/\Q σ' H') X.xe s
abbrev qy:=V->V->V->Hp->(Hp->Prop)->Prop
def qz(X:Cx)(t:qy):Prop:=
 ∀(pins:List (Addr×Obj))(s:Shared)(σ:St)(H:Hp)(o i v:V)(ov iv u:Value)(Q:Hp->Prop),Inv X pins σ H s->RelV o ov->RelV i iv->RelV v u->t o i v H Q->
  wpAny (model X.prog X.w) X.A (setItem ov iv u) (λ_ s'=>∃H',Inv X pins σ H' s'/\Q H') X.xe s
section
variable {X:Cx} {pos:Pos}
def lR(i:Nat):TG:=λv σ H Q=>Q (σ.set i (some v)) H
theorem qC{i:Nat}{x:Str}(hN:X.N.Nodup)(hi:X.N[i]?=some x)(hx:Loc X.env.scope x)(hf:X.fn x=true\/X.env.scope.names.lookup x=some .local:=by first |exact .inl rfl |exact .inr rfl |assumption):PG X (.Name x pos) (lR i):=by intro pins s σ H v u Q I r h;exact wpAny_assign_Name (qw I hN hi hx r (λs' I'=>⟨_,H,I',h⟩) hf)
def Nt:TGs:=λvs σ H Q=>vs=[]/\Q σ H
def Nu(t:TG)(u:TGs):TGs:=λvs σ H Q=>∃v r,vs=v::r/\t v σ H λσ' H'=>u r σ' H' Q
theorem vY:PGs X [] Nt:=by intro pins s σ H vs us Q I r h;obtain ⟨e,h⟩:=h;subst e;cases r;exact assignInOrder_nil ⟨σ,H,I,h⟩
theorem qD{e:Expr}{es:List Expr}{t:TG}{u:TGs}(h1:PG X e t)(h2:PGs X es u)
  (hs:(assignEach (e::es) X.env).map (·.2)=assign e X.env::(assignEach es X.env).map (·.2):=by rfl):PGs X (e::es) (Nu t u):=by
 intro pins s σ H vs us Q I r h;obtain ⟨v,vr,e1,h⟩:=h;subst e1;cases r with
 |cons r rr=>
  rw[hs];refine assignInOrder_cons (thn (h1 pins s σ H _ _ _ I r h) λ_ s1 ⟨σ1,H1,I1,q1⟩=>?_);exact h2 pins s1 σ1 H1 _ _ Q I1 rr q1
def Nv(K:PF)(n:Nat)(t:TGs):TG:=λv σ H Q=>∃a xs,v=.ref a/\SqT K H a xs/\xs.length=n/\t xs σ H Q
theorem Nx{es:List Expr}{k:Nat}{t:TGs}{n:Nat}(hc:X.calm=true)(h:PGs X es t)
  (hn:(assignEach es X.env).length=n:=by rfl) (hst:(assignEach es X.env).findIdx? (·.1)=none:=by rfl):PG X (.Tuple es k pos) (Nv X.K n t):=by
 intro pins s σ H v u Q I r hw;obtain ⟨a,xs,e1,hq,hl,hw⟩:=hw;subst e1;cases r;obtain ⟨its,rv,ht,hz⟩:=I.tuple hq;refine assign_Tuple_tuple (I.ok.hd hc) ht (by simp[hn,<-hl,rv.length]) hst λh' hx=>?_;have I1:Inv X pins σ H { s with heap:=h' }:=I.kept (t':=s.toks) λb o e=>hx b o (b6 (ay e)) e;exact h pins _ σ H xs _ Q I1 (by simpa using rv) hw
def Ny(to ti:TE)(t:qy):TG:=λv σ H Q=>to σ H λo H1=>ti σ H1 λi H2=>t o i v H2 λH3=>Q σ H3
theorem Nz{o i:Expr}{to ti:TE}{t:qy}(ho:PE X o to)(hi:PE X i ti)(hs:qz X t)
  (ha:∀v,assign (.Subscript o i pos) X.env v=(do
   let ov <-holding [v] (eval o X.env)
   let iv <-holding [v,ov] (eval i X.env)
   standAt pos
   holding [v,ov,iv] (setItem ov iv v)
   release [v,ov,iv] []):=by intro _;rfl):PG X (.Subscript o i pos) (Ny to ti t):=by
 intro pins s σ H v u Q I r h;rw[ha];refine ae (cq (thn (ho pins s σ H _ I h) λov s1 ⟨x,H1,I1,r1,q1⟩=>?_));refine ae (cq (thn (hi pins s1 σ H1 _ I1 q1) λiv s2 ⟨y,H2,I2,r2,q2⟩=>?_));refine ae (hV (ae (cq (thn (hs pins s2 σ H2 x y v ov iv u _ I2 r1 r2 r q2) λ_ s3 ⟨H3,I3,q3⟩=>?_))));exact wpAny_release ⟨σ,H3,I3,q3⟩
def lU(te:TE)(g:TG):TS:=λD σ H=>te σ H λx H1=>g x σ H1 D.nx
theorem qF{tg e:Expr}{te:TE}{g:TG}(he:PE X e te)(hg:PG X tg g)(hs:swapsWithSole [tg] e pos.line X.env=pure false:=by rfl)(hw:swappedStores [tg] e X.env=pure none:=by rfl)
  (h1:(assignEach [tg] X.env).map (·.2)=[assign tg X.env]:=by rfl):PS X (.Assign [tg] e pos) (lU te g):=by
 intro pins s σ H D I h;refine wpAny_Assign_stores (thn (he pins s σ H _ I h) λv s1 ⟨x,H1,I1,r1,q1⟩=>?_) hs hw;rw[h1];exact thn (hg pins s1 σ H1 x v _ I1 r1 q1) λ_ s2 q=>q
theorem vZ{i:Nat}{x:Str}{e:Expr}{te:TE}{pos':Pos}(hN:X.N.Nodup)(hi:X.N[i]?=some x)(hx:Loc X.env.scope x)(he:PE X e te)(hs:swapsWith e (some (.Name x pos')) pos.line X.env=pure false:=by rfl)(hf:X.fn x=true\/X.env.scope.names.lookup x=some .local:=by first |exact .inl rfl |exact .inr rfl |assumption):
  PS X (.Assign [.Name x pos'] e pos) (lU te (lR i)):=by
 intro pins s σ H D I h;refine wpAny_Assign_Name (thn (he pins s σ H _ I h) λv s1 ⟨y,H1,I1,r1,q1⟩=>?_) hs;exact qw I1 hN hi hx r1 (λs2 I2=>⟨_,H1,I2,q1⟩) hf
end
structure It where
 go:Nat->Hp->Prop
 yld:Nat->Hp->V->Hp->Prop
 stop:Nat->Hp->Prop
def dj(X:Cx)(pins:List (Addr×Obj))(H:Hp)(b:Addr):Prop:=
 H b=none/\b≠X.env.locals/\b∉X.fs/\(b∈X.ex\/X.s₀.heap.objs.size<=b)/\(∀x c,X.env.cells.lookup x=some c->c≠b)/\∀p∈X.pn++pins,p.1≠b
theorem Inv.fpOk{X:Cx}{pins:List (Addr×Obj)}{σ:St}{H H':Hp}{s:Shared}{b:Addr}(I:Inv X pins σ H s)(hb:s.heap.objs.size<=b)(hn:H' b=none):dj X pins H' b:=by
 refine ⟨hn,fb (bp I.lt hb),I.nofs hb,.inr (cw I.sz hb),λx c e z=>?_,λp hp z=>?_⟩
 ·obtain ⟨v,q⟩:=I.cell x c e;exact absurd (bp q.lt (by rw[z];exact hb)) (dL _)
 ·exact absurd (bp (ay (I.pin p hp).1) (by rw[z];exact hb)) (dL _)
structure Turn(P:Program)(w:World)(K:PF)(tg:Expr)(J:It)(fp:List Addr)(it:Addr)(tn:Nat->Heap->Prop):Prop where
 mem:it∈fp
 obj:∀i h,tn i h->∀b∈fp,∃o,h.get? b=some o/\∀v,o.data≠.cell v
 keep:∀i h h',tn i h->(∀b∈fp,∀o,h.get? b=some o->h'.get? b=some o)->tn i h'
 item:∀(X:Cx),X.prog=P->X.w=w->X.K=K->X.calm=true->∀(i:Nat)(pins:List (Addr×Obj))(s:Shared)(σ:St)(H:Hp)(E:Value->Shared->Prop),Inv X pins σ H s->(∀b∈fp,dj X pins H b)->tn i s.heap->J.go i H->
  wpAny (model P w) X.A (pyNext (.ref it)) (λr s1=>∃u,r=some u/\
   wpAny (model P w) X.A (letOwnedTupleGo tg (.ref it) u) (λ_ s2=>∃x H',Inv X pins σ H' s2/\RelV x u/\J.yld i H x H'/\tn (i+1) s2.heap/\∀b∈fp,H' b=none) E s1) E s
 done:∀(X:Cx),X.prog=P->X.w=w->X.K=K->X.calm=true->∀(i:Nat)(pins:List (Addr×Obj))(s:Shared)(σ:St)(H:Hp)(E:Value->Shared->Prop),Inv X pins σ H s->(∀b∈fp,dj X pins H b)->tn i s.heap->J.stop i H->
  wpAny (model P w) X.A (pyNext (.ref it)) (λr s1=>r=none/\Inv X pins σ H s1) E s
 self:∀(A:Around)(i:Nat)(s:Shared)(Q:Value->Shared->Prop)(E:Value->Shared->Prop),tn i s.heap->Q (.ref it) s->wpAny (model P w) A (pyIter (.ref it)) Q E s
abbrev TI:=St->Hp->(It->Hp->Prop)->Prop
def PIE(X:Cx)(pins:List (Addr×Obj))(σ:St)(tg:Expr)(R:It->Hp->Prop)(itv:Value)(s2:Shared):Prop:=
 ∃(it:Addr)(fp:List Addr)(tn:Nat->Heap->Prop)(J:It)(H':Hp),itv=.ref it/\Inv X pins σ H' s2/\Turn X.prog X.w X.K tg J fp it tn/\tn 0 s2.heap/\(∀b∈fp,dj X pins H' b)/\R J H'
def PI(X:Cx)(tg iter:Expr)(wi:TI):Prop:=
 ∀(pins:List (Addr×Obj))(s:Shared)(σ:St)(H:Hp)(R:It->Hp->Prop),Inv X pins σ H s->wi σ H R->
  wpAny (model X.prog X.w) X.A (eval iter X.env) (λv s1=>wpAny (model X.prog X.w) X.A (pyIter v) (PIE X pins σ tg R) X.xe s1) X.xe s
theorem lV{M:Model}{A:Around}{E:Value->Shared->Prop}{s:Shared}{tg:Expr}{it:Addr}{u:Value}{o:Obj}{n:String}{vs:Array Value}{Q:Unit->Shared->Prop}(ho:s.heap.get? it=some o)(hc:o.cls=.type n)(hd:o.data=.fields vs)
  (hn:["enumerate","zip","dict_itemiterator","dict_reverseitemiterator","odict_iterator","itertools.zip_longest","itertools.pairwise"].contains n=false) (hQ:Q () s):wpAny M A (letOwnedTupleGo tg (.ref it) u) Q E s:=by
 unfold letOwnedTupleGo;cases tg <;> first
  |exact am hQ
  | (cases u <;> first
    |exact am hQ
    | (refine ae (wpAny_load ho ?_)
       rw[hc,hd];show wpAny M A (if (["enumerate","zip","dict_itemiterator","dict_reverseitemiterator","odict_iterator","itertools.zip_longest","itertools.pairwise"].contains n&&vs[0]?==some (rawInt _))=true then _ else _) Q E s;rw[if_neg (by intro h;rw[hn,Bool.false_and]at h;cases h)];exact am hQ))
def Itl(K:PF)(a:Addr):It:=
 ⟨λi H=>∃xs x,SqL K H a xs/\xs[i]?=some x,λi H x H'=>H'=H/\∀xs,SqL K H a xs->xs[i]?=some x,λi H=>∃xs,SqL K H a xs/\xs.length<=i⟩
def Itt(K:PF)(a:Addr):It:=
 ⟨λi H=>∃xs x,SqT K H a xs/\xs[i]?=some x,λi H x H'=>H'=H/\∀xs,SqT K H a xs->xs[i]?=some x,λi H=>∃xs,SqT K H a xs/\xs.length<=i⟩
def Itr(lo:Int)(n:Nat):It:=⟨λi _=>i < n,λi H x H'=>H'=H/\x=.int (lo+i),λi _=>n<=i⟩
theorem v6{P:Program}{w:World}{K:PF}{tg:Expr}(a it:Addr):Turn P w K tg (Itl K a) [it] it (λi h=>h.IsListIter it a i) where
 mem:=by simp
 obj:=λi h st b hb=>by
  have e:b=it:=by simpa using hb
  subst e;obtain ⟨o,e,c,d⟩:=st;exact ⟨o,e,λv z=>by rw[d]at z;cases z⟩
 keep:=λi h h' st k=>st.at λo e=>k it (by simp) o e
 item:=by intro X hP hw hK hc i pins s σ H E I hf st hg;subst hP hw hK;obtain ⟨xs,x,hq,hx⟩:=hg;obtain ⟨its,rv,p,hz⟩:=I.list hq;obtain ⟨u,hu,ru⟩:=rv.get hx;obtain ⟨f0,f1,f2,f3,f4,f5⟩:=hf it (by simp);refine wpAny_pyNext_list_item st p.isList (x:=u) (by simpa using hu) λh' st' sb=>?_;have I1:Inv X pins σ H { s with heap:=h' }:=I.turned (t':=s.toks) (λb o hb e=>(sb.2 b hb).trans e) f0 f1 f3 f4 f5;obtain ⟨o,e,c,d⟩:=id st';exact ⟨u,rfl,lV (s:={ s with heap:=h' }) e c d (by decide) ⟨x,H,I1,ru,⟨rfl,λys hy=>by rw[I.list_inj hy hq];exact hx⟩,st',λb hb=>(hf b hb).1⟩⟩
 done:=by intro X hP hw hK hc i pins s σ H E I hf st hg;subst hP hw hK;obtain ⟨xs,hq,hx⟩:=hg;obtain ⟨its,rv,p,hz⟩:=I.list hq;obtain ⟨f0,f1,f2,f3,f4,f5⟩:=hf it (by simp);have hl:=rv.length;exact wpAny_pyNext_list_end (I.ok.hd hc) st p.isList (by simp;omega) λh' eb=>⟨rfl,I.turned (t':=s.toks) (λb o hb e=>eb b o hb e) f0 f1 f3 f4 f5⟩
 self:=λ_ _ _ _ _ st h=>wpAny_pyIter_listiter st h
theorem v7{P:Program}{w:World}{K:PF}{tg:Expr}(a it:Addr):Turn P w K tg (Itt K a) [it] it (λi h=>h.IsTupleIter it a i) where
 mem:=by simp
 obj:=λi h st b hb=>by
  have e:b=it:=by simpa using hb
  subst e;obtain ⟨o,e,c,d⟩:=st;exact ⟨o,e,λv z=>by rw[d]at z;cases z⟩
 keep:=λi h h' st k=>st.at λo e=>k it (by simp) o e
 item:=by intro X hP hw hK hc i pins s σ H E I hf st hg;subst hP hw hK;obtain ⟨xs,x,hq,hx⟩:=hg;obtain ⟨its,rv,p,hz⟩:=I.tuple hq;obtain ⟨u,hu,ru⟩:=rv.get hx;obtain ⟨f0,f1,f2,f3,f4,f5⟩:=hf it (by simp);refine wpAny_pyNext_tuple_item st (show s.heap.IsTuple a its.toArray from p) (x:=u) (by simpa using hu) λh' st' sb=>?_;have I1:Inv X pins σ H { s with heap:=h' }:=I.turned (t':=s.toks) (λb o hb e=>(sb.2 b hb).trans e) f0 f1 f3 f4 f5;obtain ⟨o,e,c,d⟩:=id st';exact ⟨u,rfl,lV (s:={ s with heap:=h' }) e c d (by decide) ⟨x,H,I1,ru,⟨rfl,λys hy=>by rw[I.tuple_inj hy hq];exact hx⟩,st',λb hb=>(hf b hb).1⟩⟩
 done:=by intro X hP hw hK hc i pins s σ H E I hf st hg;subst hP hw hK;obtain ⟨xs,hq,hx⟩:=hg;obtain ⟨its,rv,p,hz⟩:=I.tuple hq;obtain ⟨f0,f1,f2,f3,f4,f5⟩:=hf it (by simp);have hl:=rv.length;exact wpAny_pyNext_tuple_end (I.ok.hd hc) st (show s.heap.IsTuple a its.toArray from p) (by simp;omega) λh' eb=>⟨rfl,I.turned (t':=s.toks) (λb o hb e=>eb b o hb e) f0 f1 f3 f4 f5⟩
 self:=λ_ _ _ _ _ st h=>wpAny_pyIter_tupleiter st h
theorem NB{P:Program}{w:World}{K:PF}{tg:Expr}(it:Addr)(lo:Int)(n:Nat):Turn P w K tg (Itr lo n) [it] it (λi h=>IsRangeIter h it (lo+(i:Nat) * 1) ((n:Int) - (i:Nat)) 1) where
 mem:=by simp
 obj:=λi h st b hb=>by
  have e:b=it:=by simpa using hb
  subst e;exact ⟨_,st,λv z=>by
   have z':Data.fields _=Data.cell v:=z;cases z'⟩
 keep:=λi h h' st k=>k it (by simp) _ st
 item:=by intro X hP hw hK hc i pins s σ H E I hf st hg;subst hP hw hK;obtain ⟨f0,f1,f2,f3,f4,f5⟩:=hf it (by simp);have W:=Walks.range (prog:=X.prog) (w:=X.w) (I.ok.hd hc) it lo 1 n;refine W.item i s _ _ hg st λv h' tk hv st' kk=>?_;obtain ⟨t,rfl⟩:=hv;have I1:Inv X pins σ H { s with heap:=h',toks:=tk }:=I.turned (λb o hb e=>kk b o (by simpa using hb) e) f0 f1 f3 f4 f5;refine ⟨_,rfl,lV (s:={ s with heap:=h',toks:=tk }) (n:="range_iterator") st' rfl rfl (by decide) ⟨.int (lo+i),H,I1,⟨t,?_⟩,⟨rfl,rfl⟩,st',λb hb=>(hf b hb).1⟩⟩;rw[Int.mul_one]
 done:=by intro X hP hw hK hc i pins s σ H E I hf st hg;subst hP hw hK;obtain ⟨f0,f1,f2,f3,f4,f5⟩:=hf it (by simp);exact wpAny_pyNext_range_end (I.ok.hd hc) st (by have:n<=i:=hg;omega) λh' eb=>⟨rfl,I.turned (t':=s.toks) (λb o hb e=>eb b o hb e) f0 f1 f3 f4 f5⟩
 self:=λ_ _ _ _ _ st h=>wpAny_pyIter_rangeiter st h
section
variable {X:Cx} {tg:Expr}
theorem NK{pins:List (Addr×Obj)}{σ:St}{H:Hp}{s:Shared}{R:It->Hp->Prop}{E:Value->Shared->Prop}{lo hi:Int}{t u v:Tok}{tk:Nat}(I:Inv X pins σ H s)(h1:-(2 ^ 62)<=lo)(h2:lo < 2 ^ 62)(h3:-(2 ^ 62)<=hi)(h4:hi < 2 ^ 62)
  (q:R (Itr lo (hi - lo).toNat) H):wpAny (model X.prog X.w) X.A (pyIter (.ref s.heap.objs.size)) (PIE X pins σ tg R) E { s with heap:=s.heap.push { cls:=.type "range",data:=.fields #[.int lo t,.int hi u,.int 1 v] },toks:=tk }:=by
 refine wpAny_pyIter_range (IsRange.new ..) (small_one h1 h2 h3 h4) ?_;have I1:Inv X pins σ H { s with heap:=s.heap.push { cls:=.type "range",data:=.fields #[.int lo t,.int hi u,.int 1 v] },toks:=tk }:=I.kept λb o e=>ah _ e;refine ⟨(s.heap.push { cls:=.type "range",data:=.fields #[.int lo t,.int hi u,.int 1 v] }).objs.size,[(s.heap.push { cls:=.type "range",data:=.fields #[.int lo t,.int hi u,.int 1 v] }).objs.size],_,_,H,rfl,
  I1.kept (t':=tk) λb o e=>ah _ e,NB _ lo (hi - lo).toNat,?_,λb hb=>?_,q⟩
 ·have e1:lo+((0:Nat):Int) * 1=lo:=by simp
  have e2:(((hi - lo).toNat:Nat):Int) - ((0:Nat):Int)=Builtin.Range.rangeSize lo hi 1:=by rw[rangeSize_one];split <;> omega
  show IsRangeIter _ _ (lo+((0:Nat):Int) * 1) ((((hi - lo).toNat:Nat):Int) - ((0:Nat):Int)) 1;rw[e1,e2];exact aI _ rfl
 ·have e:b=(s.heap.push { cls:=.type "range",data:=.fields #[.int lo t,.int hi u,.int 1 v] }).objs.size:=by simpa using hb
  subst e;exact I1.fpOk (av _) (I1.hok.fresh (av _))
def NP(ta:TA):TI:=λσ H R=>ta σ H λvs H1=>∃j:Int,vs=[.int j]/\-(2 ^ 62)<=j/\j < 2 ^ 62/\R (Itr 0 j.toNat) H1
theorem NQ {a:Expr} {ta:TA} {p pos:Pos} (hg:Gl X "range") (hm:X.mg "range"=none) (ha:PA X [a] ta) (hs:starEach [a] X.env=[(false,eval a X.env)]:=by rfl):PI X tg (.Call (.Name "range" p) [a] [] pos) (NP ta):=by
 intro pins s σ H R I h;refine Call_ (gn I hg hm boot_range (gy (thn (ha pos pins s σ H _ I h) λus s1 ⟨vs,H1,I1,r1,q1⟩=>?_) hs rfl));obtain ⟨j,e,q1,q2,q⟩:=q1;subst e;cases r1 with
 |cons r rr=>
  cases rr;obtain ⟨t,rfl⟩:=r;exact call_range_1 (NK I1 (by omega) (by omega) q1 q2 (by simpa using q))
def NT(wi:TI)(g:TG)(tb:TS):TS:=λD σ H=>wi σ H λJ H1=>∃W:Nat->Nat->St->Hp->Prop,(∃m,W 0 m σ H1)/\∀i m σ H,W i m σ H->
 (J.stop i H/\D.nx σ H)\/(J.go i H/\∃N:St->Hp->Prop,(∀σ' H',N σ' H'->∃m',m' < m/\W (i+1) m' σ' H')/\∀x H',J.yld i H x H'->g x σ H' λσ2 H2=>tb { D with nx:=N,ct:=N,bk:=D.nx } σ2 H2)
def ie(fp:List Addr)(h:Heap):List (Addr×Obj):=fp.filterMap λb=>(h.get? b).map λo=>(b,o)
theorem ig{fp:List Addr}{h:Heap}{b:Addr}{o:Obj}(hb:b∈fp)(e:h.get? b=some o):(b,o)∈ie fp h:=List.mem_filterMap.mpr ⟨b,hb,by rw[e];rfl⟩
theorem qG{fp:List Addr}{h:Heap}{p:Addr×Obj}(hp:p∈ie fp h):p.1∈fp/\h.get? p.1=some p.2:=by
 obtain ⟨b,hb,e⟩:=List.mem_filterMap.mp hp;cases q:h.get? b with
 |none=>rw[q]at e;cases e
 |some o=>
  rw[q]at e;have e':(b,o)=p:=bP e;subst e';exact ⟨hb,q⟩
theorem Inv.pinned{pins:List (Addr×Obj)}{σ:St}{H:Hp}{s:Shared}{fp:List Addr}(I:Inv X pins σ H s)(hf:∀b∈fp,dj X pins H b)(ho:∀b∈fp,∃o,s.heap.get? b=some o/\∀v,o.data≠.cell v):Inv X (pins++ie fp s.heap) σ H s:=
 I.pins_of λp hp=>(cf.mp hp).elim (λz=>I.pin p (aS _ z)) λz=>by
  obtain ⟨hb,e⟩:=qG z;obtain ⟨f0,f1,f2,_⟩:=hf p.1 hb;obtain ⟨o,e',d⟩:=ho p.1 hb;rw[e]at e';cases e';exact ⟨e,f0,f1,f2,d⟩
theorem Inv.unpinned{pins pl:List (Addr×Obj)}{σ:St}{H:Hp}{s:Shared}(I:Inv X (pins++pl) σ H s):Inv X pins σ H s:=I.pins_of λp hp=>I.pin p (aS _ (ff _ hp))
theorem NZ{iter:Expr}{body:List Stmt}{wi:TI}{g:TG}{tb:TS}{pos:Pos}(hp:PassesOwn (model X.prog X.w) X.A X.env X.xe)(hc:X.calm=true)(hi:PI X tg iter wi)(hg:PG X tg g)(hb:PSs X body tb)
  (hs:∀x,foldedSetIterable iter X.env x=pure x:=by intro _;rfl):PS X (.For tg iter body [] pos) (NT wi g tb):=by
 intro pins s σ H D I h;refine wpAny_For (thn (hi pins s σ H _ I h) λv s1 h1=>thn h1 λitv s2 h2=>?_) hs;obtain ⟨it,fp,tn,J,H2,e,I2,T,st2,f2,W,⟨m0,w0⟩,turn⟩:=h2;subst e
 -- what stays true of the iterator's objects through the loop
 have stat:∀{H':Hp},(∀b∈fp,H' b=none)->∀b∈fp,dj X pins H' b:=λhn b hb=>⟨hn b hb,(f2 b hb).2⟩;refine codeAny_forLoop_any (λn s'=>∃i σ' H',Inv X pins σ' H' s'/\tn i s'.heap/\(∀b∈fp,H' b=none)/\W i n σ' H') ?_ m0 ⟨0,σ,H2,I2,st2,λb hb=>(f2 b hb).1,w0⟩;rintro n s3 ⟨i,σ3,H3,I3,st3,fr3,w3⟩;rcases turn i n σ3 H3 w3 with ⟨stop,qn⟩ |⟨go,N,hN,step⟩
 ·refine wpAny_passesOwn hp (thn (T.done X rfl rfl rfl hc i pins s3 σ3 H3 X.xe I3 (stat fr3) st3 stop) λr s4 ⟨hr,I4⟩=>?_);subst hr;exact wpAny_execs_nil ⟨σ3,H3,I4,qn⟩
 ·refine wpAny_passesOwn hp (thn (T.item X rfl rfl rfl hc i pins s3 σ3 H3 X.xe I3 (stat fr3) st3 go) λr s4 ⟨u,hr,h4⟩=>?_);subst hr;refine wpAny_passesOwn hp (thn h4 λ_ s5 ⟨x,H5,I5,r5,y5,st5,fr5⟩=>?_);have I5':=I5.pinned (stat fr5) (T.obj _ _ st5);refine wpAny_passesOwn hp (thn (hg _ s5 σ3 H5 x u _ I5' r5 (step x H5 y5)) λ_ s6 ⟨σ6,H6,I6,q6⟩=>?_);refine wpAny_passesOwn hp (thn (hb _ s6 σ6 H6 _ I6 q6) λf s7 q7=>?_);have again:∀{σ7:St}{H7:Hp},Inv X (pins++ie fp s5.heap) σ7 H7 s7->N σ7 H7->∃m,m < n/\∃i σ' H',Inv X pins σ' H' s7/\tn i s7.heap/\(∀b∈fp,H' b=none)/\W i m σ' H':=λ{σ7 H7} I7 n7=>by
   obtain ⟨m',hm,w7⟩:=hN σ7 H7 n7;refine ⟨m',hm,i+1,σ7,H7,I7.unpinned,T.keep _ _ _ st5 λb hb o e=>(I7.pin (b,o) (aS _ (aS _ (ig hb e)))).1,λb hb=>?_,w7⟩;obtain ⟨o,e,d⟩:=T.obj _ _ st5 b hb;exact (I7.pin (b,o) (aS _ (aS _ (ig hb e)))).2.1
  cases f with
  |next=>obtain ⟨σ7,H7,I7,n7⟩:=q7;exact again I7 n7
  |cont=>obtain ⟨σ7,H7,I7,n7⟩:=q7;exact again I7 n7
  |brk=>obtain ⟨σ7,H7,I7,q7⟩:=q7;exact ⟨σ7,H7,I7.unpinned,q7⟩
  |ret v=>obtain ⟨x7,σ7,H7,I7,r7,q7⟩:=q7;exact ⟨x7,σ7,H7,I7.unpinned,r7,q7⟩
end
abbrev R2:=V->V->Hp->VK->Prop
def OpR(X:Cx)(f:Value->Value->Sem Value)(r:R2):Prop:=
 ∀(pins:List (Addr×Obj))(s:Shared)(σ:St)(H:Hp)(x y:V)(v u:Value)(Q:VK),Inv X pins σ H s->RelV x v->RelV y u->r x y H Q->
  wpAny (model X.prog X.w) X.A (f v u) (EP X pins σ Q) X.xe s
def bD(X:Cx)(f:Value)(r:List V->Hp->VK->Prop):Prop:=
 ∀(pins:List (Addr×Obj))(s:Shared)(σ:St)(H:Hp)(xs:List V)(us:List Value)(Q:VK),Inv X pins σ H s->Vals xs us->r xs H Q->
  wpAny (model X.prog X.w) X.A (call f us) (EP X pins σ Q) X.xe s
def N5(X:Cx)(r:V->Hp->(Bool->Hp->Prop)->Prop):Prop:=
 ∀(pins:List (Addr×Obj))(s:Shared)(σ:St)(H:Hp)(x:V)(v:Value)(Q:Bool->Hp->Prop),Inv X pins σ H s->RelV x v->r x H Q->
  wpAny (model X.prog X.w) X.A (truthy v) (TP X pins σ Q) X.xe s
def tOp(r:R2)(ta tb:TE):TE:=λσ H Q=>ta σ H λx H1=>tb σ H1 λy H2=>r x y H2 Q
def rI(C:Int->Int->Prop)(g:Int->Int->V):R2:=λx y H Q=>∃i j,x=.int i/\y=.int j/\C i j/\Q (g i j) H
def rI0(g:Int->Int->V):R2:=λx y H Q=>∃i j,x=.int i/\y=.int j/\Q (g i j) H
section
variable {X:Cx} {a b c:Expr} {ta tb tc:TE} {pos:Pos}
theorem qH(ha:PE X a ta)(hb:PE X b tb){pins:List (Addr×Obj)}{s:Shared}{σ:St}{H:Hp}{R:V->V->Hp->Prop}(I:Inv X pins σ H s)
  (h:ta σ H λx H1=>tb σ H1 λy H2=>R x y H2) {Q:Value->Shared->Prop} {f:Value->Value->Sem Value}
  (hf:∀v u s2 x y H2,Inv X pins σ H2 s2->RelV x v->RelV y u->R x y H2->wpAny (model X.prog X.w) X.A (f v u) Q X.xe s2):
  wpAny (model X.prog X.w) X.A (eval a X.env) (λv s₁=>wpAny (model X.prog X.w) X.A (eval b X.env) (λu s₂=>wpAny (model X.prog X.w) X.A (f v u) Q X.xe s₂) X.xe s₁) X.xe s:=by
 refine thn (ha pins s σ H _ I h) λv s1 ⟨x,H1,I1,r1,q1⟩=>?_;refine thn (hb pins s1 σ H1 _ I1 q1) λu s2 ⟨y,H2,I2,r2,q2⟩=>?_;exact hf v u s2 x y H2 I2 r1 r2 q2
theorem N6{op:Operator}{r:R2}(ho:OpR X (binaryOp op) r)(ha:PE X a ta)(hb:PE X b tb):PE X (.BinOp a op b pos) (tOp r ta tb):=by intro pins s σ H Q I h;exact wpAny_BinOp (qH ha hb I h λv u s2 x y H2 I2 rx ry q=>ho pins s2 σ H2 x y v u Q I2 rx ry q)
theorem opI{f:Value->Value->Sem Value}{C:Int->Int->Prop}{g:Int->Int->Int}
  (rule:∀(i j:Int)(t u:Tok)(s:Shared)(Q:Value->Shared->Prop)(E:Value->Shared->Prop),C i j->Q (.int (g i j) s.toks) { s with toks:=s.toks+1 }->wpAny (model X.prog X.w) X.A (f (.int i t) (.int j u)) Q E s):
  OpR X f (rI C λi j=>.int (g i j)):=by
 intro pins s σ H x y v u Q I rx ry h;obtain ⟨i,j,rfl,rfl,hc,q⟩:=h;obtain ⟨t,rfl⟩:=rx;obtain ⟨t',rfl⟩:=ry;exact rule i j t t' s _ _ hc ⟨.int (g i j),H,I.tok _,⟨_,rfl⟩,q⟩
theorem v8{f:Value->Value->Sem Value}{g:Int->Int->Int}
  (rule:∀(i j:Int)(t u:Tok)(s:Shared)(Q:Value->Shared->Prop)(E:Value->Shared->Prop),Q (.int (g i j) s.toks) { s with toks:=s.toks+1 }->wpAny (model X.prog X.w) X.A (f (.int i t) (.int j u)) Q E s):
  OpR X f (rI0 λi j=>.int (g i j)):=by
 intro pins s σ H x y v u Q I rx ry h;obtain ⟨i,j,rfl,rfl,q⟩:=h;obtain ⟨t,rfl⟩:=rx;obtain ⟨t',rfl⟩:=ry;exact rule i j t t' s _ _ ⟨.int (g i j),H,I.tok _,⟨_,rfl⟩,q⟩
def lW(i j:Int):Prop:=0<=j/\j<=1000000/\i.natAbs < 2 ^ 64
def CMul(i j:Int):Prop:=(-(2 ^ 64) < i/\i < 2 ^ 64)\/(-(2 ^ 64) < j/\j < 2 ^ 64)
theorem CMul.ok{i j:Int}(h:CMul i j):IntMulOk i j:=by
 rcases h with ⟨h1,h2⟩ |⟨h1,h2⟩
 ·exact .of_left (intBits_le_64 h1 h2)
 ·exact .of_right (intBits_le_64 h1 h2)
theorem N7:OpR X (binaryOp .Add) (rI0 λi j=>.int (i+j)):=v8 λ_ _ _ _ _ _ _ q=>add_int q
theorem N8:OpR X (binaryOp .Sub) (rI0 λi j=>.int (i - j)):=v8 λ_ _ _ _ _ _ _ q=>sub_int q
theorem Oa:OpR X (binaryOp .Mult) (rI CMul λi j=>.int (i * j)):=opI λ_ _ _ _ _ _ _ hc q=>mul_int q hc.ok
theorem Ob:OpR X (binaryOp .Mod) (rI (λ_ j=>0 < j) λi j=>.int (i % j)):=opI λi j _ _ _ _ _ hc q=>by
 have h1:(0:Int) < j:=hc;exact mod_int' (by omega) (by rw[Int.fmod_eq_emod_of_nonneg i (by omega)];exact q)
theorem Oc:OpR X (binaryOp .Pow) (rI lW λi j=>.int (i ^ j.toNat)):=opI λ_ _ _ _ _ _ _ hc q=>pow_int_small hc.1 hc.2.1 hc.2.2 q
end
section
variable {X:Cx} {a b c:Expr} {ta tb tc:TE} {pos:Pos}
theorem v9{pins:List (Addr×Obj)}{σ:St}{H:Hp}{s:Shared}{Q:VK}{k k':Bool}(I:Inv X pins σ H s)(q:Q (.bl k) H)(e:k=k'):EP X pins σ Q (.bool k') s:=by subst e;exact ⟨.bl k,H,I,rfl,q⟩
theorem Od:OpR X (compareOp .Is) (λx y H Q=>y=.non/\Q (.bl (decide (x=.non))) H):=by
 intro pins s σ H x y v u Q I rx ry h;obtain ⟨rfl,q⟩:=h;cases ry;refine is_none_gen (v9 I q ?_);cases x <;> first
  | (cases rx;rfl)
  | (obtain ⟨t,rfl⟩:=rx;rfl)
theorem Oe:OpR X (compareOp .IsNot) (λx y H Q=>y=.non/\Q (.bl (!decide (x=.non))) H):=by
 intro pins s σ H x y v u Q I rx ry h;obtain ⟨rfl,q⟩:=h;cases ry;refine isnot_none_gen (v9 I q ?_);cases x <;> first
  | (cases rx;rfl)
  | (obtain ⟨t,rfl⟩:=rx;rfl)
theorem Og{op:CmpOp}{r:R2}(ho:OpR X (compareOp op) r)(ha:PE X a ta)(hb:PE X b tb)(hm:behindInMarks op b=false):PE X (.Compare a [op] [b] pos) (tOp r ta tb):=by intro pins s σ H Q I h;exact wpAny_Compare1 (qH ha hb I h λv u s2 x y H2 I2 rx ry q=>ho pins s2 σ H2 x y v u Q I2 rx ry q) hm
def wj(t:TE):TT:=λσ H Q=>t σ H λx H'=>∃k,x=.bl k/\Q k H'
theorem Oh{op:CmpOp}{r:R2}(ho:OpR X (compareOp op) r)(ha:PE X a ta)(hb:PE X b tb)(hm:behindInMarks op b=false):PT X (.Compare a [op] [b] pos) (wj (tOp r ta tb)):=by
 intro pins s σ H Q I h;refine wpAny_isTrue_Compare1 (thn (ha pins s σ H _ I h) λv s1 ⟨x,H1,I1,r1,q1⟩=>thn (hb pins s1 σ H1 _ I1 q1) λu s2 ⟨y,H2,I2,r2,q2⟩=>
  thn (ho pins s2 σ H2 x y v u _ I2 r1 r2 q2) λc s3 ⟨z,H3,I3,r3,k,e,q3⟩=>?_) hm
 subst e;cases r3;exact fv ⟨H3,I3,q3⟩
def qI(r r':R2)(ta tb tc:TE):TE:=λσ H Q=>ta σ H λx H1=>tb σ H1 λy H2=>r x y H2 λz H3=>∃k,z=.bl k/\
 (if k=true then tc σ H3 λw' H4=>r' y w' H4 Q else Q (.bl false) H3)
theorem Oi{op op':CmpOp}{r r':R2}(ho:OpR X (compareOp op) r)(ho':OpR X (compareOp op') r')(ha:PE X a ta)(hb:PE X b tb)(hc:PE X c tc)
  (hm:lastMarks [op,op'] [b,c]=false:=by with_unfolding_all rfl):PE X (.Compare a [op,op'] [b,c] pos) (qI r r' ta tb tc):=by
 intro pins s σ H Q I h;refine Compare_chain (thn (ha pins s σ H _ I h) λv s1 ⟨x,H1,I1,r1,q1⟩=>chain_link (thn (hb pins s1 σ H1 _ I1 q1) λu s2 ⟨y,H2,I2,r2,q2⟩=>
  thn (ho pins s2 σ H2 x y v u _ I2 r1 r2 q2) λd s3 ⟨z,H3,I3,r3,k,e,q3⟩=>?_)) hm
 subst e;cases r3;refine fv ?_;cases k with
 |false=>exact ite_ff ⟨.bl false,H3,I3,rfl,q3⟩
 |true=>exact ite_tt (chain_last (thn (hc pins s3 σ H3 _ I3 q3) λw' s4 ⟨z',H4,I4,r4,q4⟩=>ho' pins s4 σ H4 y z' u w' Q I4 r2 r4 q4))
theorem Oj{op op':CmpOp}{r r':R2}(ho:OpR X (compareOp op) r)(ho':OpR X (compareOp op') r')(ha:PE X a ta)(hb:PE X b tb)(hc:PE X c tc)
  (hm:lastMarks [op,op'] [b,c]=false:=by with_unfolding_all rfl):PT X (.Compare a [op,op'] [b,c] pos) (wj (qI r r' ta tb tc)):=by
 intro pins s σ H Q I h;refine isTrue_chain (thn (ha pins s σ H _ I h) λv s1 ⟨x,H1,I1,r1,q1⟩=>test_link (thn (hb pins s1 σ H1 _ I1 q1) λu s2 ⟨y,H2,I2,r2,q2⟩=>
  thn (ho pins s2 σ H2 x y v u _ I2 r1 r2 q2) λd s3 ⟨z,H3,I3,r3,k,e,q3⟩=>?_)) hm
 subst e;cases r3;refine fv ?_;cases k with
 |false=>
  obtain ⟨k',e',q'⟩:=q3;cases e';exact ite_ff ⟨H3,I3,q'⟩
 |true=>
  refine ite_tt (test_last (thn (hc pins s3 σ H3 _ I3 q3) λw' s4 ⟨z',H4,I4,r4,q4⟩=>thn (ho' pins s4 σ H4 y z' u w' _ I4 r2 r4 q4) λd' s5 ⟨z2,H5,I5,r5,k2,e2,q5⟩=>?_));subst e2;cases r5;exact fv ⟨H5,I5,q5⟩
def qJ(K:PF)(x:V)(H:Hp)(k:Bool):Prop:=
 match x with
 |.non=>k=false
 |.bl b=>k=b
 |.int i=>k=(i != 0)
 |.str y=>y.length<=sizeLine/\k=((y.length:Int) != 0)
 |.byt y=>y.size<=sizeLine/\k=((y.size:Int) != 0)
 |.ref p=>(∃xs,SqL K H p xs/\k=!xs.isEmpty)\/(∃xs,SqT K H p xs/\k=!xs.isEmpty)\/∃kvs,H p=some (.dK kvs)/\k=!kvs.isEmpty
 |_=>False
theorem Ol{κ:Type}{kvs:List (κ×V)}{vs:List (κ×Value)}(r:KV kvs vs):(!vs.isEmpty)=!kvs.isEmpty:=by cases r <;> rfl
theorem wu{xs:List V}{its:List Value}(r:Vals xs its):(!its.toArray.isEmpty)=!xs.isEmpty:=by cases r <;> simp
theorem gq:(sizeLine:Nat) < 2 ^ 63:=by rw[dS];decide
theorem Om:N5 X (λx H Q=>∃k,qJ X.K x H k/\Q k H):=by
 intro pins s σ H x v Q I rx h;obtain ⟨k,e,q⟩:=h;have hl:=gq;have hs:sizeLine=16777216:=dS;cases x with
 |non=>
  cases rx;have e':k=false:=e;subst e';exact truthy_none ⟨H,I,q⟩
 |bl b=>
  cases rx;have e':k=b:=e;subst e';exact fv ⟨H,I,q⟩
 |int i=>
  obtain ⟨t,rfl⟩:=rx;have e':k=(i != 0):=e;subst e';exact PySem.P.truthy_int ⟨H,I,q⟩
 |str y=>
  obtain ⟨t,rfl⟩:=rx;obtain ⟨hy,e'⟩:y.length<=sizeLine/\k=((y.length:Int) != 0):=e;subst e';exact PySem.P.truthy_str (by omega) ⟨H,I.tok _,q⟩
 |byt y=>
  obtain ⟨t,rfl⟩:=rx;obtain ⟨hy,e'⟩:y.size<=sizeLine/\k=((y.size:Int) != 0):=e;subst e';exact PySem.W.truthy_bytes (by omega) ⟨H,I.tok _,q⟩
 |ref p=>
  cases rx;have e':(∃xs,SqL X.K H p xs/\k=!xs.isEmpty)\/(∃xs,SqT X.K H p xs/\k=!xs.isEmpty)\/∃kvs,H p=some (.dK kvs)/\k=!kvs.isEmpty:=e;rcases e' with ⟨xs,hx,e'⟩ |⟨xs,hx,e'⟩ |⟨kvs,hx,e'⟩
  ·subst e';obtain ⟨its,r,pl,hz⟩:=I.list hx;have hlen:=r.length;exact wpAny_truthy_list pl.isList (by simp only[aw];omega) ⟨H,I.tok _,by rw[wu r];exact q⟩
  ·subst e';obtain ⟨its,r,pl,hz⟩:=I.tuple hx;have hlen:=r.length;exact truthy_tuple pl (by simp only[aw];omega) ⟨H,I.tok _,by rw[wu r];exact q⟩
  ·subst e';obtain ⟨hz,hS,vs,r,m⟩:kvs.length<=sizeLine/\(p==sysModules)=false/\∃vs,KV kvs vs/\s.heap.DictOf (qu X.prog X.w) p vs:=I.hok p _ hx;have hlen:kvs.length=vs.length:=Paired.length r;exact wpAny_truthy_dict hS m (by omega) ⟨H,I.tok _,by rw[Ol r];exact q⟩
 |_=>exact (show False from e).elim
theorem Oo(ha:PE X a ta)(he:∀whole,isTrue a X.env whole=(do let v <-whole;standAt a.pos;holding [v] (truthy v))):
  PT X a (λσ H Q=>ta σ H λx H'=>∃k,qJ X.K x H' k/\Q k H'):=by
 intro pins s σ H Q I h;exact isTrue_plain (thn (ha pins s σ H _ I h) λv s1 ⟨x,H1,I1,r1,q1⟩=>Om pins s1 σ H1 x v Q I1 r1 q1) (he _)
theorem Oq:OpR X (binaryOp .Add) (λx y H Q=>∃i j,x=.str i/\y=.str j/\i.length+j.length<=sizeLine/\Q (.str (i++j)) H):=by intro pins s σ H x y v u Q I rx ry h;obtain ⟨i,j,rfl,rfl,hz,q⟩:=h;obtain ⟨t,rfl⟩:=rx;obtain ⟨t',rfl⟩:=ry;exact add_str (λt' tk=>⟨.str (i++j),H,I.tok _,⟨_,rfl⟩,q⟩) hz
theorem vals1{x:V}{us:List Value}(r:Vals [x] us):∃u,us=[u]/\RelV x u:=by
 cases r with
 |cons r1 r2=>cases r2;exact ⟨_,rfl,r1⟩
theorem vals2{x y:V}{us:List Value}(r:Vals [x,y] us):∃u w',us=[u,w']/\RelV x u/\RelV y w':=by
 cases r with
 |cons r1 r2=>
  cases r2 with
  |cons r3 r4=>cases r4;exact ⟨_,_,rfl,r1,r3⟩
theorem ww:bD X (.type "int") (λxs H Q=>(∃i,xs=[.int i]/\Q (.int i) H)\/∃k,xs=[.bl k]/\Q (.int (if k then 1 else 0)) H):=by
 intro pins s σ H xs us Q I r h;rcases h with ⟨i,rfl,q⟩ |⟨k,rfl,q⟩
 ·obtain ⟨u,rfl,t,rfl⟩:=vals1 r;exact call_int_int ⟨.int i,H,I,⟨_,rfl⟩,q⟩
 ·obtain ⟨u,rfl,r1⟩:=vals1 r;cases r1;exact call_int_bool ⟨.int (if k then 1 else 0),H,I.tok _,⟨_,rfl⟩,q⟩
end
structure ObjM(h:Heap)(x dx C:Addr)(mA:Str->Option Value):Prop where
 obj:h.get? x=some (PySem.W.instObj C dx)
 ns:h.Ns1 dx mA
 ne:dx≠x
theorem wy{h:Heap}{dx:Addr}{mA:Str->Option Value}(n:h.Ns1 dx mA):∃od,h.get? dx=some od/\∀name,PySem.W.lookIn name od=some (mA name):=by
 obtain ⟨o,es,ep,ho,hd,hk,_,hm⟩:=n;refine ⟨o,ho,λname=>?_⟩;have e:=hm name;unfold nsFind findBy at e;rw[<-Array.find?_toList]at e;unfold PySem.W.lookIn;rw[hd];dsimp only;split
 ·rename_i y q;rw[q]at e;exact d6 some e
 ·rename_i q;rw[q]at e;have a:es.toList.any (·.refKey)=false:=by
   rw[List.any_eq_false];intro y hy;obtain ⟨z,t,hkey⟩:=hk y (Array.mem_toList_iff.mp hy);simp[DictEntry.refKey,hkey]
  have a':¬es.toList.any (·.refKey)=true:=by rw[a];exact br
  rw[if_neg a'];exact d6 some e
theorem ObjM.look{h:Heap}{x dx C:Addr}{mA:Str->Option Value}(I:ObjM h x dx C mA):∃od,PySem.W.InstAt h x (PySem.W.instObj C dx) C (some od)/\∀name,PySem.W.lookIn name od=some (mA name):=
 let ⟨od,ho,hl⟩:=wy I.ns
 ⟨od,⟨I.obj,rfl,rfl,ho⟩,hl⟩
theorem RelO.some_of{v:V}{o:Option Value}(r:RelO (some v) o):∃u,o=some u/\RelV v u:=by
 cases o with
 |none=>exact (show False from r).elim
 |some u=>exact ⟨u,rfl,r⟩
theorem Ot{v:V}{u:Value}(r:RelV v u):PySem.W.handedIn u=true:=by
 cases v with
 |non=>cases (show u=Value.none from r);rfl
 |bl b=>cases (show u=Value.bool b from r);rfl
 |int i=>obtain ⟨t,e⟩:=(show ∃t,u=Value.int i t from r);cases e;rfl
 |str x=>obtain ⟨t,e⟩:=(show ∃t,u=Value.str x t from r);cases e;rfl
 |byt b=>obtain ⟨t,e⟩:=(show ∃t,u=Value.bytes b t from r);cases e;rfl
 |flt b=>obtain ⟨t,e⟩:=(show ∃t,u=Value.float b t from r);cases e;rfl
 |ref a=>cases (show u=Value.ref a from r);rfl
 |ty n=>cases (show u=Value.type n from r);rfl
section
variable {P:Program} {w:World} {H H':Hp} {h h':Heap} {a C dx:Addr} {fs fs':List (Str×V)}
theorem Ou(hok:HOk P w H h)(e:H a=some (.ins C dx fs)):∃mA,ObjM h a dx C mA/\(∀f,RelO (fs.lookup f) (mA f))/\PySem.Within mA (fs.map (·.1))/\fs.length<=1000/\H dx=some (.own a):=by obtain ⟨d,z,ne,ob,mA,n,r,q⟩:=(show ObjOk P w H h a (.ins C dx fs) from hok a _ e);exact ⟨mA,⟨ob,n,ne⟩,r,q,z,d⟩
end
structure Cls(K:PF)(C:Addr):Prop where
 pg:PySem.W.plainGet K C Str.empty=true
 hd:PySem.W.hasDictIn K C=true
 po:PySem.W.plainOver K C=true
 sa:PySem.W.findIn K (.ref C) "__setattr__"=some (some (.builtin "object.__setattr__"))
theorem Cls.get{K:PF}{C:Addr}(c:Cls K C)(f:Str):PySem.W.plainGet K C f=true:=c.pg
def Ov(K:PF)(C:Addr)(f:Str):Prop:=PySem.W.findIn K (.ref C) f=some none
structure Meth(K:PF)(C:Addr)(m:Str)(f:Addr):Prop where
 at_:PySem.W.findIn K (.ref C) m=some (some (.ref f))
 fn:PySem.W.isFn K (.ref f)=true
 kp:PySem.W.keepIn K (.ref f)=true
section
variable {X:Cx} {pins:List (Addr×Obj)} {σ:St} {H:Hp} {s:Shared} {a C dx:Addr} {fs:List (Str×V)} {f:Str} {v:V} {A:Around} {E:Value->Shared->Prop}
theorem Ow{prog:Program}{w:World}{env:Env}{e:Expr}{f:Str}{pos:Pos}{s:Shared}{Q:Value->Shared->Prop}(hb:attributeBase e f env (eval e env)=eval e env)
  (h:wpAny (model prog w) A (eval e env) (λo s₁=>wpAny (model prog w) A (getAttr o f true) Q E s₁) E s):wpAny (model prog w) A (eval (.Attribute e f pos) env) Q E s:=
 Attribute_any_ h (by rw[arm_eval_Attribute,hb])
end
section
variable {X:Cx} {pins:List (Addr×Obj)} {σ:St} {H:Hp} {s:Shared} {A:Around} {E:Value->Shared->Prop} {Q:Value->Shared->Prop} {c:Value} {b:Bool}
inductive TyOf (K:PF) (H:Hp):V->Value->Prop where
 |non:TyOf K H .non (.type "NoneType")
 |bl (x:Bool):TyOf K H (.bl x) (.type "bool")
 |int (i:Int):TyOf K H (.int i) (.type "int")
 |str (x:Str):TyOf K H (.str x) (.type "str")
 |flt (x:UInt64):TyOf K H (.flt x) (.type "float")
 |lst {a:Addr} {xs:List V} (e:H a=some (.lst xs)):TyOf K H (.ref a) (.type "list")
 |frz {a:Addr} {o:Obj} {xs:List V} (e:H a=some (.frz o (.lst xs))):TyOf K H (.ref a) (.type "list")
 |tup {a:Addr} {xs:List V} (e:H a=some (.tup xs)):TyOf K H (.ref a) (.type "tuple")
 |dK {a:Addr} {kvs:List (Key×V)} (e:H a=some (.dK kvs)):TyOf K H (.ref a) (.type "dict")
 |dT {a:Addr} {kvs:List (List Key×V)} (e:H a=some (.dT kvs)):TyOf K H (.ref a) (.type "dict")
 |ins {a C dx:Addr} {fs:List (Str×V)} (e:H a=some (.ins C dx fs)) (cl:Cls K C) (ha:PySem.W.findIn K (.ref C) "__class__"=some (some (.builtin "object.__class__")))
   (hn:PySem.W.specialIn K (.builtin "object.__class__") "__get__"=some (some (.builtin "getset_descriptor.__get__"))) (htk:PySem.W.takesIn K (.builtin "object.__class__")=some true)
   (hm:PySem.W.mroIn K C (.type "object")=some true):TyOf K H (.ref a) (.ref C)
theorem Oz{x:V}{u t:Value}(I:Inv X pins σ H s)(rx:RelV x u)(ty:TyOf X.K H x t)(e:PySem.W.kitOne X.K t c=some b)(h:∀tk,Q (.bool b) { s with toks:=tk }):
  wpAny (model X.prog X.w) A (call (.builtin "isinstance") [u,c]) Q E s:=by
 cases ty with
 |non=>cases (show u=Value.none from rx);exact dP PySem.W.kitx_none I.kIn True.intro e (λz=>nomatch z) h
 |bl y=>cases (show u=Value.bool y from rx);exact dP PySem.W.kitx_bool I.kIn True.intro e (λz=>nomatch z) h
 |int i=>obtain ⟨t,q⟩:=(show ∃t,u=Value.int i t from rx);cases q;exact dP PySem.W.kitx_int I.kIn True.intro e (λz=>nomatch z) h
 |str y=>obtain ⟨t,q⟩:=(show ∃t,u=Value.str y t from rx);cases q;exact dP PySem.W.kitx_str I.kIn True.intro e (λz=>nomatch z) h
 |flt y=>obtain ⟨t,q⟩:=(show ∃t,u=Value.float y t from rx);cases q;exact dP PySem.W.kitx_float I.kIn True.intro e (λz=>nomatch z) h
 | @lst a xs ea=>
  cases (show u=Value.ref a from rx);obtain ⟨_,_,n,_,h1⟩:=(show ObjOk X.prog X.w H s.heap a (.lst xs) from I.hok a _ ea);exact dP PySem.W.kitx_list I.kIn ⟨_,h1,rfl⟩ e (λz=>nomatch z) h
 | @frz a ob xs ea=>
  cases (show u=Value.ref a from rx);obtain ⟨_,_,_,n,_,h1⟩:=(show ObjOk X.prog X.w H s.heap a (.frz ob (.lst xs)) from I.hok a _ ea);exact dP PySem.W.kitx_list I.kIn ⟨_,h1,rfl⟩ e (λz=>nomatch z) h
 | @tup a xs ea=>
  cases (show u=Value.ref a from rx);obtain ⟨_,_,_,p⟩:=(show ObjOk X.prog X.w H s.heap a (.tup xs) from I.hok a _ ea);obtain ⟨o,h1,h2,_⟩:=p;exact dP PySem.W.kitx_tuple I.kIn ⟨o,h1,h2⟩ e (λz=>nomatch z) h
 | @dK a kvs ea=>
  cases (show u=Value.ref a from rx);obtain ⟨_,_,vs,_,p⟩:=(show ObjOk X.prog X.w H s.heap a (.dK kvs) from I.hok a _ ea);obtain ⟨o,es,ep,h1,h2,_⟩:=p;exact dP PySem.W.kitx_dict I.kIn ⟨o,h1,h2.1⟩ e (λz=>nomatch z) h
 | @dT a kvs ea=>
  cases (show u=Value.ref a from rx);obtain ⟨_,_,xs,_,o,es,ep,h1,h2,_⟩:=(show ObjOk X.prog X.w H s.heap a (.dT kvs) from I.hok a _ ea);exact dP PySem.W.kitx_dict I.kIn ⟨o,h1,h2.1⟩ e (λz=>nomatch z) h
 | @ins a C dx fs ea cl ha hn htk hm=>
  cases (show u=Value.ref a from rx);obtain ⟨mA,O,_⟩:=Ou I.hok ea;obtain ⟨od,J,_⟩:=O.look;exact dP (PySem.W.kitx_own (cl.get _) cl.hd ha hn htk hm) I.kIn J e (λz=>nomatch z) h
end
structure Room(k:Nat)(A:Around):Prop where
 hd:A.handled=none
 dp:A.depth+3 * k+5 < recursionLimit
 un:A.units+16 * k+200 < cLine
theorem Room.mono{j k:Nat}{A:Around}(r:Room k A)(h:j<=k):Room j A:=⟨r.hd,by have:=r.dp;omega,by have:=r.un;omega⟩
theorem Room.deeper{k:Nat}{A:Around}(r:Room (k+1) A)(env:Env):Room k (A.deeper env):=
 ⟨r.hd,by have:=r.dp;show A.depth+1+3 * k+5 < _;omega,by have:=r.un;show A.units+3+16 * k+200 < _;omega⟩
theorem OD {A:Around} {C:Addr} {us:List Value} {kw:List (Str×Value)}:(A.under (.builtin "type.__call__" ⟨.ref C::us,kw⟩)).depth=A.depth+1:=by first |rfl |simp[Around.under,Code.weight,Code.isCreation,Code.isGuard,Code.isCaller,Code.frames,Code.isFrame,guardIds]
theorem OJ {A:Around} {C:Addr} {us:List Value} {kw:List (Str×Value)}:(A.under (.builtin "type.__call__" ⟨.ref C::us,kw⟩)).units=A.units+1:=by first |rfl |simp[Around.under,Code.cUnits,Code.frames,Code.isFrame]
theorem Room.make {k:Nat} {A:Around} (r:Room (k+1) A) (C:Addr) (us:List Value) (kw:List (Str×Value)):Room k (A.under (.builtin "type.__call__" ⟨.ref C::us,kw⟩)):=
 ⟨r.hd,by have:=r.dp;rw[OD];omega,by have:=r.un;rw[OJ];omega⟩
theorem Room.depth{k:Nat}{A:Around}(r:Room k A):A.depth < recursionLimit:=by have:=r.dp;omega
def O1:TA:=λ_ H Q=>Q [] H
def O2(ta:TE)(tr:TA):TA:=λσ H Q=>ta σ H λx H1=>tr σ H1 λxs H2=>Q (x::xs) H2
section
variable {X:Cx} {e:Expr} {es:List Expr} {te:TE} {t:TA} {pos:Pos}
theorem gr:PA X [] O1:=λ_ _ _ _ H Q I h=>Calls.spliced_nil ⟨[],H,I,.nil,h⟩
theorem fL(ha:PE X e te)(hr:PA X es t)(hs:starEach (e::es) X.env=(false,eval e X.env)::starEach es X.env:=by rfl):PA X (e::es) (O2 te t):=by intro pos pins s σ H Q I h;rw[hs];show wpAny _ _ (spliced ((false,eval e X.env)::backTo pos (starEach es X.env))) _ _ s;refine Calls.spliced_cons (thn (ha pins s σ H _ I h) λu s1 ⟨x,H1,I1,r1,q1⟩=>?_);exact thn (hr pos pins s1 σ H1 _ I1 q1) λus s2 ⟨xs,H2,I2,r2,q2⟩=>⟨x::xs,H2,I2,.cons r1 r2,q2⟩
def O3(t:TA):TE:=λσ H Q=>t σ H λxs H1=>xs.length<=sizeLine/\∀p,H1 p=none->Q (.ref p) (upd H1 p (.tup xs))
def O4(t:TA):TE:=λσ H Q=>t σ H λxs H1=>xs.length<=sizeLine/\∀p,H1 p=none->Q (.ref p) (upd H1 p (.lst xs))
theorem O5{x1}(h:PA X es t):PE X (.Tuple es x1 pos) (O3 t):=by intro pins s σ H Q I hq;refine wpAny_Tuple_spliced (thn (h pos pins s σ H _ I hq) λus s1 ⟨xs,H1,I1,r,z,q⟩=>⟨by rw[<-r.length];exact z,?_⟩);have hf:H1 s1.heap.objs.size=none:=I1.hok.fresh (av _);refine ⟨.ref s1.heap.objs.size,upd H1 s1.heap.objs.size (.tup xs),I1.laid (t':=s1.toks) (λb u e=>ah _ e) (av _) ?_,rfl,q _ hf⟩;exact ⟨z,us,r,⟨_,aI _ rfl,rfl,_,rfl⟩⟩
theorem O6(h:PA X es t):PE X (.List es pos) (O4 t):=by intro pins s σ H Q I hq;refine wpAny_List_spliced (thn (h pos pins s σ H _ I hq) λus s1 ⟨xs,H1,I1,r,z,q⟩=>⟨by rw[<-r.length];exact z,?_⟩);have hf:H1 s1.heap.objs.size=none:=I1.hok.fresh (av _);refine ⟨.ref s1.heap.objs.size,upd H1 s1.heap.objs.size (.lst xs),I1.laid (t':=s1.toks) (λb u e=>ah _ e) (av _) ?_,rfl,q _ hf⟩;exact ⟨z,us,0,r,aI _ rfl⟩
end
abbrev Sp:=List V->Hp->VK->XK->Prop
abbrev CXT:=List Env->Hp->Shared->XK->Value->Shared->Prop
structure Env0(P:Program)(w:World)(K:PF)(mg:Str->Option Value)(base:Heap)(A:Around)(outer:List Env)(s:Shared)(H:Hp):Prop where
 frames:A.frames=some outer
 mod:Mod K mg base
 bs:∀b o,base.get? b=some o->s.heap.get? b=some o/\H b=none
 bsz:base.objs.size<=s.heap.objs.size
 funs:s.heap.FunFrames base outer
 frf:∀b∈frs outer,H b=none
 hok:HOk P w H s.heap
 bare:AllBare s.gens
def CE(outer:List Env)(P:Program)(w:World)(H:Hp)(s:Shared)(Q:VK)(u:Value)(s':Shared):Prop:=
 ∃v H',s'.os=s.os/\AllBare s'.gens/\Un (frs outer) [] H H' s.heap s'.heap/\HOk P w H' s'.heap/\RelV v u/\Q v H'
def CR(CX:CXT)(outer:List Env)(P:Program)(w:World)(H:Hp)(s:Shared)(Q:VK)(E:XK)(r:Result)(s':Shared):Prop:=
 match r with
 |.ok (.ret u)=>CE outer P w H s Q u s'
 |.ok _=>False
 |.error e=>CX outer H s E e s'
structure FnOk(P:Program)(w:World)(K:PF)(mg:Str->Option Value)(base:Heap)(CX:CXT)(k:Nat)(f:Addr)(fd:FuncData)(ps:List Str)(sp:Sp):Prop where
 len:∀vs H Q E,sp vs H Q E->vs.length=ps.length
 run:∀(A:Around)(outer:List Env)(s:Shared)(H:Hp)(args:Args)(us:List Value)(vs:List V)(Q:VK)(E:XK),Room k A->Env0 P w K mg base A outer s H->BindsTo s fd args (ps.zip us)->Vals vs us->sp vs H Q E->
  codeAny (model P w) A (.call (.ref f) args) (CR CX outer P w H s Q E) s
theorem FnOk.mono{P:Program}{w:World}{K:PF}{mg:Str->Option Value}{base:Heap}{CX:CXT}{j k:Nat}{f:Addr}{fd:FuncData}{ps:List Str}{sp:Sp}(F:FnOk P w K mg base CX j f fd ps sp)(h:j<=k):
  FnOk P w K mg base CX k f fd ps sp:=⟨F.len,λA outer s H args us vs Q E hr=>F.run A outer s H args us vs Q E (hr.mono h)⟩
theorem Env0.make{P:Program}{w:World}{K:PF}{mg:Str->Option Value}{base:Heap}{A:Around}{outer:List Env}{s:Shared}{H:Hp}(e:Env0 P w K mg base A outer s H)(C:Addr)(us:List Value)(kw:List (Str×Value)):
  Env0 P w K mg base (A.under (.builtin "type.__call__" ⟨.ref C::us,kw⟩)) outer s H:=⟨by first |exact e.frames | (simpa [Around.under,Code.envs,Code.isFrame,pushEnvs] using e.frames),e.mod,e.bs,e.bsz,e.funs,e.frf,e.hok,e.bare⟩
section
variable {X:Cx} {pins:List (Addr×Obj)} {σ:St} {H:Hp} {s s':Shared}
theorem Inv.env0(I:Inv X pins σ H s):Env0 X.prog X.w X.K X.mg X.base X.A X.stack s H:=
 ⟨I.ok.frames,I.ok.mod,I.bs,cw I.ok.bsz I.sz,I.stack,I.stkFree,I.hok,I.bare⟩
theorem Inv.after{Q:VK}{u:Value}(I:Inv X pins σ H s)(h:CE X.stack X.prog X.w H s Q u s'):EP X pins σ Q u s':=by obtain ⟨v,H',os,bare,un,hok,r,q⟩:=h;obtain ⟨hh,g,d,t,os'⟩:=s';obtain rfl:os'=s.os:=os;exact ⟨v,H',I.call (h':=hh) (g':=g) (d':=d) (t':=t) (ch:=[]) un hok bare (λb z=>absurd z (by simp)),r,q⟩
end
def O7(sp:Sp)(dvs:List V)(E:XK)(t:TA):TE:=λσ H Q=>t σ H λvs H1=>sp (vs++dvs) H1 Q E
def Binds(K:PF)(fd:FuncData)(ps:List Str)(ds:List Value):Prop:=
 ∀(s:Shared)(us:List Value),K.In s.heap->(us++ds).length=ps.length->BindsTo s fd ⟨us,[]⟩ (ps.zip (us++ds))
theorem Binds.all{K:PF}{fd:FuncData}{ps:List Str}(h:∀us:List Value,us.length=ps.length->bindArgs fd ⟨us,[]⟩=pure (ps.zip us)):Binds K fd ps []:=λs us _ hl=>by
 rw[g6]at hl ⊢;exact .of_eq (h us hl)
def gw(CX:CXT)(X:Cx)(E:XK):Prop:=∀(pins:List (Addr×Obj))(σ:St)(H:Hp)(s:Shared)(e:Value)(s':Shared),Inv X pins σ H s->CX X.stack H s E e s'->X.xe e s'
section
variable {X:Cx} {CX:CXT} {k:Nat} {f C:Addr} {fd:FuncData} {ps:List Str} {sp:Sp} {dvs:List V} {ds:List Value} {E:XK} {x m:Str} {p pos apos:Pos} {e o:Expr} {es:List Expr} {ta:TE} {t:TA}
theorem O8{pins:List (Addr×Obj)}{σ:St}{H:Hp}{s:Shared}{Q:VK}{us:List Value}{vs:List V}(F:FnOk X.prog X.w X.K X.mg X.base CX k f fd ps sp)(hr:Room k X.A)(hb:Binds X.K fd ps ds)(hd:Vals dvs ds)(hx:gw CX X E)
  (I:Inv X pins σ H s) (r:Vals vs us) (h:sp (vs++dvs) H Q E):wpAny (model X.prog X.w) X.A (call (.ref f) us) (EP X pins σ Q) X.xe s:=by
 have r2:Vals (vs++dvs) (us++ds):=r.append hd;have hl:(us++ds).length=ps.length:=by rw[<-r2.length];exact F.len _ _ _ _ h
 refine wpAny_call (codeAny_mono (F.run X.A X.stack s H ⟨us,[]⟩ (us++ds) (vs++dvs) Q E hr I.env0 (hb s us I.kIn hl) r2 h) λr s' hq=>?_);cases r with
 |error e=>exact hx pins σ H s e s' I hq
 |ok fl=>
  cases fl with
  |ret u=>exact I.after hq
  |next=>exact False.elim hq
  |brk=>exact False.elim hq
  |cont=>exact False.elim hq
theorem O9(F:FnOk X.prog X.w X.K X.mg X.base CX k f fd ps sp)(hr:Room k X.A)(hg:Gl X x)(hm:X.mg x=some (.ref f))(hk:PySem.W.keepIn X.K (.ref f)=true)(hb:Binds X.K fd ps ds)(hd:Vals dvs ds)(hx:gw CX X E)
  (ha:PA X (e::es) t) (hdb:(x==("__debug__":Str))=false:=by decide) (he:starEach (e::es) X.env=(false,eval e X.env)::starEach es X.env:=by rfl) (hpl:(backTo pos (starEach es X.env)).any (·.1)=false:=by rfl):
  PE X (.Call (.Name x p) (e::es) [] pos) (O7 sp dvs E t):=by
 intro pins s σ H Q I h;refine ia (qx I hg hm ?_ hdb);refine PySem.W.callWith_K (h₀:=X.base) I.ok.mod.kin hk (thn (ha pos pins s σ H _ I h) λus s1 ⟨vs,H1,I1,r,q⟩=>⟨I1.kIn,?_⟩) he hpl;exact O8 F hr hb hd hx I1 r q
structure Mk(K:PF)(C f:Addr):Prop where
 makes:PySem.W.makesIn K C=true
 init:PySem.W.findIn K (.ref C) "__init__"=some (some (.ref f))
 fn:PySem.W.isFn K (.ref f)=true
 kp:PySem.W.keepIn K (.ref C)=true
end
structure FnScope(N P:List Str)(sc:Scope):Prop where
 kind:sc.kind=.function
 co:sc.isCoroutine=false
 gen:sc.isGenerator=false
 nd:N.Nodup
 pre:N.take P.length=P
 par:∀x∈P,sc.names.lookup x=some .local\/sc.names.lookup x=some .cell
 nofree:∀y∈sc.names,y.2≠.free
theorem wz{kindOf:Str->Option NameKind}{x:Str}:∀{binds:List (Str×Value)}{m:Str->Option Value},(∀v,(x,v)∉binds)->bindL kindOf binds m x=m x
 |[],_,_=>rfl
 | (n,v)::r,m,h=>by
  unfold bindL;rw[wz λw hw=>h w (bo _ hw)];split
  ·have:x≠n:=by rintro rfl;exact h v aT
   simp[this]
  ·rfl
theorem wA{kindOf:Str->Option NameKind}{x:Str}:∀{binds:List (Str×Value)}{m:Str->Option Value},(∀v,(x,v)∉binds)->bindC kindOf binds m x=m x
 |[],_,_=>rfl
 | (n,v)::r,m,h=>by
  unfold bindC;rw[wA λw hw=>h w (bo _ hw)];split
  ·rfl
  ·have:x≠n:=by rintro rfl;exact h v aT
   simp[this]
theorem wB{kindOf:Str->Option NameKind}{x:Str}{v:Value}:∀{P:List Str}{vs:List Value}{i:Nat}{m:Str->Option Value},P.Nodup->P[i]?=some x->vs[i]?=some v->kindOf x=some .local->
  bindL kindOf (P.zip vs) m x=some v
 |[],_,_,_,_,h,_,_=>by simp at h
 |_::_,[],_,_,_,_,h,_=>by simp at h
 |p::P,w::vs,0,m,nd,h1,h2,hk=>by
  simp at h1 h2;subst h1;subst h2;show bindL kindOf ((p,w)::P.zip vs) m p=_;unfold bindL;rw[wz λv hv=>(eS.mp nd).1 (List.of_mem_zip hv).1,if_pos hk];simp
 |p::P,w::vs,i+1,m,nd,h1,h2,hk=>by
  show bindL kindOf ((p,w)::P.zip vs) m x=_;unfold bindL;exact wB (i:=i) (eS.mp nd).2 (by simpa using h1) (by simpa using h2) hk
theorem wC{kindOf:Str->Option NameKind}{x:Str}{v:Value}:∀{P:List Str}{vs:List Value}{i:Nat}{m:Str->Option Value},P.Nodup->P[i]?=some x->vs[i]?=some v->kindOf x≠some .local->
  bindC kindOf (P.zip vs) m x=some v
 |[],_,_,_,_,h,_,_=>by simp at h
 |_::_,[],_,_,_,_,h,_=>by simp at h
 |p::P,w::vs,0,m,nd,h1,h2,hk=>by
  simp at h1 h2;subst h1;subst h2;show bindC kindOf ((p,w)::P.zip vs) m p=_;unfold bindC;rw[wA λv hv=>(eS.mp nd).1 (List.of_mem_zip hv).1,if_neg hk];simp
 |p::P,w::vs,i+1,m,nd,h1,h2,hk=>by
  show bindC kindOf ((p,w)::P.zip vs) m x=_;unfold bindC;exact wC (i:=i) (eS.mp nd).2 (by simpa using h1) (by simpa using h2) hk
def start(N:List Str)(vs:List V):St:=vs.map some++List.replicate (N.length - vs.length) none
def fM(CX:CXT)(P:Program)(w:World)(K:PF)(mg:Str->Option Value)(base:Heap)(N:List Str)(qual:Str)(scope:Scope)(f:Addr)(cd:Value)(A:Around)(outer:List Env)(s:Shared)(H:Hp)(E:XK):Cx where
 prog:=P
 w:=w
 K:=K
 mg:=mg
 base:=base
 A:=A.deeper (envOfC qual scope s.heap.objs.size f cd)
 N:=N
 s₀:=s
 H₀:=H
 env:=envOfC qual scope s.heap.objs.size f cd
 outer:=outer
 stack:=envOfC qual scope s.heap.objs.size f cd::outer
 ex:=[]
 calm:=true
 fn:=λ_=>true
 pn:=[]
 xe:=λe s'=>wpAny (model P w) (A.deeper (envOfC qual scope s.heap.objs.size f cd)) (leaving (envOfC qual scope s.heap.objs.size f cd) e) (λ_ s''=>CX outer H s E e s'') (λe' s''=>CX outer H s E e' s'') s'
theorem wD{sc:Scope}{n:Nat}{x:Str}(h:sc.names.lookup x=some .cell):∃c,(cellsFrom n sc.names []).lookup x=some c:=by have q:=PySem.W.cellsFrom_some sc.names n [] (.inl h);exact c8.mp q
theorem Pa{CX:CXT}{P:Program}{w:World}{K:PF}{mg:Str->Option Value}{base:Heap}{N ps:List Str}{qual:Str}{scope:Scope}{f:Addr}{cd:Value}{A:Around}{outer:List Env}{s s1:Shared}{H:Hp}{E:XK}{us:List Value}{vs:List V}
  (S:FnScope N ps scope) (hd:A.handled=none) (e0:Env0 P w K mg base A outer s H) (hl:vs.length=ps.length) (r:Vals vs us)
  (x:InCallC s s.heap.objs.size (bindL (envOfC qual scope s.heap.objs.size f cd).kindOf (ps.zip us) λ_=>none) (cellsFrom (s.heap.objs.size+1) scope.names []) (bindC (envOfC qual scope s.heap.objs.size f cd).kindOf (ps.zip us) λ_=>none) s1):
  Inv (fM CX P w K mg base N qual scope f cd A outer s H E) [] (start N vs) H s1:=by
 have hpl:ps.length<=N.length:=by have:=d6 List.length S.pre;rw[c9]at this;omega
 obtain ⟨h1,tk,rfl,hk⟩:=x.done;have noA:∀b:Addr,b∉(fM CX P w K mg base N qual scope f cd A outer s H E).ex:=λb z=>absurd (show b∈([]:List Addr) from z) (by simp);refine ⟨⟨e0.mod,S.kind,rfl,rfl,av _,λy z c h1 h2=>?_,λy hy=>?_,λy c _ h=>?_,λ_=>hd,Around.frames_deeper e0.frames,.inr ⟨rfl,rfl⟩,λb z=>absurd z (noA b),e0.bs,e0.bsz,λb _ _=>noA b,λb z=>absurd z (noA b),e0.funs,e0.frf⟩,
  rfl,e0.bare,Un.kept hk,⟨_,x.toInCall.ns,λi y v h1 h2 h3=>?_⟩,λy c h=>⟨_,x.cell y c h⟩,e0.hok.fresh (av _),λy c h=>?_,λp hp=>absurd (show p∈([]:List (Addr×Obj)) from hp) (by simp),e0.hok.kept hk,?_⟩
 ·exact name_of_addr x.apart (eR h1) (eR h2)
 ·have hy:scope.names.lookup y=some .cell\/scope.names.lookup y=some .free:=hy;rcases hy with hy |hy
  ·exact wD hy
  ·exact absurd rfl (S.nofree _ (eR hy))
 ·exact Nat.le_of_lt (x.above y c (eR h))
 ·have hi:i < vs.length:=by
   unfold start at h2;by_cases hi:i < vs.length
   ·exact hi
   ·rw[List.getElem?_append_right (by simpa using hi)]at h2;rw[List.getElem?_replicate]at h2;split at h2 <;> cases h2
  have ha:vs[i]?=some v:=by
   unfold start at h2;rw[fE (by simpa using hi),ce]at h2;cases e:vs[i]? with
   |none=>rw[e]at h2;cases h2
   |some a=>rw[e]at h2;cases h2;rfl
  obtain ⟨u,hu,rv⟩:=r.get ha;have hp:ps[i]?=some y:=by rw[<-S.pre,List.getElem?_take_of_lt (by omega)];exact h1
  have ndP:ps.Nodup:=by rw[<-S.pre];exact S.nd.sublist (List.take_sublist _ _)
  refine ⟨u,rv,?_⟩;rcases S.par y (bv hp) with k |k
  ·exact .inl ⟨k,wB ndP hp hu k⟩
  ·obtain ⟨c,e⟩:=wD (n:=s.heap.objs.size+1) k;refine .inr ⟨.inl k,c,e,?_⟩;have q:=x.cell y c e;rw[wC ndP hp hu (by show scope.names.lookup y≠_;rw[k];decide)]at q;exact q
 ·exact e0.hok.fresh (Nat.le_of_lt (x.above y c (eR h)))
 ·unfold start;show _=N.length;rw[bd,ax,List.length_replicate];omega
theorem Pb{CX:CXT}{P:Program}{w:World}{K:PF}{mg:Str->Option Value}{base:Heap}{k:Nat}{f:Addr}{name qual:Str}{params:Arguments}{body:List Stmt}{scope:Scope}{dV kV doc pm cdv ct oc:Value}{an od:Option Addr}
  {osl:Array (Option Value)} {N ps:List Str} {sp:Sp} (lk:K.lookup f=some ⟨oc,od,.func (PySem.W.fnOf name qual params body scope dV kV doc pm an cdv ct),osl⟩) (hcd:PySem.W.codeIn K cdv qual=true) (S:FnScope N ps scope)
  (len:∀vs H Q E,sp vs H Q E->vs.length=ps.length)
  (hbody:∀(A:Around)(outer:List Env)(s:Shared)(H:Hp)(vs:List V)(Q:VK)(E:XK),Room k (A.deeper (envOfC qual scope s.heap.objs.size f cdv))->sp vs H Q E->
   ∃t,PSs (fM CX P w K mg base N qual scope f cdv A outer s H E) body t/\t { nx:=λ_ H'=>Q .non H',rt:=Q } (start N vs) H):
  FnOk P w K mg base CX (k+1) f (PySem.W.fnOf name qual params body scope dV kV doc pm an cdv ct) ps sp:=by
 refine ⟨len,λA outer s H args us vs Q E hr e0 hb r hsp=>?_⟩;have hl:=len _ _ _ _ hsp;have KX:K.In s.heap:=e0.mod.kin.keeps λb o e=>(e0.bs b o e).1;have lim:s.heap.NoLimit:=e0.mod.nolimit.keeps λb o e=>(e0.bs b o e).1;have hkind:∀y∈ps.zip us,scope.names.lookup y.1=some .local\/(scope.names.lookup y.1=some .cell/\((cellsFrom (s.heap.objs.size+1) scope.names []).lookup y.1).isSome=true):=λ⟨n,v⟩ hy=>by
  rcases S.par n (List.of_mem_zip hy).1 with q |q
  ·exact .inl q
  ·exact .inr ⟨q,PySem.W.cellsFrom_some _ _ _ (.inl q)⟩
 refine codeAny_call_function hr.depth (KX _ _ lk) rfl S.co S.gen rfl (PySem.W.codeRec_of KX hcd) (hb _ _ _ _ ?_);refine wpAny_newFunctionEnv_cells S.kind hkind λenv he s1 x=>?_;subst he;refine ⟨lim.keeps x.toInCall.keep,codeAny_func ?_⟩;obtain ⟨t,ht,hq⟩:=hbody A outer s H vs Q E (hr.deeper _) hsp;have I:Inv (fM CX P w K mg base N qual scope f cdv A outer s H E) [] (start N vs) H s1:=Pa S hr.hd e0 hl r x;refine cr (ht [] s1 (start N vs) H _ I hq) (λfl s' hs=>?_) λe s' hs=>hs;have fin:∀{σ':St}{H':Hp}{v:V}{u:Value},Inv (fM CX P w K mg base N qual scope f cdv A outer s H E) [] σ' H' s'->RelV v u->Q v H'->CE outer P w H s Q u s':=
  λ{σ' H' v u} J rv q=>⟨v,H',J.os,J.bare,J.base,J.hok,rv,q⟩
 cases fl with
 |ret u=>
  obtain ⟨v,σ',H',J,rv,q⟩:=hs;exact fin J rv q
 |next=>
  obtain ⟨σ',H',J,q⟩:=hs;exact fin (v:=V.non) (u:=Value.none) J rfl q
 |brk=>
  obtain ⟨_,_,_,q⟩:=hs;exact False.elim q
 |cont=>
  obtain ⟨_,_,_,q⟩:=hs;exact False.elim q
section
variable {X:Cx} {x:Str} {p pos:Pos} {e:Expr} {es:List Expr} {t:TA} {id T:String} {r:List V->Hp->VK->Prop}
def tCB(r:List V->Hp->VK->Prop)(t:TA):TE:=λσ H Q=>t σ H λvs H1=>r vs H1 Q
theorem lX (hc:bD X (.builtin id) r) (hg:Gl X x) (hm:X.mg x=none) (hv:bootBuiltins x=some (.builtin id)) (ha:PA X (e::es) t) (hn:x≠"__name__":=by decide) (hdb:(x==("__debug__":Str))=false:=by decide)
  (he:starEach (e::es) X.env=(false,eval e X.env)::starEach es X.env:=by rfl) (hpl:(backTo pos (starEach es X.env)).any (·.1)=false:=by rfl):PE X (.Call (.Name x p) (e::es) [] pos) (tCB r t):=by
 intro pins s σ H Q I h;refine ia (gn I hg hm hv ?_ hn hdb);exact PyProof.Rows.callWith_builtin1 (thn (ha pos pins s σ H _ I h) λus s1 ⟨vs,H1,I1,r1,q1⟩=>hc pins s1 σ H1 vs us Q I1 r1 q1) he hpl
theorem jk (hc:bD X (.type T) r) (hg:Gl X x) (hm:X.mg x=none) (hv:bootBuiltins x=some (.type T)) (ha:PA X (e::es) t) (hn:x≠"__name__":=by decide) (hdb:(x==("__debug__":Str))=false:=by decide)
  (he:starEach (e::es) X.env=(false,eval e X.env)::starEach es X.env:=by rfl) (hpl:(backTo pos (starEach es X.env)).any (·.1)=false:=by rfl):PE X (.Call (.Name x p) (e::es) [] pos) (tCB r t):=by
 intro pins s σ H Q I h;refine ia (gn I hg hm hv ?_ hn hdb);exact gy (thn (ha pos pins s σ H _ I h) λus s1 ⟨vs,H1,I1,r1,q1⟩=>hc pins s1 σ H1 vs us Q I1 r1 q1) he hpl
end
end L2
namespace HT
open PySem PyProof.Rows
section
variable {prog:Program} {w:World} {A:Around} {E:Value->Shared->Prop} {s:Shared}
theorem Pg{t b:Addr}{vs ws:List Value}{Q:Value->Shared->Prop}(ht:IsTup s.heap t vs.toArray)(hb:IsTup s.heap b ws.toArray)(hv:vs≠[])
  (h1:ws=[]->Q (.ref t) s) (h2:ws≠[]->Q (.ref s.heap.objs.size) { s with heap:=s.heap.push { cls:=.type "tuple",data:=.seq (vs++ws).toArray } })
  (hsz:vs.length+ws.length<=sizeLine):wpAny (model prog w) A (binaryOp .Add (.ref t) (.ref b)) Q E s:=by
 obtain ⟨⟨cls,dd,data,sl⟩,ho,hc,n,hd⟩:=id ht;obtain ⟨⟨cls2,dd2,data2,sl2⟩,ho2,hc2,n2,hd2⟩:=id hb;simp only at hc hd hc2 hd2;subst hc hd hc2 hd2;have e:vs.toArray++ws.toArray=(vs++ws).toArray:=by simp
 by_cases hw:ws=[]
 ·exact concat_meets ⟨_,ho,rfl⟩ ⟨_,ho2,rfl⟩ noFill_tuple_add seq_tuple_add PySem.F.slot_tuple_add PySem.F.entry_tuple_add (PySem.F.args_tuple_add_2 _ _)
   (tuple_addW1 t b vs.toArray ws.toArray n n2 dd dd2 sl sl2 (by simpa using hv) (by simp[hw])) ⟨ho,ho2,h1 hw⟩
 ·refine concat_meets ⟨_,ho,rfl⟩ ⟨_,ho2,rfl⟩ noFill_tuple_add seq_tuple_add PySem.F.slot_tuple_add PySem.F.entry_tuple_add (PySem.F.args_tuple_add_2 _ _)
   (tuple_addW2 t b vs.toArray ws.toArray n n2 dd dd2 sl sl2 (by simpa using hv) (by simpa using hw) (by rw[List.size_toArray,List.size_toArray];exact hsz)) ⟨ho,ho2,?_⟩
  rw[e];exact h2 hw
noncomputable def sIx(n d:Nat):Option Int->Nat
 |none=>d
 |some v=>if v < 0 then (v+(n:Int)).toNat else min v.toNat n
theorem wF(n d k:Nat):sIx n d (some (k:Int))=min k n:=by show (if (k:Int) < 0 then ((k:Int)+(n:Int)).toNat else min (k:Int).toNat n)=min k n;rw[if_neg (by omega),Int.toNat_natCast]
theorem wG(n d:Nat)(hd:d<=n)(o:Option Int):sIx n d o<=n:=by
 cases o with
 |none=>exact hd
 |some v=>
  show (if v < 0 then (v+(n:Int)).toNat else min v.toNat n)<=n;by_cases hv:v < 0
  ·rw[if_pos hv];omega
  ·rw[if_neg hv];exact Nat.min_le_right _ _
theorem wH(v:Int)(n d:Nat):(if v < 0 then max (v+(n:Int)) 0 else min v (n:Int))=((sIx n d (some v):Nat):Int):=by
 show (if v < 0 then max (v+(n:Int)) 0 else min v (n:Int))=(((if v < 0 then (v+(n:Int)).toNat else min v.toNat n):Nat):Int);by_cases hv:v < 0
 ·simp only[if_pos hv];omega
 ·simp only[if_neg hv];omega
theorem Ph(lo hi:Option Int)(n:Nat):Builtin.Slice.sliceAdjust lo hi 1 (n:Int)=(((sIx n 0 lo:Nat):Int),((sIx n n hi:Nat):Int)):=by
 have h1:¬((1:Int) < 0):=by omega
 unfold Builtin.Slice.sliceAdjust;simp only[h1,if_false];refine Prod.ext ?_ ?_
 ·cases lo with
  |none=>rfl
  |some v=>exact wH v n 0
 ·cases hi with
  |none=>rfl
  |some v=>exact wH v n n
theorem Pj(i j:Nat):Builtin.Slice.slicePlaces (i:Int) (j:Int) 1=j - i:=by
 unfold Builtin.Slice.slicePlaces;have h1:(1:Int) > 0:=by omega
 simp only[h1,if_true,Int.ediv_one];split <;> omega
theorem wI{v:Value}{o:Option Int}{Q:Option Int->Shared->Prop}(p:IsPart v o)(h:Q o s):wpAny (model prog w) A (Builtin.Slice.slicePartIndex v) Q E s:=by
 cases p with
 |none=>exact slicePart_none h
 |int i t=>exact slicePart_int h
theorem wJ{sl:Addr}{vl vu:Value}{lo hi:Option Int}{n:Nat}{Q:Int×Int×Nat->Shared->Prop}(hs:s.heap.IsSliceOf sl vl vu .none)(pl:IsPart vl lo)(pu:IsPart vu hi)
  (h:Q (((sIx n 0 lo:Nat):Int),1,sIx n n hi - sIx n 0 lo) s):wpAny (model prog w) A (Builtin.Slice.sliceApplied (.ref sl) (pure (n:Int))) Q E s:=by
 obtain ⟨os,hos,hcs,hds⟩:=id hs;unfold Builtin.Slice.sliceApplied Builtin.Slice.sliceFields;refine wpAny_bind (wpAny_bind (wpAny_field hos hds (x:=vl) rfl (wpAny_bind (wpAny_field hos hds (x:=vu) rfl (wpAny_bind (wpAny_field hos hds (x:=.none) rfl (wpAny_pure ?_)))))));refine wpAny_bind (slicePart_none ?_);show wpAny _ _ (if ((1:Int)==0)=true then _ else _) _ _ s;rw[if_neg (by decide)];refine wpAny_bind (wI pl (wpAny_bind (wI pu (wpAny_bind (wpAny_pure ?_)))));show wpAny _ _ (match Builtin.Slice.sliceAdjust lo hi 1 (n:Int) with | (lo,hi)=>pure (lo,(1:Int),Builtin.Slice.slicePlaces lo hi 1)) _ _ s;rw[Ph lo hi n];show wpAny _ _ (pure (((sIx n 0 lo:Nat):Int),(1:Int),Builtin.Slice.slicePlaces ((sIx n 0 lo:Nat):Int) ((sIx n n hi:Nat):Int) 1)) _ _ s;rw[Pj];exact wpAny_pure h
theorem Pk(xs:Array Value)(i k:Nat):((List.range k).filterMap λ(m:Nat)=>xs[((i:Int)+(m:Int) * 1).toNat]?).toArray=((xs.toList.drop i).take k).toArray:=by
 have e:(λ(m:Nat)=>xs[((i:Int)+(m:Int) * 1).toNat]?)=λm=>xs[i+m]?:=by
  funext m;have:((i:Int)+(m:Int) * 1).toNat=i+m:=by omega
  rw[this]
 rw[e];have:=pick_run xs i k;rw[List.filterMap_map]at this;have e2:((λx=>xs[x]?)∘λx=>i+x)=λm=>xs[i+m]?:=rfl;rw[e2]at this;rw[this]
theorem Pn{t sl:Addr}{items:Array Value}{vl vu:Value}{lo hi:Option Int}{Q:Value->Shared->Prop}(ht:IsTup s.heap t items)(hs:s.heap.IsSliceOf sl vl vu .none)(pl:IsPart vl lo)(pu:IsPart vu hi)
  (hw:¬(sIx items.size 0 lo=0/\sIx items.size items.size hi=items.size))
  (h:Q (.ref s.heap.objs.size) { s with heap:=s.heap.push { cls:=.type "tuple",data:=.seq ((items.toList.drop (sIx items.size 0 lo)).take (sIx items.size items.size hi - sIx items.size 0 lo)).toArray } })
  (hsz:items.size<=sizeLine):wpAny (model prog w) A (getItem (.ref t) (.ref sl)) Q E s:=by
 have htake:sizeOk (.seq ((items.toList.drop (sIx items.size 0 lo)).take (sIx items.size items.size hi - sIx items.size 0 lo)).toArray):=by show ((items.toList.drop (sIx items.size 0 lo)).take (sIx items.size items.size hi - sIx items.size 0 lo)).toArray.size<=sizeLine;rw[List.size_toArray,List.length_take,List.length_drop,Array.length_toList];omega
 have hj:sIx items.size items.size hi<=items.size:=wG _ _ (Nat.le_refl _) hi;obtain ⟨os,hos,hcs,hds⟩:=id hs;have hTs:s.TypeIs (.ref sl) "slice":=⟨os,hos,hcs⟩;unfold getItem;try with_reducible refine wpAny_holding ?_
 first |refine wpAny_bind (wpAny_pure ?_) |skip
 refine wpAny_bind (wpAny_sequenceKey ht.typeIs (by decide) ?_);refine wpAny_bind (wpAny_callSpecial?_slot (name:=Str.ofString "__getitem__") ht.typeIs PyProof.Rows.slot_tuple_getitem
  (wpAny_call_entry PyProof.Rows.slot_tuple_getitem ht.typeIs entry_tuple_getitem ?_ (args_tuple_getitem _ _)))
 show wpAny _ _ (Builtin.Tuple.tupleItemsOf (.ref t) >>= _) _ _ s;refine wpAny_bind (tupleItemsOf_ ht ?_);refine wpAny_bind (wpAny_typeOf hTs ?_);rw[if_pos (by decide)];refine wpAny_bind (wJ hs pl pu ?_);have hno:¬((((sIx items.size 0 lo:Nat):Int)==0&&(1:Int)==1&&(sIx items.size items.size hi - sIx items.size 0 lo)==items.size)=true):=by intro q;rw[Bool.and_eq_true,Bool.and_eq_true]at q;have q1:((sIx items.size 0 lo:Nat):Int)=0:=eq_of_beq q.1.1;have q2:sIx items.size items.size hi - sIx items.size 0 lo=items.size:=eq_of_beq q.2;exact hw ⟨by omega,by omega⟩
 show wpAny _ _ (if (((sIx items.size 0 lo:Nat):Int)==0&&(1:Int)==1&&(sIx items.size items.size hi - sIx items.size 0 lo)==items.size)=true then _ else _) _ _ s;rw[if_neg hno,Pk];first
  |exact wpAny_bind (m:=Builtin.Tuple.tupleExact _) (wpAny_newObj_type (wpAny_pure ⟨_,rfl,wpAny_pure h⟩) htake)
  |exact wpAny_bind (m:=Builtin.Tuple.tupleExact _) (wpAny_newObj_type (wpAny_bind (wpAny_pure (wpAny_pure ⟨_,rfl,wpAny_pure h⟩))) htake)
  |exact wpAny_bind (wpAny_bind (m:=Builtin.Tuple.tupleExact _) (wpAny_newObj_type (wpAny_pure (wpAny_pure ⟨_,rfl,wpAny_pure h⟩)) htake))
  |exact wpAny_bind (wpAny_bind (m:=Builtin.Tuple.tupleExact _) (wpAny_newObj_type (wpAny_pure ⟨_,rfl,wpAny_pure h⟩) htake))
end
end HT
namespace L2
open PySem PySem.Spec PyProof.Rows
abbrev TO:=St->Hp->(Option Int->Hp->Prop)->Prop
def PO(X:Cx)(e:Option Expr)(t:TO):Prop:=
 ∀(pins:List (Addr×Obj))(s:Shared)(σ:St)(H:Hp)(Q:Option Int->Hp->Prop),Inv X pins σ H s->t σ H Q->
  wpAny (model X.prog X.w) X.A (evalPart e X.env) (λu s'=>∃o H',Inv X pins σ H' s'/\IsPart u o/\Q o H') X.xe s
def Pq:TO:=λ_ H Q=>Q none H
def Pr(t:TE):TO:=λσ H Q=>t σ H λx H1=>∃i,x=.int i/\Q (some i) H1
theorem intsAre_of{ns:List Int}:∀{us:List Value},Vals (ns.map V.int) us->IntsAre us ns:=by
 induction ns with
 |nil=>intro us r;rw[gL]at r;cases r;exact .nil
 |cons n ns ih=>
  intro us r;rw[dy]at r;cases r with
  |cons r1 r2=>
   obtain ⟨t,e⟩:=r1;subst e;exact .cons n t (ih r2)
section
variable {X:Cx} {e:Expr} {te:TE} {lo hi:Option Expr} {tl th:TO} {pos p2:Pos}
theorem Pu:PO X none Pq:=by intro pins s σ H Q I h;rw[evalPart_none];exact am ⟨none,H,I,.none,h⟩
theorem Px(h:PE X e te):PO X (some e) (Pr te):=by intro pins s σ H Q I hw;rw[evalPart_some];refine thn (h pins s σ H _ I hw) λu s1 ⟨x,H1,I1,r1,q1⟩=>?_;obtain ⟨i,rfl,q⟩:=q1;obtain ⟨t,rfl⟩:=r1;exact ⟨some i,H1,I1,.int i t,q⟩
def SlR(X:Cx)(r:V->Option Int->Option Int->Hp->VK->Prop):Prop:=
 ∀(pins:List (Addr×Obj))(s:Shared)(σ:St)(H:Hp)(x:V)(v vl vu:Value)(lo hi:Option Int)(sl:Addr)(Q:VK),Inv X pins σ H s->RelV x v->s.heap.IsSliceOf sl vl vu .none->IsPart vl lo->IsPart vu hi->r x lo hi H Q->
  ∃T id,typeLookup (.type T) "__getitem__"=pure (some (.builtin id))/\s.TypeIs v T/\wpAny (model X.prog X.w) X.A (getItem v (.ref sl)) (EP X pins σ Q) X.xe s
def tSl(r:V->Option Int->Option Int->Hp->VK->Prop)(te:TE)(tl th:TO):TE:=λσ H Q=>te σ H λx H1=>tl σ H1 λl H2=>th σ H2 λu H3=>r x l u H3 Q
theorem Py{r:V->Option Int->Option Int->Hp->VK->Prop}(hr:SlR X r)(he:PE X e te)(hl:PO X lo tl)(hu:PO X hi th):PE X (.Subscript e (.Slice lo hi none p2) pos) (tSl r te tl th):=by intro pins s σ H Q I h;refine Subscript_ (thn (he pins s σ H _ I h) λv s1 ⟨x,H1,I1,r1,q1⟩=>?_);refine wpAny_Slice (thn (hl pins s1 σ H1 _ I1 q1) λvl s2 ⟨l,H2,I2,pl,q2⟩=>thn (hu pins s2 σ H2 _ I2 q2) λvu s3 ⟨u,H3,I3,pu,q3⟩=>?_);rw[evalPart_none];refine am ?_;have I4:Inv X pins σ H3 { s3 with heap:=s3.heap.push { cls:=.type "slice",data:=.fields #[vl,vu,.none] } }:=I3.kept (t':=s3.toks) λb ob q=>ah _ q;obtain ⟨T,id,hT,ht,hg⟩:=hr pins { s3 with heap:=s3.heap.push { cls:=.type "slice",data:=.fields #[vl,vu,.none] } } σ H3 x v vl vu l u s3.heap.objs.size Q I4 r1 (Heap.IsSliceOf.new ..) pl pu q3;show wpAny (model X.prog X.w) X.A (subscriptTail e (.Slice lo hi none p2) v (.ref s3.heap.objs.size)) (EP X pins σ Q) X.xe { s3 with heap:=s3.heap.push { cls:=.type "slice",data:=.fields #[vl,vu,.none] } };exact tail_any (ops:=[.ref s3.heap.objs.size,v]) ht hT hg (by with_unfolding_all rfl)
noncomputable def dm(xs:List V)(lo hi:Option Int):List V:=(xs.drop (HT.sIx xs.length 0 lo)).take (HT.sIx xs.length xs.length hi - HT.sIx xs.length 0 lo)
theorem wK(xs:List V)(lo hi:Option Int):(dm xs lo hi).length<=xs.length:=by unfold dm;rw[c9,dA];omega
noncomputable def Pz(K:PF):V->Option Int->Option Int->Hp->VK->Prop:=λx lo hi H Q=>∃a xs,x=.ref a/\SqT K H a xs/\
 ¬(HT.sIx xs.length 0 lo=0/\HT.sIx xs.length xs.length hi=xs.length)/\∀p,H p=none->Q (.ref p) (upd H p (.tup (dm xs lo hi)))
theorem PJ:SlR X (Pz X.K):=by
 intro pins s σ H x v vl vu lo hi sl Q I rx hs pl pu h;obtain ⟨a,xs,rfl,hx,hw,q⟩:=h;cases rx;obtain ⟨its,r,ht,hz⟩:=I.tuple hx;have hlen:its.toArray.size=xs.length:=by rw[aw];exact r.length.symm
 refine ⟨"tuple",_,gd.lookup,ht.typeIs,?_⟩;refine HT.Pn ht hs pl pu (by rw[hlen];exact hw) ?_ (by rw[hlen];exact hz);rw[hlen];refine ⟨.ref s.heap.objs.size,_,I.laid (t':=s.toks) (o:=.tup (dm xs lo hi)) (λb ob q=>ah _ q) (av _) ?_,rfl,q _ (I.hok.fresh (av _))⟩;exact ⟨cw (wK xs lo hi) hz,_,(r.drop (HT.sIx xs.length 0 lo)).take (HT.sIx xs.length xs.length hi - HT.sIx xs.length 0 lo),IsTup.new _ _⟩
def PK(K:PF):R2:=λx y H Q=>∃a b xs ys,x=.ref a/\y=.ref b/\SqT K H a xs/\SqT K H b ys/\xs≠[]/\xs.length+ys.length<=sizeLine/\
 (ys=[]->Q (.ref a) H)/\(ys≠[]->∀p,H p=none->Q (.ref p) (upd H p (.tup (xs++ys))))
theorem Vals.nil_iff{xs:List V}{us:List Value}(r:Vals xs us):us=[]↔xs=[]:=by
 cases r with
 |nil=>simp
 |cons _ _=>simp
theorem PL:OpR X (binaryOp .Add) (PK X.K):=by intro pins s σ H x y v u Q I rx ry h;obtain ⟨a,b,xs,ys,rfl,rfl,ha,hb,hx,hz,q1,q2⟩:=h;cases rx;cases ry;obtain ⟨its,r1,p1,_⟩:=I.tuple ha;obtain ⟨its2,r2,p2,_⟩:=I.tuple hb;refine HT.Pg p1 p2 (λz=>hx (r1.nil_iff.mp z)) (λz=>⟨.ref a,H,I,rfl,q1 (r2.nil_iff.mp z)⟩) (λz=>?_) (by rw[<-r1.length,<-r2.length];exact hz);refine ⟨.ref s.heap.objs.size,_,I.laid (t':=s.toks) (o:=.tup (xs++ys)) (λb ob q=>ah _ q) (av _) ?_,rfl,q2 (λw=>z (r2.nil_iff.mpr w)) _ (I.hok.fresh (av _))⟩;exact ⟨by rw[bd];exact hz,_,r1.append r2,IsTup.new _ _⟩
end
noncomputable def ixN(n:Nat)(i:Int):Option Nat:=if 0<=i then (if i < n then some i.toNat else none) else if -(n:Int)<=i then some (i+n).toNat else none
def atI{α:Type}(xs:List α)(i:Int):Option α:=(ixN xs.length i).bind λj=>xs[j]?
theorem wL{n:Nat}{i:Int}{j:Nat}(h:ixN n i=some j):seqIndex? i n=some j/\j < n/\-(n:Int)<=i/\i < n:=by
 unfold ixN at h;by_cases h0:0<=i
 ·rw[if_pos h0]at h;by_cases h1:i < n
  ·rw[if_pos h1]at h;have e:i.toNat=j:=bP h;exact ⟨by rw[seqIndex_of h0 h1,e],by omega,by omega,h1⟩
  ·rw[if_neg h1]at h;cases h
 ·rw[if_neg h0]at h;by_cases h1:-(n:Int)<=i
  ·rw[if_pos h1]at h;have e:(i+n).toNat=j:=bP h;exact ⟨by rw[seqIndex_neg (by omega) h1,e],by omega,h1,by omega⟩
  ·rw[if_neg h1]at h;cases h
theorem qK{α:Type}{xs:List α}{i:Int}{v:α}(h:atI xs i=some v):∃j,seqIndex? i xs.length=some j/\xs[j]?=some v/\j < xs.length/\-(xs.length:Int)<=i/\i < xs.length:=by
 unfold atI at h;cases e:ixN xs.length i with
 |none=>rw[e]at h;cases h
 |some j=>
  rw[e]at h;obtain ⟨h1,h2,h3,h4⟩:=wL e;exact ⟨j,h1,h,h2,h3,h4⟩
theorem cU{α:Type}{xs:List α}{j:Nat}{v:α}(h:xs[j]?=some v):atI xs (j:Int)=some v:=by
 have hj:j < xs.length:=(a7.mp h).1;have e:ixN xs.length (j:Int)=some j:=by unfold ixN;rw[if_pos (by omega),if_pos (by omega)];simp
 unfold atI;rw[e];exact h
def wM(b:Expr):Prop:=∀o i,subscripted b false o i=operate [o,i] (getItem o i)
def IxR(X:Cx)(r:R2):Prop:=
 ∀(value slice:Expr)(pins:List (Addr×Obj))(s:Shared)(σ:St)(H:Hp)(x y:V)(v u:Value)(Q:VK),Inv X pins σ H s->RelV x v->RelV y u->r x y H Q->
  subscripted slice false v u=operate [v,u] (getItem v u)->wpAny (model X.prog X.w) X.A (subscriptTail value slice v u) (EP X pins σ Q) X.xe s
def MtR(X:Cx)(id:String)(r:V->List V->Hp->VK->Prop):Prop:=
 ∀(pins:List (Addr×Obj))(s:Shared)(σ:St)(H:Hp)(x:V)(xs:List V)(v:Value)(us:List Value)(Q:VK),Inv X pins σ H s->RelV x v->Vals xs us->r x xs H Q->
  wpAny (model X.prog X.w) X.A (call (.builtin id) (v::us)) (EP X pins σ Q) X.xe s
section
variable {X:Cx} {a b:Expr} {ta tb:TE} {pos:Pos}
theorem PN{r:R2}(hr:IxR X r)(ha:PE X a ta)(hb:PE X b tb)(hs:wM b):PE X (.Subscript a b pos) (tOp r ta tb):=by intro pins s σ H Q I h;exact Subscript_ (qH ha hb I h λv u s2 x y H2 I2 rx ry q=>hr a b pins s2 σ H2 x y v u Q I2 rx ry q (hs _ _))
def PP(K:PF):R2:=λx y H Q=>∃p xs i v,x=.ref p/\y=.int i/\SqL K H p xs/\atI xs i=some v/\Q v H
def PQ(K:PF):R2:=λx y H Q=>∃p xs i v,x=.ref p/\y=.int i/\SqT K H p xs/\atI xs i=some v/\Q v H
def P0:R2:=λx y H Q=>∃z i c,x=.str z/\y=.int i/\z.length<=sizeLine/\atI z.cps.toList i=some c/\Q (.str ⟨#[c]⟩) H
theorem Qa:IxR X (PP X.K):=by
 intro value slice pins s σ H x y v u Q I rx ry h hs;obtain ⟨p,xs,i,z,rfl,rfl,hq,he,q⟩:=h;cases rx;obtain ⟨t,rfl⟩:=ry;obtain ⟨its,r,pl,hz⟩:=I.list hq;obtain ⟨j,h1,h2,h3,h4,h5⟩:=qK he;obtain ⟨w,ew,rw'⟩:=r.get h2;have hl:=r.length;have hn:=gq;have fin:EP X pins σ Q w s:=⟨z,H,I,rw',q⟩;by_cases h0:0<=i
 ·have hj:i.toNat=j:=by
   rw[seqIndex_of h0 h5]at h1;exact bP h1
  exact item_listR pl.isList h0 (by omega) (by rw[hj];simpa using ew) fin hs
 ·have hj:(i+(its.toArray.size:Int)).toNat=j:=by
   rw[seqIndex_neg (by omega) h4]at h1;rw[aw,<-hl];exact bP h1
  exact subscriptTail_builtinR (x:=w) pl.isList.typeIs slot_list_getitem.lookup
   (wpAny_getItem_list_neg (Q:=λr s'=>r=w/\EP X pins σ Q r s') pl.isList (by omega) (by rw[aw] <;> omega) (by omega) (by rw[hj];simpa using ew) ⟨rfl,fin⟩) hs
theorem Qc:IxR X (PQ X.K):=by
 intro value slice pins s σ H x y v u Q I rx ry h hs;obtain ⟨p,xs,i,z,rfl,rfl,hq,he,q⟩:=h;cases rx;obtain ⟨t,rfl⟩:=ry;obtain ⟨its,r,pl,hz⟩:=I.tuple hq;obtain ⟨j,h1,h2,h3,h4,h5⟩:=qK he;obtain ⟨w,ew,rw'⟩:=r.get h2;have hl:=r.length;have hn:=gq;have fin:EP X pins σ Q w s:=⟨z,H,I,rw',q⟩;exact subscriptTail_builtinR (x:=w) pl.typeIs slot_tuple_getitem.lookup
  (getItem_tuple (j:=j) (Q:=λr s'=>r=w/\EP X pins σ Q r s') pl (by omega) (by omega) (by rw[aw,<-hl];exact h1) (by simpa using ew) ⟨rfl,fin⟩) hs
theorem Qd:IxR X P0:=by
 intro value slice pins s σ H x y v u Q I rx ry h hs;obtain ⟨z,i,c,rfl,rfl,hz,he,q⟩:=h;obtain ⟨t,rfl⟩:=rx;obtain ⟨t',rfl⟩:=ry;obtain ⟨j,h1,h2,h3,h4,h5⟩:=qK he;have hl:z.cps.toList.length=z.length:=by simp[Str.length]
 rw[hl]at h1 h4 h5;have hn:=gq;exact tail_any (typeIs_str s z t) slot_str_getitem.lookup (getItem_str (c:=c) (by
  have e1:decide (i < -(2 ^ 63:Int))=false:=cS (by omega);have e2:decide (i≥2 ^ 63)=false:=cS (by omega);rw[e1,e2,Bool.or_false]) (by rw[h1];simpa using h2) ⟨.str ⟨#[c]⟩,H,I.tok _,⟨_,rfl⟩,q⟩) hs
theorem Qe (its:List Value) (n j:Nat) (u:Value):Obj.mapSeq (·.setIfInBounds j u) { cls:=.type "list",data:=.seq its.toArray n }={ cls:=.type "list",data:=.seq (its.set j u).toArray n }:=by simp[Obj.mapSeq]
theorem Inv.lst{pins:List (Addr×Obj)}{σ:St}{H:Hp}{s:Shared}{p:Addr}{xs:List V}(I:Inv X pins σ H s)(h:H p=some (.lst xs)):
  ∃(its:List Value) (n:Nat),Vals xs its/\s.heap.get? p=some { cls:=.type "list",data:=.seq its.toArray n }/\xs.length<=sizeLine:=by
 obtain ⟨z,its,n,r,e⟩:=I.hok p _ h;exact ⟨its,n,r,e,z⟩
theorem Inv.lstUpd{pins:List (Addr×Obj)}{σ:St}{H:Hp}{s:Shared}{p:Addr}{xs ys:List V}{its its':List Value}{n n':Nat}{f:Obj->Obj}(I:Inv X pins σ H s)(h:H p=some (.lst xs))
  (ho:s.heap.get? p=some { cls:=.type "list",data:=.seq its.toArray n }) (hf:f { cls:=.type "list",data:=.seq its.toArray n }={ cls:=.type "list",data:=.seq its'.toArray n' }) (r:Vals ys its') (hz:ys.length<=sizeLine) (t:Nat):
  Inv X pins σ (upd H p (.lst ys)) { s with heap:=s.heap.update p f,toks:=t }:=by
 have e:(s.heap.update p f).get? p=some { cls:=.type "list",data:=.seq its'.toArray n' }:=by rw[gc f ho (by rw[hf] <;> rfl),hf]
 refine I.write (x:=p) (e:=p) (by rw[h];trivial) (.inl rfl) (λb u hb q=>(Heap.get?_update_other _ _ (Ne.symm hb)).trans q) ⟨_,e⟩ ?_;exact ⟨hz,its',n',r,e⟩
def Qf:V->V->V->Hp->(Hp->Prop)->Prop:=λo i v H Q=>∃p xs k j,o=.ref p/\i=.int k/\H p=some (.lst xs)/\ixN xs.length k=some j/\Q (upd H p (.lst (xs.set j v)))
theorem set_list:qz X Qf:=by
 intro pins s σ H o i v ov iv u Q I ro ri rv h;obtain ⟨p,xs,k,j,rfl,rfl,hp,hj,q⟩:=h;cases ro;obtain ⟨t,rfl⟩:=ri;obtain ⟨its,n,r,ho,hz⟩:=I.lst hp;obtain ⟨h1,h2,h3,h4⟩:=wL hj;have hl:=r.length;have hn:=gq;have I':Inv X pins σ (upd H p (.lst (xs.set j v))) { s with heap:=s.heap.update p (Obj.mapSeq (·.setIfInBounds j u)) }:=
  I.lstUpd hp ho (Qe its n j u) (r.set rv j) (by rw[List.length_set];exact hz) s.toks
 by_cases h0:0<=k
 ·have hk:k.toNat=j:=by
   rw[seqIndex_of h0 h4]at h1;exact bP h1
  exact PySem.W.ki_setAt ho h0 (by omega) (by rw[aw,<-hl];exact h4) (by rw[hk];exact ⟨_,I',q⟩)
 ·have hk:(k+(its.toArray.size:Int)).toNat=j:=by
   rw[seqIndex_neg (by omega) h3]at h1;rw[aw,<-hl];exact bP h1
  exact PySem.W.ki_setBack ho (by omega) (by rw[aw,<-hl];exact h3) (by omega) (by rw[hk];exact ⟨_,I',q⟩)
theorem wN(lo hi:Option Int)(n:Nat):(sliceBounds lo hi none n).1=((HT.sIx n 0 lo:Nat):Int)/\(sliceBounds lo hi none n).2.1=((HT.sIx n n hi:Nat):Int)/\(sliceBounds lo hi none n).2.2=1:=by
 refine ⟨?_,?_,rfl⟩
 ·cases lo with
  |none=>simp[sliceBounds,HT.sIx]
  |some i=>
   simp only[sliceBounds,HT.sIx,Option.getD_none,show (1:Int) > 0 by decide,if_true];by_cases h:i < 0
   ·simp only[h,if_true] <;> omega
   ·simp only[h,if_false] <;> omega
 ·cases hi with
  |none=>simp[sliceBounds,HT.sIx]
  |some i=>
   simp only[sliceBounds,HT.sIx,Option.getD_none,show (1:Int) > 0 by decide,if_true];by_cases h:i < 0
   ·simp only[h,if_true] <;> omega
   ·simp only[h,if_false] <;> omega
theorem Qg(its:List Value)(lo hi:Option Int):slicePick its.toArray lo hi none=((its.drop (HT.sIx its.length 0 lo)).take (HT.sIx its.length its.length hi - HT.sIx its.length 0 lo)).toArray:=by obtain ⟨h1,h2,h3⟩:=wN lo hi its.toArray.size;unfold slicePick;rw[h1,h2,h3];simp only[sliceRange_one,pick_run,aw] <;> rfl
noncomputable def Qh(K:PF):V->Option Int->Option Int->Hp->VK->Prop:=λx lo hi H Q=>∃a xs,x=.ref a/\SqL K H a xs/\∀p,H p=none->Q (.ref p) (upd H p (.lst (dm xs lo hi)))
theorem wO:SlR X (Qh X.K):=by intro pins s σ H x v vl vu lo hi sl Q I rx hs pl pu h;obtain ⟨a,xs,rfl,hx,q⟩:=h;cases rx;obtain ⟨its,r,ht,hz⟩:=I.list hx;have hlen:=r.length;refine ⟨"list",_,slot_list_getitem.lookup,ht.isList.typeIs,?_⟩;refine wpAny_getItem_list_slice ht.isList hs pl pu .none (by simp) ?_ (by rw[aw] <;> omega);rw[Qg,<-hlen];refine ⟨.ref s.heap.objs.size,_,I.laid (t':=s.toks) (o:=.lst (dm xs lo hi)) (λb ob q=>ah _ q) (av _) ?_,rfl,q _ (I.hok.fresh (av _))⟩;exact ⟨cw (wK xs lo hi) hz,_,0,(r.drop (HT.sIx xs.length 0 lo)).take (HT.sIx xs.length xs.length hi - HT.sIx xs.length 0 lo),aI _ rfl⟩
theorem wQ:bD X (.builtin "len") (λxs H Q=>∃p ys,xs=[.ref p]/\(SqL X.K H p ys\/SqT X.K H p ys)/\Q (.int ys.length) H):=by
 intro pins s σ H xs us Q I r h;obtain ⟨p,ys,rfl,hq,q⟩:=h;obtain ⟨u,rfl,rx⟩:=vals1 r;cases rx;have hn:=gq;rcases hq with hq |hq
 ·obtain ⟨its,r',pl,hz⟩:=I.list hq;have hlen:=r'.length;exact Calls.call_len_list pl.isList (by simp only[aw] <;> omega) ⟨.int ys.length,H,I.tok _,⟨s.toks+1,by rw[aw,hlen]⟩,q⟩
 ·obtain ⟨its,r',pl,hz⟩:=I.tuple hq;have hlen:=r'.length;exact len_tuple pl (by simp only[aw] <;> omega) ⟨.int ys.length,H,I.tok _,⟨s.toks+1,by rw[aw,hlen]⟩,q⟩
theorem Qi:bD X (.builtin "len") (λxs H Q=>∃z,xs=[.str z]/\z.length<=sizeLine/\Q (.int z.length) H):=by intro pins s σ H xs us Q I r h;obtain ⟨z,rfl,hz,q⟩:=h;obtain ⟨u,rfl,t,rfl⟩:=vals1 r;have hn:=gq;exact len_str (by omega) ⟨.int z.length,H,I.tok _,⟨_,rfl⟩,q⟩
theorem wR:bD X (.type "list") (λxs H Q=>∃p ys,xs=[.ref p]/\(SqL X.K H p ys\/SqT X.K H p ys)/\∀l,H l=none->Q (.ref l) (upd H l (.lst ys))):=by
 intro pins s σ H xs us Q I r h;obtain ⟨p,ys,rfl,hq,q⟩:=h;obtain ⟨u,rfl,rx⟩:=vals1 r;cases rx;have fin:∀(its:List Value),Vals ys its->ys.length<=sizeLine->∀(h':Heap)(c':Nat),(∀b o',s.heap.get? b=some o'->h'.get? b=some o')->
   h'.get? s.heap.objs.size=some { cls:=.type "list",dict:=none,data:=.seq its.toArray c',slots:=#[] }->EP X pins σ Q (.ref s.heap.objs.size) { s with heap:=h' }:=λits r' hz h' c' kp e=>
  ⟨.ref s.heap.objs.size,_,I.laid (t':=s.toks) kp (av _) (show ObjOk X.prog X.w _ h' _ (.lst ys) from ⟨hz,its,c',r',e⟩),rfl,q _ (I.hok.fresh (av _))⟩
 rcases hq with hq |hq
 ·obtain ⟨its,r',pl,hz⟩:=I.list hq;have hlen:=r'.length;obtain ⟨o,ho,hc,n,hd⟩:=pl.isList;exact call_list_seq p (.inl rfl) ho hc hd (λh' c' kp e=>fin its r' hz h' c' kp e) (by simp only[aw] <;> omega)
 ·obtain ⟨its,r',pl,hz⟩:=I.tuple hq;have hlen:=r'.length;obtain ⟨o,ho,hc,n,hd⟩:=pl;exact call_list_seq p (.inr rfl) ho hc hd (λh' c' kp e=>fin its r' hz h' c' kp e) (by simp only[aw] <;> omega)
theorem wU:bD X (.type "tuple") (λxs H Q=>∃p ys,xs=[.ref p]/\((SqL X.K H p ys/\∀l,H l=none->Q (.ref l) (upd H l (.tup ys)))\/(SqT X.K H p ys/\Q (.ref p) H))):=by
 intro pins s σ H xs us Q I r h;obtain ⟨p,ys,rfl,h⟩:=h;obtain ⟨u,rfl,rx⟩:=vals1 r;cases rx;rcases h with ⟨hq,q⟩ |⟨hq,q⟩
 ·obtain ⟨its,r',pl,hz⟩:=I.list hq;have hlen:=r'.length;refine call_tuple_list pl.isList (λh' kp=>?_) (by simp only[aw] <;> omega);have I1:Inv X pins σ H { s with heap:=h' }:=I.kept (t':=s.toks) kp;have I2:Inv X pins σ (upd H h'.objs.size (.tup ys)) { s with heap:=h'.push { cls:=.type "tuple",data:=.seq its.toArray } }:=
   I1.laid (t':=s.toks) (λb o e=>ah _ e) (av _) (show ObjOk X.prog X.w _ _ _ (.tup ys) from ⟨hz,its,r',IsTup.new _ _⟩)
  exact ⟨.ref h'.objs.size,_,I2,rfl,q _ (I1.hok.fresh (av _))⟩
 ·obtain ⟨its,r',pl,hz⟩:=I.tuple hq;exact call_tuple_same pl ⟨.ref p,H,I,rfl,q⟩
def tyV(K:PF)(T:String)(x:V)(H:Hp):Prop:=match x with
 |.str _=>T="str"
 |.int _=>T="int"
 |.ref p=>(T="list"/\∃xs,SqL K H p xs)\/(T="tuple"/\∃o,K.lookup p=some o/\o.cls=.type "tuple"/\o.dict=none)\/
   (T="dict"/\((∃kvs,H p=some (.dK kvs))\/∃kvs,H p=some (.dT kvs)))\/(T="set"/\∃S n,H p=some (.set S n))
 |_=>False
theorem Qj{pins:List (Addr×Obj)}{σ:St}{H:Hp}{s:Shared}{T:String}{x:V}{v:Value}(I:Inv X pins σ H s)(r:RelV x v)(ty:tyV X.K T x H):
  s.TypeIs v T/\∀a,v=.ref a->∃ob,s.heap.get? a=some ob/\ob.dict=none:=by
 cases x with
 |str z=>
  obtain ⟨t,rfl⟩:=r;cases (show T="str" from ty);exact ⟨typeIs_str s z t,λ_ e=>nomatch e⟩
 |int i=>
  obtain ⟨t,rfl⟩:=r;cases (show T="int" from ty);exact ⟨typeIs_int s i t,λ_ e=>nomatch e⟩
 |ref p=>
  cases r;rcases ty with ⟨rfl,xs,hq⟩ |⟨rfl,o,hk,hc,hd⟩ |⟨rfl,hk⟩ |⟨rfl,S,n,hk⟩
  ·obtain ⟨its,_,pl,_⟩:=I.list hq;refine ⟨pl.isList.typeIs,λa e=>?_⟩;cases e;obtain ⟨o,n,e,c,hd,_⟩:=pl;exact ⟨o,e,hd⟩
  ·refine ⟨⟨o,I.kIn p o hk,hc⟩,λa e=>?_⟩;cases e;exact ⟨o,I.kIn _ o hk,hd⟩
  ·have z:∃o,s.heap.get? p=some o/\o.ExactDict:=by
    rcases hk with ⟨kvs,hk⟩ |⟨kvs,hk⟩
    ·obtain ⟨_,_,_,_,o,_,_,e,ex,_⟩:=I.hok p _ hk;exact ⟨o,e,ex⟩
    ·obtain ⟨_,_,_,_,o,_,_,e,ex,_⟩:=I.hok p _ hk;exact ⟨o,e,ex⟩
   obtain ⟨o,e,ex⟩:=z;refine ⟨⟨o,e,ex.1⟩,λa e2=>?_⟩;cases e2;exact ⟨o,e,ex.2.1⟩
  ·obtain ⟨o,_,_,_,e,ex,_⟩:=I.hok p _ hk;refine ⟨⟨o,e,ex.1⟩,λa e2=>?_⟩;cases e2;exact ⟨o,e,ex.2.1⟩
 |_=>exact False.elim ty
def tBM(K:PF)(T:String)(r:V->List V->Hp->VK->Prop)(to:TE)(t:TA):TE:=λσ H Q=>to σ H λx H1=>tyV K T x H1/\t σ H1 λxs H2=>r x xs H2 Q
variable {o e:Expr} {es:List Expr} {to:TE} {t:TA} {name:Str} {apos cpos:Pos} {T id:String} {r:V->List V->Hp->VK->Prop}
theorem eH (pa:PlainAttrs T) (slot:Slot T name id) (hty:typeOf (.builtin id)=pure (.type "method_descriptor")) (hm:MtR X id r) (ho:PE X o to) (ha:PA X (e::es) t)
  (hbase:attributeBase o name X.env (eval o X.env)=eval o X.env:=by rfl)
  (hfew:((backTo cpos (starEach (e::es) X.env)).all (λx=>!x.1)&&(backToKw cpos (keywordEach [] X.env)).all (λx=>x.1.isSome)
  &&decide ((e::es).length+([]:List Keyword).length+(if ([]:List Keyword).isEmpty then 0 else 1) < 30))=true:=by rfl)
  (hline:(apos.endLine==cpos.line)=true:=by rfl) (hs:starEach (e::es) X.env=(false,eval e X.env)::starEach es X.env:=by rfl) (hplain:(backTo cpos (starEach es X.env)).any (·.1)=false:=by rfl):
  PE X (.Call (.Attribute o name apos) (e::es) [] cpos) (tBM X.K T r to t):=by
 intro pins s σ H Q I h;refine wpAny_Call_method_late hbase hfew hline rfl (thn (ho pins s σ H _ I h) λv s1 ⟨x,H1,I1,r1,ty,q1⟩=>?_);obtain ⟨h1,h2⟩:=Qj I1 r1 ty;refine ⟨T,id,pa,slot,hty,h1,h2,?_⟩;have hA:=ha cpos pins s1 σ H1 _ I1 q1;rw[hs]at hA ⊢;refine Calls.callWith_builtin (by show (false||(backTo cpos (starEach es X.env)).any (·.1))=false;rw[hplain] <;> rfl) (Calls.evalArgs_plain ?_);exact thn hA λus s2 ⟨vs,H2,I2,r2,q2⟩=>hm pins s2 σ H2 x vs v us Q I2 r1 r2 q2
end
def MtM(X:Cx)(id:String)(r:V->List V->Hp->VK->Prop):Prop:=
 ∀(pins:List (Addr×Obj))(s:Shared)(σ:St)(H:Hp)(x:V)(xs:List V)(v:Value)(us:List Value)(Q:VK),Inv X pins σ H s->RelV x v->Vals xs us->r x xs H Q->
  wpAny (model X.prog X.w) X.A (call (.builtin id) (v::us)) (EP X pins σ Q) X.xe s
theorem Vals.one:∀{x:V}{us:List Value},Vals [x] us->∃u,us=[u]/\RelV x u
 |_,_,.cons r .nil=>⟨_,rfl,r⟩
theorem Vals.eraseIdx:∀{xs:List V}{us:List Value}(i:Nat),Vals xs us->Vals (xs.eraseIdx i) (us.eraseIdx i)
 |_,_,_,.nil=>.nil
 |_,_,0,.cons _ t=>t
 |_,_,i+1,.cons r t=>.cons r (Vals.eraseIdx i t)
theorem Vals.rep{xs:List V}{us:List Value}(h:Vals xs us):∀k:Nat,Vals (List.replicate k xs).flatten (List.replicate k us).flatten
 |0=>.nil
 |k+1=>by
  rw[cp,cp,gz,gz];exact Vals.append h (Vals.rep h k)
theorem wV{α:Type}:∀(l:List α)(i:Nat),(l.eraseIdx i).length<=l.length
 |[],_=>av _
 |_::_,0=>eh _
 |_::r,i+1=>Nat.succ_le_succ (wV r i)
theorem foldl_rep(its:List Value):∀(k:Nat)(acc:List Value),
  List.foldl (λx1 x2=>x1++x2) acc.toArray (List.replicate k its.toArray)=(acc++(List.replicate k its).flatten).toArray
 |0,acc=>by simp
 |k+1,acc=>by
  have e:acc.toArray++its.toArray=(acc++its).toArray:=by simp
  have e2:(acc++its)++(List.replicate k its).flatten=acc++(List.replicate (k+1) its).flatten:=by rw[cp,gz,bg]
  rw[<-e2,<-foldl_rep its k (acc++its),<-e,cp,List.foldl_cons]
section
variable {X:Cx} {pins:List (Addr×Obj)} {σ:St} {H:Hp} {s:Shared} {l b:Addr} {xs ys zs:List V}
theorem Inv.lset{its its':List Value}{n:Nat}{f:Array Value->Array Value}{t':Nat}(I:Inv X pins σ H s)(hH:H l=some (.lst xs))
  (e:s.heap.get? l=some { cls:=.type "list",data:=.seq its.toArray n }) (hf:f its.toArray=its'.toArray) (hv:Vals ys its') (hz:ys.length<=sizeLine):
  Inv X pins σ (upd H l (.lst ys)) { s with heap:=s.heap.update l (Obj.mapSeq f),toks:=t' }:=by
 have q:=PySem.IsL.update e f;rw[hf]at q;refine I.write (x:=l) (e:=l) (by rw[hH];exact trivial) (.inl rfl) (λb' u hb hu=>(Heap.get?_update_other s.heap (Obj.mapSeq f) (Ne.symm hb)).trans hu) ⟨_,q⟩ ?_;exact ⟨hz,its',_,hv,q⟩
theorem Inv.lnew{its:List Value}{t':Nat}(I:Inv X pins σ H s)(hv:Vals ys its)(hz:ys.length<=sizeLine):
  Inv X pins σ (upd H s.heap.objs.size (.lst ys)) { s with heap:=s.heap.push { cls:=.type "list",data:=.seq its.toArray },toks:=t' }:=
 I.laid (λ_ _ q=>ah _ q) (av _) ⟨hz,its,0,hv,aI _ rfl⟩
theorem Inv.fresh(I:Inv X pins σ H s):H s.heap.objs.size=none:=I.hok.fresh (av _)
theorem Inv.lstM (I:Inv X pins σ H s) (hH:H l=some (.lst xs)):xs.length<=sizeLine/\∃(its:List Value) (n:Nat),Vals xs its/\xs.length=its.length/\s.heap.get? l=some { cls:=.type "list",data:=.seq its.toArray n }:=by obtain ⟨z,its,n,r,e⟩:=I.hok l _ hH;exact ⟨z,its,n,r,r.length,e⟩
theorem wW{n:Nat}(h:n<=sizeLine):Builtin.List.listTooLong n=false:=by unfold Builtin.List.listTooLong;exact cS (by omega)
end
section
variable {X:Cx}
noncomputable def Qk:V->List V->Hp->VK->Prop:=λx vs H Q=>∃l xs y,x=.ref l/\vs=[y]/\H l=some (.lst xs)/\xs.length < sizeLine/\Q .non (upd H l (.lst (xs++[y])))
theorem Ql:MtM X "list.append" Qk:=by intro pins s σ H x vs v us Q I rx rv h;obtain ⟨l,xs,y,rfl,rfl,hH,hz,q⟩:=h;cases rx;obtain ⟨u,rfl,ru⟩:=rv.one;obtain ⟨z,its,n,r,hl,e⟩:=I.lstM hH;refine gV F.slot_list_append ⟨_,e,rfl⟩ F.entry_list_append (F.args_list_append_2 _ _) (PySem.list_append l its.toArray n u (by rw[aw];omega)) ⟨e,?_⟩;refine ⟨.non,_,I.lset (its':=its++[u]) hH e (by simp) (r.append (.cons ru .nil)) ?_,rfl,q⟩;rw[bd,List.length_singleton];omega
noncomputable def Qm:V->List V->Hp->VK->Prop:=λx vs H Q=>∃l b xs zs,x=.ref l/\vs=[.ref b]/\H l=some (.lst xs)/\H b=some (.lst zs)/\xs.length+zs.length<=sizeLine/\Q .non (upd H l (.lst (xs++zs)))
theorem Qn:MtM X "list.extend" Qm:=by
 intro pins s σ H x vs v us Q I rx rv h;obtain ⟨l,b,xs,zs,rfl,rfl,hH,hB,hz,q⟩:=h;cases rx;obtain ⟨u,rfl,ru⟩:=rv.one;cases ru;obtain ⟨z,its,n,r,hl,e⟩:=I.lstM hH;obtain ⟨z2,its2,n2,r2,hl2,e2⟩:=I.lstM hB;have hsz:its.toArray.size+its2.toArray.size<=sizeLine:=by rw[aw,aw];omega
 have hlong:¬(!its.toArray.isEmpty&&Builtin.List.listTooLong (its.toArray.size+its2.toArray.size))=true:=by rw[wW hsz,hX];exact br
 refine gV F.slot_list_extend ⟨_,e,rfl⟩ F.entry_list_extend (F.args_list_extend_2 _ _)
  (AutoSeq1.list_extend_list_list_0 l its.toArray n b its2.toArray n2 hlong (by rw[aw];omega) (by omega)) ⟨e,e2,?_⟩
 refine ⟨.non,_,I.lset (its':=its++its2) hH e (by simp) (r.append r2) ?_,rfl,q⟩;rw[bd];omega
noncomputable def Qo:V->List V->Hp->VK->Prop:=λx vs H Q=>∃l xs i k y,x=.ref l/\vs=[.int i]/\H l=some (.lst xs)/\-(2 ^ 63)<=i/\i < 2 ^ 63/\seqIndex? i xs.length=some k/\xs[k]?=some y/\Q y (upd H l (.lst (xs.eraseIdx k)))
theorem Qp:MtM X "list.pop" Qo:=by
 intro pins s σ H x vs v us Q I rx rv h;obtain ⟨l,xs,i,k,y,rfl,rfl,hH,h1,h2,hk,hy,q⟩:=h;cases rx;obtain ⟨u,rfl,ru⟩:=rv.one;obtain ⟨t,rfl⟩:=ru;obtain ⟨z,its,n,r,hl,e⟩:=I.lstM hH;obtain ⟨w,hw,rw'⟩:=r.get hy;refine gV F.slot_list_pop ⟨_,e,rfl⟩ F.entry_list_pop (F.args_list_pop_2 _ _)
  (MeetsSeq.list_pop_at l its.toArray n i t k w (fitsIndex_both h1 h2) (by rw[aw,<-hl];exact hk) (by rw[<-eW];exact hw) (by rw[aw];omega)) ⟨e,?_⟩
 refine ⟨y,_,I.lset (its':=its.eraseIdx k) hH e ?_ (r.eraseIdx k) ?_,rw',q⟩
 ·show its.toArray.eraseIdxIfInBounds k=(its.eraseIdx k).toArray;rw[List.eraseIdxIfInBounds_toArray]
 ·have:=wV xs k;omega
theorem len_rep{α:Type}(xs:List α)(k:Nat):(List.replicate k xs).flatten.length=k * xs.length:=by
 induction k with
 |zero=>simp
 |succ k ih=>rw[cp,gz,bd,ih,Nat.succ_mul,Nat.add_comm]
end
end L2
namespace Att
open PySem PySem.W PySem.Calls PyProof.Rows
theorem Qq{P:Params}{h:Heap}:∀(ns:List Int)(vs:List Value),WellAll P h vs (ns.map WData.int)->IntsAre vs ns:=by
 intro ns;induction ns with
 |nil=>
  intro vs w;rw[List.map_nil]at w;cases w;exact .nil
 |cons n ns ih=>
  intro vs w;rw[List.map_cons]at w;cases w with
  |cons a b=>
   cases a;exact .cons _ _ (ih _ b)
theorem Qs{l:OpenLaw}{n:Nat}(hn:l.most=some n){P:Params}{h:Heap}{args:List WData}{vals:List Value}
  (hpre:l.row.toRowW.claim.pre args=true) (hwl:WellAll P h vals args):
  ∃a vs ns,vals=[Value.ref a]/\args=[WData.list (ns.map WData.int)]/\h.get? a=some { cls:=.type "list",data:=.seq vs.toArray }/\IntsAre vs ns/\ns.length<=n:=by
 have hsh:WShape.hasAll [] args [.list .int]=true:=(pre_splitW hpre).1;have hc:l.pre.holds [] { args:=args }=true:=(pre_splitW hpre).2;obtain ⟨d,r,rfl,h1,h2⟩:=hasAllW_cons hsh;obtain rfl:=hasAllW_nil h2;obtain ⟨xs,rfl,h3⟩:=hasW_list h1;obtain ⟨ns,rfl⟩:=items_int h3;have hlen:ns.length<=n:=by
  unfold OpenLaw.pre at hc;have h4:(WTm.not (.lt (.lit (.int (n:Int))) (.len (.arg 0)))).holds [] { args:=[.list (ns.map .int)] }=true:=by have h4:=(holds_andW hc).1;rw[hn]at h4;exact h4
  have h5:=condW_of h4 (w_not (w_lt w_lit (w_len_list (w_arg rfl))));rw[List.length_map]at h5;refine Nat.le_of_not_lt λq=>?_;have q':(n:Int) < ((ns.length:Nat):Int):=by omega
  first
   | (rw[decide_eq_true q']at h5;exact absurd h5 (by decide))
   | (simp at h5;omega)
 cases hwl with
 |cons w1 w2=>
  cases w2;cases w1 with
  |list ho hall=>exact ⟨_,_,ns,rfl,rfl,ho,Qq ns _ hall,hlen⟩
theorem Qt(l:OpenLaw)(args:List WData):l.row.toRowW.claim.post args (.bool true) args=true:=
 postW_of (r:=l.row.toRowW) (X:=(true==true))
  (show WShape.has [] (.bool true) .bool=true by first |rfl |decide |simp[WShape.has,WShape.arms,WShape.armsAll])
  (show (WTm.eq .res (.lit (.bool true))).value [] { args:=args,res:=some (.bool true),after:=args }=some (.bool (true==true)) from w_eq_bool (w_res rfl) w_lit) rfl
theorem attach_call{l:OpenLaw}{n:Nat}{q:Program}{loose:List Str}{XP:(Str->Option Value)->Heap->Prop}{YP:World->Heap->Prop}{d:DefRec}
  (hn:l.most=some n) (hdf:d.params.defaults=[])
  (call:∀(w:World)(s₀ s₁:Shared)(mg mb:Str->Option Value)(fa:Addr)(o:Obj)(pm cd doc:Value)(a:Addr)(vs:List Value)(ns:List Int),
   Ground q loose [] XP w s₀ mg mb s₁.heap->YP w s₁.heap->
   s₁.heap.get? fa=some o->o.data=.func (docDef d.name d.params d.body d.scope pm cd doc)->s₁.heap.CodeRec cd d.name->mg d.name=some (.ref fa)->
   s₁.heap.get? a=some { cls:=.type "list",data:=.seq vs.toArray }->IntsAre vs ns->ns.length<=n->s₁.gens=#[]->
   codeAny (model l.prog w) callerA (.call (.ref fa) ⟨[.ref a],[]⟩) (λr s'=>r=.ok (.ret (.bool true))/\OldK s₁.heap s'.heap/\s'.os=s₁.os/\AllBare s'.gens) s₁):
  WalkO q loose XP YP l.row.toRowW d [] (λf vs=>PySem.call f vs):=by
 intro w s₀ s₁ mg mb G Y fa o pm cd doc dV kV ho hd hcd hD hmg hg args vals as hpre hlay hrd hwl hlo;obtain rfl:dV=.none:=Dflts.none hD hdf;obtain rfl:kV=.none:=Dflts.noKw hD;obtain ⟨a,vs,ns,rfl,rfl,hobj,hints,hlen⟩:=Qs hn hpre hwl;refine enter_call (codeAny_mono (call w s₀ s₁ mg mb fa o pm cd doc a vs ns G Y ho (fd_plain hd) hcd hmg hobj hints hlen hg) λr s' hq=>?_);obtain ⟨rfl,h2,h3,h4⟩:=hq;exact ⟨.inl ⟨.bool true,.bool true,[],rfl,λ_=>rfl,.bool true,Qt l _,λ_=>⟨List.Pairwise.nil,λ_ hm=>(nomatch hm)⟩⟩,h2,h3,h4⟩
end Att
namespace L2
open PySem PySem.Spec PyProof.Rows
theorem qL:∀{vs:List Value}{ns:List Int},IntsAre vs ns->Vals (ns.map V.int) vs
 |_,_,.nil=>.nil
 |_,_,.cons n t h=>.cons ⟨t,rfl⟩ (qL h)
def Only(H:Hp):Prop:=∀b,H b=none\/∃o xs,H b=some (.frz o (.lst xs))
theorem Qu{P:Program}{w:World}{K:PF}{mg mb:Str->Option Value}{CX:CXT}{k:Nat}{fa a:Addr}{fd:FuncData}{x:Str}{sp:Sp}{s₁:Shared}{vs:List Value}{ns:List Int}
  (KX:K.In s₁.heap) (hns:s₁.heap.Ns mainGlobals mg) (hb:s₁.heap.Ns builtinsNs mb) (hbb:∀x:Str,x≠"__name__"->mb x=bootBuiltins x) (hlim:s₁.heap.NoLimit) (hg:s₁.gens=#[])
  (ha:s₁.heap.get? a=some { cls:=.type "list",data:=.seq vs.toArray }) (hi:IntsAre vs ns) (hl:ns.length<=sizeLine) (hr:Room k callerA)
  (F:∀base:Heap,K.In base->base.Ns mainGlobals mg->FnOk P w K mg base CX k fa fd [x] sp) (hbind:∀(s:Shared)(u:Value),BindsTo s fd ⟨[u],[]⟩ [(x,u)])
  (hsp:∀H:Hp,Only H->SqL K H a (ns.map V.int)->sp [.ref a] H (λv _=>v=.bl true) λ_ _ _=>False)
  (hCX:∀H e s',CX [] H s₁ (λ_ _ _=>False) e s'->False):
  codeAny (model P w) callerA (.call (.ref fa) ⟨[.ref a],[]⟩) (λr s'=>r=.ok (.ret (.bool true))/\OldK s₁.heap s'.heap/\s'.os=s₁.os/\AllBare s'.gens) s₁:=by
 have rv:=qL hi;have lenV:=hi.length
 -- from an abstract heap in which nothing but the script may be tracked
 have core:∀H:Hp,Only H->SqL K H a (ns.map V.int)->HOk P w H s₁.heap->(∀b,H b≠none->b=a)->(H a≠none->K.lookup a=none)->
   codeAny (model P w) callerA (.call (.ref fa) ⟨[.ref a],[]⟩) (λr s'=>r=.ok (.ret (.bool true))/\OldK s₁.heap s'.heap/\s'.os=s₁.os/\AllBare s'.gens) s₁:=by
  intro H hO hS hok hA hK;have base_of:∀{b:Addr}{o:Obj},s₁.heap.get? b=some o->H b=none->(eG s₁.heap H).get? b=some o:=λe n=>Ma e n;have noA:∀{b:Addr}{o:Obj}{es:Array DictEntry}{ep:Nat},s₁.heap.get? b=some o->o.data=.dict es ep->H b=none:=λ{b o es ep} e d=>by
   cases q:H b with
   |none=>rfl
   |some u=>
    have e':b=a:=hA b (by rw[q];simp);subst e';rw[ha]at e;cases e;have d':Data.seq vs.toArray _=Data.dict es ep:=d;cases d'
  have nsK:∀{b:Addr}{m:Str->Option Value},s₁.heap.Ns b m->(eG s₁.heap H).Ns b m:=λ{b m} ⟨o,es,ep,e,d,r⟩=>⟨o,es,ep,base_of e (noA e d),d,r⟩;have hKb:K.In (eG s₁.heap H):=λb o e=>base_of (KX b o e) (by
   cases q:H b with
   |none=>rfl
   |some u=>
    have e':b=a:=hA b (by rw[q];simp);subst e';rw[hK (by rw[q];simp)]at e;cases e)
  have hM:Mod K mg (eG s₁.heap H):=⟨hKb,nsK hns,⟨mb,nsK hb,hbb⟩,let ⟨mc,h1,h2⟩:=hlim;⟨mc,nsK h1,h2⟩⟩;have e0:Env0 P w K mg (eG s₁.heap H) callerA [] s₁ H:=⟨rfl,hM,λb o e=>Mg e,Nat.le_of_eq (LR _ _),trivial,λb hb=>absurd (show b∈([]:List Addr) from hb) (by simp),hok,.of_eq hg⟩;refine codeAny_mono ((F _ hKb (nsK hns)).run callerA [] s₁ H ⟨[.ref a],[]⟩ [.ref a] [.ref a] _ _ hr e0 (hbind s₁ (.ref a)) (.cons rfl .nil) (hsp H hO hS)) λr s' h=>?_;cases r with
  |error e=>exact (hCX H e s' h).elim
  |ok fl=>
   cases fl with
   |next=>exact False.elim h
   |brk=>exact False.elim h
   |cont=>exact False.elim h
   |ret u=>
    obtain ⟨v,H',os,bare,un,hok',r',q⟩:=h;have q':v=.bl true:=q;subst q';obtain rfl:u=Value.bool true:=r';refine ⟨rfl,OldK.of_keep λb o e=>?_,os,bare⟩;cases q:H b with
    |none=>exact un.keep b o e q (by intro z;exact absurd (show b∈([]:List Addr) from z) (by simp)) (by simp)
    |some u=>
     rcases hO b with z |⟨ob,xs,z⟩
     ·rw[q]at z;cases z
     ·have z2:=un.frzs b ob _ z;obtain ⟨e1,_⟩:=hok b _ z;obtain ⟨e2,_⟩:=hok' b _ z2;rw[e]at e1;cases e1;exact e2
 cases hk:K.lookup a with
 |some o=>
  -- the script is one of the module's own objects
  have e:=KX a o hk;rw[ha]at e;cases e;refine core (λ_=>none) (λ_=>.inl rfl) (.inr ⟨_,vs.toArray,_,hk,rfl,rfl,rfl,by rw[aw,lenV];exact hl,by simpa using rv⟩) (λb u z=>by have z':(none:Option HO)=some u:=z;cases z') (λb z=>absurd rfl z) λz=>absurd rfl z
 |none=>
  refine core (λb=>if b=a then some (.frz { cls:=.type "list",data:=.seq vs.toArray } (.lst (ns.map V.int))) else none) (λb=>?_) (.inl (.inr ⟨{ cls:=.type "list",data:=.seq vs.toArray },if_pos rfl⟩)) (λb u z=>?_) (λb z=>?_) λ_=>hk
  ·by_cases hb:b=a
   ·exact .inr ⟨_,_,if_pos hb⟩
   ·exact .inl (if_neg hb)
  ·by_cases hb:b=a
   ·have z':=(if_pos hb).symm.trans z;cases z';subst hb;exact ⟨ha,by rw[ax];exact hl,vs,_,rv,ha⟩
   ·have z':=(if_neg hb).symm.trans z;cases z'
  ·by_cases hb:b=a
   ·exact hb
   ·exact absurd (if_neg hb) z
theorem Qv{l:PySem.W.OpenLaw}{n k:Nat}{q:Program}{loose:List Str}{XP:(Str->Option Value)->Heap->Prop}{YP:World->Heap->Prop}{d:DefRec}{K:Params->PF}{CX:World->CXT}{sp:World->Sp}{x:Str}
  (hn:l.most=some n) (hn2:n<=sizeLine) (hdf:d.params.defaults=[]) (hr:Room k callerA)
  (hY:∀(w:World)(h:Heap),YP w h->(K w.params).In h)
  (F:∀(w:World)(mg:Str->Option Value)(fa:Addr)(h:Heap),(K w.params).In h->h.Ns mainGlobals mg->mg d.name=some (.ref fa)->
   ∃fd:FuncData,(∀(s:Shared)(u:Value),BindsTo s fd ⟨[u],[]⟩ [(x,u)])/\
    ∀base:Heap,(K w.params).In base->base.Ns mainGlobals mg->FnOk l.prog w (K w.params) mg base (CX w) k fa fd [x] (sp w))
  (hsp:∀(w:World)(H:Hp)(a:Addr)(ns:List Int),ns.length<=n->Only H->SqL (K w.params) H a (ns.map V.int)->sp w [.ref a] H (λv _=>v=.bl true) λ_ _ _=>False)
  (hCX:∀(w:World)(H:Hp)(s:Shared)(e:Value)(s':Shared),CX w [] H s (λ_ _ _=>False) e s'->False):
  PySem.W.WalkO q loose XP YP l.row.toRowW d [] (λf vs=>PySem.call f vs):=by
 refine Att.attach_call hn hdf λw s₀ s₁ mg mb fa o pm cd doc a vs ns G Y ho hd hcd hmg hobj hints hlen hg=>?_;have KX:=hY w _ Y;obtain ⟨fd,hb,hF⟩:=F w mg fa _ KX G.T.g hmg;exact Qu KX G.T.g G.T.b G.T.builtins G.T.nolimit hg hobj hints (cw hlen hn2) hr hF hb (λH hO hS=>hsp w H a ns hlen hO hS) λH e s'=>hCX w H s₁ e s'
def jm(s:Stmt):Arguments:=match s with
 |.FunctionDef _ a _ _ _ _ _ _ _ _=>a
 |_=>{ posonlyargs:=[],args:=[],vararg:=none,kwonlyargs:=[],kw_defaults:=[],kwarg:=none,defaults:=[] }
def aY(s:Stmt):List Stmt:=match s with
 |.FunctionDef _ _ b _ _ _ _ _ _ _=>b
 |_=>[]
def aD(s:Stmt):Scope:=match s with
 |.FunctionDef _ _ _ _ _ _ sc _ _ _=>sc
 |_=>{ kind:=.function,names:=[],isGenerator:=false,isCoroutine:=false }
structure Fun(K:PF)(x qual:Str)(st:Stmt)(f:Addr)(fd:FuncData):Prop where
 ex:∃(oc:Value)(od:Option Addr)(kV doc pm:Value)(an:Option Addr)(cdv ct:Value)(osl:Array (Option Value)),
  fd=PySem.W.fnOf x qual (jm st) (aY st) (aD st) .none kV doc pm an cdv ct/\K.lookup f=some ⟨oc,od,.func fd,osl⟩/\PySem.W.codeIn K cdv qual=true
 kp:PySem.W.keepIn K (.ref f)=true
section
variable {P:Program} {w:World} {K:PF} {mg:Str->Option Value} {base:Heap}
theorem Fun.binds{x qual:Str}{st:Stmt}{f:Addr}{fd:FuncData}{ps:List Str}(F:Fun K x qual st f fd)
  (h:∀(kV doc pm:Value)(an:Option Addr)(cdv ct:Value)(us:List Value),us.length=ps.length->bindArgs (PySem.W.fnOf x qual (jm st) (aY st) (aD st) .none kV doc pm an cdv ct) ⟨us,[]⟩=pure (ps.zip us)):Binds K fd ps []:=by
 obtain ⟨oc,od,kV,doc,pm,an,cdv,ct,osl,rfl,lk,hcd⟩:=F.ex;exact .all (h kV doc pm an cdv ct)
theorem Qw{x qual:Str}{st:Stmt}{f:Addr}{oc:Value}{od an:Option Addr}{osl:Array (Option Value)}{kV doc pm cdv ct:Value}(l:K.lookup f=some ⟨oc,od,.func (PySem.W.fnOf x qual (jm st) (aY st) (aD st) .none kV doc pm an cdv ct),osl⟩)
  (c:PySem.W.codeIn K cdv qual=true) (k:PySem.W.keepIn K (.ref f)=true):Fun K x qual st f (PySem.W.fnOf x qual (jm st) (aY st) (aD st) .none kV doc pm an cdv ct):=⟨⟨oc,od,kV,doc,pm,an,cdv,ct,osl,rfl,l,c⟩,k⟩
end
end L2
set_option maxHeartbeats 4000000
namespace L2
open PySem PySem.Spec PyProof.Rows
section
variable {X:Cx} {pins:List (Addr×Obj)} {σ:St} {H:Hp} {s:Shared} {h':Heap}
theorem Inv.turnedL{t':Nat}{ch:List Addr}(I:Inv X pins σ H s)(hf:∀b∈ch,dj X pins H b)(k:∀b o,b∉ch->s.heap.get? b=some o->h'.get? b=some o):
  Inv X pins σ H { s with heap:=h',toks:=t' }:=by
 have nit:∀b u,H b=some u->b∉ch:=λb u e z=>by
  have q:=(hf b z).1;rw[q]at e;cases e
 refine I.step (g':=s.gens) (d':=s.drawn) (ch:=ch) (λb hb=>?_) (λb o _ _ hc e _=>k b o hc e) (λb o _ _ hc e _=>⟨o.slots,k b o hc e⟩) (λ_ _ _ _ n=>n)
  (λb o hc e=>⟨o,k b o hc e⟩) (λ_ _ e=>e) (λ_ _ _ e=>e) (λb ps e=>⟨#[],by rw[e];simp⟩) (λm hm=>?_) (λb u e=>?_) I.bare
 ·obtain ⟨_,f1,_,f3,f4,f5⟩:=hf b hb;exact ⟨f3,f1,f4,f5⟩
 ·obtain ⟨o,es,ep,ho,r⟩:=hm;exact ⟨o,es,ep,k _ o (λz=>(hf _ z).2.1 rfl) ho,r⟩
 ·refine (I.hok b u e).stay (λc v hc q=>k c v ?_ q) (λ_ q=>q) λ_ _ q=>q;rcases hc with z |z
  ·rw[z];exact nit b u e
  ·exact nit c _ z
theorem Inv.track{T:Addr}{o:HO}(I:Inv X pins σ H s)(hT:dj X pins H T)(new:ObjOk X.prog X.w (upd H T o) s.heap T o):Inv X pins σ (upd H T o) s:=by
 have hn:=hT.1;have hok:HOk X.prog X.w (upd H T o) s.heap:=λb u e=>by
  by_cases hb:b=T
  ·subst hb;rw[cg]at e;cases e;exact new
  ·rw[aB hb]at e;exact (I.hok b u e).stay (λc v _ q=>q) (λc q=>by rw[aB (aV q hn)];exact q) λc xs q=>by rw[aB (aV q hn)];exact q
 obtain ⟨hp,g,d,tk,os⟩:=s;refine I.step (h':=hp) (g':=g) (d':=d) (t':=tk) (ch:=[T]) (λb hb=>?_) (λb o _ _ _ e _=>e) (λb o _ _ _ e _=>⟨o.slots,e⟩) (λb u hc _ n=>?_)
  (λb o _ e=>⟨o,e⟩) (λb xs e=>by rw[aB (aV e hn)];exact e) (λb u v e=>by rw[aB (aV e hn)];exact e) (λb ps e=>⟨#[],by rw[aB (aV e hn),e];simp⟩) (λm hm=>hm) hok I.bare
 ·have e:b=T:=by simpa using hb
  subst e;obtain ⟨_,f1,_,f3,f4,f5⟩:=hT;exact ⟨f3,f1,f4,f5⟩
 ·rw[aB (by simpa using hc)];exact n
end
def Its(x:Str):It:=⟨λi _=>i < x.cps.size,λi H v H'=>H'=H/\∃c,x.cps[i]?=some c/\v=.str ⟨#[c]⟩,λi _=>i=x.cps.size⟩
theorem wX{prog:Program}{w:World}{A:Around}(hh:A.handled=none)(I:Addr)(x:Str)(t:Tok):
  Walks prog w A I [I] [I] x.cps.size (SignAt x) (λi h=>h.IsStrIter I (strIterType x) x t i):=by
 unfold strIterType;split
 ·exact Walks.strAscii hh I x t
 ·exact Walks.strWide hh I x t
theorem qM{P:Program}{w:World}{K:PF}{tg:Expr}(it:Addr)(x:Str)(t:Tok):Turn P w K tg (Its x) [it] it (λi h=>h.IsStrIter it (strIterType x) x t i) where
 mem:=by simp
 obj:=λi h st b hb=>by
  have e:b=it:=by simpa using hb
  subst e;obtain ⟨o,e,c,d⟩:=st;exact ⟨o,e,λv z=>by rw[d]at z;cases z⟩
 keep:=λi h h' st k=>let ⟨o,ho,r⟩:=st;⟨o,k it (by simp) o ho,r⟩
 item:=by intro X hP hw hK hc i pins s σ H E I hf st hg;subst hP hw hK;obtain ⟨f0,f1,f2,f3,f4,f5⟩:=hf it (by simp);have W:=wX (prog:=X.prog) (w:=X.w) (I.ok.hd hc) it x t;refine W.item i s _ _ hg st λv h' tk hv st' kk=>?_;obtain ⟨c,u,e,rfl⟩:=hv;have I1:Inv X pins σ H { s with heap:=h',toks:=tk }:=I.turned (λb o hb e=>kk b o (by simpa using hb) e) f0 f1 f3 f4 f5;obtain ⟨o,eo,cc,d⟩:=id st';exact ⟨_,rfl,lV (s:={ s with heap:=h',toks:=tk }) (n:=strIterType x) eo cc d (by unfold strIterType;split <;> decide) ⟨.str ⟨#[c]⟩,H,I1,⟨u,rfl⟩,⟨rfl,c,e,rfl⟩,st',λb hb=>(hf b hb).1⟩⟩
 done:=by intro X hP hw hK hc i pins s σ H E I hf st hg;subst hP hw hK;obtain ⟨f0,f1,f2,f3,f4,f5⟩:=hf it (by simp);have W:=wX (prog:=X.prog) (w:=X.w) (I.ok.hd hc) it x t;have hg':i=x.cps.size:=hg;subst hg';exact W.done s _ _ st λh' tk kk=>⟨rfl,I.turned (λb o hb e=>kk b o (by simpa using hb) e) f0 f1 f3 f4 f5⟩
 self:=λA i s Q E st h=>by
  unfold strIterType at st;split at st
  ·exact wpAny_pyIter_striter_ascii st h
  ·exact wpAny_pyIter_striter_wide st h
noncomputable def cj(env:Env):List (Str×NameKind)->List (Str×Addr)->List (Str×Addr)
 |[],cs=>cs
 | (n,k)::r,cs=>cj env r (if (k==.free)=true then (match env.cells.lookup n with |some c=>(n,c)::cs |none=>cs) else cs)
theorem wY{env:Env}:∀{l:List (Str×NameKind)}{cs:List (Str×Addr)},(∀x c,cs.lookup x=some c->env.cells.lookup x=some c)->∀x c,(cj env l cs).lookup x=some c->env.cells.lookup x=some c
 |[],_,h,x,c,e=>h x c e
 | (n,k)::r,cs,h,x,c,e=>by
  refine wY (l:=r) (cs:=_) ?_ x c e;intro y d q;by_cases hk:(k==NameKind.free)=true
  ·rw[if_pos hk]at q;cases hn:env.cells.lookup n with
   |none=>rw[hn]at q;exact h y d q
   |some c'=>
    rw[hn]at q;simp only[List.lookup_cons]at q;cases hy:y==n with
    |true=>
     rw[hy]at q;have e1:y=n:=eq_of_beq hy;rw[e1,hn];exact q
    |false=>rw[hy]at q;exact h y d q
  ·rw[if_neg hk]at q;exact h y d q
theorem wZ{env:Env}{x:Str}:∀{l:List (Str×NameKind)}{cs:List (Str×Addr)},(cs.lookup x).isSome=true->((cj env l cs).lookup x).isSome=true
 |[],_,h=>h
 | (n,k)::r,cs,h=>by
  refine wZ (l:=r) (cs:=_) ?_;by_cases hk:(k==NameKind.free)=true
  ·rw[if_pos hk];cases hn:env.cells.lookup n with
   |none=>exact h
   |some c'=>
    simp only[List.lookup_cons];cases hy:x==n with
    |true=>rfl
    |false=>exact h
  ·rw[if_neg hk];exact h
theorem w5{env:Env}{x:Str}(hx:(env.cells.lookup x).isSome=true):∀{l:List (Str×NameKind)}{cs:List (Str×Addr)},(x,NameKind.free)∈l->((cj env l cs).lookup x).isSome=true
 | (n,k)::r,cs,h=>by
  rcases bb.mp h with e |h
  ·cases e;refine wZ (l:=r) (cs:=_) ?_;rw[if_pos (show (NameKind.free==NameKind.free)=true by decide)];obtain ⟨c,hc⟩:=c8.mp hx;rw[hc];simp
  ·exact w5 hx (l:=r) h
theorem xf{scope:Scope}{env:Env}(h:∀y∈scope.names,y.2=NameKind.free->(env.cells.lookup y.1).isSome=true):closureFor scope env=pure (cj env scope.names []):=by
 simp only[closureFor];generalize ([]:List (Str×Addr))=cs;generalize scope.names=l at h;induction l generalizing cs with
 |nil=>rfl
 |cons y r ih=>
  obtain ⟨n,k⟩:=y;have ih':=λcs=>ih cs λy hy=>h y (bo _ hy);rw[List.forIn_cons];by_cases hk:(k==NameKind.free)=true
  ·have hk':k=NameKind.free:=eq_of_beq hk;obtain ⟨c,hc⟩:=c8.mp (h (n,k) aT hk');have e1:cj env ((n,k)::r) cs=cj env r ((n,c)::cs):=by
    rw[cj,if_pos hk];show cj env r (match env.cells.lookup n with |some c=>(n,c)::cs |none=>cs)=_;have hc':env.cells.lookup n=some c:=hc;rw[hc']
   have e2:cellOf env n=pure c:=by unfold cellOf;have hc':env.cells.lookup n=some c:=hc;rw[hc']
   rw[e1,<-ih' ((n,c)::cs)];simp only[hk,if_true,e2];rfl
  ·have e1:cj env ((n,k)::r) cs=cj env r cs:=by rw[cj,if_neg hk]
   rw[e1,<-ih' cs];simp only[hk,if_false];rfl
theorem qN{env:Env}{x:Str}:∀{names:List (Str×NameKind)},
  (names.map λ(n,k)=>if (k==NameKind.free&&env.scope.kind==.function&&env.kindOf n==some .cell) then (n,NameKind.cell) else (n,k)).lookup x=
   (names.lookup x).map λk=>if (k==NameKind.free&&env.scope.kind==.function&&env.kindOf x==some .cell)=true then NameKind.cell else k
 |[]=>rfl
 | (n,k)::r=>by
  have ih:=@qN env x r;rw[dy];have hh:∀(c:Prop)[Decidable c],(if c then (n,NameKind.cell) else (n,k))=(n,if c then NameKind.cell else k):=λc _=>by split <;> rfl
  show List.lookup x ((if (k==NameKind.free&&env.scope.kind==.function&&env.kindOf n==some .cell)=true then (n,NameKind.cell) else (n,k))::_)=_;rw[hh];simp only[List.lookup_cons];cases hx:x==n with
  |true=>
   have e1:x=n:=eq_of_beq hx;subst e1;rfl
  |false=>exact ih
abbrev Cx.comp(X:Cx)(N':List Str)(scope:Scope)(cl:List (Str×Addr))(C:Addr)(s₁:Shared)(H₁:Hp)(fp:List Addr)(pn:List (Addr×Obj)):Cx where
 prog:=X.prog
 w:=X.w
 K:=X.K
 mg:=X.mg
 base:=X.base
 A:=X.A
 N:=N'
 s₀:=s₁
 H₀:=H₁
 env:=compEnvC scope cl C X.env
 outer:=X.stack
 stack:=X.stack
 ex:=fp
 fn:=λ_=>false
 calm:=X.calm
 pn:=pn
 xe:=λ_ _=>False
def PIf(X:Cx)(ifs:List Expr)(t:TT):Prop:=
 ∀(pins:List (Addr×Obj))(s:Shared)(σ:St)(H:Hp)(Q:Bool->Hp->Prop),Inv X pins σ H s->t σ H Q->
  wpAny (model X.prog X.w) X.A (forIn ifs true λc r=>if r=true then do let ok <-isTrue c X.env (eval c X.env);pure (ForInStep.yield ok) else pure (ForInStep.yield r)) (TP X pins σ Q) X.xe s
def Qx:TT:=λ_ H Q=>Q true H
theorem Qy{X:Cx}:PIf X [] Qx:=λ_ _ _ H _ I h=>wpAny_tests_nil ⟨H,I,h⟩
theorem Qz{X:Cx}{c:Expr}{t:TT}(h:PT X c t):PIf X [c] t:=λpins s σ H Q I q=>wpAny_tests_one (h pins s σ H Q I q)
def cV(cap:List (Option Nat))(σ:St):St:=cap.map λo=>match o with |none=>none |some j=>(σ[j]?).join
noncomputable def Caps(X:Cx)(scope:Scope):List Str->List (Option Nat)->Prop
 |[],[]=>True
 |_::N',none::cap=>Caps X scope N' cap
 |x::N',some j::cap=>(X.N[j]?=some x/\scope.names.lookup x=some NameKind.free)/\Caps X scope N' cap
 |_,_=>False
theorem Caps.len{X:Cx}{scope:Scope}:∀{N':List Str}{cap:List (Option Nat)},Caps X scope N' cap->cap.length=N'.length
 |[],[],_=>rfl
 |_::N',none::cap,h=>by
  have:=Caps.len (N':=N') (cap:=cap) h;simp[this]
 |_::N',some _::cap,h=>by
  have:=Caps.len (N':=N') (cap:=cap) h.2;simp[this]
 |[],_::_,h=>False.elim h
 |_::_,[],h=>False.elim h
theorem Caps.at{X:Cx}{scope:Scope}:∀{N':List Str}{cap:List (Option Nat)}{i:Nat}{x:Str}{v:V}{σ:St},Caps X scope N' cap->N'[i]?=some x->(cV cap σ)[i]?=some (some v)->
  ∃j:Nat,X.N[j]?=some x/\scope.names.lookup x=some NameKind.free/\σ[j]?=some (some v)
 |[],[],i,x,v,σ,_,e,_=>by simp at e
 |y::N',none::cap,0,x,v,σ,h,e,q=>by simp[cV]at q
 |y::N',some j::cap,0,x,v,σ,h,e,q=>by
  have e1:y=x:=by simpa using e
  subst e1;have q1:(σ[j]?).join=some v:=by simpa [cV] using q
  refine ⟨j,h.1.1,h.1.2,?_⟩;cases z:σ[j]? with
  |none=>rw[z]at q1;cases q1
  |some o=>rw[z]at q1;exact d6 some q1
 |y::N',none::cap,i+1,x,v,σ,h,e,q=>Caps.at (N':=N') (cap:=cap) (i:=i) h (by simpa using e) (by simpa [cV] using q)
 |y::N',some _::cap,i+1,x,v,σ,h,e,q=>Caps.at (N':=N') (cap:=cap) (i:=i) h.2 (by simpa using e) (by simpa [cV] using q)
 |[],_::_,_,_,_,_,h,_,_=>False.elim h
 |_::_,[],_,_,_,_,h,_,_=>False.elim h
abbrev tx(l:List Nat):Str:=⟨l.toArray⟩
theorem bQ(l:List Nat):(tx l).length=l.length:=by simp[Str.length]
theorem qO(a b:List Nat):tx a++tx b=tx (a++b):=by show (⟨a.toArray++b.toArray⟩:Str)=⟨(a++b).toArray⟩;simp
theorem xg{a b:List Nat}(h:tx a=tx b):a=b:=by have:=d6 (λx:Str=>x.cps.toList) h;simpa using this
theorem qP(x:Str):x=tx x.cps.toList:=by cases x;simp
section
variable {X:Cx}
theorem xj:∀{ys:List Str}{us:List Value},Vals (ys.map V.str) us->StrsAre us ys
 |[],us,r=>by
  rw[gL]at r;cases r;exact .nil
 |y::ys,us,r=>by
  rw[dy]at r;cases r with
  |cons r1 r2=>
   obtain ⟨t,e⟩:=r1;subst e;exact .cons y t (xj r2)
noncomputable def rJoin(K:PF):V->List V->Hp->VK->Prop:=λx vs H Q=>∃z p ys,x=.str z/\vs=[.ref p]/\SqL K H p (ys.map V.str)/\(ys.map (·.length)).sum+ys.length * z.length<=16777216/\Q (.str (Str.join z ys)) H
theorem QB:MtR X "str.join" (rJoin X.K):=by intro pins s σ H x xs v us Q I rx rs h;obtain ⟨z,p,ys,rfl,rfl,hq,hb,q⟩:=h;obtain ⟨t,rfl⟩:=rx;obtain ⟨u,rfl,ru⟩:=vals1 rs;cases ru;obtain ⟨its,rv,pl,hz⟩:=I.list hq;refine join_list pl.isList (by simpa using xj rv) hb λt' k=>⟨.str _,H,I.tok _,⟨_,rfl⟩,?_⟩;have e:Txt.join z ys=Str.join z ys:=StrLaws.glued_eq_join z ys;rw[e];exact q
noncomputable def QC(K:PF):List V->Hp->VK->Prop:=λxs H Q=>∃x n t b,xs=[x,.ty n]/\TyOf K H x t/\PySem.W.kitOne K t (.type n)=some b/\Q (.bl b) H
theorem QD:bD X (.builtin "isinstance") (QC X.K):=by intro pins s σ H xs us Q I r h;obtain ⟨x,n,t,b,rfl,ty,e,q⟩:=h;obtain ⟨u,w',rfl,rx,ry⟩:=vals2 r;cases ry;exact Oz I rx ty e λtk=>⟨.bl b,H,I.tok _,rfl,q⟩
theorem QF:bootBuiltins "bool"=some (.type "bool"):=by ac_rfl
theorem xm:bootBuiltins "int"=some (.type "int"):=by ac_rfl
theorem xq:bootBuiltins "str"=some (.type "str"):=by ac_rfl
theorem xr:bootBuiltins "list"=some (.type "list"):=by ac_rfl
theorem QG:bootBuiltins "isinstance"=some (.builtin "isinstance"):=by ac_rfl
theorem QH {x:Str} {T:String} {pos:Pos} (hg:Gl X x) (hm:X.mg x=none) (hv:bootBuiltins x=some (.type T)) (hn:x≠"__name__":=by decide) (hd:(x==("__debug__":Str))=false:=by decide):PE X (.Name x pos) (tC (.ty T)):=
 Ms hg hm hv (v:=.ty T) rfl hn hd
theorem QJ:OpR X (binaryOp .Mult) (λx y H Q=>∃i n,x=.str i/\y=.int n/\MulOk i n/\Q (.str (Txt.mul i n)) H):=by intro pins s σ H x y v u Q I rx ry h;obtain ⟨i,n,rfl,rfl,hok,q⟩:=h;obtain ⟨t,rfl⟩:=rx;obtain ⟨t',rfl⟩:=ry;exact SB.mul hok λt' k=>⟨.str _,H,I.tok _,⟨_,rfl⟩,q⟩
end
open Builtin Builtin.Str
theorem QK{prog:Program}{w:World}{A:Around}(hh:A.handled=none)(it:Addr)(x:Str)(t:Tok):
  Draws prog w A it [it] x.cps.size (λi v=>∃c u,x.cps[i]?=some c/\v=.str ⟨#[c]⟩ u) (λi h=>h.IsStrIter it (strIterType x) x t i):=by
 unfold strIterType;split
 ·exact Draws.strAscii hh it x t
 ·exact Draws.strWide hh it x t
structure ZApart(z TI TO i1 i2:Addr):Prop where
 TIz:TI≠z
 TOz:TO≠z
 i1z:i1≠z
 i2z:i2≠z
 TITO:TI≠TO
 TIi1:TI≠i1
 TIi2:TI≠i2
 TOi1:TO≠i1
 TOi2:TO≠i2
 i12:i1≠i2
section
variable {X:Cx}
theorem xu:∀{bs:List Bool}{us:List Value}{i:Nat}{v:Value},Vals (bs.map V.bl) us->us[i]?=some v->∃b,bs[i]?=some b/\v=.bool b
 |[],us,i,v,r,e=>by
  rw[gL]at r;cases r;simp at e
 |b::bs,us,i,v,r,e=>by
  rw[dy]at r;cases r with
  |cons r1 r2=>
   cases i with
   |zero=>
    cases (show _=Value.bool b from r1);exact ⟨b,rfl,by simpa using e.symm⟩
   |succ i=>exact xu (i:=i) r2 (by simpa using e)
theorem QL:bootBuiltins "all"=some (.builtin "all"):=by ac_rfl
theorem QM:bootBuiltins "zip"=some (.type "zip"):=by ac_rfl
theorem all_range(bs:List Bool)(n:Nat)(hn:n=bs.length):((List.range n).all λi=>(bs[i]?).getD true)=bs.all id:=by
 subst hn;rw[gu,ci,ci];constructor
 ·intro h b hb;obtain ⟨i,hi,e⟩:=List.mem_iff_getElem.mp hb;have:=h i (List.mem_range.mpr hi);rw[a9 hi,e]at this;simpa using this
 ·intro h i hi;have hi':=List.mem_range.mp hi;rw[a9 hi'];simpa using h _ (List.getElem_mem hi')
theorem QQ (hc:X.calm=true):bD X (.builtin "all") (λxs H Q=>∃(p:Addr) (bs:List Bool),xs=[.ref p]/\SqL X.K H p (bs.map V.bl)/\Q (.bl (bs.all id)) H):=by
 intro pins s σ H xs us Q I r h;obtain ⟨p,bs,rfl,hq,q⟩:=h;obtain ⟨u,rfl,ru⟩:=vals1 r;cases ru;obtain ⟨its,rv,pl,hz⟩:=I.list hq;have hl:=pl.isList;have hlt:p < s.heap.objs.size:=by obtain ⟨_,e,_⟩:=hl;exact ay e
 refine call_all_walk (wpAny_pyIter_list hl ?_);refine ⟨s.heap.objs.size,[s.heap.objs.size,p],[s.heap.objs.size],its.toArray.size,_,_,λi=>(bs[i]?).getD true,rfl,Walks.list (A:=X.A.in1) (I.ok.hd hc) _ p (b6 hlt) its.toArray,
  ⟨⟨_,aI _ rfl,rfl,rfl⟩,hl.push _⟩,λi v s' Q' E' hP hQ=>?_,λh' tk hk=>?_⟩
 ·obtain ⟨b,e,rfl⟩:=xu rv (i:=i) (v:=v) (by simpa using hP);simp only[e,Option.getD_some]at hQ;exact fv hQ
 ·have e:=all_range bs its.toArray.size (by rw[aw,<-rv.length,ax]);rw[e];exact ⟨.bl _,H,I.kept (λb o q=>hk b o (λhm=>by rw[a8.mp hm]at q;exact dL _ (ay q)) (ah _ q)),rfl,q⟩
theorem QR:OpR X (compareOp .Is) (λx y H Q=>∃i j,x=.bl i/\y=.bl j/\Q (.bl (i==j)) H):=by intro pins s σ H x y v u Q I rx ry h;obtain ⟨i,j,rfl,rfl,q⟩:=h;cases rx;cases ry;exact is_bool ⟨.bl _,H,I,rfl,q⟩
theorem QS:bD X (.type "int") (λxs H Q=>∃z n,xs=[.str z]/\PySem.intText? z=some n/\z.length<=640/\Q (.int n) H):=by intro pins s σ H xs us Q I r h;obtain ⟨z,n,rfl,hn,hl,q⟩:=h;obtain ⟨u,rfl,t,rfl⟩:=vals1 r;exact PySem.W.KIN.call_text hn hl ⟨.int n,H,I.tok _,⟨_,rfl⟩,q⟩
noncomputable def QT:V->Option Int->Option Int->Hp->VK->Prop:=λx lo hi H Q=>∃z,x=.str z/\z.length<=sizeLine/\Q (.str (Txt.slice z lo hi)) H
theorem QV:SlR X QT:=by
 intro pins s σ H x v vl vu lo hi sl Q I rx hs pl pu h;obtain ⟨z,rfl,hz,q⟩:=h;obtain ⟨t,rfl⟩:=rx;refine ⟨"str",_,slot_str_getitem.lookup,typeIs_str _ _ _,?_⟩;obtain ⟨l,el,e1⟩:∃l:Option (Int×Tok),vl=partValue l/\l.map (·.1)=lo:=by
  cases pl with
  |none=>exact ⟨none,rfl,rfl⟩
  |int i t=>exact ⟨some (i,t),rfl,rfl⟩
 obtain ⟨u,eu,e2⟩:∃u:Option (Int×Tok),vu=partValue u/\u.map (·.1)=hi:=by
  cases pu with
  |none=>exact ⟨none,rfl,rfl⟩
  |int i t=>exact ⟨some (i,t),rfl,rfl⟩
 subst el eu e1 e2;refine wpAny_getItem_str_slice (l:=l) (u:=u) (st:=none) hs rfl ?_;unfold sliceMade;unfold Txt.slice at q;show (if ((1:Int)==1&&(slicePicked z l u none).length==z.length)=true then Made.val (.str z t) else Made.str ⟨((slicePicked z l u none).filterMap (z.cps[·]?)).toArray⟩).post _ _;have ep:slicePicked z l u none=Builtin.Str.strSliceIndices (l.map (·.1)) (u.map (·.1)) 1 z.length:=rfl;rw[ep];by_cases hc:((1:Int)==1&&(Builtin.Str.strSliceIndices (l.map (·.1)) (u.map (·.1)) 1 z.length).length==z.length)=true
 ·rw[if_pos hc]at q ⊢;exact ⟨.str z,H,I,⟨t,rfl⟩,q⟩
 ·rw[if_neg hc]at q ⊢;refine ⟨?_,⟨.str _,H,I.tok _,⟨_,rfl⟩,q⟩⟩;show (List.filterMap _ _).toArray.size<=sizeLine;rw[aw];have h1:=sliceIndices_le (l.map (·.1)) (u.map (·.1)) z.length;have h2:=List.length_filterMap_le (λx=>z.cps[x]?) (Builtin.Str.strSliceIndices (l.map (·.1)) (u.map (·.1)) 1 z.length);omega
end
section
variable {X:Cx}
theorem QW:OpR X (compareOp .IsNot) (λx y H Q=>∃i j,x=.bl i/\y=.bl j/\Q (.bl (i != j)) H):=by intro pins s σ H x y v u Q I rx ry h;obtain ⟨i,j,rfl,rfl,q⟩:=h;cases rx;cases ry;exact isnot_bool ⟨.bl _,H,I,rfl,q⟩
end
def noStar:Expr->Bool
 |.Starred ..=>false
 |_=>true
theorem bI(e:Expr)(es:List Expr)(env:Env)(h:noStar e=true):starEach (e::es) env=(false,eval e env)::starEach es env:=by cases e <;> first |rfl |cases h
variable {X:Cx} {e st:Expr} {te ts:TE} {p2 pos:Pos}
theorem ObjOk.at{P:Program}{w:World}{H:Hp}{h:Heap}{a:Addr}{o:HO}(x:ObjOk P w H h a o):∃u,h.get? a=some u:=by
 cases o with
 |lst xs=>obtain ⟨_,_,_,_,e⟩:=x;exact ⟨_,e⟩
 |tup xs=>obtain ⟨_,_,_,o,e,_⟩:=x;exact ⟨_,e⟩
 |dK kvs=>obtain ⟨_,_,_,_,o,_,_,e,_⟩:=x;exact ⟨_,e⟩
 |dT kvs=>obtain ⟨_,_,_,_,o,_,_,e,_⟩:=x;exact ⟨_,e⟩
 |set S n=>obtain ⟨o,_,_,_,e,_⟩:=x;exact ⟨_,e⟩
 |ins C dx fs=>obtain ⟨_,_,_,e,_⟩:=x;exact ⟨_,e⟩
 |own y=>exact x
 |xd fs=>obtain ⟨_,⟨_,_,_,e,_⟩,_⟩:=x;exact ⟨_,e⟩
 |rng lo hi=>obtain ⟨_,_,_,e⟩:=x;exact ⟨_,e⟩
 |frz ob u=>obtain ⟨e,_⟩:=x;exact ⟨_,e⟩
 |tbl ps=>exact ⟨_,(show h.get? a=some _ from x)⟩
 |met f y=>exact ⟨_,(show h.get? a=some _ from x)⟩
 |ext φ=>obtain ⟨_,e,_⟩:=x;exact e
theorem HOk.gone{P:Program}{w:World}{H:Hp}{h:Heap}{a:Addr}(x:HOk P w H h)(e:h.get? a=none):H a=none:=by
 cases q:H a with
 |none=>rfl
 |some u=>obtain ⟨o,ho⟩:=(x a u q).at;rw[ho]at e;cases e
def Tr(h0:Heap)(H:Hp)(h:Heap)(a:Addr)(c:Value):Prop:=
 ∃oe vs T oT ts,h.get? a=some oe/\oe.cls=c/\oe.data=.fields vs/\vs[1]?=some (.ref T)/\T≠a/\h.get? T=some oT/\oT.data=.fields ts/\ts[3]?=some .none/\
  h0.get? a=none/\h0.get? T=none/\H a=none/\H T=none
def CX1(P:Program)(w:World):CXT:=λouter H s E e s'=>
 ∃(a:Addr)(c:Value)(H':Hp),e=.ref a/\s'.os=s.os/\AllBare s'.gens/\Un (frs outer) [] H H' s.heap s'.heap/\HOk P w H' s'.heap/\Tr s.heap H' s'.heap a c/\E c none H'
section
variable {X:Cx} {pins:List (Addr×Obj)} {σ:St} {H:Hp} {s:Shared}
theorem xF{P:Program}{w:World}(Y:Cx):gw (CX1 P w) Y λ_ _ _=>False:=λ_ _ _ _ _ _ _ h=>by
 obtain ⟨_,_,_,_,_,_,_,_,_,q⟩:=h;exact q.elim
end
abbrev veM:List Value:=[.type "ValueError",.type "Exception",.type "BaseException",.type "object"]
noncomputable def qQ:List Value->Bool
 |[.type a,.type b,.type c,.type d]=>a=="ValueError"&&b=="Exception"&&c=="BaseException"&&d=="object"
 |_=>false
theorem QX{l:List Value}(h:qQ l=true):l=veM:=by
 unfold qQ at h;split at h
 ·simp only[af,aE]at h;obtain ⟨⟨⟨rfl,rfl⟩,rfl⟩,rfl⟩:=h;rfl
 ·cases h
def lY:Value->Bool
 |.str _ _=>true
 |_=>false
noncomputable def nsB(K:PF)(N:Addr):Bool:=match K.lookup N with
 |some ⟨_,_,.dict es _,_⟩=>es.toList.all (λe=>lY e.key)&&quietNames.all λn=>(nsFind es n).isNone
 |_=>false
theorem xG{K:PF}{N:Addr}{h:Heap}(KX:K.In h)(b:nsB K N=true):∃m,h.Ns N m/\∀n∈quietNames,m n=none:=by
 unfold nsB at b;split at b
 ·rename_i c d es ep sl e;rw[af,ci,ci]at b;refine ⟨nsFind es,⟨_,es,ep,KX _ _ e,rfl,λx hx=>?_,λ_=>rfl⟩,λn hn=>by simpa using b.2 n hn⟩;have:=b.1 x (Array.mem_toList_iff.mpr hx);unfold lY at this;split at this
  ·rename_i y t e;exact ⟨_,_,e⟩
  ·cases this
 ·cases b
noncomputable def xH(K:PF)(A:Addr):Bool:=match K.lookup A with
 |some ⟨_,_,.cls cd,_⟩=>nsB K cd.ns
 |_=>false
noncomputable def jn(K:PF):List Value->Bool
 |[]=>false
 |v::tl=>(match v with |.ref A=>xH K A&&jn K tl |_=>qQ (v::tl))
theorem qR{K:PF}{h:Heap}(KX:K.In h):∀{l:List Value},jn K l=true->OwnTailQ h veM l
 |[],b=>by cases b
 |v::tl,b=>by
  unfold jn at b;split at b
  ·rename_i A;rw[af]at b;have b1:=b.1;unfold xH at b1;split at b1
   ·rename_i c d cd sl e;obtain ⟨m,hm,hq⟩:=xG KX b1;exact .own (KX _ _ e) hm hq (qR KX b.2)
   ·cases b1
  ·rw[QX b];exact .base
def isRef(C:Addr):Value->Bool
 |.ref a=>a==C
 |_=>false
def isNew:Option Value->Bool
 |some (.builtin s)=>s=="ValueError.__new__"
 |_=>false
def jo:Value->Bool
 |.type s=>s=="type"
 |_=>false
noncomputable def eN(K:PF)(C:Addr):Bool:=match K.lookup C with
 |some ⟨ty,_,.cls cd,⟨[_,_,_,_,k,_]⟩⟩=>jo ty&&isNew k&&nsB K cd.ns&&!cd.hasDel&&(match cd.mro with |v::tl=>isRef C v&&jn K tl |[]=>false)
 |_=>false
theorem QZ {K:PF} {C:Addr} {h:Heap} {mg:Str->Option Value} {x:Str} (KX:K.In h) (b:eN K C=true) (hm:mg x=some (.ref C)):OwnClsQ x C veM "ValueError.__new__" mg h:=by
 unfold eN at b;split at b
 ·rename_i ty dd cd k0 k1 k2 k3 k k5 e;simp only[af]at b;obtain ⟨⟨⟨⟨b1,b2⟩,b3⟩,b5⟩,b4⟩:=b;obtain ⟨m,hns,hq⟩:=xG KX b3;have e1:ty=.type "type":=by
   unfold jo at b1;split at b1
   ·rw[aE]at b1;rw[b1]
   ·cases b1
  have e2:k=some (.builtin "ValueError.__new__"):=by
   unfold isNew at b2;split at b2
   ·rw[aE]at b2;rw[b2]
   ·cases b2
  obtain ⟨nm,bs,mro,ns,q,hd,sn,sub,ab,col,del⟩:=cd;dsimp only at b4 hns b5;have e4:del=false:=by simpa using b5
  subst e4;split at b4
  ·rename_i v tl;rw[af]at b4;have e3:v=.ref C:=by
    have:=b4.1;unfold isRef at this;split at this
    ·rw[aE]at this;rw[this]
    ·cases this
   subst e1 e2 e3;exact ⟨hm,tl,ns,nm,q,bs,hd,sn,sub,ab,col,dd,k0,k1,k2,k3,k5,m,KX _ _ e,hns,hq,qR KX b4.2⟩
  ·cases b4
 ·cases b
theorem xJ{h h':Heap}(k:∀b o,h.get? b=some o->h'.get? b=some o){N:Addr}{m:Str->Option Value}(n:h.Ns N m):h'.Ns N m:=by obtain ⟨o,es,ep,e,r⟩:=n;exact ⟨o,es,ep,k _ _ e,r⟩
theorem Q0{h h':Heap}(k:∀b o,h.get? b=some o->h'.get? b=some o){bmB bm:List Value}(t:OwnTail h bmB bm):OwnTail h' bmB bm:=by
 induction t with
 |base=>exact .base
 |own e n i _ ih=>exact .own (k _ _ e) (xJ k n) i ih
section
variable {X:Cx}
theorem digits_le:∀n:Fin 100,(Str.ofString (toString (n.val:Int))).length<=3:=by ac_rfl
def Throws(X:Cx)(E:XK):Prop:=∀(pins:List (Addr×Obj))(σ:St)(H:Hp)(s:Shared)(h':Heap)(a:Addr)(c:Value)(args:List Value),Inv X pins σ H s->s.heap.MadeExcOf h' a c args->E c none H->X.xe (.ref a) { s with heap:=h' }
end
section
variable {X:Cx}
variable {pins:List (Addr×Obj)} {σ:St} {H:Hp} {s:Shared}
structure Caught(X:Cx)(H:Hp)(s:Shared)(H':Hp)(a:Addr)(c:Value)(s':Shared):Prop where
 os:s'.os=s.os
 bare:AllBare s'.gens
 un:Un (frs X.stack) [] H H' s.heap s'.heap
 hok:HOk X.prog X.w H' s'.heap
 tr:Tr s.heap H' s'.heap a c
variable {H':Hp} {a:Addr} {c:Value} {s':Shared}
end
open Builtin.ObjectAttr Builtin.Getset_descriptor
open PySem.W (findIn mroIn clsIn typeIn Looks InstAt looks_findIn looks_mroIn looks_typeIn)
noncomputable def ik(K:PF)(D:Addr):Bool:=
 findIn K (.ref D) "__class__"==some (some (.builtin "object.__class__"))&&findIn K (.ref D) "__getattribute__"==some (some (.builtin "BaseException.__getattribute__"))&&findIn K (.ref D) "__getattr__"==some none &&
  mroIn K D (.type "object")==some true&&mroIn K D (.type "BaseException")==some true&&(clsIn K D).isSome
structure Xin(K:PF)(D:Addr):Prop where
 c:findIn K (.ref D) "__class__"=some (some (.builtin "object.__class__"))
 ga:findIn K (.ref D) "__getattribute__"=some (some (.builtin "BaseException.__getattribute__"))
 g:findIn K (.ref D) "__getattr__"=some none
 o:mroIn K D (.type "object")=some true
 b:mroIn K D (.type "BaseException")=some true
 d:(clsIn K D).isSome=true
theorem Q3{K:PF}{D:Addr}(h:ik K D=true):Xin K D:=by unfold ik at h;simp only[af,aE]at h;obtain ⟨⟨⟨⟨⟨h1,h2⟩,h3⟩,h4⟩,h5⟩,h6⟩:=h;exact ⟨h1,h2,h3,h4,h5,h6⟩
section
variable {prog:Program} {w:World} {A:Around} {E:Value->Shared->Prop} {h:Heap} {g:Array GenState} {d:Drawn} {t:Nat} {os:OsState} {a:Addr} {o:Obj} {K:PF} {D:Addr}
theorem Q4{M:Model}{nameV:Value}{Q:Unit->Shared->Prop}(X:K.In h)(x:Xin K D)(hx:h.get? a=some o)(hc:o.cls=.ref D)(hq:Q () ⟨h,g,d,t,os⟩):
  wpAny M A (checkBuiltinCall "BaseException.__getattribute__" ⟨[.ref a,nameV],[]⟩) Q E ⟨h,g,d,t,os⟩:=by
 have hk:builtinKind "BaseException.__getattribute__"=some .slot:=by ac_rfl
 have hsplit:splitId "BaseException.__getattribute__"=some ("BaseException","__getattribute__"):=by ac_rfl
 have L1:=looks_mroIn (M:=M) X x.b;have ha:=F.args_bexc_ga (.ref a) nameV;simp only[checkBuiltinCall,hk,hsplit];refine ae ?_
 ·unfold isInstance;repeat (first | (with_reducible refine ij hx ?_;rw[hc]) |with_reducible refine L1.at ?_ |wp_step)
  exact hq
end
open PySem.W (findIn mroIn clsIn typeIn Looks looks_findIn looks_mroIn looks_typeIn)
section
variable {X:Cx}
def XO(H:Hp)(a c:Addr):Prop:=∃o y,H a=some (.frz o (.own y))/\o.cls=.ref c
def valOf:V->Value
 |.ref a=>.ref a
 |.ty n=>.type n
 |_=>.none
end
section
variable {X:Cx} {pins:List (Addr×Obj)} {σ:St} {H:Hp} {s:Shared}
theorem Inv.tell(I:Inv X pins σ H s){a:Addr}{o:Obj}{vs:Array Value}(h0:X.s₀.heap.get? a=none)(hH:H a=none)(ho:s.heap.get? a=some o)(hd:o.data=.fields vs)(hp:∀p∈X.pn++pins,p.1≠a):
  Inv X pins σ (upd H a (.frz o (.own a))) s:=by
 have nl:X.env.locals≠a:=by intro e;obtain ⟨m,⟨o',es,ep,e1,e2,_⟩,_⟩:=I.loc;rw[e,ho]at e1;cases e1;rw[hd]at e2;cases e2
 have nc:∀x c,X.env.cells.lookup x=some c->c≠a:=by intro x c hc e;obtain ⟨v,o',e1,e2⟩:=I.cell x c hc;rw[e,ho]at e1;cases e1;rw[hd]at e2;cases e2
 refine ⟨I.ok,I.os,I.bare,⟨I.base.keep,I.base.slot,λb u q n hx=>?_,I.base.there,λb xs q=>?_,λb u v q=>?_,λb ps q=>?_⟩,I.loc,I.cell,by rw[aB nl];exact I.free,λx c e=>by rw[aB (nc x c e)];exact I.freeC x c e,λp hpp=>?_,λb u q=>?_,I.len⟩
 ·rw[aB (λe=>by rw[e,h0]at q;cases q)];exact I.base.free b u q n hx
 ·have q':=I.base.tups b xs q;rw[aB (aV q' hH)];exact q'
 ·have q':=I.base.frzs b u v q;rw[aB (aV q' hH)];exact q'
 ·obtain ⟨m,q'⟩:=I.base.tbls b ps q;exact ⟨m,by rw[aB (aV q' hH)];exact q'⟩
 ·obtain ⟨p1,p2,p3⟩:=I.pin p hpp;exact ⟨p1,by rw[aB (hp p hpp)];exact p2,p3⟩
 ·by_cases hb:b=a
  ·subst hb;rw[cg]at q;cases q;exact ⟨ho,o,ho⟩
  ·rw[aB hb]at q;exact (I.hok b u q).stay (λ_ _ _ z=>z) (λc z=>by rw[aB (aV z hH)];exact z) λc xs z=>by rw[aB (aV z hH)];exact z
end
section
variable {X:Cx}
def XP(X:Cx)(pins:List (Addr×Obj))(ex:Value->St->Hp->Prop)(σ:St)(e:Value)(s1:Shared):Prop:=∃a c H1 s0 H',e=.ref a/\Inv X pins σ H1 s0/\Caught X H1 s0 H' a c s1/\ex c σ H'
noncomputable def xK (K:PF) (C:Addr):Bool:=typeIn K (.ref C)==some (.type "type")&&(clsIn K C).isSome&&mroIn K C (.type "BaseException")==some true
end
open PySem.SeqAt
section
variable {X:Cx}
theorem qT:∀{bs:List Bool}{us:List Value},Vals (bs.map V.bl) us->us=bs.map Value.bool
 |[],us,r=>by cases r;rfl
 |b::bs,us,r=>by
  cases r with
  |cons r1 r2=>
   have e:_=Value.bool b:=r1;rw[e,qT r2];rfl
theorem xM(k:Bool){bs:List Bool}:∀y,y∈(bs.map Value.bool)->∀(A:Around)(s:Shared),EqAt A s y (.bool k) (isBoolOf k y):=by intro y hy A s;obtain ⟨b,_,rfl⟩:=cy.mp hy;exact EqAt.bool_bool b k
theorem Q5(k:Bool)(bs:List Bool):(bs.map Value.bool).countP (isBoolOf k)=bs.count k:=by
 induction bs with
 |nil=>rfl
 |cons b bs ih=>
  rw[dy,List.countP_cons,ih,List.count_cons];rfl
noncomputable def Q6(K:PF):V->List V->Hp->VK->Prop:=λx vs H Q=>∃(p:Addr)(bs:List Bool),x=.ref p/\vs=[.bl true]/\SqL K H p (bs.map V.bl)/\Q (.int (bs.count true:Nat)) H
theorem Q7:MtR X "list.count" (Q6 X.K):=by intro pins s σ H x xs v us Q I rx rs h;obtain ⟨p,bs,rfl,rfl,hq,q⟩:=h;cases rx;obtain ⟨u,rfl,ru⟩:=vals1 rs;cases ru;obtain ⟨its,rv,⟨o,n,ho,hc,hd,hdd⟩,hz⟩:=I.list hq;obtain ⟨cls,dd,data,sl⟩:=o;simp only at hc hd hdd;subst hc hd hdd;have e:=qT rv;subst e;refine gV PySem.F.slot_list_count ⟨_,ho,rfl⟩ PySem.F.entry_list_count (PySem.F.args_list_count_2 _ _) (list_countAt p _ n _ sl (.bool true) (isBoolOf true)) ⟨ho,λy hy=>xM true y (by simpa using hy) _ _,?_⟩;refine ⟨.int _,H,I.tok _,⟨_,rfl⟩,?_⟩;rw[show ((bs.map Value.bool).toArray).toList=bs.map Value.bool from rfl,Q5];exact q
noncomputable def Q8(K:PF):V->List V->Hp->VK->Prop:=λx vs H Q=>∃(p:Addr)(bs:List Bool),x=.ref p/\vs=[.bl true]/\SqL K H p (bs.map V.bl)/\true∈bs/\Q (.int (bs.idxOf true:Nat)) H
theorem xN(bs:List Bool)(j:Nat)(h:j < (bs.map Value.bool).length)(h':j < bs.length):isBoolOf true (bs.map Value.bool)[j]=(bs[j]==true):=by rw[List.getElem_map];rfl
theorem Q9:MtR X "list.index" (Q8 X.K):=by
 intro pins s σ H x xs v us Q I rx rs h;obtain ⟨p,bs,rfl,rfl,hq,hin,q⟩:=h;cases rx;obtain ⟨u,rfl,ru⟩:=vals1 rs;cases ru;obtain ⟨its,rv,⟨o,n,ho,hc,hd,hdd⟩,hz⟩:=I.list hq;obtain ⟨cls,dd,data,sl⟩:=o;simp only at hc hd hdd;subst hc hd hdd;have e:=qT rv;subst e;have hj:bs.idxOf true < bs.length:=List.idxOf_lt_length_iff.mpr hin;have hz':bs.length<=sizeLine:=by rw[ax]at hz;exact hz
 have hs:sizeLine < 2 ^ 63 - 1:=by decide
 refine gV PySem.F.slot_list_index ⟨_,ho,rfl⟩ PySem.F.entry_list_index (PySem.F.args_list_index_2 _ _) (list_indexAt p _ n _ sl (.bool true) (isBoolOf true) (bs.idxOf true) (by simpa using hj) (by omega) ?_ ?_) ⟨ho,λy hy=>xM true y (by simpa using hy) _ _,?_⟩
 ·have h3:bs.idxOf true < (bs.map Value.bool).length:=by rw[ax];exact hj
  show isBoolOf true ((bs.map Value.bool)[bs.idxOf true]'h3)=true;rw[xN bs _ h3 hj];simpa using List.getElem_idxOf hj
 ·intro j hjs hlt;have h2:j < bs.length:=by omega
  have h3:j < (bs.map Value.bool).length:=by rw[ax];exact h2
  show isBoolOf true ((bs.map Value.bool)[j]'h3)=false;rw[xN bs j h3 h2];have h4:j < bs.findIdx (·==true):=hlt;simpa using List.not_of_lt_findIdx h4
 ·exact ⟨.int _,H,I.tok _,⟨_,rfl⟩,q⟩
end
section
variable {X:Cx}
theorem Ra:OpR X (binaryOp .FloorDiv) (rI (λ_ j=>0 < j/\j < 1152921504606846976) λi j=>.int (i / j)):=opI λi j _ _ _ _ _ hc q=>by
 have h1:(0:Int) < j:=hc.1;have h2:j < 1152921504606846976:=hc.2;refine floordiv_int (by omega) (by rw[Int.fdiv_eq_ediv_of_nonneg i (by omega)];exact q) (.inl (PyProof.noPylong_of_log2 ?_));have:j.natAbs.log2 < 60:=(Nat.log2_lt (by omega)).mpr (by show j.natAbs < 1152921504606846976;omega);omega
def qU(m:Nat):Str:=Str.ofString (toString (m:Int))
theorem Rb{m:Nat}(h:m < 100):(m:Int).natAbs.log2 < 1920:=by have:(m:Int).natAbs=m:=Int.natAbs_natCast m;rw[this];exact Nat.lt_of_le_of_lt (Nat.log2_le_self m) (by omega)
theorem Rc:bD X (.type "str") (λxs H Q=>∃m:Nat,xs=[.int m]/\m < 100/\Q (.str (qU m)) H):=by intro pins s σ H xs us Q I r h;obtain ⟨m,rfl,hm,q⟩:=h;obtain ⟨u,rfl,ru⟩:=vals1 r;obtain ⟨t,rfl⟩:=ru;exact PySem.P.str_of_int (Rb hm) ⟨.str _,H,I.tok _,⟨_,rfl⟩,q⟩
end
end L2
namespace HT
open PySem PySem.Spec PyProof.Rows Builtin
theorem Rf:fillsNumberSlot (.type "tuple") "mul"=pure false:=
 PySem.fillsNumberSlot_seq (id:="tuple.__mul__") (r:=some (.builtin "tuple.__rmul__")) PySem.F.slot_tuple_mul.lookup (by ac_rfl) PySem.F.slot_tuple_rmul.lookup (by ac_rfl)
theorem Rg:seqRepeat? (.type "tuple")=pure (some (.builtin "tuple.__mul__")):=by unfold seqRepeat?;rw[PySem.seqSlot_of (T:="tuple") (name:="__mul__") (id:="tuple.__mul__") PySem.F.slot_tuple_mul.lookup (by ac_rfl),PySem.seqSlot_of (T:="tuple") (name:="__rmul__") (id:="tuple.__rmul__") PySem.F.slot_tuple_rmul.lookup (by ac_rfl)];rfl
theorem Rh(a:Int)(t:Tok)(l:Addr)(items:Array Value)(n:Nat)(dd:Option Addr)(sl:Array (Option Value)):
  Meets (Builtin.«int.__rmul__» ⟨[.int a t,.ref l],[]⟩) (λ_ R s=>s.heap.get? l=some { cls:=.type "tuple",dict:=dd,data:=.seq items n,slots:=sl }/\R (.ok (.ret Value.notImplemented)) s):=
 .of_wp λprog w A R s h=>by obtain ⟨hp,g,d,tk,os⟩:=s;obtain ⟨hl,h⟩:=h;wp_walk;exact ⟨_,rfl,h⟩
theorem Ri(l:Addr)(items:Array Value)(n:Nat)(dd:Option Addr)(sl:Array (Option Value))(k:Int)(t:Tok)(h2:2<=k)(hk:k<=1000)(hne:items.isEmpty=false)(hz:items.size * k.toNat<=sizeLine)(hz2:(List.foldl (λx1 x2=>x1++x2) #[] (List.replicate k.toNat items)).size<=sizeLine):
  Meets (Builtin.«tuple.__mul__» ⟨[.ref l,.int k t],[]⟩) (λ_ R s=>s.heap.get? l=some { cls:=.type "tuple",dict:=dd,data:=.seq items n,slots:=sl }/\
   R (.ok (.ret (.ref s.heap.objs.size))) { s with heap:=s.heap.push { cls:=.type "tuple",data:=.seq ((List.replicate k.toNat items).foldl (· ++ ·) #[]) } }):=
 .of_wp λprog w A R s h=>by
  obtain ⟨hp,g,d,tk,os⟩:=s;obtain ⟨hl,h⟩:=h;have a1:(decide (k < -(2 ^ 63))||decide (k≥2 ^ 63))=false:=by rw[decide_eq_false (by omega),decide_eq_false (by omega)];rfl
  have a2:(items.isEmpty||k==1)=false:=by rw[hne,Bool.false_or,beq_eq_false_iff_ne];omega
  have a3:(decide (k<=0)||items.isEmpty)=false:=by rw[decide_eq_false (by omega),hne];rfl
  have hs:(items.size:Int) * k=((items.size * k.toNat:Nat):Int):=by rw[Int.natCast_mul,Int.toNat_of_nonneg (by omega)]
  have hsl:sizeLine<=1152921504606846975:=by decide
  have a4:¬((items.size:Int) * k > (2 ^ 63 - 1) / 8):=by rw[hs];omega
  have a5:¬(Tuple.tupleTooMany ((items.size:Int) * k)=true):=by unfold Tuple.tupleTooMany;rw[decide_eq_true_iff,hs];omega
  wp_walk
  rw[if_neg (by rw[a1];exact Bool.false_ne_true)];wp_walk
  rw[if_neg (by rw[a2];exact Bool.false_ne_true)];dsimp only;rw[if_neg (by rw[a3];exact Bool.false_ne_true),if_neg a4,if_neg a5];unfold Tuple.tupleExact;wp_walk
  exact ⟨_,rfl,h⟩
end HT
namespace L2
open PySem PySem.Spec PyProof.Rows
section
variable {X:Cx}
def Rj(K:PF):R2:=λx y H Q=>∃(l:Addr)(k:Int)(xs:List V),x=.ref l/\y=.int k/\SqT K H l xs/\xs≠[]/\2<=k/\k<=1000/\xs.length * k.toNat<=sizeLine/\∀p,H p=none->Q (.ref p) (upd H p (.tup (List.replicate k.toNat xs).flatten))
theorem Rk:OpR X (binaryOp .Mult) (Rj X.K):=by
 intro pins s σ H x y v u Q I rx ry h;obtain ⟨l,k,xs,rfl,rfl,hT,hne,h2,hk,hz,q⟩:=h;cases rx;obtain ⟨t,rfl⟩:=ry;obtain ⟨its,r,pt,_⟩:=I.tuple hT;obtain ⟨⟨cls,dd,data,sl⟩,ho,hc,n,hd⟩:=id pt;simp only at hc hd;subst hc hd;have hl:=r.length;have hz':its.toArray.size * k.toNat<=sizeLine:=by rw[aw,<-hl];exact hz
 have he:its.toArray.isEmpty=false:=by
  cases its with
  |nil=>exact absurd (cK.mp hl) hne
  |cons _ _=>rfl
 have hnew:List.foldl (λx1 x2=>x1++x2) #[] (List.replicate k.toNat its.toArray)=(List.replicate k.toNat its).flatten.toArray:=by have:=foldl_rep its k.toNat [];rw[List.nil_append]at this;exact this
 refine wpAny_binaryOp_repeat_ref (T:="tuple") (U:="int") (by decide) ⟨_,ho,rfl⟩ (λs'=>typeIs_int s' k t) HT.Rf F.fills_int_mul F.slot_int_rmul HT.Rg F.slot_int_index.lookup
  (gV F.slot_int_rmul (typeIs_int s k t) F.entry_int_rmul (F.args_int_rmul_2 _ _) (HT.Rh k t l its.toArray n dd sl)
   ⟨ho,rfl,⟨_,ho,rfl⟩,gV PySem.F.slot_tuple_mul ⟨_,ho,rfl⟩ PySem.F.entry_tuple_mul (PySem.F.args_tuple_mul_2 _ _) (HT.Ri l its.toArray n dd sl k t h2 hk he hz' (by rw[hnew,aw,len_rep,Nat.mul_comm,<-hl];exact hz)) ⟨ho,?_⟩⟩)
 rw[hnew];refine ⟨.ref s.heap.objs.size,_,I.laid (t':=s.toks) (o:=.tup (List.replicate k.toNat xs).flatten) (λb ob q=>ah _ q) (av _) ?_,rfl,q _ (I.hok.fresh (av _))⟩;exact ⟨by rw[len_rep,Nat.mul_comm];exact hz,_,r.rep k.toNat,IsTup.new _ _⟩
end
end L2
namespace HT
open PySem PySem.Spec PyProof.Rows Builtin
theorem Rm(a:Int)(t:Tok)(l:Addr)(items:Array Value)(n:Nat)(dd:Option Addr)(sl:Array (Option Value)):
  Meets (Builtin.«int.__rmul__» ⟨[.int a t,.ref l],[]⟩) (λ_ R s=>s.heap.get? l=some { cls:=.type "list",dict:=dd,data:=.seq items n,slots:=sl }/\R (.ok (.ret Value.notImplemented)) s):=
 .of_wp λprog w A R s h=>by obtain ⟨hp,g,d,tk,os⟩:=s;obtain ⟨hl,h⟩:=h;wp_walk;exact ⟨_,rfl,h⟩
theorem Rn(l:Addr)(items:Array Value)(n:Nat)(dd:Option Addr)(sl:Array (Option Value))(x:Int)(u:Tok)(hc0:¬(!Builtin.List.listFitsIndex x)=true)(hc1:¬items.size * x.toNat > (2 ^ 63 - 1) / 8)(hc2:¬Builtin.List.listTooLong (items.size * x.toNat)=true):
  Meets (Builtin.«list.__mul__» ⟨[.ref l,.int x u],[]⟩) (λ_ R s=>s.heap.get? l=some { cls:=.type "list",dict:=dd,data:=.seq items n,slots:=sl }/\R (.ok (.ret (Value.ref s.heap.objs.size))) { s with heap:=s.heap.push { cls:=Value.type "list",data:=Data.seq (List.foldl (λx1 x2=>x1++x2) #[] (List.replicate (if items.isEmpty=true then 0 else x.toNat) items)) },toks:=s.toks }):=
 .of_wp λprog w A R s h=>by
  obtain ⟨hp,g,d,tk,os⟩:=s;obtain ⟨hl,h⟩:=h;have hsz:=AutoListH.joined_fits hc2;wp_walk;refine wpAny_ite_false (decide_eq_false (Nat.not_lt.mpr hsz)) ?_;wp_walk;exact ⟨_,rfl,h⟩
end HT
namespace L2
open PySem PySem.Spec PyProof.Rows
section
variable {X:Cx}
def Ro(K:PF):R2:=λx y H Q=>∃(l:Addr)(k:Int)(xs:List V),x=.ref l/\y=.int k/\SqL K H l xs/\0<=k/\k<=1000/\xs.length * k.toNat<=sizeLine/\∀p,H p=none->Q (.ref p) (upd H p (.lst (List.replicate k.toNat xs).flatten))
theorem Rp:OpR X (binaryOp .Mult) (Ro X.K):=by
 intro pins s σ H x y v u Q I rx ry h;obtain ⟨l,k,xs,rfl,rfl,hH,h1,h2,hz,q⟩:=h;cases rx;obtain ⟨t,rfl⟩:=ry;obtain ⟨its,r,⟨⟨cls,dd,data,sl⟩,n,e,c1,c2,c3⟩,_⟩:=I.list hH;simp only at c1 c2 c3;have hl:=r.length;have hlen:its.toArray.size * k.toNat<=sizeLine:=by rw[aw,<-hl];exact hz
 have hcap:¬its.toArray.size * k.toNat > (2 ^ 63 - 1) / 8:=by
  have:(sizeLine:Nat)<=(2 ^ 63 - 1) / 8:=by decide
  omega
 have hfit:¬(!Builtin.List.listFitsIndex k)=true:=by rw[fitsIndex_both (by omega) (by omega)];exact br
 have hlong:¬Builtin.List.listTooLong (its.toArray.size * k.toNat)=true:=by rw[wW hlen];exact br
 have hnew:List.foldl (λx1 x2=>x1++x2) #[] (List.replicate (if its.toArray.isEmpty=true then 0 else k.toNat) its.toArray)=(List.replicate k.toNat its).flatten.toArray:=by
  have f0:∀m:Nat,List.foldl (λx1 x2=>x1++x2) #[] (List.replicate m its.toArray)=(List.replicate m its).flatten.toArray:=λm=>by
   have:=foldl_rep its m [];rw[List.nil_append]at this;exact this
  rw[f0];cases its with
  |nil=>simp
  |cons a r'=>rw[if_neg (by simp)]
 subst c1 c3;refine wpAny_binaryOp_repeat_ref (T:="list") (U:="int") (by decide) ⟨_,e,rfl⟩ (λs'=>typeIs_int s' k t) noFill_list_mul F.fills_int_mul F.slot_int_rmul repeat_list F.slot_int_index.lookup
  (gV F.slot_int_rmul (typeIs_int s k t) F.entry_int_rmul (F.args_int_rmul_2 _ _) (HT.Rm k t l its.toArray n dd sl)
   ⟨e,rfl,⟨_,e,rfl⟩,gV F.slot_list_mul ⟨_,e,rfl⟩ F.entry_list_mul (F.args_list_mul_2 _ _) (HT.Rn l its.toArray n dd sl k t hfit hcap hlong) ⟨e,?_⟩⟩)
 rw[hnew];exact ⟨.ref _,_,I.lnew (t':=s.toks) (r.rep k.toNat) (by rw[len_rep,Nat.mul_comm];exact hz),rfl,q _ I.fresh⟩
end
end L2
namespace PySem
end PySem
namespace L2
open PySem PySem.Spec PyProof.Rows
end L2
namespace PyProof.Rows
open PySem
theorem Rq {prog:Program} {w:World} {A:Around} {E:Value->Shared->Prop} {s:Shared} {it:Addr} {T:String} {o:Obj} {items:List Value} {n:Nat} {ns:List Int} {Q:Value->Shared->Prop} (hT:T="list"\/T="tuple")
  (ho:s.heap.get? it=some o) (hc:o.cls=.type T) (hd:o.data=.seq items.toArray n) (hI:IntsAre items ns) (h64:items.length < 64)
  (h:∀(h1 h':Heap) (e:Nat) (out:Array Value) (ns':List Int),IntsAre out.toList ns'->ns'.Perm ns->ns'.Pairwise (·<=·)->(∀b o',s.heap.get? b=some o'->h1.get? b=some o')->(∀b o',h1.get? b=some o'->h'.get? b=some o')->h'.get? h1.objs.size=some (seqObj "list" out e)->Q (.ref h1.objs.size) { s with heap:=h' }):
  wpAny (model prog w) A (call (.builtin "sorted") [.ref it]) Q E s:=by
 refine Calls.call_function_entry kind_sorted plain_sorted entry_sorted (args_sorted1 _) ?_;unfold Builtin.«sorted»;refine wpAny_bind (m:=checkCount "sorted" 1 1 _) (wpAny_pure ?_);refine wpAny_bind (wpAny_collect_seq it hT ho hc hd (λh1 k1=>?_) (by rw[List.size_toArray,sizeLine_eq];omega));refine wpAny_bind (wpAny_newList ?_);have e1:items.toArray.toList=items:=by simp
 rw[e1];have hoL:(h1.push (seqObj "list" items.toArray 0)).get? h1.objs.size=some (seqObj "list" items.toArray 0):=Heap.get?_push_size _ rfl;show wpAny _ _ _ _ _ { s with heap:=h1.push (seqObj "list" items.toArray 0) };refine wpAny_bind (wpAny_holding (wpAny_call_entry slot_list_sort ⟨_,hoL,rfl⟩ entry_list_sort (list_sort_tree hoL hI h64 λout ns' a1 a2 a3=>⟨_,rfl,?_⟩) (args_list_sort _)));obtain ⟨e,he⟩:=sortedHeap_at (vs:=items) (out:=out) hoL;refine wpAny_pure ⟨_,rfl,h h1 _ e out ns' a1 a2 a3 k1 (λb o' hb1=>?_) he⟩;rw[sortedHeap_old (Nat.ne_of_lt (Heap.lt_size hb1)) (by rw[size_push'];exact Nat.lt_succ_of_lt (Heap.lt_size hb1))];exact Heap.get?_push_of_some _ hb1
end PyProof.Rows
namespace L2
open PySem PySem.Spec PyProof.Rows
theorem abd {X:Cx}:bD X (.builtin "sorted") (λxs H Q=>∃(p:Addr) (ns:List Int),xs=[.ref p]/\SqT X.K H p (ns.map V.int)/\ns.length < 64/\∀ns':List Int,ns'.Perm ns->ns'.Pairwise (·<=·)->∀l,H l=none->Q (.ref l) (upd H l (.lst (ns'.map V.int)))):=by
 intro pins s σ H xs us Q I r h;obtain ⟨p,ns,rfl,hq,h64,q⟩:=h;obtain ⟨u,rfl,ru⟩:=vals1 r;cases ru;obtain ⟨its,rv,⟨o,ho,hc,n,hd⟩,hz⟩:=I.tuple hq;have hlen:its.length=ns.length:=by rw[<-rv.length];simp
 refine Rq (.inr rfl) ho hc hd (intsAre_of rv) (by omega) λh1 h' e out ns' a1 a2 a3 k1 k2 he=>?_;have I1:Inv X pins σ H { s with heap:=h1 }:=I.kept (t':=s.toks) k1;have hsz:(ns'.map V.int).length<=sizeLine:=by rw[ax,a2.length_eq,dS];omega
 exact ⟨.ref h1.objs.size,_,I1.laid (t':=s.toks) k2 (av _) (show ObjOk X.prog X.w _ _ _ (.lst (ns'.map V.int)) from ⟨hsz,out.toList,e,qL a1,by rw[Array.toArray_toList];exact he⟩),rfl,q ns' a2 a3 _ (I1.hok.fresh (av _))⟩
section
variable {prog:Program} {w:World} {A:Around} {R:Result->Shared->Prop} {s:Shared}
def eO(e:Expr)(d:Nat)(target iter:Expr)(em:Value->Env->Sem Fin->Sem Fin):Prop:=
 ∀it acc env,compTurn e d it acc env=(standAt iter.pos >>= λ_=>pyNext it >>= λr=>match r with
   |none=>pure (.done .next)
   |some v=>letOwnedTupleGo target it v >>= λ_=>assign target env v >>= λ_=>em acc env (again (.compLoop e d it acc env)))
def emE (elt:Expr) (acc:Value) (env:Env) (k:Sem Fin):Sem Fin:=(eval elt env >>= λx=>call (.builtin "list.append") [acc,x] >>= λ_=>pure ()) >>= λ_=>k
def emG(e:Expr)(d:Nat)(iter:Expr)(acc:Value)(env:Env)(k:Sem Fin):Sem Fin:=
 eval iter env >>= λx=>standAt iter.pos >>= λ_=>foldedSetIterable iter env x >>= λx=>holding [x] (pyIter x) >>= λit=>runOwn (.compStart e d it acc env) env >>= λ_=>k
theorem Rt(elt t1 i1 t2 i2 t3 i3:Expr)(scope:Scope)(pos:Pos):eO (.ListComp elt [⟨t1,i1,[],0⟩,⟨t2,i2,[],0⟩,⟨t3,i3,[],0⟩] scope pos) 2 t3 i3 (emE elt):=λ_ _ _=>rfl
theorem Ru(elt t1 i1 t2 i2 t3 i3:Expr)(scope:Scope)(pos:Pos):eO (.ListComp elt [⟨t1,i1,[],0⟩,⟨t2,i2,[],0⟩,⟨t3,i3,[],0⟩] scope pos) 1 t2 i2 (emG (.ListComp elt [⟨t1,i1,[],0⟩,⟨t2,i2,[],0⟩,⟨t3,i3,[],0⟩] scope pos) 2 i3):=λ_ _ _=>rfl
theorem abe(elt t1 i1 t2 i2 t3 i3:Expr)(scope:Scope)(pos:Pos):eO (.ListComp elt [⟨t1,i1,[],0⟩,⟨t2,i2,[],0⟩,⟨t3,i3,[],0⟩] scope pos) 0 t1 i1 (emG (.ListComp elt [⟨t1,i1,[],0⟩,⟨t2,i2,[],0⟩,⟨t3,i3,[],0⟩] scope pos) 1 i2):=λ_ _ _=>rfl
theorem xO{elt:Expr}{gens:List Comprehension}{scope:Scope}{pos:Pos}{d:Nat}{target iter:Expr}{em:Value->Env->Sem Fin->Sem Fin}{it acc:Value}{env:Env}(hT:eO (.ListComp elt gens scope pos) d target iter em)(I:Nat->Shared->Prop)
  (turn:∀n s,I n s->wpAny (model prog w) A (pyNext it) (λr s₁=>match r with
   |none=>R (.ok .next) s₁
   |some v=>wpAny (model prog w) A (letOwnedTupleGo target it v) (λ_ s₁'=>wpAny (model prog w) A (assign target env v) (λ_ s₂=>
     ∀(k:Sem Fin)(Q:Fin->Shared->Prop)(E:Value->Shared->Prop),(∀s₅,(∃m,m < n/\I m s₅)->wpAny (model prog w) A k Q E s₅)->wpAny (model prog w) A (em acc env k) Q E s₂) (λ_ _=>False) s₁') (λ_ _=>False) s₁) (λ_ _=>False) s)
  (n:Nat) (h:I n s):codeAny (model prog w) A (.compLoop (.ListComp elt gens scope pos) d it acc env) R s:=by
 refine codeAny_loop rfl I (λn s hI=>?_) n h;show wpAny _ A ((compTurn (.ListComp elt gens scope pos) d it acc env).onRaise (λx=>do noteFrame x env;theTreesLotGoes x)) _ _ s;refine wpAny_noted ?_;rw[hT];refine ae (hV (ae (cr (turn n s hI) (λr s₁ h₁=>?_) λ_ _ h'=>False.elim h')));cases r with
 |none=>exact am h₁
 |some v=>
  refine ae (cr h₁ (λ_ s₁' h₁'=>?_) λ_ _ h'=>False.elim h');exact ae (cr h₁' (λ_ s₂ h₂=>h₂ _ _ _ λs₃ h₃=>am ⟨rfl,h₃⟩) λ_ _ h'=>False.elim h')
theorem Rv{elt:Expr}{gens:List Comprehension}{scope:Scope}{pos:Pos}{d:Nat}{t i:Expr}{it acc:Value}{env:Env}(hg:gens[d]?=some ⟨t,i,[],0⟩)
  (h0:codeAny (model prog w) A (.compLoop (.ListComp elt gens scope pos) d it acc env) R s)
  (h:wpAny (model prog w) A (pyIter it) (λit' s'=>codeAny (model prog w) A (.compLoop (.ListComp elt gens scope pos) d it' acc env) R s') (λ_ _=>False) s):
  codeAny (model prog w) A (.compStart (.ListComp elt gens scope pos) d it acc env) R s:=by
 refine codeAny_of_tree ?_;show wpAny _ _ ((compStart (.ListComp elt gens scope pos) d it acc env).onRaise (λx=>do noteFrame x env;standAt theWindowsPlace)) _ _ s;refine wpAny_notedAt ?_;unfold compStart;have e:(clausesOf (.ListComp elt gens scope pos))[d]?=some ⟨t,i,[],0⟩:=hg;rw[e];show wpAny _ _ (ask >>= _) _ _ s;refine ae (wpAny_askSetting (wpAny_ite ?_));split
 ·exact am (ag rfl h0)
 ·refine ae (et ?_);show wpAny _ _ (standAt i.pos >>= _) _ _ s;exact ae (hV (ae (cr h (λit' s' h'=>am (ag rfl h')) λ_ _ x=>False.elim x)))
end
abbrev TM:=List V->St->Hp->(List V->St->Hp->Prop)->Prop
def lob (its:List Value) (n:Nat):Obj:={ cls:=.type "list",data:=.seq its.toArray n }
structure AccOk(X:Cx)(a:Addr):Prop where
 new:a∈X.ex\/X.s₀.heap.objs.size<=a
 cel:∀x c,X.env.cells.lookup x=some c->c≠a
 pin:∀p∈X.pn,p.1≠a
def PM(X:Cx)(lim:Bool)(a:Addr)(em:Sem Fin->Sem Fin)(t:TM):Prop:=
 ∀(pins:List (Addr×Obj))(its:List Value)(n:Nat)(ys:List V)(σ:St)(H:Hp)(s:Shared)(K:List V->St->Hp->Prop),Inv X ((a,lob its n)::pins) σ H s->(∀p∈pins,p.1≠a)->Vals ys its->(lim=true->ys.length < sizeLine)->t ys σ H K->
  ∀(k:Sem Fin)(Q:Fin->Shared->Prop)(E:Value->Shared->Prop),(∀s' its' n' ys' σ' H',Inv X ((a,lob its' n')::pins) σ' H' s'->Vals ys' its'->K ys' σ' H'->wpAny (model X.prog X.w) X.A k Q E s')->wpAny (model X.prog X.w) X.A (em k) Q E s
def tmE(te:TE):TM:=λys σ H K=>ys.length < sizeLine/\te σ H λy H'=>K (ys++[y]) σ H'
theorem xP{X:Cx}{a:Addr}{elt:Expr}{te:TE}(hx:X.xe=λ_ _=>False)(ha:AccOk X a)(he:PE X elt te):PM X false a (emE elt (.ref a) X.env) (tmE te):=by
 intro pins its n ys σ H s K I hp rv _ h kk Q E hk;obtain ⟨hz,h⟩:=h;have h0:=he _ s σ H _ I h;rw[hx]at h0;refine ae (ae (cr h0 (λv s8 h8=>?_) λ_ _ z=>False.elim z));obtain ⟨y,H8,I8,r8,k8⟩:=h8;obtain ⟨pD,nD,lD,fD,cD⟩:=I8.pin (a,lob its n) (aS _ aT);have hl:=rv.length;refine ae (append_at (hsz:=by rw[aw];omega) pD λh9 hs9 hD9=>am ?_);have I8a:Inv X pins σ H8 s8:=I8.pins_of λp hp=>I8.pin p (aS _ (bo _ hp));have I9:Inv X pins σ H8 { s8 with heap:=h9 }:=I8a.turned (t':=s8.toks) (it:=a) (λb o hb e=>hs9.extBut b o hb e) nD lD ha.new ha.cel (λp hp'=>by
  rcases cf.mp hp' with z |z
  ·exact ha.pin p z
  ·exact hp p z)
 have hD9':h9.get? a=some (lob (its++[v]) (n+1)):=by rw[hD9,List.push_toArray];rfl
 refine hk _ (its++[v]) (n+1) (ys++[y]) σ H8 (I9.pins_of λp hp'=>?_) (rv.append (.cons r8 .nil)) k8;rcases bb.mp hp' with e |z
 ·subst e;exact ⟨hD9',nD,lD,fD,λv z=>by have z':Data.seq _ _=Data.cell v:=z;cases z'⟩
 ·exact I9.pin p (aS _ z)
def emT(ifs:List Expr)(elt:Expr)(acc:Value)(env:Env)(k:Sem Fin):Sem Fin:=
 (forIn ifs true λc r=>if r=true then do let ok <-isTrue c env (eval c env);pure (ForInStep.yield ok) else pure (ForInStep.yield r)) >>= λok=>if ok=true then emE elt acc env k else k
theorem xQ(elt tg iter:Expr)(ifs:List Expr)(scope:Scope)(pos:Pos):eO (.ListComp elt [⟨tg,iter,ifs,0⟩] scope pos) 0 tg iter (emT ifs elt):=λ_ _ _=>rfl
def tmT(tt:TT)(te:TE):TM:=λys σ H K=>tt σ H λb H4=>if b=true then te σ H4 λy H5=>K (ys++[y]) σ H5 else K ys σ H4
theorem Rw{X:Cx}{a:Addr}{elt:Expr}{ifs:List Expr}{tt:TT}{te:TE}(hx:X.xe=λ_ _=>False)(ha:AccOk X a)(ht:PIf X ifs tt)(he:PE X elt te):PM X true a (emT ifs elt (.ref a) X.env) (tmT tt te):=by
 intro pins its n ys σ H s K I hp rv hl h kk Q E hk;have h0:=ht _ s σ H _ I h;rw[hx]at h0;refine ae (cr h0 (λb s4 h4=>?_) λ_ _ z=>False.elim z);obtain ⟨H4,I4,q4⟩:=h4;cases b with
 |false=>exact hk s4 its n ys σ H4 I4 rv q4
 |true=>exact xP hx ha he pins its n ys σ H4 s4 K I4 hp rv (λz=>nomatch z) ⟨hl rfl,q4⟩ kk Q E hk
def xR(J:It)(g:TG)(tm:TM)(ys:List V)(σ0:St)(H1:Hp)(K:List V->St->Hp->Prop):Prop:=
 ∃W:Nat->Nat->List V->St->Hp->Prop,(∃m,W 0 m ys σ0 H1)/\∀i m ys σ' H',W i m ys σ' H'->
  (J.stop i H'/\K ys σ' H')\/(J.go i H'/\∀x H2,J.yld i H' x H2->g x σ' H2 λσ3 H3=>tm ys σ3 H3 λys' σ4 H4=>∃m',m' < m/\W (i+1) m' ys' σ4 H4)
def tmG(wi:TI)(g:TG)(tm:TM):TM:=λys σ H K=>wi σ H λJ H1=>xR J g tm ys σ H1 K
theorem xT{X:Cx}{a:Addr}{elt:Expr}{gens:List Comprehension}{scope:Scope}{pos:Pos}{d:Nat}{t i:Expr}{em:Value->Env->Sem Fin->Sem Fin}{wi:TI}{g:TG}{tm:TM}(hx:X.xe=λ_ _=>False)(hc:X.calm=true)
  (hg:gens[d]?=some ⟨t,i,[],0⟩) (hT:eO (.ListComp elt gens scope pos) d t i em) (hi:PI X t i wi) (hG:PG X t g) (hs:∀x,foldedSetIterable i X.env x=pure x) (hm:PM X false a (em (.ref a) X.env) tm):
  PM X false a (emG (.ListComp elt gens scope pos) d i (.ref a) X.env) (tmG wi g tm):=by
 intro pins its n ys σ H s K I hp rv _ h kk Q E hk;have h0:=hi _ s σ H _ I h;rw[hx]at h0;refine ae (cr h0 (λxv s1 h1=>?_) λ_ _ z=>False.elim z);refine ae (hV (ae (wpAny_of_eq (hs xv) ?_)));refine ae (cq (cr h1 (λitv s2 h2=>?_) λ_ _ z=>False.elim z));obtain ⟨it,fp,tn,J,H2,e,I2,T,st2,f2,W,⟨m0,w0⟩,turn⟩:=h2;subst e;have fpok:∀{H':Hp}{o:Obj},(∀b∈fp,H' b=none)->∀b∈fp,dj X ((a,o)::pins) H' b:=λhn b hb=>by
  obtain ⟨_,q1,q2,q3,q4,q5⟩:=f2 b hb;refine ⟨hn b hb,q1,q2,q3,q4,λp hp=>?_⟩;rcases cf.mp hp with z |z
  ·exact q5 p (ff _ z)
  ·rcases bb.mp z with z |z
   ·subst z;exact q5 (a,lob its n) (aS _ aT)
   ·exact q5 p (aS _ (bo _ z))
 have hap:∀b∈fp,a≠b:=λb hb=>(f2 b hb).2.2.2.2.2 (a,lob its n) (aS _ aT);have loop:codeAny (model X.prog X.w) X.A (.compLoop (.ListComp elt gens scope pos) d (.ref it) (.ref a) X.env) (λr s'=>match r with |.ok f=>wpAny (model X.prog X.w) X.A kk Q E s' |.error e=>cameBackBy (model X.prog X.w) X.A X.env E e s') s2:=by
  refine xO hT (λm s'=>∃(i:Nat)(ys:List V)(its:List Value)(n:Nat)(σ':St)(H':Hp),Inv X ((a,lob its n)::pins) σ' H' s'/\Vals ys its/\tn i s'.heap/\(∀b∈fp,H' b=none)/\W i m ys σ' H') ?_ m0 ⟨0,ys,its,n,σ,H2,I2,rv,st2,λb hb=>(f2 b hb).1,w0⟩;rintro m s3 ⟨i,ys,its,n,σ3,H3,I3,rv3,st3,fr3,w3⟩;rcases turn i m ys σ3 H3 w3 with ⟨stop,qn⟩ |⟨go,step⟩
  ·refine thn (T.done X rfl rfl rfl hc i _ s3 σ3 H3 _ I3 (fpok fr3) st3 stop) λr s4 ⟨hr,I4⟩=>?_;subst hr;exact hk s4 its n ys σ3 H3 I4 rv3 qn
  ·refine thn (T.item X rfl rfl rfl hc i _ s3 σ3 H3 _ I3 (fpok fr3) st3 go) λr s4 ⟨u,hr,h4⟩=>?_;subst hr;refine thn h4 λ_ s5 ⟨x,H5,I5,r5,y5,st5,fr5⟩=>?_;have I5':=I5.pinned (fpok fr5) (T.obj _ _ st5);have h6:=hG _ s5 σ3 H5 x u _ I5' r5 (step x H5 y5);rw[hx]at h6;refine thn h6 λ_ s6 ⟨σ6,H6,I6,q6⟩=>?_;intro k Q' E' hk';refine hm (pins++ie fp s5.heap) its n ys σ6 H6 s6 _ I6 (λp hp'=>?_) rv3 (λz=>nomatch z) q6 k Q' E' λs7 its' n' ys' σ7 H7 I7 rv7 ⟨m',hm',w7⟩=>hk' s7 ⟨m',hm',i+1,ys',its',n',σ7,H7,I7.pins_of λp hp'=>?_,rv7,?_,λb hb=>?_,w7⟩
   ·rcases cf.mp hp' with z |z
    ·exact hp p z
    ·exact λe=>hap p.1 (qG z).1 e.symm
   ·refine I7.pin p (aS _ ?_);rcases bb.mp hp' with z |z
    ·rw[z];exact aT
    ·exact bo _ (ff _ z)
   ·exact T.keep _ _ _ st5 λb hb o e=>(I7.pin (b,o) (aS _ (bo _ (aS _ (ig hb e))))).1
   ·obtain ⟨o,e,_⟩:=T.obj _ _ st5 b hb;exact (I7.pin (b,o) (aS _ (bo _ (aS _ (ig hb e))))).2.1
 exact ae (wpAny_runOwn (Rv hg loop (T.self X.A 0 _ _ _ st2 loop)))
def qW(lim:Bool)(X:Cx)(N':List Str)(scope:Scope)(tg:Expr)(em:Value->Env->Sem Fin->Sem Fin)(J:It)(σ0:St)(H1:Hp)(Q:VK):Prop:=
 ∃W:Nat->Nat->List V->St->Hp->Prop,(∃m,W 0 m [] σ0 H1)/\∀i m ys σ' H',W i m ys σ' H'->
  (J.stop i H'/\ys.length<=sizeLine/\∀D,H' D=none->Q (.ref D) (upd H' D (.lst ys)))\/
  (J.go i H'/\(lim=true->ys.length < sizeLine)/\∀cl C s₁ H₁ fp pn,∃g tm,PG (X.comp N' scope cl C s₁ H₁ fp pn) tg g/\(∀a,AccOk (X.comp N' scope cl C s₁ H₁ fp pn) a->PM (X.comp N' scope cl C s₁ H₁ fp pn) lim a (em (.ref a) (X.comp N' scope cl C s₁ H₁ fp pn).env) tm)/\
   ∀x H2,J.yld i H' x H2->g x σ' H2 λσ3 H3=>tm ys σ3 H3 λys' σ4 H4=>∃m',m' < m/\W (i+1) m' ys' σ4 H4)
def qX(lim:Bool)(X:Cx)(N':List Str)(scope:Scope)(tg:Expr)(em:Value->Env->Sem Fin->Sem Fin)(wi:TI)(cap:List (Option Nat)):TE:=λσ H Q=>wi σ H λJ H1=>qW lim X N' scope tg em J (cV cap σ) H1 Q
theorem xU{X:Cx}{elt tg iter:Expr}{ifs:List Expr}{lim:Bool}{rest:List Comprehension}{em:Value->Env->Sem Fin->Sem Fin}{scope:Scope}{pos:Pos}{wi:TI}{pins:List (Addr×Obj)}{s:Shared}{σ:St}{H:Hp}{Q:VK}{RR:Value->Addr->Result->Shared->Prop}(N':List Str)(cap:List (Option Nat))(hc:X.calm=true)(hi:PI X tg iter wi)(hcap:Caps X scope N' cap)
  (hcell:scope.names.all (λy=>y.2 != NameKind.cell)=true)
  (hfr:scope.names.all (λy=>y.2 != NameKind.free||(X.env.kindOf y.1==some NameKind.cell||X.env.kindOf y.1==some NameKind.free))=true)
  (hkind:scope.kind=.function) (hT:eO (.ListComp elt (⟨tg,iter,ifs,0⟩::rest) scope pos) 0 tg iter em) (I:Inv X pins σ H s) (h:qX lim X N' scope tg em wi cap σ H Q)
  (fin:∀(D C:Addr)(H':Hp)(s4:Shared)(m:Str->Option Value),Inv X pins σ H' s4->Q (.ref D) H'->s4.heap.Ns C m->dj X pins H' C->RR (.ref D) C (.ok .next) s4):
  wpAny (model X.prog X.w) X.A (eval iter X.env) (λx s₁=>wpAny (model X.prog X.w) X.A (pyIter x) (λit s₂=>wpAny (model X.prog X.w) X.A (newList []) (λacc s₃=>
   wpAny (model X.prog X.w) X.A (newFunctionEnv scope X.env.globals (cj X.env scope.names []) [] X.env.qual none .none (some X.env)) (λcenv s₄=>
    codeAny (model X.prog X.w) X.A (.compStart (.ListComp elt (⟨tg,iter,ifs,0⟩::rest) scope pos) 0 it acc { cenv with scope:=relabel scope X.env }) (RR acc cenv.locals) s₄) X.xe s₃) X.xe s₂) X.xe s₁) X.xe s:=by
 have hcell':∀y∈scope.names,y.2≠NameKind.cell:=λy hy=>by
  have:=ci.mp hcell y hy;simpa using this
 have hfr':∀y∈scope.names,y.2=NameKind.free->(X.env.kindOf y.1=some NameKind.cell\/X.env.kindOf y.1=some NameKind.free):=λy hy hl=>by
  have:=ci.mp hfr y hy;simpa [hl] using this
 have hcs:∀y∈scope.names,y.2=NameKind.free->(X.env.cells.lookup y.1).isSome=true:=λy hy hl=>by
  obtain ⟨c,e⟩:=I.ok.has y.1 (hfr' y hy hl);rw[e];rfl
 have clsub:∀x c,(cj X.env scope.names []).lookup x=some c->X.env.cells.lookup x=some c:=wY (λx c e=>by simp at e);have clhas:∀x,scope.names.lookup x=some NameKind.free->∃c,(cj X.env scope.names []).lookup x=some c:=λx e=>by
  have hm:=eR e;exact c8.mp (w5 (hcs _ hm rfl) hm)
 have rel:∀x,(relabel scope X.env).names.lookup x=(scope.names.lookup x).map λk=>if (k==NameKind.free&&X.env.scope.kind==.function&&X.env.kindOf x==some .cell)=true then NameKind.cell else k:=λx=>qN
 have relfree:∀x,((relabel scope X.env).names.lookup x=some NameKind.cell\/(relabel scope X.env).names.lookup x=some NameKind.free)->scope.names.lookup x=some NameKind.free:=λx e=>by
  rw[rel x]at e;cases z:scope.names.lookup x with
  |none=>rw[z]at e;rcases e with e |e <;> cases e
  |some k=>
   have nk:=hcell' _ (eR z);rw[z]at e;cases k with
   |free=>rfl
   |cell=>exact absurd rfl nk
   | «local»=>rcases e with e |e <;> simp[show (NameKind.«local»==NameKind.free)=false by decide]at e
   |globalExplicit=>rcases e with e |e <;> simp[show (NameKind.globalExplicit==NameKind.free)=false by decide]at e
   |globalImplicit=>rcases e with e |e <;> simp[show (NameKind.globalImplicit==NameKind.free)=false by decide]at e
 generalize hcl:cj X.env scope.names []=cl at clsub clhas;refine thn (hi pins s σ H _ I h) λxv s0 h0=>thn h0 λitv s2 h2=>?_;obtain ⟨it,fp,tn,J,H2,e,I2,T,st2,f2,W,⟨m0,w0⟩,turn⟩:=h2;subst e;refine fx (wpAny_newFunctionEnv hcell' (by intro y hy;simp at hy) (λh₁ hns₁ hsb₁=>?_) hkind);dsimp only at hns₁ hsb₁ ⊢;generalize hH2:s2.heap.push { cls:=.type "list",dict:=none,data:=.seq ([]:List Value).toArray }=HP at hns₁ hsb₁ ⊢;have hC:HP.objs.size=s2.heap.objs.size+1:=by rw[<-hH2,cb]
 have hDC:s2.heap.objs.size≠HP.objs.size:=by rw[hC];exact b6 (gl _)
 have below:∀b,b < s2.heap.objs.size->b≠HP.objs.size/\b≠s2.heap.objs.size:=λb hb=>⟨by rw[hC];exact b6 (dE hb),b6 hb⟩;have old:∀b o,s2.heap.get? b=some o->h₁.get? b=some o:=λb o e=>hsb₁.extBut b o (below b (ay e)).1 (ah _ (hH2 ▸ ah _ e));have hacc:h₁.get? s2.heap.objs.size=some { cls:=.type "list",data:=.seq ([]:List Value).toArray 0 }:=hsb₁.extBut _ _ hDC (ah _ (hH2 ▸ aI _ rfl));have hst₁:tn 0 h₁:=T.keep _ _ _ st2 λb _ o e=>old b o e;have fplt:∀b∈fp,b < s2.heap.objs.size:=λb hb=>by
  obtain ⟨o,e,_⟩:=T.obj _ _ st2 b hb;exact ay e
 have fslt:∀b∈frs X.stack,b < s2.heap.objs.size:=λb hb=>by
  obtain ⟨_,o,e,_⟩:=I2.stack.mem hb;exact ay e
 have celllt:∀x c,cl.lookup x=some c->c < s2.heap.objs.size:=λx c e=>by
  obtain ⟨v,q⟩:=I2.cell x c (clsub x c e);exact q.lt
 have hDf:H2 s2.heap.objs.size=none:=I2.hok.fresh (av _);have hCf:H2 HP.objs.size=none:=I2.hok.fresh (by rw[hC];exact eh _);have nofs:∀b∈fp,b∉frs X.stack:=λb hb z=>by
  obtain ⟨_,f1,f2',_⟩:=f2 b hb;rcases bb.mp (I2.stkSub b z) with e |e
  ·exact f1 e
  ·exact f2' e
 have ok':(X.comp N' scope cl HP.objs.size s2 H2 fp (X.pn++pins)).Ok:=
  ⟨I2.ok.mod,hkind,I2.ok.glob,I2.ok.blt,(by show s2.heap.objs.size<=HP.objs.size;rw[hC];exact eh _),
   λx y c e1 e2=>I2.ok.inj x y c (clsub x c e1) (clsub y c e2),λx hx=>clhas x (relfree x hx),λx c hf _=>(by cases hf),I2.ok.hd,I2.ok.frames,.inl rfl,
   λb hb=>⟨(below b (fplt b hb)).1,λx c e=>(f2 b hb).2.2.2.2.1 x c (clsub x c e)⟩,I2.bs,cw I2.ok.bsz I2.sz,
   λb o e hb=>(by
    rcases (f2 b hb).2.2.2.1 with z |z
    ·exact I2.ok.noex b o e z
    ·exact absurd (bp (ay e) (cw I2.ok.bsz z)) (dL _)),
   nofs,I2.stack,I2.stkFree⟩
 have pnOk:∀p∈X.pn++pins,p.1 < s2.heap.objs.size/\p.1∉frs X.stack:=λp hp=>by
  obtain ⟨e,_,n1,n2,_⟩:=I2.pin p hp;refine ⟨ay e,λz=>?_⟩;rcases bb.mp (I2.stkSub _ z) with e |e
  ·exact n1 e
  ·exact n2 e
 have I0:∀t,Inv (X.comp N' scope cl HP.objs.size s2 H2 fp (X.pn++pins)) [(s2.heap.objs.size,{ cls:=.type "list",data:=.seq ([]:List Value).toArray 0 })] (cV cap σ) H2 { s2 with heap:=h₁,toks:=t }:=λt=>
  ⟨ok',rfl,I2.bare,Un.kept old,⟨_,hns₁,λi x v e1 e2 _=>by
    obtain ⟨j,nj,fr,sj⟩:=hcap.at e1 e2;obtain ⟨m,_,hl⟩:=I2.loc;have hk:=hfr' (x,NameKind.free) (eR fr) rfl;obtain ⟨u,r,l⟩:=hl j x v nj sj (by rcases hk with hk |hk;exact .inr (.inl hk);exact .inr (.inr hk));refine ⟨u,r,.inr ⟨?_,?_⟩⟩
    ·show (relabel scope X.env).names.lookup x=some .cell\/(relabel scope X.env).names.lookup x=some .free;rw[rel x,fr,Option.map_some];by_cases hh:(NameKind.free==NameKind.free&&X.env.scope.kind==ScopeKind.function&&X.env.kindOf x==some NameKind.cell)=true
     ·exact .inl (by rw[if_pos hh])
     ·exact .inr (by rw[if_neg hh])
    ·obtain ⟨c,ec⟩:=clhas x fr;have ec':=clsub x c ec;rcases l with ⟨k1,_⟩ |⟨_,c',e',q⟩
     ·rcases hk with hk |hk <;> (rw[hk]at k1;cases k1)
     ·have ecc:X.env.cells.lookup x=some c:=ec';rw[e']at ecc;cases ecc;obtain ⟨o,ho,hd⟩:=q;exact ⟨_,ec,o,old _ _ ho,hd⟩⟩,
   λx c e=>(by obtain ⟨v,o,ho,hd⟩:=I2.cell x c (clsub x c e);exact ⟨v,o,old _ _ ho,hd⟩),hCf,λx c e=>I2.freeC x c (clsub x c e),
   λp hp=>by
    rcases cf.mp hp with z |z
    ·obtain ⟨e,n0,_,_,d⟩:=I2.pin p z;exact ⟨old _ _ e,n0,(below _ (pnOk p z).1).1,(pnOk p z).2,d⟩
    ·have e:p=_:=a8.mp z;subst e;exact ⟨hacc,hDf,hDC,λz=>absurd (fslt _ z) (dL _),λv z=>by have z':Data.seq _ _=Data.cell v:=z;cases z'⟩,
   I2.hok.kept old,by show (cV cap σ).length=N'.length;unfold cV;rw[ax];exact hcap.len⟩
 have fpok:∀{H':Hp}{o:Obj},(∀b∈fp,H' b=none)->∀b∈fp,dj (X.comp N' scope cl HP.objs.size s2 H2 fp (X.pn++pins)) [(s2.heap.objs.size,o)] H' b:=λhn b hb=>
  ⟨hn b hb,(below b (fplt b hb)).1,nofs b hb,.inl hb,λx c e=>(f2 b hb).2.2.2.2.1 x c (clsub x c e),λp hp=>by
   rcases cf.mp hp with z |z
   ·exact (f2 b hb).2.2.2.2.2 p z
   ·have e:p=_:=a8.mp z;subst e;exact Ne.symm (below b (fplt b hb)).2⟩
 have loop:∀s₃:Shared,s₃={ s2 with heap:=h₁,toks:=s2.toks+([]:List (Str×Value)).length }->
   codeAny (model X.prog X.w) X.A (.compLoop (.ListComp elt (⟨tg,iter,ifs,0⟩::rest) scope pos) 0 (.ref it) (.ref s2.heap.objs.size) (compEnvC scope cl HP.objs.size X.env))
    (RR (.ref s2.heap.objs.size) HP.objs.size) s₃:=by
  rintro s₃ rfl;refine xO hT
   (λk s'=>∃(i:Nat) (ys:List V) (its:List Value) (n:Nat) (σ':St) (H':Hp),Inv (X.comp N' scope cl HP.objs.size s2 H2 fp (X.pn++pins)) [(s2.heap.objs.size,{ cls:=.type "list",data:=.seq its.toArray n })] σ' H' s'/\Vals ys its/\
    tn i s'.heap/\(∀b∈fp,H' b=none)/\W i k ys σ' H') ?_ m0 ⟨0,[],[],0,_,H2,I0 _,.nil,hst₁,λb hb=>(f2 b hb).1,w0⟩
  rintro k s3 ⟨i,ys,its,n,σ3,H3,I3,rv3,st3,fr3,w3⟩;rcases turn i k ys σ3 H3 w3 with ⟨stop,hz,qn⟩ |⟨go,hlim,step⟩
  ·refine thn (T.done (X.comp N' scope cl HP.objs.size s2 H2 fp (X.pn++pins)) rfl rfl rfl hc i _ s3 σ3 H3 _ I3 (fpok fr3) st3 stop) λr s4 ⟨hr,I4⟩=>?_;subst hr;obtain ⟨m,hn,_⟩:=I4.loc;obtain ⟨pD,nD,_,_,_⟩:=I4.pin (s2.heap.objs.size,{ cls:=.type "list",data:=.seq its.toArray n }) (aS _ (a8.mpr rfl));have nC:H3 HP.objs.size=none:=I4.free;have u:Un (frs X.stack) fp H2 H3 s2.heap s4.heap:=I4.base;refine fin s2.heap.objs.size HP.objs.size (upd H3 s2.heap.objs.size (.lst ys)) s4 m ?_ (qn _ nD) hn ?_
   ·refine I2.call' (s':=s4) (ch:=fp) I4.os ?_ ?_ I4.bare λb hb=>⟨(f2 b hb).2.2.2.1,(f2 b hb).2.1,(f2 b hb).2.2.2.2.1,(f2 b hb).2.2.2.2.2⟩
    ·refine ⟨λb o e n0 hb hx=>u.keep b o e n0 hb hx,λb o e n0 hb hx=>u.slot b o e n0 hb hx,λb o e n0 hx=>?_,λb o e hx=>u.there b o e hx,λb xs e=>?_,λb o v e=>?_,λb ps e=>?_⟩
     ·rw[aB (below b (ay e)).2];exact u.free b o e n0 hx
     ·rw[aB (aV e hDf)];exact u.tups b xs e
     ·rw[aB (aV e hDf)];exact u.frzs b o v e
     ·rw[aB (aV e hDf)];exact u.tbls b ps e
    ·intro b o e;by_cases hb:b=s2.heap.objs.size
     ·subst hb;rw[cg]at e;cases e;exact ⟨hz,its,n,rv3,pD⟩
     ·rw[aB hb]at e;exact (I4.hok b o e).stay (λc v _ q=>q) (λc q=>by rw[aB (aV q nD)];exact q) λc xs q=>by rw[aB (aV q nD)];exact q
   ·have hle:s2.heap.objs.size<=HP.objs.size:=by rw[hC];exact eh _
    exact I2.fpOk hle (by rw[aB (Ne.symm hDC)];exact nC)
  ·refine thn (T.item (X.comp N' scope cl HP.objs.size s2 H2 fp (X.pn++pins)) rfl rfl rfl hc i _ s3 σ3 H3 _ I3 (fpok fr3) st3 go) λr s4 ⟨u,hr,h4⟩=>?_;subst hr;refine thn h4 λ_ s5 ⟨x,H5,I5,r5,y5,st5,fr5⟩=>?_;obtain ⟨g,tm,hg,hm,body⟩:=step cl HP.objs.size s2 H2 fp (X.pn++pins);have acc:AccOk (X.comp N' scope cl HP.objs.size s2 H2 fp (X.pn++pins)) s2.heap.objs.size:=
    ⟨.inr (av _),λx c e z=>absurd (celllt x c e) (by rw[z];exact dL _),λp hp z=>absurd (pnOk p hp).1 (by rw[z];exact dL _)⟩
   have I5':=I5.pinned (fpok fr5) (T.obj _ _ st5);refine thn (hg _ s5 σ3 H5 x u _ I5' r5 (body x H5 y5)) λ_ s6 ⟨σ6,H6,I6,q6⟩=>?_;intro kk Q' E' hk';refine hm _ acc (ie fp s5.heap) its n ys σ6 H6 s6 _ I6 (λp hp' e=>?_) rv3 hlim q6 kk Q' E' λs7 its' n' ys' σ7 H7 I7 rv7 ⟨m',hm',w7⟩=>hk' s7 ⟨m',hm',i+1,ys',its',n',σ7,H7,I7.pins_of λp hp'=>?_,rv7,?_,λb hb=>?_,w7⟩
   ·exact (below p.1 (fplt p.1 (qG hp').1)).2 e
   ·refine I7.pin p (aS _ ?_);rw[a8.mp hp'];exact aT
   ·exact T.keep _ _ _ st5 λb hb o e=>(I7.pin (b,o) (aS _ (bo _ (ig hb e)))).1
   ·obtain ⟨o,e,_⟩:=T.obj _ _ st5 b hb;exact (I7.pin (b,o) (aS _ (bo _ (ig hb e)))).2.1
 exact codeAny_compStart_list (loop _ rfl) (T.self X.A 0 _ _ _ hst₁ (loop _ rfl))
theorem Rx{X:Cx}{elt tg iter:Expr}{ifs:List Expr}{lim:Bool}{rest:List Comprehension}{em:Value->Env->Sem Fin->Sem Fin}{scope:Scope}{pos:Pos}{wi:TI}(N':List Str)(cap:List (Option Nat))(hc:X.calm=true)(hi:PI X tg iter wi)(hcap:Caps X scope N' cap)
  (hcell:scope.names.all (λy=>y.2 != NameKind.cell)=true) (hnames:scope.names.all (λy=>y.2 != NameKind.local||scope.names.lookup y.1==some NameKind.local)=true)
  (hfr:scope.names.all (λy=>y.2 != NameKind.free||(X.env.kindOf y.1==some NameKind.cell||X.env.kindOf y.1==some NameKind.free))=true)
  (hkind:scope.kind=.function) (hs:∀x,foldedSetIterable iter X.env x=pure x) (hT:eO (.ListComp elt (⟨tg,iter,ifs,0⟩::rest) scope pos) 0 tg iter em):
  PE X (.ListComp elt (⟨tg,iter,ifs,0⟩::rest) scope pos) (qX lim X N' scope tg em wi cap):=by
 intro pins s σ H Q I h;have hnames':∀y∈scope.names,y.2=NameKind.local->scope.names.lookup y.1=some NameKind.local:=λy hy hl=>by
  have:=ci.mp hnames y hy;simpa [hl] using this
 have hcs:∀y∈scope.names,y.2=NameKind.free->(X.env.cells.lookup y.1).isSome=true:=λy hy hl=>by
  have:=ci.mp hfr y hy;obtain ⟨c,e⟩:=I.ok.has y.1 (by simpa [hl] using this);rw[e];rfl
 rw[eval_ListComp];refine wpAny_comprehension_free (use:=none) (Q:=EP X pins σ Q) rfl hs (xf hcs) hkind hnames'
  (xU (RR:=λacc C=>compPost (model X.prog X.w) X.A X.xe none (EP X pins σ Q) acc C) N' cap hc hi hcap hcell hfr hkind hT I h λL C H' s4 m I4 q hn fC=>?_)
 obtain ⟨f0,f1,f2,f3,f4,f5⟩:=fC;exact ⟨m,hn,λh' hs'=>⟨.ref L,H',I4.turned (t':=s4.toks) (it:=C) (λb o hb e=>hs'.extBut b o hb e) f0 f1 f3 f4 f5,rfl,q⟩⟩
theorem Ry{X:Cx}{elt tg iter:Expr}{ifs:List Expr}{lim:Bool}{rest:List Comprehension}{em:Value->Env->Sem Fin->Sem Fin}{scope:Scope}{pos py spos:Pos}{wi:TI}{i:Nat}{y:Str}(hT:eO (.ListComp elt (⟨tg,iter,ifs,0⟩::rest) scope pos) 0 tg iter em)(hN:X.N.Nodup)(hiy:X.N[i]?=some y)(hy:Loc X.env.scope y)(N':List Str)(cap:List (Option Nat))(hc:X.calm=true)(hi:PI X tg iter wi)(hcap:Caps X scope N' cap)
  (hcell:scope.names.all (λy=>y.2 != NameKind.cell)=true:=by rfl) (hnames:scope.names.all (λy=>y.2 != NameKind.local||scope.names.lookup y.1==some NameKind.local)=true:=by rfl)
  (hfr:scope.names.all (λy=>y.2 != NameKind.free||(X.env.kindOf y.1==some NameKind.cell||X.env.kindOf y.1==some NameKind.free))=true:=by rfl)
  (hkind:scope.kind=.function:=by rfl) (hs:∀x,foldedSetIterable iter X.env x=pure x:=by intro _;rfl)
  (hsw:swapsWith (.ListComp elt (⟨tg,iter,ifs,0⟩::rest) scope pos) (some (.Name y py)) spos.line X.env=pure true:=by rfl)
  (hf:X.fn y=true\/X.env.scope.names.lookup y=some .local:=by first |exact .inl rfl |exact .inr rfl |assumption):
  PS X (.Assign [.Name y py] (.ListComp elt (⟨tg,iter,ifs,0⟩::rest) scope pos) spos) (lU (qX lim X N' scope tg em wi cap) (lR i)):=by
 intro pins s σ H D I h;have hnames':∀y∈scope.names,y.2=NameKind.local->scope.names.lookup y.1=some NameKind.local:=λy hy hl=>by
  have:=ci.mp hnames y hy;simpa [hl] using this
 have hcs:∀y∈scope.names,y.2=NameKind.free->(X.env.cells.lookup y.1).isSome=true:=λy hy hl=>by
  have:=ci.mp hfr y hy;obtain ⟨c,e⟩:=I.ok.has y.1 (by simpa [hl] using this);rw[e];rfl
 rw[exec_Assign_Name_used _ _ _ _ hsw];refine ae (hV (ae ?_));show wpAny _ X.A (do let _ <-comprehension (.ListComp elt (⟨tg,iter,ifs,0⟩::rest) scope pos) scope X.env _ (newList []) false (eval iter X.env) (some (assign (.Name y py) X.env))) _ _ s;refine ae (cr (wpAny_comprehension_free (use:=some (assign (.Name y py) X.env)) (Q:=λ_ s'=>SP X pins D .next s') rfl hs (xf hcs) hkind hnames'
  (xU (RR:=λacc C=>compPost (model X.prog X.w) X.A X.xe (some (assign (.Name y py) X.env)) (λ_ s'=>SP X pins D .next s') acc C) N' cap hc hi hcap hcell hfr hkind hT I h λL C H' s4 m I4 q hn fC=>?_)) (λ_ s' hq=>am (am hq)) λ_ _ e=>e)
 obtain ⟨oC,es,ep,eC,rC⟩:=id hn;obtain ⟨f0,f1,f2,f3,f4,f5⟩:=fC;have ncell:∀v,oC.data≠.cell v:=λv z=>by rw[rC.1]at z;cases z
 have I5:Inv X (pins++[(C,oC)]) σ H' s4:=I4.pins_of λp hp=>by
  rcases cf.mp hp with z |z
  ·exact I4.pin p (aS _ z)
  ·have e:p=_:=a8.mp z;subst e;exact ⟨eC,f0,f1,f2,ncell⟩
 refine wpAny_assign_Name (qw I5 hN hiy hy (v:=.ref L) (u:=.ref L) rfl (λs5 I6=>?_) hf);have eC5:s5.heap.get? C=some oC:=(I6.pin (C,oC) (aS _ (aS _ (a8.mpr rfl)))).1;have I7:Inv X pins (σ.set i (some (.ref L))) H' s5:=I6.pins_of λp hp=>I6.pin p (aS _ (ff _ hp));refine ⟨m,⟨oC,es,ep,eC5,rC⟩,λh'' hs''=>?_⟩;exact ⟨_,H',I7.turned (t':=s5.toks) (it:=C) (λb o hb e=>hs''.extBut b o hb e) f0 f1 f3 f4 f5,q⟩
open HT
end L2
namespace PySem
open Sem (wp)
open Builtin Builtin.Str
open AutoSeq1 (wpAny_loadPart')
section
variable {prog:Program} {w:World} {A:Around} {E:Value->Shared->Prop} {s:Shared}
theorem Rz(x y:Str):(occurrences x y 0 x.length (x.length+1)).length<=x.length+1:=StrLaws.occ_length_le _ _ _ _ _
theorem RB(x y:Str):(partsBetween x (occurrences x y 0 x.length (x.length+1)) y.length).length<=x.length+2:=by have h:=Rz x y;unfold partsBetween;simp only[List.length_map,List.length_zip,List.length_cons,List.length_append,List.length_nil];omega
theorem call_split{x y:Str}{t u:Tok}{Q:Value->Shared->Prop}(hy:(y.length==0)=false)(hz:x.length+2<=sizeLine)
  (h:∀l tk,l.map (·.1)=Txt.split x y->Q (.ref s.heap.objs.size) { s with heap:=s.heap.push { cls:=.type "list",data:=.seq (strValues l).toArray },toks:=tk }):
  wpAny (model prog w) A (call (.builtin "str.split") [.str x t,.str y u]) Q E s:=by
 have sl:=F.slot_str_split;have ar:=F.args_str_split_2 (.str x t) (.str y u);by_cases c1:(decide (x.length < y.length)||decide (Builtin.Str.strKind x < Builtin.Str.strKind y))=true
 ·exact call_meets sl (typeIs_str _ _ _) F.entry_str_split ar (meets_str_split_cannot_occur x y t u c1) (h [(x,t)] s.toks (by unfold Txt.split;rw[if_pos c1];rfl))
 ·have c1':=eq_false_of_ne_true c1;by_cases c2:(occurrences x y 0 x.length (x.length+1)).isEmpty=true
  ·exact call_meets sl (typeIs_str _ _ _) F.entry_str_split ar (meets_str_split_not_found x y t u c1' hy c2) (h [(x,t)] s.toks (by unfold Txt.split;rw[if_neg c1,if_pos c2];rfl))
  ·refine call_meets sl (typeIs_str _ _ _) F.entry_str_split ar (meets_str_split_sep x y t u c1' hy (eq_false_of_ne_true c2) (by omega) (Nat.le_trans (RB x y) hz)) ?_;have q:=h (numbered s.toks (partsBetween x (occurrences x y 0 x.length (x.length+1)) y.length)) (s.toks+(partsBetween x (occurrences x y 0 x.length (x.length+1)) y.length).length) (by
    rw[numbered_texts];unfold Txt.split;rw[if_neg c1,if_neg c2])
   rw[<-strsFrom_eq]at q;exact q
theorem RC{t:Addr}{items:Array Value}{Q:List Value->Shared->Prop}(hh:A.handled=none)(ht:s.heap.IsList t items)(hz:items.size<=sizeLine)(hn:0 < items.size)
  (h:∀(h':Heap)(tk:Nat),(∀b o,s.heap.get? b=some o->h'.get? b=some o)->
   Q (.ref h'.objs.size::items.toList.drop (items.size - 1)) { s with heap:=h'.push { cls:=.type "list",data:=.seq (items.toList.take (items.size - 1)).toArray },toks:=tk }):
  wpAny (model prog w) A (unpackItems (.ref t) 2 (some 0)) Q E s:=by
 have hlt:t≠s.heap.objs.size:=by obtain ⟨o,e,_⟩:=id ht;exact Nat.ne_of_lt (Heap.lt_size e)
 have hlt':t < s.heap.objs.size:=by obtain ⟨o,e,_⟩:=id ht;exact Heap.lt_size e
 unfold unpackItems;unfold notIterableAtAll;refine wpAny_bind (wpAny_bind (wpAny_specialOf ht.typeIs F.slot_list_iter.lookup ?_));refine wpAny_pure ?_;simp only[Bool.false_eq_true,if_false];refine wpAny_bind (wpAny_holding (wpAny_pyIter_list ht ?_));refine wpAny_bind (wpAny_holding (wpAny_pure ?_));simp only[List.length_nil,Nat.not_lt_zero,if_false];refine wpAny_bind (wpAny_holding (wpAny_collect_iter (.inr (.inr (.inl rfl))) (Walks.list (A:=A.in1) hh s.heap.objs.size t hlt items).toS (λ_ _ st=>let ⟨o,ho,hc,_⟩:=st.1;⟨o,ho,hc⟩)
  ⟨⟨_,Heap.get?_push_size _ rfl,rfl,rfl⟩,ht.push _⟩ (λb hb=>?_) (by simp) (λs' acc hm ha=>?_) hz))
 ·have hb':b=s.heap.objs.size\/b=t:=by simpa using hb
  show b < (s.heap.push _).objs.size;rw[Heap.size_push];rcases hb' with rfl |rfl
  ·exact Nat.lt_succ_self _
  ·exact Nat.lt_succ_of_lt hlt'
 ·have e1:acc.toList=items.toList:=by
   refine List.ext_getElem? λi=>?_;rw[Array.getElem?_toList,Array.getElem?_toList];by_cases hi:i < acc.size
   ·have:=ha.2 i acc[i] (by simp[hi]);rw[this];simp[hi]
   ·rw[Array.getElem?_eq_none (by omega),Array.getElem?_eq_none (by have:=ha.1;omega)]
  have e2:acc.toList.length=items.size:=by rw[e1];simp
  rw[if_neg (by rw[e2];omega)];obtain ⟨h',g',d',tk',os'⟩:=s';have eg:g'=s.gens:=hm.gens;have ed:d'=s.drawn:=hm.drawn;have eo:os'=s.os:=hm.os;subst eg;subst ed;subst eo;refine wpAny_bind (wpAny_newList (wpAny_pure ?_) (by rw[List.length_take];omega));have q:=h h' tk' λb o e=>hm.heap b o (by
   intro hb;have hl:=Heap.lt_size e;rw[List.mem_singleton.mp hb]at hl;exact Nat.lt_irrefl _ hl) (Heap.get?_push_of_some _ e)
  rw[e1];have e3:items.toList.length - (2 - 1 - 0)=items.size - 1:=by simp
  rw[e3];exact q
theorem RD{env:Env}{elts:List Expr}{x1}{pos:Pos}{t:Addr}{items:Array Value}{Q:Unit->Shared->Prop}(hh:A.handled=none)(ht:s.heap.IsList t items)(hz:items.size<=sizeLine)(hn:0 < items.size)
  (hl:(assignEach elts env).length=2) (hs:(assignEach elts env).findIdx? (·.1)=some 0)
  (h:∀(h':Heap)(tk:Nat),(∀b o,s.heap.get? b=some o->h'.get? b=some o)->
   wpAny (model prog w) A (assignInOrder ((assignEach elts env).map (·.2)) (.ref h'.objs.size::items.toList.drop (items.size - 1))) Q E { s with heap:=h'.push { cls:=.type "list",data:=.seq (items.toList.take (items.size - 1)).toArray },toks:=tk }):
  wpAny (model prog w) A (assign (.Tuple elts x1 pos) env (.ref t)) Q E s:=by
 rw[PyProof.Rows.assign_Tuple];refine wpAny_bind (wpAny_standAt ?_);unfold unpack;rw[hl,hs];exact wpAny_bind (wpAny_holding (RC hh ht hz hn h))
end
def ir (v:Value):List (Str×Value):=[(Str.ofString "start",v)]
theorem RG(l:Addr)(items:Array Value)(n:Nat)(dc:Option Addr)(sl)(u:Tok):
  Meets (Builtin.«enumerate.__new__» ⟨[.type "enumerate",.ref l],ir (.int 1 u)⟩) (λ_ R s=>s.heap.get? l=some { cls:=.type "list",dict:=dc,data:=.seq items n,slots:=sl }/\
   R (.ok (.ret (.ref (s.heap.push { cls:=.type "list_iterator",data:=.fields #[.ref l,.int 0 0] }).objs.size)))
    { s with heap:=(s.heap.push { cls:=.type "list_iterator",data:=.fields #[.ref l,.int 0 0] }).push { cls:=.type "enumerate",data:=.fields #[.none,.bool false,.ref s.heap.objs.size,rawInt 1,.none,.none] } }):=
 .of_wp λprog w A R s h=>by
  obtain ⟨hp,g,d,tk,os⟩:=s;obtain ⟨hl,h⟩:=h;have sb:=sub_enumerate;have hL:Heap.IsList (Shared.heap ⟨hp,g,d,tk,os⟩) l items:=⟨_,hl,rfl,n,rfl⟩;unfold ir;wp_walk using wpAny_loadPart' hl
  refine wpAny_stack_any λst=>wpAny_pure ?_;have go:∀m:Sem (Value×Option Value),m=pure (Value.ref l,some (Value.int 1 u))->∀(K:Value×Option Value->Sem Fin),K (Value.ref l,some (Value.int 1 u))=(do
    let it <-pyIter (.ref l)
    let r <-Builtin.SmallTypes.newRecord (.type "enumerate") (Builtin.SmallTypes.ownedTupleFields++[it,rawInt 1,.none,.none])
    ret r)->wpAny (model prog w) A.in1 (m >>= K) (λfin s'=>∃v,fin=Fin.done (Flow.ret v)/\R (Except.ok (Flow.ret v)) s') (λe s'=>R (Except.error e) s') ⟨hp,g,d,tk,os⟩:=by
   intro m e K e2;refine wpAny_bind (wpAny_of_eq e ?_);rw[e2];wp_walk using wpAny_loadPart' hl,wpAny_pyIter_list hL
   exact ⟨_,rfl,h⟩
  split
  ·rename_i c _ _ _ _ _;cases (c==Value.type "enumerate")
   ·exact go _ (by rfl') _ (by rfl')
   ·exact go _ (by rfl') _ (by rfl')
  ·exact go _ (by rfl') _ (by rfl')
theorem RJ (l:Addr) (u:Tok):checkTypeCall "enumerate" ⟨[.ref l],ir (.int 1 u)⟩=pure ():=by rfl'
theorem RK (l:Addr) (u:Tok):checkBuiltinCall "enumerate.__new__" ⟨[.type "enumerate",.ref l],ir (.int 1 u)⟩=pure ():=by rfl'
theorem RL (o:Value) (l:Addr) (u:Tok):argsOk "object.__init__" ⟨[o,.ref l],ir (.int 1 u)⟩:=by unfold argsOk;rfl'
section
variable {prog:Program} {w:World} {A:Around} {E:Value->Shared->Prop} {s:Shared}
theorem RM{self:Value}{rest:List Value}{kw:List (Str×Value)}:
  Meets (Builtin.«object.__init__» ⟨self::rest,kw⟩) (λ_ R s=>s.TypeIs self "enumerate"/\R (.ok (.ret .none)) s):=by
 refine Meets.of_wp λprog w A R s hs=>?_;obtain ⟨hT,hq⟩:=hs;have hl:=F.called_enumerate.init.lookup;have hm:=F.called_enumerate.made;cases rest with
 |nil=>
  cases kw with
  |nil=>exact wpAny_pure ⟨_,rfl,hq⟩
  |cons a kw=>
   repeat (any_goals (first |assumption |wp_step))
   exact ⟨_,rfl,hq⟩
 |cons a rest=>
  repeat (any_goals (first |assumption |wp_step))
  exact ⟨_,rfl,hq⟩
theorem RN{l:Addr}{u:Tok}{items:Array Value}{Q:Value->Shared->Prop}(hL:s.heap.IsList l items)
  (h:∀h',IsEnum h' (s.heap.objs.size+1) s.heap.objs.size 1 .none->h'.IsListIter s.heap.objs.size l 0->h'.objs.size=s.heap.objs.size+2->
   (∀b o,s.heap.get? b=some o->h'.get? b=some o)->Q (.ref (s.heap.objs.size+1)) { s with heap:=h' }):
  wpAny (model prog w) A (call (.type "enumerate") [.ref l] (ir (.int 1 u))) Q E s:=by
 obtain ⟨⟨cl,dc,dt,sl⟩,hl,hcl,n,hd⟩:=hL;replace hcl:cl=.type "list":=hcl;replace hd:dt=.seq items n:=hd;subst hcl hd;have ft:=F.called_enumerate;have hct:=RJ l u;obtain ⟨c,tl,hmro⟩:=ft.mro;have hmade:=ft.made;have hsub:=ft.sub;refine wpAny_call (codeAny_of_tree ?_);show wpAny _ _ (callAny (.type "enumerate") _) _ _ _;refine wpAny_pure ⟨Code.quiet_builtin _ (by ac_rfl),codeAny_builtin F.entry_type_call ?_⟩;rw[Around.under_plain (weight_type_call_type "enumerate" [.ref l] _) (units_type_call_type "enumerate" [.ref l] _)];have h1:=ft.notType;have h2:=ft.canCreate;repeat (any_goals (first |assumption |wp_step))
 have hz:(s.heap.push { cls:=.type "list_iterator",data:=.fields #[.ref l,.int 0 0] }).objs.size=s.heap.objs.size+1:=Heap.size_push ..;have he:IsEnum ((s.heap.push { cls:=.type "list_iterator",data:=.fields #[.ref l,.int 0 0] }).push { cls:=.type "enumerate",data:=.fields #[.none,.bool false,.ref s.heap.objs.size,rawInt 1,.none,.none] }) (s.heap.objs.size+1) s.heap.objs.size 1 .none:=by have z:=Heap.get?_push_size (s.heap.push { cls:=.type "list_iterator",data:=.fields #[.ref l,.int 0 0] }) (o:={ cls:=.type "enumerate",data:=.fields #[.none,.bool false,.ref s.heap.objs.size,rawInt 1,.none,.none] }) rfl;rw[hz]at z;exact z
 have hq:=h _ he ⟨_,Heap.get?_push_of_some _ (Heap.get?_push_size _ rfl),rfl,rfl⟩ (by rw[Heap.size_push,hz]) λb o x=>Heap.get?_push_of_some _ (Heap.get?_push_of_some _ x);rw[<-hz]at hq;refine codeAny_mono (codeAny_call_builtin ft.plain F.entry_enumerate_new (wpAny_of_eq (RK l u) (RG l items n dc sl u prog w A.in1
  (wants (λobj s₁=>obj=.ref (s.heap.push { cls:=.type "list_iterator",data:=.fields #[.ref l,.int 0 0] }).objs.size/\s₁.TypeIs obj "enumerate"/\Q obj s₁) E) s ⟨hl,rfl,⟨_,(by rw[hz];exact he),rfl⟩,hq⟩))) λr s₁ hr=>?_
 cases r with
 |error e=>exact hr
 |ok fl=>
  cases fl with
  |ret obj=>
   obtain ⟨_,hT,hq1⟩:=hr;have hli:=ft.init.lookup;have hbi:=ft.init.bind obj;repeat (any_goals (first |assumption |wp_step))
   refine codeAny_mono (codeAny_call_builtin ft.init.plain F.entry_object_init (ft.init.check _ _ _ _ _ _ _ _ hT (RL obj l u) (RM prog w A.in1 (wants (λr s₂=>r=.none/\Q obj s₂) E) s₁ ⟨hT,rfl,hq1⟩))) λr₂ s₂ hr₂=>?_;cases r₂ with
   |error e=>exact hr₂
   |ok fl₂=>
    cases fl₂ with
    |ret r=>
     obtain ⟨rfl,hq⟩:=hr₂;repeat (any_goals (first |assumption |wp_step))
    |_=>exact hr₂.elim
  |_=>exact hr.elim
end
end PySem
namespace RF
open PySem L2 PySem.Builtin PySem.Builtin.Str PySem.StrLaws
noncomputable def bh(c:Nat):List Nat->List (List Nat)
 |[]=>[[]]
 |x::r=>if x=c then []::bh c r else (x::(bh c r).headD [])::(bh c r).tail
noncomputable def posN(c:Nat):Nat->List Nat->List Nat
 |_,[]=>[]
 |k,x::r=>if x=c then k::posN c (k+1) r else posN c (k+1) r
theorem sub_one(l:List Nat)(c i:Nat):subAt ⟨l.toArray⟩ ⟨#[c]⟩ i=(l[i]?==some c):=by
 unfold subAt;have e:(⟨#[c]⟩:Str).length=1:=rfl;rw[e,gu,aE,aE];have e2:(l.toArray.extract i (i+1)).toList=(l.drop i).take 1:=by rw[dv];simp[List.extract]
 constructor
 ·intro h;have h2:(l.toArray.extract i (i+1)).toList=[c]:=d6 Array.toList h;rw[e2]at h2;have h3:=d6 (·[0]?) h2;simpa [List.getElem?_take,List.getElem?_drop] using h3
 ·intro h;apply Array.ext';rw[e2];show _=[c];obtain ⟨hi,he⟩:=a7.mp h;rw[cm hi,he];rfl
theorem lZ(l:List Nat)(c:Nat):∀(n k:Nat)(acc:Array Nat)(free:Nat),k+n=l.length+1->acc.size<=k->free<=k->
  (forIn (List.range' k n) (acc,free) (occBody ⟨l.toArray⟩ ⟨#[c]⟩ l.length (l.length+1))).run.fst.toList=acc.toList++posN c k (l.drop k)
 |0,k,acc,free,hn,ha,hf=>by
  have:l.drop k=[]:=eM (by omega);rw[this];show acc.toList=acc.toList++[];simp
 |n+1,k,acc,free,hn,ha,hf=>by
  rw[List.range'_succ,List.forIn_cons];unfold occBody;have e1:(⟨#[c]⟩:Str).length=1:=rfl;by_cases hk:k < l.length
  ·have ed:l.drop k=l[k]::l.drop (k+1):=cm hk;by_cases hc:l[k]=c
   ·have hs:subAt ⟨l.toArray⟩ ⟨#[c]⟩ k=true:=by rw[sub_one,a9 hk,hc];simp
    rw[if_pos ⟨⟨⟨show acc.size < _ by omega,hf⟩,by rw[e1];omega⟩,hs⟩];have ih:=lZ l c n (k+1) (acc.push k) (k+1) (by omega) (by rw[Array.size_push];omega) (av _);have hp:posN c k (l.drop k)=k::posN c (k+1) (l.drop (k+1)):=by rw[ed];conv=>lhs;unfold posN;rw[if_pos hc]
    rw[hp];rw[fT,bg]at ih;exact ih
   ·have hs:¬subAt ⟨l.toArray⟩ ⟨#[c]⟩ k=true:=by rw[sub_one,a9 hk];simpa using hc
    rw[if_neg λz=>hs z.2];have ih:=lZ l c n (k+1) acc free (by omega) (by omega) (by omega);have hp:posN c k (l.drop k)=posN c (k+1) (l.drop (k+1)):=by rw[ed];conv=>lhs;unfold posN;rw[if_neg hc]
    rw[hp];exact ih
  ·have e2:l.drop k=[]:=eM (by omega);rw[if_neg λz=>by have:=z.1.2;rw[e1]at this;omega];have ih:=lZ l c n (k+1) acc free (by omega) (by omega) (by omega);have e3:l.drop (k+1)=[]:=eM (by omega);rw[e3]at ih;rw[e2];exact ih
theorem RP(l:List Nat)(c:Nat):occurrences ⟨l.toArray⟩ ⟨#[c]⟩ 0 l.length (l.length+1)=posN c 0 l:=by rw[occ_eq];have h:=lZ l c (l.length+1) 0 #[] 0 (by omega) (by simp) (by omega);rw[List.drop_zero]at h;simpa using h
theorem xV(l:List Nat)(a b:Nat):strSub ⟨l.toArray⟩ a b=⟨((l.drop a).take (b - a)).toArray⟩:=by unfold strSub;congr 1;apply Array.ext';simp
theorem mj(c:Nat):∀l,∃h t,bh c l=h::t
 |[]=>⟨_,_,rfl⟩
 |x::r=>by
  unfold bh;split
  ·exact ⟨_,_,rfl⟩
  ·exact ⟨_,_,rfl⟩
theorem qY(l:List Nat)(c:Nat):∀(n k a:Nat),k+n=l.length->a<=k->
  partsFrom ⟨l.toArray⟩ 1 a (posN c k (l.drop k))=(⟨((l.drop a).take (k - a)++(bh c (l.drop k)).headD []).toArray⟩:Str)::(bh c (l.drop k)).tail.map λp=>⟨p.toArray⟩
 |0,k,a,hn,ha=>by
  have:l.drop k=[]:=eM (by omega);rw[this];show [strSub ⟨l.toArray⟩ a l.toArray.size]=_;rw[xV];have:k=l.length:=by omega
  subst this;simp[bh]
 |n+1,k,a,hn,ha=>by
  have hk:k < l.length:=by omega
  have ed:l.drop k=l[k]::l.drop (k+1):=cm hk;by_cases hc:l[k]=c
  ·have hp:posN c k (l.drop k)=k::posN c (k+1) (l.drop (k+1)):=by rw[ed];conv=>lhs;unfold posN;rw[if_pos hc]
   have hs:bh c (l.drop k)=[]::bh c (l.drop (k+1)):=by rw[ed];conv=>lhs;unfold bh;rw[if_pos hc]
   rw[hp,hs];show strSub _ a k::partsFrom _ 1 (k+1) _=_;rw[qY l c n (k+1) (k+1) (by omega) (av _),xV];obtain ⟨h,t,e⟩:=mj c (l.drop (k+1));simp[e]
  ·have hp:posN c k (l.drop k)=posN c (k+1) (l.drop (k+1)):=by rw[ed];conv=>lhs;unfold posN;rw[if_neg hc]
   have hs:bh c (l.drop k)=(l[k]::(bh c (l.drop (k+1))).headD [])::(bh c (l.drop (k+1))).tail:=by rw[ed];conv=>lhs;unfold bh;rw[if_neg hc]
   rw[hp,hs,qY l c n (k+1) a (by omega) (by omega)];have e5:(l.drop a).take (k+1 - a)=(l.drop a).take (k - a)++[l[k]]:=by rw[show k+1 - a=(k - a)+1 by omega,fm];congr 1;rw[List.getElem?_drop,show a+(k - a)=k by omega,a9 hk];rfl
   rw[e5];simp
theorem xW(c:Nat):∀l,posN c k l=[]->bh c l=[l]
 |[],_=>rfl
 |x::r,h=>by
  unfold posN at h;unfold bh;split at h
  ·cases h
  ·rename_i hx;rw[if_neg hx];have:=xW c r (k:=k+1) h;rw[this];rfl
theorem RQ(l:List Nat)(c:Nat)(hc:c < 256):Txt.split ⟨l.toArray⟩ ⟨#[c]⟩=(bh c l).map λp=>(⟨p.toArray⟩:Str):=by
 unfold Txt.split;have e1:(⟨#[c]⟩:Str).length=1:=rfl;have e2:(⟨l.toArray⟩:Str).length=l.length:=by show l.toArray.size=_;simp
 rw[e1,e2,RP];split
 ·rename_i h;have hl:l=[]:=by
   have k1:Str.strKind (⟨#[c]⟩:Str)=1:=by unfold Str.strKind;rw[if_pos (by simpa using hc)]
   have k2:1<=Str.strKind (⟨l.toArray⟩:Str):=by unfold Str.strKind;split <;> (try split) <;> omega
   rw[k1]at h;simp only[df,decide_eq_true_eq]at h;have:l.length=0:=by omega
   exact cK.mp this
  subst hl;rfl
 ·split
  ·rename_i h;have:=xW c l (k:=0) (List.isEmpty_iff.mp h);rw[this];rfl
  ·rw[partsBetween_eq];have h:=qY l c l.length 0 0 (by omega) (av _);rw[List.drop_zero]at h;rw[h];obtain ⟨p,t,e⟩:=mj c l;simp[e]
theorem split_len(c:Nat):∀(l:List Nat)(p:List Nat),p∈bh c l->p.length<=l.length
 |[],p,h=>by rw[a8.mp h];exact av _
 |x::r,p,h=>by
  obtain ⟨q,t,e⟩:=mj c r;have ih:=split_len c r;unfold bh at h;rw[e]at h ih;split at h
  ·rcases bb.mp h with z |z
   ·rw[z];simp
   ·have:=ih p z;simp;omega
  ·rcases bb.mp h with z |z
   ·rw[z];have:=ih q (aT ..);simpa using this
   ·have:=ih p (bo _ z);simp;omega
theorem xX(c:Nat):∀l:List Nat,(bh c l).length<=l.length+1
 |[]=>av _
 |x::r=>by
  have ih:=xX c r;obtain ⟨q,t,e⟩:=mj c r;unfold bh;split
  ·simpa using ih
  ·rw[e]at ih ⊢;simp at ih ⊢;omega
end RF
namespace L2
open PySem PySem.Spec PyProof.Rows
section
variable {X:Cx}
def RT(C:Addr)(ta:TA):TE:=λσ H Q=>ta σ H λvs H1=>vs.length<=sizeLine/\∀a o,H1 a=none->o.cls=.ref C->Q (.ref a) (upd H1 a (.frz o (.own a)))
theorem RV{x:Str}{C:Addr}{np cpos:Pos}{e:Expr}{es:List Expr}{ta:TA}(hex:X.ex=[])(hg:Gl X x)(hm:X.mg x=some (.ref C))(hb:eN X.K C=true)(hk:PySem.W.keepIn X.K (.ref C)=true)(ha:PA X (e::es) ta)
  (hdb:(x==("__debug__":Str))=false:=by decide) (he:starEach (e::es) X.env=(false,eval e X.env)::starEach es X.env:=by rfl) (hpl:(backTo cpos (starEach es X.env)).any (·.1)=false:=by rfl):
  PE X (.Call (.Name x np) (e::es) [] cpos) (RT C ta):=by
 intro pins s σ H Q I h;obtain ⟨bm,N,nm,q0,bs,hd,sn,sub,ab,col,dd,k0,k1,k2,k3,k5,mN,b1,b2,b3,b4⟩:=(QZ I.ok.mod.kin hb hm:OwnClsQ x C veM "ValueError.__new__" X.mg X.base).own.obj;refine ia (qx I hg hm ?_ hdb);refine PySem.W.callWith_K (h₀:=X.base) I.ok.mod.kin hk (thn (ha cpos pins s σ H _ I h) λus s1 hy=>?_) he hpl;obtain ⟨vs,H1,I1,r,hl,q⟩:=hy;refine ⟨I1.kIn,?_⟩;have c1:=I1.bk _ _ b1;have c2:=xJ I1.bk b2;have c4:=Q0 I1.bk b4;have hl':us.length<=sizeLine:=by rw[<-r.length];exact hl
 have fin:∀h' a,s1.heap.MadeExcOf h' a (.ref C) us->EP X pins σ Q (.ref a) { s1 with heap:=h' }:=λh' a m=>by
  have J:Inv X pins σ H1 { s1 with heap:=h' }:=I1.kept (t':=s1.toks) m.keeps;obtain ⟨t,e,_,_⟩:=m.there;have n1:X.s₀.heap.get? a=none:=by
   cases e:X.s₀.heap.get? a with
   |none=>rfl
   |some o=>
    obtain ⟨o',e'⟩:=I1.base.there a o e (by rw[hex];simp);rw[m.new]at e';cases e'
  have hH:=I1.hok.gone m.new;refine ⟨.ref a,_,J.tell n1 hH e rfl (λp hp ee=>?_),rfl,q a _ hH rfl⟩;have:=I1.pin p hp;rw[ee]at this;rw[m.new]at this;simp at this
 obtain ⟨hp,g,d,t,os⟩:=s1;exact wpAny_call_exc_subT F.excBase_ValueError c4 c1 c2 b3 fin hl'
end
section
variable {prog:Program} {w:World} {A:Around} {E:Value->Shared->Prop} {h:Heap} {g:Array GenState} {d:Drawn} {t:Nat} {os:OsState}
variable {nm q:Str} {C N fI:Addr} {oI:Obj} {us bs bm bB:List Value} {hd:Bool} {sn:List Str} {sub:List Value} {ab:Bool} {col:Option Bool} {dd:Option Addr} {k0 k1 k2 k3 k5:Option Value} {B nw ini:String}
noncomputable def exH (h:Heap) (C:Addr) (us:List Value):Heap:=(h.push ⟨.type "tuple",none,.seq us.toArray 0,#[]⟩).push ⟨.ref C,none,.fields #[.ref h.objs.size,.none,.none,.none,.bool false,.none],#[]⟩
theorem jq{b:Addr}{o:Obj}(e:h.get? b=some o):(exH h C us).get? b=some o:=ah _ (ah _ e)
theorem xY:(exH h C us).get? (h.objs.size+1)=some ⟨.ref C,none,.fields #[.ref h.objs.size,.none,.none,.none,.bool false,.none],#[]⟩:=by
 unfold exH
 heap_get
theorem RW {m:Str->Option Value} {Q:Fin->Shared->Prop} (F:ExcBaseFacts B nw ini bB) (T:OwnTail h bB bm) (hC:h.get? C=some (excClassObj nm q C N bs bm hd sn sub ab col dd k0 k1 k2 k3 k5 nw)) (hn:h.Ns N m) (hi:m "__init__"=some (.ref fI))
  (hf:h.get? fI=some oI) (hfc:oI.cls=.type "function") (hl:us.length<=sizeLine)
  (hq:wpAny (model prog w) A (call (.ref fI) (.ref (h.objs.size+1)::us)) (λr s'=>r=.none/\Q (.done (.ret (.ref (h.objs.size+1)))) s') E ⟨exH h C us,g,d,t,os⟩):
  wpAny (model prog w) A (Builtin.«type.__call__» ⟨.ref C::us,[]⟩) Q E ⟨h,g,d,t,os⟩:=by
 repeat (first |with_reducible refine wpAny_madeBy_exc hC ?_ |with_reducible refine ij hC ?_ |wp_step)
 refine codeAny_call_builtin_code (Code.quiet_builtin _ F.quiet) (wpAny_check_new_subT F T hC (codeAny_exc_new_subT F T hC ?_ hl));have c1:=jq (C:=C) (us:=us) hC;have c2:(exH h C us).Ns N m:=hn.keeps λ_ _=>jq;have c3:=T.keeps (h':=exH h C us) λ_ _=>jq;have c4:=xY (h:=h) (C:=C) (us:=us);have c5:=jq (C:=C) (us:=us) hf;have hin:(Value.ref C::bm).contains (.ref C)=true:=by simp
 change wpAny _ _ _ _ _ ⟨exH h C us,g,d,t,os⟩;unfold isInstance;repeat (first | (with_reducible refine wpAny_isSubtype_exc c1 ?_;rw[hin]) |with_reducible refine ij c4 ?_ |wp_step)
 change wpAny _ _ (typeLookup (.ref C) _) _ _ _;refine wpAny_typeLookup_tail c1 c2 c3 F.mroIs F.init.lookup ?_;rw[hi];refine cq (ae ?_);unfold bindSpecial;refine ae (wpAny_typeOf (T:="function") ⟨_,c5,hfc⟩ ?_);rw[if_pos (by decide)];refine am (ae (cr hq (λr s' hr=>?_) λ_ _ z=>z));obtain ⟨rfl,z⟩:=hr;wp_walk
 exact z
end
section
variable {prog:Program} {w:World} {A:Around} {E:Value->Shared->Prop} {h:Heap} {g:Array GenState} {d:Drawn} {t:Nat} {os:OsState}
variable {nm q:Str} {C N fI:Addr} {oI:Obj} {us bs bm bB:List Value} {hd:Bool} {sn:List Str} {sub:List Value} {ab:Bool} {col:Option Bool} {dd:Option Addr} {k0 k1 k2 k3 k5:Option Value} {B nw ini:String}
theorem RX {m:Str->Option Value} {Q:Value->Shared->Prop} (F:ExcBaseFacts B nw ini bB) (T:OwnTail h bB bm) (hC:h.get? C=some (excClassObj nm q C N bs bm hd sn sub ab col dd k0 k1 k2 k3 k5 nw)) (hn:h.Ns N m) (hi:m "__init__"=some (.ref fI))
  (hf:h.get? fI=some oI) (hfc:oI.cls=.type "function") (hl:us.length<=sizeLine)
  (hq:wpAny (model prog w) (A.under (.builtin "type.__call__" ⟨.ref C::us,[]⟩)) (call (.ref fI) (.ref (h.objs.size+1)::us)) (λr s'=>r=.none/\Q (.ref (h.objs.size+1)) s') E ⟨exH h C us,g,d,t,os⟩):
  wpAny (model prog w) A (call (.ref C) us) Q E ⟨h,g,d,t,os⟩:=by
 have f1:=tc_bind (.ref C);have f2:=tc_lookup;have f3:(⟨h,g,d,t,os⟩:Shared).TypeIs (.ref C) "type":=⟨_,hC,rfl⟩;refine wpAny_call (codeAny_of_tree ?_);change wpAny _ _ (callAny (.ref C) _) _ _ _;repeat (any_goals (first |assumption |with_reducible refine ij hC ?_ |wp_step))
 refine ⟨rfl,codeAny_call_builtin_at (Code.quiet_builtin _ (by ac_rfl)) entry_typeCall (wpAny_check_type_call_sub hC (RW F T hC hn hi hf hfc hl ?_))⟩;exact hq
end
open Builtin Builtin.ObjectAttr
open PySem.W (findIn mroIn clsIn typeIn Looks InstAt looks_findIn looks_mroIn looks_typeIn looks_clsIn takerIn takesIn hasDictIn looks_takesIn check_slot osa_eq)
noncomputable def exO(C l:Addr)(dx:Option Addr):Obj:=⟨.ref C,dx,.fields #[.ref l,.none,.none,.none,.bool false,.none],#[]⟩
section
variable {prog:Program} {w:World} {A:Around} {E:Value->Shared->Prop} {s:Shared} {x C l:Addr} {K:PF} {name:Str} {v:Value} {cd:ClassData}
theorem RZ{h:Heap}{g:Array GenState}{d:Drawn}{t:Nat}{os:OsState}{tk:Tok}{ox:Obj}{od:Option Obj}{Q:Fin->Shared->Prop}(KX:K.In h)(I:InstAt h x ox C od)(hf:PySem.W.findObj K C od name=some (.value v))(hq:Q (.done (.ret v)) ⟨h,g,d,t,os⟩):
  wpAny (model prog w) A (Builtin.«object.__getattribute__» ⟨[.ref x,.str name tk],[]⟩) Q E ⟨h,g,d,t,os⟩:=by
 have L0:=I.type (M:=model prog w);have L1:=PySem.W.looks_find (M:=model prog w) KX I hf;exact ae (am (ae (am (ae (L0.at (ae (L1.at (am hq))))))))
theorem R0{h:Heap}{g:Array GenState}{d:Drawn}{t:Nat}{os:OsState}{ox:Obj}{od:Option Obj}{expr:Bool}{Q:Value->Shared->Prop}(KX:K.In h)(xi:Xin K C)(I:InstAt h x ox C od)(hf:PySem.W.findObj K C od name=some (.value v))(hv:PySem.W.handedIn v=true)
  (hq:Q v ⟨h,g,d,t+1,os⟩):wpAny (model prog w) A (getAttr (.ref x) name expr) Q E ⟨h,g,d,t,os⟩:=by
 have hx:=I.at_;have hc:=I.cls;have L1:=looks_findIn (M:=model prog w) KX xi.ga;have L2:=looks_findIn (M:=model prog w) KX xi.g;have f3:bindSpecial (.builtin "BaseException.__getattribute__") (.ref x)=pure (.builtin "BaseException.__getattribute__",[.ref x]):=(PySem.F.excAttr_ValueError).ga.bind (.ref x);have hx2:(Value.builtin "BaseException.__getattribute__"==Value.builtin "object.__getattribute__")=false:=by ac_rfl
 have hx1:(onTheHeap (Value.ref C)&&Value.builtin "BaseException.__getattribute__"==Value.builtin "object.__getattribute__")=false:=by rw[hx2];rfl
 have ho:=PySem.W.handedOut_of hv;unfold getAttr getAttrBy;repeat (any_goals (first |assumption | (with_reducible refine ij hx ?_;rw[hc]) |with_reducible refine L1.at ?_ |with_reducible refine L2.at ?_ |wp_step))
 rw[show (expr&&onTheHeap (Value.builtin "BaseException.__getattribute__"))=false from hX _,if_neg (by decide)];repeat (any_goals (first |assumption |wp_step))
 refine codeAny_call_builtin (by ac_rfl) F.entry_bexc_ga (Q4 KX xi hx hc (RZ KX I hf ?_));repeat (any_goals (first |assumption |wp_step))
end
open PySem.W (findIn mroIn clsIn typeIn takerIn specialIn findCls readsIn)
def xZ(f:Addr):Option Value->Bool
 |some (.ref a)=>a==f
 |_=>false
noncomputable def qZ(K:PF)(N f:Addr):Bool:=match K.lookup N with
 |some ⟨_,_,.dict es _,_⟩=>es.toList.all (λe=>lY e.key)&&xZ f (nsFind es "__init__")
 |_=>false
theorem R1 {K:PF} {N f:Addr} {h:Heap} (KX:K.In h) (b:qZ K N f=true):∃m,h.Ns N m/\m "__init__"=some (.ref f):=by
 unfold qZ at b;split at b
 ·rename_i c d es ep sl e;rw[af,ci]at b;refine ⟨nsFind es,⟨_,es,ep,KX _ _ e,rfl,λx hx=>?_,λ_=>rfl⟩,?_⟩
  ·have:=b.1 x (Array.mem_toList_iff.mpr hx);unfold lY at this;split at this
   ·rename_i y t e;exact ⟨_,_,e⟩
   ·cases this
  ·have h2:=b.2;unfold xZ at h2;split at h2
   ·rename_i a ea;rw[aE]at h2;rw[ea,h2]
   ·cases h2
 ·cases b
noncomputable def jr(K:PF)(C f:Addr):Bool:=match K.lookup C with
 |some ⟨ty,_,.cls cd,⟨[_,_,_,_,k,_]⟩⟩=>jo ty&&isNew k&&qZ K cd.ns f&&!cd.hasDel&&(match cd.mro with |v::tl=>isRef C v&&jn K tl |[]=>false)
 |_=>false
def R3 (h:Heap) (C f:Addr):Prop:=∃nm q N bs bm hd sn sub ab col dd k0 k1 k2 k3 k5 m,h.get? C=some (excClassObj nm q C N bs bm hd sn sub ab col dd k0 k1 k2 k3 k5 "ValueError.__new__")/\h.Ns N m/\m "__init__"=some (.ref f)/\OwnTail h veM bm
theorem R5{K:PF}{C f:Addr}{h:Heap}(KX:K.In h)(b:jr K C f=true):R3 h C f:=by
 unfold jr at b;split at b
 ·rename_i ty dd cd k0 k1 k2 k3 k k5 e;simp only[af]at b;obtain ⟨⟨⟨⟨b1,b2⟩,b3⟩,b5⟩,b4⟩:=b;obtain ⟨m,hns,hq⟩:=R1 KX b3;have e1:ty=.type "type":=by
   unfold jo at b1;split at b1
   ·rw[aE]at b1;rw[b1]
   ·cases b1
  have e2:k=some (.builtin "ValueError.__new__"):=by
   unfold isNew at b2;split at b2
   ·rw[aE]at b2;rw[b2]
   ·cases b2
  obtain ⟨nm,bs,mro,ns,q,hd,sn,sub,ab,col,del⟩:=cd;dsimp only at b4 hns b5;have e4:del=false:=by simpa using b5
  subst e4;split at b4
  ·rename_i v tl;rw[af]at b4;have e3:v=.ref C:=by
    have:=b4.1;unfold isRef at this;split at this
    ·rw[aE]at this;rw[this]
    ·cases this
   subst e1 e2 e3;exact ⟨nm,q,ns,bs,tl,hd,sn,sub,ab,col,dd,k0,k1,k2,k3,k5,m,KX _ _ e,hns,hq,(qR KX b4.2).tail⟩
  ·cases b4
 ·cases b
def fO(e C l:Addr)(dx:Option Addr):Heap->Prop:=λh=>h.get? e=some (exO C l dx)
theorem R6{P:Program}{w:World}{H:Hp}{h:Heap}{e C l:Addr}{dx:Option Addr}(he:h.get? e=some (exO C l dx)):ObjOk P w H h e (.ext (fO e C l dx)):=
 ⟨he,⟨_,he⟩,λh1 h2 a k=>k _ a⟩
theorem R7{h:Heap}{C:Addr}{us:List Value}:(exH h C us).get? (h.objs.size+1)=some (exO C h.objs.size none):=xY
section
variable {X:Cx} {CX:CXT} {k:Nat} {f C:Addr} {fd:FuncData} {ps:List Str} {sp:Sp} {E:XK} {x:Str} {p pos apos:Pos} {e:Expr} {es:List Expr} {t:TA}
theorem R8 {pins:List (Addr×Obj)} {σ:St} {H:Hp} {s:Shared} {Q:VK} {us:List Value} {vs:List V} (hC:jr X.K C f=true) (hfn:typeIn X.K (.ref f)=some (.type "function")) (F0:FnOk X.prog X.w X.K X.mg X.base CX k f fd ps sp) (hr:Room (k+1) X.A) (hb:Binds X.K fd ps [])
  (hx:gw CX X E) (I:Inv X pins σ H s) (r:Vals vs us) (hl:us.length<=sizeLine)
  (h:∀a l,H a=none->sp (.ref a::vs) (upd H a (.ext (fO a C l none))) (λv H2=>v=.non/\Q (.ref a) H2) E):
  wpAny (model X.prog X.w) X.A (call (.ref C) us) (EP X pins σ Q) X.xe s:=by
 obtain ⟨nm,q,N,bs,bm,hd,sn,sub,ab,col,dd,k0,k1,k2,k3,k5,m,a1,a2,a3,a4⟩:=R5 I.kIn hC;have hq:=h (s.heap.objs.size+1) s.heap.objs.size (I.hok.fresh (eh _));have kp:∀b o,s.heap.get? b=some o->(exH s.heap C us).get? b=some o:=λb o e=>jq e;have I2:Inv X pins σ (upd H (s.heap.objs.size+1) (.ext (fO (s.heap.objs.size+1) C s.heap.objs.size none))) { s with heap:=exH s.heap C us,toks:=s.toks }:=I.laid (t':=s.toks) kp (eh _) (R6 R7);have r2:Vals (V.ref (s.heap.objs.size+1)::vs) (Value.ref (s.heap.objs.size+1)::us):=.cons rfl r;have hlen:(Value.ref (s.heap.objs.size+1)::us).length=ps.length:=by have e:=r2.length;rw[F0.len _ _ _ _ hq]at e;exact e.symm
 have hb2:=hb _ (Value.ref (s.heap.objs.size+1)::us) I2.kIn (by rw[g6];exact hlen);rw[g6]at hb2;obtain ⟨of,hof,hfc⟩:∃o,s.heap.get? f=some o/\o.cls=.type "function":=by obtain ⟨o,eo,ec⟩:=bS.mp (show (X.K.lookup f).map (·.cls)=some (.type "function") from hfn);exact ⟨o,I.kIn _ _ eo,ec⟩
 obtain ⟨hp,g,d,tk,os⟩:=s;refine RX (h:=hp) F.excBase_ValueError a4 a1 a2 a3 hof hfc hl ?_;refine wpAny_call (codeAny_mono (F0.run _ X.stack _ _ ⟨Value.ref (hp.objs.size+1)::us,[]⟩ (Value.ref (hp.objs.size+1)::us) _ _ E (hr.make C us [])
  (I2.env0.make C us []) hb2 r2 hq) λr s' hq'=>?_)
 cases r with
 |error e=>exact hx pins σ _ _ e s' I2 hq'
 |ok fl=>
  cases fl with
  |ret u=>
   obtain ⟨v,H',I3,rv,ev,q3⟩:=I2.after hq';subst ev;exact ⟨rv,⟨V.ref (hp.objs.size+1),H',I3,rfl,q3⟩⟩
  |next=>exact False.elim hq'
  |brk=>exact False.elim hq'
  |cont=>exact False.elim hq'
theorem R9 (hC:jr X.K C f=true) (hfn:typeIn X.K (.ref f)=some (.type "function")) (hk:PySem.W.keepIn X.K (.ref C)=true) (F0:FnOk X.prog X.w X.K X.mg X.base CX k f fd ps sp) (hr:Room (k+1) X.A) (hg:Gl X x) (hm:X.mg x=some (.ref C)) (hb:Binds X.K fd ps []) (hx:gw CX X E)
  (ha:PA X (e::es) t) (hdb:(x==("__debug__":Str))=false:=by decide) (he:starEach (e::es) X.env=(false,eval e X.env)::starEach es X.env:=by rfl) (hpl:(backTo pos (starEach es X.env)).any (·.1)=false:=by rfl):
  PE X (.Call (.Name x p) (e::es) [] pos) (λσ H Q=>t σ H λvs H1=>vs.length<=sizeLine/\∀a l,H1 a=none->sp (.ref a::vs) (upd H1 a (.ext (fO a C l none))) (λv H2=>v=.non/\Q (.ref a) H2) E):=by
 intro pins s σ H Q I h;refine ia (qx I hg hm ?_ hdb);refine PySem.W.callWith_K (h₀:=X.base) I.ok.mod.kin hk (thn (ha pos pins s σ H _ I h) λus s1 ⟨vs,H1,I1,r,hl,q⟩=>⟨I1.kIn,?_⟩) he hpl;exact R8 hC hfn F0 hr hb hx I1 r (by show us.length<=sizeLine;rw[<-r.length];exact hl) q
theorem Sd{o:Expr}{ta:TE}{g:Str}(he:PE X o ta)(hb:attributeBase o g X.env (eval o X.env)=eval o X.env):
  PE X (.Attribute o g pos) (λσ H Q=>ta σ H λx H1=>∃a C dx ob od y v,x=.ref a/\H1 a=some (.frz ob y)/\ob.cls=.ref C/\ob.dict=some dx/\PySem.W.notCls ob=true/\H1 dx=some (.frz od (.xd [(g,v)]))/\
   ik X.K C=true/\PySem.W.hasDictIn X.K C=true/\findIn X.K (.ref C) g=some none/\Q v H1):=by
 intro pins s σ H Q I h;refine Ow hb (thn (he pins s σ H _ I h) λu s1 ⟨x,H1,I1,rx,a,C,dx,ob,od,y,v,ex,ea,hc,hd,hn,ed,x1,x2,x3,q⟩=>?_);subst ex;obtain rfl:u=Value.ref a:=rx;have ha:s1.heap.get? a=some ob:=(show ObjOk X.prog X.w H1 s1.heap a (.frz ob y) from I1.hok a _ ea).1;obtain ⟨hdx,mA,hns,rl⟩:=(show ObjOk X.prog X.w H1 s1.heap dx (.frz od (.xd [(g,v)])) from I1.hok dx _ ed);have rg:=rl g;rw[show List.lookup g [(g,v)]=some v by simp[List.lookup]]at rg;obtain ⟨u',hu,ru⟩:=RelO.some_of (v:=v) (o:=mA g) rg;have J:PySem.W.InstAt s1.heap a ob C (some od):=⟨ha,hc,hn,by rw[hd];exact hdx⟩;obtain ⟨od',ho',hl'⟩:=wy hns;have eo:od'=od:=by rw[hdx]at ho';exact (bP ho').symm
 subst eo;have hl:PySem.W.lookIn g od'=some (some u'):=by rw[hl' g,hu]
 obtain ⟨hp,gg,dd,tk,os⟩:=s1;exact R0 I1.kIn (Q3 x1) J (PySem.W.findObj_own x2 x3 rfl hl) (Ot ru) ⟨v,H1,I1.tok _,ru,q⟩
end
theorem Sg(t:SetTable)(es:Array (Int×Value))(h:Int)(x:Value):(layNew t es h x).2.1.led=t.led:=by
 unfold layNew;split
 ·unfold SetTable.orStandIn;dsimp only;split <;> rfl
 ·rfl
theorem Sh(t:SetTable)(es:Array (Int×Value))(n:Nat):(relayAll t es n).2.1.led=t.led/\((relayAll t es n).2.1.plain=true->t.plain=true):=by
 unfold relayAll;split
 ·rename_i t' order e;dsimp only;unfold SetTable.relaid SetTable.laid at e;split
  ·cases hc:SetTable.layClean (SetTable.sizeAbove n - 1) (es.map (·.1)) with
   |none=>rw[hc]at e;cases e
   |some ow=>rw[hc]at e;cases e;exact ⟨rfl,λz=>z⟩
  ·exact ⟨rfl,λz=>nomatch (show false=true from z)⟩
 ·exact ⟨rfl,λz=>nomatch (show false=true from z)⟩
def isTx(prog:Program)(w:World)(e:Int×Value):Prop:=∃k tk,e=((strKind prog w).hash k,.str k tk)
def gA(e:Int×Value):Str:=match e.2 with |.str k _=>k |_=>⟨#[]⟩
def SetL(prog:Program)(w:World)(h:Heap)(a:Addr)(ks:List Str)(L:Bool):Prop:=
 ∃es ep t,h.get? a=some ⟨.type "set",none,.set es ep t,#[]⟩/\(∀e∈es.toList,isTx prog w e)/\(es.toList.map gA).Perm ks/\es.size < scanBound/\t.fits es.size=true/\t.led=L/\(t.plain=true->es.size=0)
theorem isTx.el{prog:Program}{w:World}{l:List (Int×Value)}(h:∀e∈l,isTx prog w e):ElemsOf (strKind prog w) l:=λe he=>by
 obtain ⟨k,tk,rfl⟩:=h e he;exact ⟨⟨k,strKind_is prog w k tk,rfl⟩,rfl⟩
theorem isTx.is{prog:Program}{w:World}{e:Int×Value}(h:isTx prog w e)(k:Str):(strKind prog w).is k e.2=decide (gA e=k):=by obtain ⟨k',tk,rfl⟩:=h;have:=KeyKind.is_eq_decide (knd:=strKind prog w) (strKind_is prog w k' tk) k;rw[this];show decide (k=k')=decide (k'=k);rw[gu,ck,ck];exact eq_comm
section
variable {prog:Program} {w:World} {A:Around} {E:Value->Shared->Prop} {s:Shared} {a:Addr} {ks:List Str} {L:Bool} {k:Str} {tk:Tok}
def putK(ks:List Str)(k:Str):List Str:=if k∈ks then ks else ks++[k]
theorem SetL.store {h:Heap} {es es':Array (Int×Value)} {ep:Nat} {t t':SetTable} (ho:h.get? a=some ⟨.type "set",none,.set es ep t,#[]⟩):
  (h.update a (Obj.putSet es' t')).get? a=some ⟨.type "set",none,.set es' (ep+1) t',#[]⟩:=by
 have:=gc (Obj.putSet es' t') ho (by rw[putSet_of es' t' rfl];rfl);rw[putSet_of es' t' rfl]at this;exact this
theorem Sq{Q:Bool->Shared->Prop}(hS:SetL prog w s.heap a ks L)(hr:ks.length+1 < scanBound)
  (h:∀h' b,Heap.SameBut a s.heap h'->SetL prog w h' a (putK ks k) L->Q b { s with heap:=h' }):
  wpAny (model prog w) A (setAddHashed a (.str k tk) ((strKind prog w).hash k)) Q E s:=by
 obtain ⟨es,ep,t,ho,hel,hp,hb,hf,hL,hpl⟩:=hS;have hE:=isTx.el hel;have hn:es.size=ks.length:=by rw[<-hp.length_eq,ax,bn]
 have hsc:(Value.str k tk).scannable=true:=rfl;have hkey:=strKind_is prog w k tk;unfold setAddHashed setAddHashedIn;refine cq (ae (fw ho rfl hf ?_));dsimp only;rw[byScan_of hsc hb hE];simp only[↓reduceIte];unfold setAddByScan;refine ae ?_;refine ae (et ?_);refine ae (wpAny_setScan_of hkey ho rfl hf hE ?_);cases hr':List.findIdx? (λe=>(strKind prog w).is k e.2) es.toList with
 |some j=>
  dsimp only;obtain ⟨hj,hpj,_⟩:=List.findIdx?_eq_some_iff_getElem.mp hr';have hin:k∈ks:=by have hm:=List.getElem_mem hj;rw[(hel _ hm).is k,ck]at hpj;exact hp.mem_iff.mp (cy.mpr ⟨_,hm,hpj⟩)
  refine am (am ?_);have e:s={ s with heap:=s.heap }:=by cases s;rfl
  have q:=h s.heap false (Heap.SameBut.refl a s.heap) (by unfold putK;rw[if_pos hin];exact ⟨es,ep,t,ho,hel,hp,hb,hf,hL,hpl⟩);rw[e];exact q
 |none=>
  dsimp only;have hnin:k∉ks:=λhin=>by
   obtain ⟨e,he,ek⟩:=cy.mp (hp.mem_iff.mpr hin);have:=List.findIdx?_eq_none_iff.mp hr' e he;rw[(hel e he).is k,fe ek]at this;cases this
  have hgw:∀(b:Bool) {s₁:Shared} {Q':Unit->Shared->Prop},Q' () s₁->wpAny (model prog w) A (match b with |true=>rule "set.scan.the-table-gave-way" |false=>pure ()) Q' E s₁:=
   λb s₁ Q' hq=>by cases b <;> first |exact am hq |exact et hq
  have hperm:=layNew_perm t es ((strKind prog w).hash k) (.str k tk);have hfits:=layNew_fits t es ((strKind prog w).hash k) (.str k tk);have hled:=Sg t es ((strKind prog w).hash k) (.str k tk);generalize hLy:layNew t es ((strKind prog w).hash k) (.str k tk)=Ly at hperm hfits hled ⊢;obtain ⟨es1,t1,wd,gv⟩:=Ly;dsimp only at hperm hfits hled ⊢;rw[fT]at hperm;have hel1:∀e∈es1.toList,isTx prog w e:=λe he=>by
   rcases cf.mp (hperm.mem_iff.mp he) with z |z
   ·exact hel e z
   ·rw[a8.mp z];exact ⟨k,tk,rfl⟩
  have hp1:(es1.toList.map gA).Perm (putK ks k):=by unfold putK;rw[if_neg hnin];refine (hperm.map gA).trans ?_;rw[List.map_append];exact hp.append_right [k]
  have hz1:es1.size=ks.length+1:=by rw[<-bn,hperm.length_eq,bd,bn,hn];rfl
  have hb1:es1.size < scanBound:=by omega
  refine ae (hgw _ ?_);have tail:∀t2:SetTable,t2.fits es1.size=true->t2.led=L->t2.plain=false->wpAny (model prog w) A (do
    storeSet a es1 t2
    if (!wd&&t2.tooFull)=true then do
      (match (relayAll t2 es1 (SetTable.grown es1.size)).2.2 with |true=>rule "set.scan.the-table-gave-way" |false=>pure ())
      storeSet a (relayAll t2 es1 (SetTable.grown es1.size)).1 (relayAll t2 es1 (SetTable.grown es1.size)).2.1
      pure (some true)
     else pure (some true)) (λo s'=>o=some true/\∃h',s'={ s with heap:=h' }/\Heap.SameBut a s.heap h'/\SetL prog w h' a (putK ks k) L) E s:=by
   intro t2 f2 l2 p2;refine ae (wpAny_storeSet_of ho rfl ?_ (fits_of_scanBound hb1));have g1:=SetL.store (es':=es1) (t':=t2) ho;have sb1:=b9 s.heap a (Obj.putSet es1 t2);split
   ·have rp:=relayAll_perm t2 es1 (SetTable.grown es1.size);have rf':=relayAll_fits t2 es1 (SetTable.grown es1.size);have rl:=Sh t2 es1 (SetTable.grown es1.size);generalize relayAll t2 es1 (SetTable.grown es1.size)=Rl at rp rf' rl ⊢;obtain ⟨es2,t3,gv2⟩:=Rl;dsimp only at rp rf' rl ⊢;have hz2:es2.size=es1.size:=by rw[<-bn,rp.length_eq,bn]
    refine ae (hgw _ ?_);refine ae (wpAny_storeSet_of g1 rfl ?_ (fits_of_scanBound (by rw[hz2];exact hb1)));have g2:=SetL.store (es':=es2) (t':=t3) g1;refine am ⟨rfl,_,rfl,sb1.trans (b9 _ a _),es2,_,t3,g2,λe he=>hel1 e (rp.mem_iff.mp he),(rp.map gA).trans hp1,by rw[hz2];exact hb1,rf',rl.1.trans l2,λz=>?_⟩;rw[p2]at rl;cases rl.2 z
   ·exact am ⟨rfl,_,rfl,sb1,es1,_,t2,g1,hel1,hp1,hb1,f2,l2,λz=>by rw[p2]at z;cases z⟩
  split
  ·refine ae ?_;rw[hashByValue_scannable 8 hsc];refine am ?_;refine cr (tail { t1 with plain:=false } (SetTable.fits_plain_off hfits) (hled.trans hL) rfl) (λo s' z=>?_) λ_ _ z=>z;obtain ⟨rfl,h',rfl,sb,sl⟩:=z;exact am (h h' true sb sl)
  ·rename_i hnp;refine ae (am ?_);simp only[↓reduceIte];refine cr (tail t1 hfits (hled.trans hL) (by simpa using hnp)) (λo s' z=>?_) λ_ _ z=>z;obtain ⟨rfl,h',rfl,sb,sl⟩:=z;exact am (h h' true sb sl)
end
def met(val:Nat->Str)(i:Nat):List Str:=(List.range i).foldl (λks j=>putK ks (val j)) []
theorem q8(val:Nat->Str)(i:Nat):met val (i+1)=putK (met val i) (val i):=by unfold met;rw[List.range_succ,List.foldl_append];rfl
theorem Ss(ks:List Str)(k:Str):(putK ks k).length<=ks.length+1:=by
 unfold putK;split
 ·omega
 ·rw[bd];exact av _
theorem yc(val:Nat->Str):∀i,(met val i).length<=i
 |0=>av _
 |i+1=>by
  rw[q8];have:=Ss (met val i) (val i);have:=yc val i;omega
def bK (w:World):Bool:=w.params.followText "set-order"
section
variable {prog:Program} {w:World} {A:Around} {E:Value->Shared->Prop} {R:Result->Shared->Prop} {I:Addr} {fp wr:List Addr} {GG:Array GenState->Array GenState->Prop} {n:Nat} {P:Nat->Value->Prop} {St:Nat->Shared->Prop} {L:Bool}
theorem Su(W:WalksS prog w A.in1 I fp wr GG n P St)(S:Addr)(hSf:S∉fp)(val:Nat->Str)(hval:∀i v,P i v->∃t,v=.str (val i) t)(hb:n+1 < scanBound):
  ∀(j i:Nat)(s:Shared),n - i=j->i<=n->St i s->SetL prog w s.heap S (met val i) L->
   (∀s',Moved (S::wr) GG s s'->SetL prog w s'.heap S (met val n) L->R (.ok (.ret .none)) s')->
   codeAny (model prog w) A (.builtin "set.update.loop" ⟨[.ref S,.ref I],[]⟩) R s:=by
 have hSw:S∉wr:=λh=>hSf (W.sub _ h);have sub:∀b∈wr,b∈S::wr:=λb hb=>bo _ hb;have keepS:∀{s s':Shared}{ks:List Str},Moved wr GG s s'->SetL prog w s.heap S ks L->SetL prog w s'.heap S ks L:=λm hS=>by
  obtain ⟨es,ep,t,ho,r⟩:=hS;exact ⟨es,ep,t,m.heap S _ hSw ho,r⟩
 intro j;induction j with
 |zero=>
  intro i s hj hi st hS hR;obtain rfl:i=n:=by omega
  refine hZ PyProof.Rows.F.entry_set_update_loop ?_;rw[g0 gN _];show wpAny _ A.in1 (pyNext (.ref I) >>= _) _ _ s;refine ae (W.done s _ _ st λs' m=>?_);show wpAny _ A.in1 (ret Value.none) _ _ s';exact am (hR s' (m.mono sub) (keepS m hS))
 |succ j ih=>
  intro i s hj hi st hS hR;have hlt:i < n:=by omega
  refine hZ PyProof.Rows.F.entry_set_update_loop ?_;rw[g0 gN _];show wpAny _ A.in1 (pyNext (.ref I) >>= _) _ _ s;refine ae (W.item i s _ _ hlt st λv s' hP st' m=>?_);obtain ⟨t,rfl⟩:=hval i v hP;have hS':=keepS m hS;show wpAny _ A.in1 (holding [Value.str (val i) t] (setAdd S (.str (val i) t)) >>= _) _ _ s';refine ae (cq ?_);unfold setAdd;refine cq ?_;refine ae ((strKind prog w).pyHash (k:=val i) (strKind_is prog w _ _) ?_);have hroom:(met val i).length+1 < scanBound:=by have:=yc val i;omega
  refine Sq (s:={ s' with toks:=s'.toks+1 }) hS' hroom λh' b sb hS2=>?_;rw[<-q8]at hS2;refine am ⟨plainId_quiet gN _,ih (i+1) _ (by omega) hlt (W.frame _ s' _ _ st' (eh _) λb hb o e=>?_) hS2 λs'' m'' hS''=>?_⟩
  ·rw[sb.2 b (λh:b=S=>hSf (by rw[<-h];exact hb))];exact e
  ·refine hR s'' (Moved.trans W.gtrans ((m.mono sub).then_heap (eh _) λb o hb e=>?_) m'') hS'';rw[sb.2 b (λh:b=S=>hb (by rw[h];exact aT))];exact e
end
section
variable {prog:Program} {w:World} {A:Around} {E:Value->Shared->Prop} {s:Shared}
def dq (w:World):Obj:={ cls:=.type "set",dict:=none,data:=.set #[] 0 (.fresh 0 0 (!bK w)) }
theorem Sv(a:Value){Q₁:Value->Shared->Prop}(h:Q₁ (.ref s.heap.objs.size) { s with heap:=s.heap.push (dq w) }):
  codeAny (model prog w) A (.call (.builtin "set.__new__") ⟨[.type "set",a],[]⟩) (wants Q₁ E) s:=by
 refine codeAny_of_tree ?_;show wpAny _ A.in1 (do checkBuiltinCall "set.__new__" ⟨[.type "set",a],[]⟩;again (.builtin "set.__new__" ⟨[.type "set",a],[]⟩)) _ _ s;refine ae (wpAny_of_eq (PySem.F.newCall_set_1 a) (am ⟨plainId_quiet PySem.F.plain_set_new _,hZ PySem.F.entry_set_new ?_⟩));rw[g0 PySem.F.plain_set_new _];unfold Builtin.«set.__new__» Builtin.Frozenset.newClass;have hsub:=sub_set_self;obtain ⟨hp,g,d,tk,os⟩:=s;dsimp only;wp_walk
 refine wpAny_askSetting (am ?_);dsimp only;simp only[newObj];refine ae (wpAny_alloc (am ?_));exact am h
theorem Sw{l:Addr}{items:Array Value}{val:Nat->Str}{Q:Value->Shared->Prop}(hh:A.handled=none)(hl:s.heap.IsList l items)(hv:∀(i:Nat)(v:Value),items[i]?=some v->∃t,v=Value.str (val i) t)(hb:items.size+1 < scanBound)
  (h:∀(h':Heap)(tk:Nat),SetL prog w h' s.heap.objs.size (met val items.size) (!bK w)->(∀b o,b < s.heap.objs.size->s.heap.get? b=some o->h'.get? b=some o)->Q (.ref s.heap.objs.size) { s with heap:=h',toks:=tk }):
  wpAny (model prog w) A (call (.type "set") [.ref l]) Q E s:=by
 obtain ⟨c,tl,hmro⟩:=e8.mro;have hmade:=e8.made;have hsub:=e8.sub;refine wpAny_call (codeAny_of_tree ?_);show wpAny _ _ (callAny (.type "set") _) _ _ _;refine am ⟨Code.quiet_builtin _ (by ac_rfl),hZ PySem.F.entry_type_call ?_⟩;rw[Around.under_plain (weight_type_call_type "set" [.ref l] []) rfl];have h1:=e8.notType;have h2:=e8.canCreate;have hct:=PySem.F.typeCall_set_1 (.ref l);repeat (any_goals (first |assumption |wp_step))
 refine codeAny_mono (Sv (.ref l) (E:=E) (Q₁:=λobj s₁=>obj=.ref s.heap.objs.size/\s₁={ s with heap:=s.heap.push (dq w) }) ⟨rfl,rfl⟩) λr s₁ hr=>?_;cases r with
 |error e=>exact hr
 |ok fl=>
  cases fl with
  |ret obj=>
   obtain ⟨rfl,rfl⟩:=hr;have hS:(s.heap.push (dq w)).get? s.heap.objs.size=some (dq w):=aI _ rfl;have hT:Shared.TypeIs { s with heap:=s.heap.push (dq w) } (.ref s.heap.objs.size) "set":=⟨_,hS,rfl⟩;have hli:=e8.init.lookup;have hbi:=e8.init.bind (.ref s.heap.objs.size);repeat (any_goals (first |assumption |wp_step))
   refine codeAny_mono (codeAny_call_builtin (R:=wants (λr s₂=>r=.none/\∃h' tk,s₂={ s with heap:=h',toks:=tk }/\SetL prog w h' s.heap.objs.size (met val items.size) (!bK w)/\
     (∀b o,b < s.heap.objs.size->s.heap.get? b=some o->h'.get? b=some o)) E) e8.init.plain PySem.F.entry_set_init (check_set_init_1 hT ?_)) λr₂ s₂ hr₂=>?_
   ·obtain ⟨ol,hol,hcl,nl,hdl⟩:=hl;obtain ⟨ocls,odict,odata,oslots⟩:=ol;simp only at hcl hdl;subst hcl;subst hdl;have hol':(s.heap.push (dq w)).get? l=some { cls:=.type "list",dict:=odict,data:=.seq items nl,slots:=oslots }:=ah _ hol;have hsls:=PySem.F.sub_list_set;have hslf:=PySem.F.sub_list_frozenset;have hne:(Value.type "list"==Value.type "dict")=false:=by decide
    have hl1:(s.heap.push (dq w)).IsList l items:=⟨_,hol',rfl,nl,rfl⟩;unfold Builtin.«set.__init__» noKeywords Builtin.Frozenset.updateFrom;generalize hPI:pyIter=PI;unfold dq at hS;wp_walk
    subst hPI;refine wpAny_pyIter_list hl1 ?_;refine ae (wpAny_runValue ?_);have hlS:l < s.heap.objs.size:=ay hol;have hh3:A.in1.in1.in1.handled=none:=by simp[hh]
    have hneI:l≠(s.heap.push (dq w)).objs.size:=by rw[cb];exact b6 (dE hlS)
    have hSf:s.heap.objs.size∉[(s.heap.push (dq w)).objs.size,l]:=by rw[cb];simp only[bb,a8,e9,or_false,not_or];exact ⟨b6 (gl _),fb hlS⟩
    refine Su (L:=!bK w) ((Walks.list hh3 _ l hneI items).toS) s.heap.objs.size
     hSf val hv hb (items.size - 0) 0 _ (by omega) (fS _)
     ⟨⟨_,aI _ rfl,rfl,rfl⟩,(hl1.push _)⟩ ?hS0 ?hR
    case hS0=>
     have hget:=ah { cls:=.type "list_iterator",data:=.fields #[.ref l,.int 0 0] } hS;exact ⟨#[],0,.fresh 0 0 (!bK w),hget,λe he=>(nomatch he),eP _,by unfold scanBound;exact Nat.zero_lt_succ _,(by cases (!bK w) <;> rfl),rfl,λ_=>rfl⟩
    case hR=>
     intro s' hm hS';obtain ⟨h',g',d',tk',os'⟩:=s';have eg:g'=s.gens:=hm.gens;have ed:d'=s.drawn:=hm.drawn;have eo:os'=s.os:=hm.os;subst eg;subst ed;subst eo;show wpAny _ _ _ _ _ _;refine am ?_;show wpAny _ _ (ret Value.none) _ _ _;refine am ⟨rfl,h',tk',rfl,hS',λb o hb e=>?_⟩;have hb1:b≠s.heap.objs.size:=b6 hb;have hb2:b≠(s.heap.push (dq w)).objs.size:=by rw[cb];exact b6 (dE hb)
     exact hm.heap b o (by simp only[bb,a8,e9,or_false,not_or];exact ⟨hb1,hb2⟩) (ah _ (ah _ e))
   ·cases r₂ with
    |error e=>exact hr₂
    |ok fl₂=>
     cases fl₂ with
     |ret r=>
      obtain ⟨rfl,h',tk,rfl,hS',hk'⟩:=hr₂;repeat (any_goals (first |assumption |wp_step))
      exact h _ _ hS' hk'
     |_=>exact hr₂.elim
  |_=>exact hr.elim
end
theorem yd:Slot "set" "__iter__" "set.__iter__":=
 .of (owner:="set") (n:="__iter__") (by rw[typeLookup_type,builtinLookup_eq_fast];rfl') (by ac_rfl) (by ac_rfl) (by ac_rfl)
  (by first |exact .inl (by ac_rfl) |exact .inr (by ac_rfl)) (by rw[isSubtype_type];rfl')
theorem jt:Slot "set_iterator" "__next__" "set_iterator.__next__":=
 .of (owner:="set_iterator") (n:="__next__") (by rw[typeLookup_type,builtinLookup_eq_fast];rfl') (by ac_rfl) (by ac_rfl) (by ac_rfl)
  (by first |exact .inl (by ac_rfl) |exact .inr (by ac_rfl)) (by rw[isSubtype_type];rfl')
theorem ye:Slot "set_iterator" "__iter__" "set_iterator.__iter__":=
 .of (owner:="set_iterator") (n:="__iter__") (by rw[typeLookup_type,builtinLookup_eq_fast];rfl') (by ac_rfl) (by ac_rfl) (by ac_rfl)
  (by first |exact .inl (by ac_rfl) |exact .inr (by ac_rfl)) (by rw[isSubtype_type];rfl')
theorem Sy:entryFor table "set.__iter__"=some Builtin.«frozenset.__iter__»:=
 entryFor_alias (id':="frozenset.__iter__") (by rfl') rfl (by ac_rfl) (by rfl')
theorem SJ:entryFor table "set_iterator.__next__"=some Builtin.«set_iterator.__next__»:=entryFor_of_fast (by rfl')
theorem SM:entryFor table "set_iterator.__iter__"=some Builtin.«dict_keyiterator.__iter__»:=
 entryFor_alias (id':="dict_keyiterator.__iter__") (by rfl') rfl (by ac_rfl) (by rfl')
theorem SN (a:Value):argsOk "set.__iter__" ⟨[a],[]⟩:=by unfold argsOk;rfl'
theorem SQ (a:Value):argsOk "set_iterator.__next__" ⟨[a],[]⟩:=by unfold argsOk;rfl'
theorem SX (a:Value):argsOk "set_iterator.__iter__" ⟨[a],[]⟩:=by unfold argsOk;rfl'
noncomputable def siO (f:Value) (i:Nat) (S:Addr) (n ep:Nat):Obj:={ cls:=.type "set_iterator",data:=.fields #[f,rawInt i,.ref S,rawInt n,rawInt ep] }
def cW (es:Array (Int×Value)) (ep:Nat) (t:SetTable):Obj:=⟨.type "set",none,.set es ep t,#[]⟩
section
variable {prog:Program} {w:World} {A:Around} {E:Value->Shared->Prop} {s:Shared} {I S T:Addr} {es:Array (Int×Value)} {ep:Nat} {t:SetTable}
theorem ite_no{α:Type}{c:Prop}[Decidable c]{a b:Sem α}{Q:α->Shared->Prop}(hc:¬c)(h:wpAny (model prog w) A b Q E s):wpAny (model prog w) A (if c then a else b) Q E s:=by rw[if_neg hc];exact h
theorem ite_yes{α:Type}{c:Prop}[Decidable c]{a b:Sem α}{Q:α->Shared->Prop}(hc:c)(h:wpAny (model prog w) A a Q E s):wpAny (model prog w) A (if c then a else b) Q E s:=by rw[if_pos hc];exact h
theorem yf{f:Value}{i n:Nat}{Q:Value->Shared->Prop}(hi:s.heap.get? I=some (siO f i S n ep))(h:Q (.ref I) s):wpAny (model prog w) A (pyIter (.ref I)) Q E s:=by have hT:s.TypeIs (.ref I) "set_iterator":=⟨_,hi,rfl⟩;refine wpAny_pyIter_slot hT ye (eA ye hT SM ?_ (SX _));show wpAny _ _ (ret (.ref I)) _ _ s;exact am ⟨_,rfl,"set_iterator",_,hT,jt.lookup,h⟩
theorem mq{f:Value}{i:Nat}{Q:Option Value->Shared->Prop}(hi:s.heap.get? I=some (siO f i S es.size ep))(ho:s.heap.get? S=some (cW es ep t))(hf:t.fits es.size=true)
  (h:wpAny (model prog w) A.in1 (if let .int slot _:=f then do
   match <-setNext S slot.toNat i ep with
   |some (x,next)=>
    setField (.ref I) 0 (rawInt next)
    setField (.ref I) 1 (rawInt ((i:Int)+1))
    ret x
   |none=>setField (.ref I) 2 .none;raiseNew (<-newExc (.type "StopIteration") [])
   else do
   let some places <-seqItems? f |unsupported "internal:set_iterator"
   match places[i]? with
   |some (.int place _)=>
    let x <-setNextDrawn S place.toNat ep
    setField (.ref I) 1 (rawInt ((i:Int)+1))
    ret x
   |some _=>unsupported "internal:set_iterator"
   |none=>setField (.ref I) 0 (rawInt 0);setField (.ref I) 2 .none;raiseNew (<-newExc (.type "StopIteration") [])) (λfin s'=>∃v,fin=.done (.ret v)/\Q (some v) s') (λe s'=>s'.TypeIs e "StopIteration"/\Q none s') s):
  wpAny (model prog w) A (pyNext (.ref I)) Q E s:=by
 have hT:s.TypeIs (.ref I) "set_iterator":=⟨_,hi,rfl⟩;unfold pyNext;refine ae (wpAny_attempt (fy (name:=Str.ofString "__next__") hT jt
  (eA jt hT SJ ?_ (SQ _))))
 unfold Builtin.«set_iterator.__next__»;refine ae (am ?_);refine ae (wpAny_fieldsOf hi rfl ?_);dsimp only[siO,rawInt];refine ae (wpAny_setEntries_of ho rfl hf ?_);refine ite_no (by simp) ?_;refine cr h (λfin s' z=>?_) λe s' z=>?_
 ·obtain ⟨v,rfl,q⟩:=z;exact ⟨v,rfl,am q⟩
 ·exact ae (wpAny_isInstance z.1 isSubtype_stop (am z.2))
theorem yg {Q:Fin->Shared->Prop} {E':Value->Shared->Prop} (hh:A.handled=none) (h:∀e s',s'.TypeIs e "StopIteration"->(∀b o,s.heap.get? b=some o->s'.heap.get? b=some o)->s'={ s with heap:=s'.heap }->E' e s'):
  wpAny (model prog w) A (do raiseNew (<-newExc (.type "StopIteration") [])) Q E' s:=by
 refine ae ?_;simp only[newExc,newTuple];refine ae (fx ?_ (by size_fits));refine ae (m:=firstArgMember _ _) (wpAny_of_eq (a:=Value.none) (by first |rfl | (simp only[firstArgMember];rfl)) ?_);refine fx ?_ (by size_fits);simp only[raiseNew];refine ae (wpAny_handled ?_);rw[hh];refine ae (am (wpAny_throw ?_));exact h _ _ ⟨_,aI _ rfl,rfl⟩ (λb o e=>ah _ (ah _ e)) rfl
theorem my{f:Value}{i n:Nat}{h:Heap}{k:Nat}{v:Value}(hi:h.get? I=some (siO f i S n ep)):
  (h.update I (Obj.mapFields (·.setIfInBounds k v))).get? I=some { cls:=.type "set_iterator",data:=.fields (#[f,rawInt i,.ref S,rawInt n,rawInt ep].setIfInBounds k v) }:=by
 have:=gc (Obj.mapFields (·.setIfInBounds k v)) hi (Obj.isFreed_of_fields (Obj.data_mapFields rfl _));exact this
theorem S5(hh:A.handled=none)(hne:S≠I)(hf:t.fits es.size=true)(slot:Nat->Nat)(ord:Nat->Value)
  (hn:∀(i:Nat)(s:Shared)(Q:Option (Value×Nat)->Shared->Prop)(E:Value->Shared->Prop),i < es.size->s.heap.get? S=some (cW es ep t)->Q (some (ord i,slot (i+1))) s->wpAny (model prog w) A.in1 (setNext S (slot i) i ep) Q E s)
  (he:∀(s:Shared)(Q:Option (Value×Nat)->Shared->Prop)(E:Value->Shared->Prop),s.heap.get? S=some (cW es ep t)->Q none s->wpAny (model prog w) A.in1 (setNext S (slot es.size) es.size ep) Q E s):
  Walks prog w A I [I,S] [I] es.size (λi v=>v=ord i) (λi h=>h.get? I=some (siO (rawInt (slot i)) i S es.size ep)/\h.get? S=some (cW es ep t)) where
 sub:=λb hb=>by simp at hb;simp[hb]
 frame:=λ_ _ _ st hk=>⟨hk I (by simp) _ st.1,hk S (by simp) _ st.2⟩
 item:=λi s Q E hi st hQ=>by
  refine mq st.1 st.2 hf ?_;refine ae (hn i s _ _ hi st.2 ?_);dsimp only;refine ae (gt st.1 rfl (by simp) ?_);have g1:=my (k:=0) (v:=rawInt (slot (i+1))) st.1;have g1':(s.heap.update I (Obj.mapFields (·.setIfInBounds 0 (rawInt (slot (i+1)))))).get? I=some (siO (rawInt (slot (i+1))) i S es.size ep):=g1;refine ae (gt g1' rfl (by simp) ?_);have g2:=my (k:=1) (v:=rawInt ((i:Int)+1)) g1';refine am ⟨_,rfl,hQ _ _ s.toks rfl ⟨g2,?_⟩ λb o hb e=>?_⟩
  ·exact (b9 ..).extBut _ _ hne ((b9 ..).extBut _ _ hne st.2)
  ·have hb':b≠I:=λz=>hb (by simp[z]);exact (b9 ..).extBut _ _ hb' ((b9 ..).extBut _ _ hb' e)
 done:=λs Q E st hQ=>by
  refine mq st.1 st.2 hf ?_;refine ae (he s _ _ st.2 ?_);dsimp only;refine ae (gt st.1 rfl (by simp) ?_);refine yg (by simpa using hh) λe s' hT hk es'=>⟨hT,?_⟩;rw[es'];refine hQ _ s.toks λb o hb e=>?_;have hb':b≠I:=λz=>hb (by simp[z]);exact hk _ _ ((b9 ..).extBut _ _ hb' e)
 self:=λ_ _ _ _ st hQ=>yf st.1 hQ
theorem S6(hh:A.handled=none)(hne:S≠I)(hTI:T≠I)(hf:t.fits es.size=true)(ps:List Nat)(hl:ps.length=es.size)(ord:Nat->Int×Value)(ho:∀i p,ps[i]?=some p->es[p]?=some (ord i)):
  Walks prog w A I [I,S,T] [I] es.size (λi v=>v=(ord i).2) (λi h=>h.get? I=some (siO (.ref T) i S es.size ep)/\h.get? S=some (cW es ep t)/\h.get? T=some { cls:=.type "tuple",data:=.seq (ps.map λ(i:Nat)=>rawInt i).toArray }) where
 sub:=λb hb=>by simp at hb;simp[hb]
 frame:=λ_ _ _ st hk=>⟨hk I (by simp) _ st.1,hk S (by simp) _ st.2.1,hk T (by simp) _ st.2.2⟩
 item:=λi s Q E hi st hQ=>by
  refine mq st.1 st.2.1 hf ?_;have hp:ps[i]?=some (ps[i]'(by omega)):=a9 _;generalize ps[i]'(by omega)=p at hp;refine ae (eT st.2.2 rfl ?_);dsimp only;have e1:(ps.map λ(i:Nat)=>rawInt i).toArray[i]?=some (rawInt (p:Nat)):=by rw[ib,ce,hp];rfl
  rw[e1];dsimp only[rawInt];refine ae ?_;unfold setNextDrawn;refine ae (fw st.2.1 rfl hf ?_);dsimp only;refine ite_no (by simp) ?_;rw[show ((p:Nat):Int).toNat=p from rfl,ho i p hp];refine am ?_;refine ae (gt st.1 rfl (by simp) ?_);have g2:=my (k:=1) (v:=rawInt ((i:Int)+1)) st.1;refine am ⟨_,rfl,hQ _ _ s.toks rfl ⟨g2,(b9 ..).extBut _ _ hne st.2.1,(b9 ..).extBut _ _ hTI st.2.2⟩ λb o hb e=>?_⟩;exact (b9 ..).extBut _ _ (λz=>hb (by simp[z])) e
 done:=λs Q E st hQ=>by
  refine mq st.1 st.2.1 hf ?_;refine ae (eT st.2.2 rfl ?_);dsimp only;have e1:(ps.map λ(i:Nat)=>rawInt i).toArray[es.size]?=none:=by rw[ib,ce,dn (by omega)];rfl
  rw[e1];dsimp only;refine ae (gt st.1 rfl (by simp) ?_);have g1:(s.heap.update I (Obj.mapFields (·.setIfInBounds 0 (rawInt 0)))).get? I=some (siO (rawInt 0) es.size S es.size ep):=my (k:=0) (v:=rawInt 0) st.1;refine ae (gt g1 rfl (by simp) ?_);refine yg (by simpa using hh) λe s' hT hk es'=>⟨hT,?_⟩;rw[es'];refine hQ _ s.toks λb o hb e=>?_;have hb':b≠I:=λz=>hb (by simp[z]);exact hk _ _ ((b9 ..).extBut _ _ hb' ((b9 ..).extBut _ _ hb' e))
 self:=λ_ _ _ _ st hQ=>yf st.1 hQ
end
theorem q9{α:Type}:∀{l:List α}{i:Nat}(h:i < l.length),(l[i]::l.eraseIdx i).Perm l
 |x::l,0,_=>eP _
 |x::l,i+1,h=>(List.Perm.swap _ _ _).trans ((q9 (l:=l) (i:=i) (Nat.lt_of_succ_lt_succ h)).cons x)
theorem yh{α:Type}(next:Nat->Nat):∀(fuel k:Nat)(left:List α)(out:Array α),left.length=fuel->(pickOrder.go next fuel k left out).toList.Perm (out.toList++left)
 |0,k,left,out,h=>by
  have:left=[]:=cK.mp h;subst this;unfold pickOrder.go;rw[g6]
 |fuel+1,k,left,out,h=>by
  have hp:0 < left.length:=by omega
  have hlt:next k % left.length < left.length:=Nat.mod_lt _ hp;unfold pickOrder.go;rw[a9 hlt];dsimp only;refine (yh next fuel (k+1) _ _ (by rw[List.length_eraseIdx_of_lt hlt];omega)).trans ?_;rw[fT,bg];exact (q9 hlt).append_left _
theorem S7{α:Type}(next:Nat->Nat)(xs:Array α):(pickOrder next xs).toList.Perm xs.toList:=by have:=yh next xs.size 0 xs.toList #[] (by simp);exact this
section
variable {prog:Program} {w:World} {A:Around} {E:Value->Shared->Prop} {s:Shared} {I S T:Addr} {es:Array (Int×Value)} {ep:Nat} {t:SetTable}
theorem S8{src:Source}{n:Nat}{Q:Nat->Shared->Prop}(h0:n≠0)(h:∀k,k < n->∀d,Q k { s with drawn:=d }):wpAny (model prog w) A (choose src n) Q E s:=λ_ _ _=>by
 unfold choose;rw[Sem.wp_choose];exact ⟨h0,by first |exact h _ (Nat.mod_lt _ (Nat.pos_of_ne_zero h0)) _ | (rw[Sem.wp_pure'];exact h _ (Nat.mod_lt _ (Nat.pos_of_ne_zero h0)) _)⟩
theorem yj{α:Type}:∀(n:Nat)(xs:List α){s:Shared}{Q:List α->Shared->Prop},xs.length=n->(∀ys d,ys.Perm xs->Q ys { s with drawn:=d })->wpAny (model prog w) A (drawOrder n xs) Q E s
 |0,xs,s,Q,e,h=>by
  have:xs=[]:=cK.mp e;subst this;unfold drawOrder;exact am (h [] s.drawn (eP _))
 |n+1,x::xs,s,Q,e,h=>by
  unfold drawOrder;refine ae (S8 (by simp) λk hk d=>?_);rw[a9 hk];dsimp only;refine ae (yj n _ (by rw[List.length_eraseIdx_of_lt hk];simp only[c6]at e ⊢;omega) λys d' hp=>am ?_);exact h _ d' ((hp.cons _).trans (q9 hk))
theorem mz{Q:Bool->Shared->Prop}(h:Q (bK w) s):wpAny (model prog w) A setsByText Q E s:=by unfold setsByText;exact ae (wpAny_askSetting (am h))
theorem yl(hb:bK w=true)(hf:t.fits es.size=true){i k:Nat}{Q:Option (Value×Nat)->Shared->Prop}(ho:s.heap.get? S=some (cW es ep t))
  (h:Q (((pickOrder (w.params.setOrder S ep) es)[i]?).map λe=>(e.2,k)) s):wpAny (model prog w) A (setNext S k i ep) Q E s:=by
 unfold setNext;refine ae (fw ho rfl hf ?_);dsimp only;refine ae (mz ?_);refine ite_yes hb ?_;refine ite_no (by simp) ?_;refine ae ?_;unfold setWalk;refine ae (fw ho rfl hf ?_);dsimp only;refine ae (mz ?_);refine ite_yes hb ?_;refine ae (wpAny_askSetting (am ?_));exact am h
theorem rm(hb:bK w=false)(hf:t.fits es.size=true)(hL:t.led=true)(h1:es.size<=1){i k:Nat}{Q:Option (Value×Nat)->Shared->Prop}(ho:s.heap.get? S=some (cW es ep t))
  (h:Q (match es[SetTable.below t.place k]?,t.place[SetTable.below t.place k]? with
  |some (_,x),some j=>some (x,j+1)
  |_,_=>none) s):wpAny (model prog w) A (setNext S k i ep) Q E s:=by
 unfold setNext;refine ae (fw ho rfl hf ?_);dsimp only;refine ae (mz ?_);refine ite_no (by rw[hb];exact br) ?_;refine ite_no (show ¬(!t.plain&&decide (es.size > 1))=true from by rw[cS (by omega),hX];exact br) ?_;refine ae ?_;refine ite_no (show ¬(!t.led&&!es.isEmpty)=true from by rw[hL];exact br) ?_;exact am (am h)
theorem S9(h:t.fits es.size=true):t.place.size=es.size:=by unfold SetTable.fits at h;simp only[af,aE]at h;exact h.1
theorem ym{α:Type}(d:α)(xs:List α):(List.range xs.length).map (λi=>xs[i]?.getD d)=xs:=by refine List.ext_getElem (by simp) λi h1 h2=>?_;rw[List.getElem_map,List.getElem_range,a9 h2];rfl
theorem yo(po:Array (Int×Value))(hp:po.toList.Perm es.toList)(ps:List Nat)(hps:ps.Perm (List.range es.size)):(ps.map λi=>(po[i]?.getD (0,.none)).2).Perm (es.toList.map (·.2)):=by
 refine (hps.map _).trans ?_;have e:es.size=po.toList.length:=by rw[hp.length_eq,bn]
 rw[e];have:=d6 (List.map (·.2)) (ym (0,Value.none) po.toList);rw[eJ]at this;have e2:(List.range po.toList.length).map (λi=>(po[i]?.getD (0,Value.none)).2)=po.toList.map (·.2):=by rw[<-this];refine gT λi _=>?_;show _=(po.toList[i]?.getD (0,Value.none)).2;rw[eW]
 rw[e2];exact hp.map _
def yp(es:Array (Int×Value))(n:Nat)(ord:Nat->Value):Prop:=n=es.size/\((List.range n).map ord).Perm (es.toList.map (·.2))
theorem Tc(hh:A.handled=none){L:Bool}(hL:L=!bK w){Q:Value->Shared->Prop}(ho:s.heap.get? S=some (cW es ep t))(hf:t.fits es.size=true)(hl:t.led=L)(hpl:t.plain=true->es.size=0)(hz:es.size<=sizeLine)
  (h:∀(h':Heap) d I fp (ord:Nat->Value) (St:Nat->Heap->Prop),(∀b o,s.heap.get? b=some o->h'.get? b=some o)->yp es es.size ord->Walks prog w A I fp [I] es.size (λi v=>v=ord i) St->St 0 h'->(∀b∈fp,b < h'.objs.size)->I∈fp->s.heap.objs.size<=I->(∀b∈fp,b=S\/s.heap.objs.size<=b)->Q (.ref I) { s with heap:=h',drawn:=d }):
  wpAny (model prog w) A (pyIter (.ref S)) Q E s:=by
 have hT:s.TypeIs (.ref S) "set":=⟨_,ho,rfl⟩;have hS:S < s.heap.objs.size:=ay ho;refine wpAny_pyIter_slot hT yd (eA yd hT Sy ?_ (SN _));unfold Builtin.«frozenset.__iter__» Builtin.Frozenset.slot0;refine ae (am ?_);unfold Builtin.Frozenset.sizeOf;refine ae (ae (wpAny_setEntries_of ho rfl hf (am ?_)));refine ae ?_;unfold setDrawn;refine ae (fw ho rfl hf ?_);dsimp only;refine ae (mz (am ?_));by_cases hd:bK w=false/\1 < es.size
 ·have hp:t.plain=false:=by cases hp:t.plain with |false=>rfl |true=>have:=hpl hp;omega
  refine ite_yes (show (!bK w&&(!t.plain&&decide (es.size > 1)))=true from by rw[hd.1,hp,fe hd.2];rfl) ?_;refine ae (yj es.size (List.range es.size) hW λps d hps=>?_);have hlen:ps.length=es.size:=by rw[hps.length_eq,hW]
  refine ae (wpAny_newTuple ?_ (by rw[ax,hlen];exact hz));unfold setEpoch;have ho1:=ah { cls:=.type "tuple",data:=.seq (ps.map λ(i:Nat)=>rawInt i).toArray } ho;refine ae (ae (fw (s:={ s with drawn:=d,heap:=_ }) ho1 rfl hf (am ?_)));refine ae (fx (am ⟨_,rfl,"set_iterator",_,⟨_,aI _ rfl,rfl⟩,jt.lookup,?_⟩));have hlt:∀(i p:Nat),ps[i]?=some p->p < es.size:=λi p e=>List.mem_range.mp (hps.mem_iff.mp (bv e));refine h _ d _ _ (λi=>((ps[i]?.bind λp=>es[p]?).getD (0,.none)).2) _ (λb o e=>ah _ (ah _ e)) ⟨rfl,?_⟩ (S6 (T:=s.heap.objs.size) hh ?_ ?_ hf ps hlen (λi=>(ps[i]?.bind λp=>es[p]?).getD (0,.none)) ?_) ⟨aI _ rfl,ah _ ho1,ah _ (aI _ rfl)⟩ ?_ ?_ ?_ ?_
  ·have e:=yo es (eP _) ps hps;refine g7 (fN ?_) e;have e3:(List.range es.size).map (λi=>ps[i]?.getD 0)=ps:=by rw[<-hlen];exact ym 0 ps
   conv=>rhs;rw[<-e3]
   rw[eJ];refine gT λi hi=>?_;have hi':i < ps.length:=by rw[hlen];exact List.mem_range.mp hi
   show ((ps[i]?.bind λp=>es[p]?).getD (0,Value.none)).2=(es[ps[i]?.getD 0]?.getD (0,Value.none)).2;rw[a9 hi'];rfl
  ·rw[cb];exact b6 (dE hS)
  ·rw[cb];exact b6 (gl _)
  ·intro i p e;rw[e];show es[p]?=some (es[p]?.getD (0,.none));rw[fF (hlt i p e)];rfl
  ·intro b hb;rw[cb,cb];simp only[bb,e9,or_false,cb]at hb;rcases hb with rfl |rfl |rfl
   ·exact gl _
   ·exact dE (dE hS)
   ·exact dE (gl _)
  ·simp
  ·rw[cb];exact eh _
  ·intro b hb;simp only[bb,e9,or_false,cb]at hb;rcases hb with rfl |rfl |rfl
   ·exact .inr (eh _)
   ·exact .inl rfl
   ·exact .inr (av _)
 ·refine ite_no (show ¬(!bK w&&(!t.plain&&decide (es.size > 1)))=true from ?_) ?_
  ·cases hb:bK w with
   |true=>exact br
   |false=>rw[cS (λz=>hd ⟨hb,z⟩),hX];exact br
  refine ae (am ?_);unfold setEpoch;refine ae (ae (fw ho rfl hf (am ?_)));refine ae (fx (am ⟨_,rfl,"set_iterator",_,⟨_,aI _ rfl,rfl⟩,jt.lookup,?_⟩));have key:∃(slot:Nat->Nat)(ord:Nat->Value),slot 0=0/\yp es es.size ord/\
    (∀(i:Nat)(s:Shared)(Q:Option (Value×Nat)->Shared->Prop)(E:Value->Shared->Prop),i < es.size->s.heap.get? S=some (cW es ep t)->Q (some (ord i,slot (i+1))) s->wpAny (model prog w) A.in1 (setNext S (slot i) i ep) Q E s)/\
    (∀(s:Shared)(Q:Option (Value×Nat)->Shared->Prop)(E:Value->Shared->Prop),s.heap.get? S=some (cW es ep t)->Q none s->wpAny (model prog w) A.in1 (setNext S (slot es.size) es.size ep) Q E s):=by
   cases hb:bK w with
   |true=>
    have pp:=S7 (w.params.setOrder S ep) es;have pl:(pickOrder (w.params.setOrder S ep) es).size=es.size:=by rw[<-bn,pp.length_eq,bn]
    generalize hpo:pickOrder (w.params.setOrder S ep) es=po at pp pl;refine ⟨λ_=>0,λi=>(po[i]?.getD (0,.none)).2,rfl,⟨rfl,?_⟩,λi s Q E hi ho hq=>yl hb hf ho ?_,λs Q E ho hq=>yl hb hf ho ?_⟩
    ·exact yo po pp _ (eP _)
    ·rw[hpo,fF (by omega)];have:po[i]?.getD (0,.none)=po[i]'(by omega):=by rw[fF (by omega)];rfl
     have hq':Q (some ((po[i]?.getD (0,.none)).2,0)) s:=hq;rw[this]at hq';exact hq'
    ·rw[hpo,Array.getElem?_eq_none (by omega)];exact hq
   |false=>
    have h1:es.size<=1:=Nat.not_lt.mp λz=>hd ⟨hb,z⟩;have hlt:t.led=true:=by rw[hl,hL,hb];rfl
    have fl:=S9 hf;generalize hpc:t.place=pc at fl;rcases Nat.lt_or_ge es.size 1 with h0 |h0
    ·have e0:es=#[]:=Array.size_eq_zero_iff.mp (by omega);subst e0;refine ⟨λ_=>0,λ_=>.none,rfl,⟨rfl,eP _⟩,λi s Q E hi=>absurd hi (Nat.not_lt_zero i),λs Q E ho hq=>rm hb hf hlt h1 ho ?_⟩;exact hq
    ·have e1:es.size=1:=by omega
     obtain ⟨e,rfl⟩:∃e,es=#[e]:=Array.size_eq_one_iff.mp e1;obtain ⟨j,rfl⟩:∃j,pc=#[j]:=Array.size_eq_one_iff.mp (by omega);have b0:SetTable.below #[j] 0=0:=by show SetTable.below.go #[j] 0 1 0 1=0;unfold SetTable.below.go;show (if j < 0 then SetTable.below.go #[j] 0 0 1 1 else SetTable.below.go #[j] 0 0 0 0)=0;rw[if_neg (Nat.not_lt_zero j)];rfl
     have b1:SetTable.below #[j] (j+1)=1:=by show SetTable.below.go #[j] (j+1) 1 0 1=1;unfold SetTable.below.go;show (if j < j+1 then SetTable.below.go #[j] (j+1) 0 1 1 else SetTable.below.go #[j] (j+1) 0 0 0)=1;rw[if_pos (gl j)];rfl
     refine ⟨λi=>match i with |0=>0 |_=>j+1,λ_=>e.2,rfl,⟨rfl,eP _⟩,λi s Q E hi ho hq=>rm hb hf hlt h1 ho ?_,λs Q E ho hq=>rm hb hf hlt h1 ho ?_⟩
     ·have hi0:i=0:=by simp at hi;exact hi
      subst hi0;rw[hpc];show Q (match #[e][SetTable.below #[j] 0]?,#[j][SetTable.below #[j] 0]? with |some (_,x),some j=>some (x,j+1) |_,_=>none) s;rw[b0];exact hq
     ·rw[hpc];show Q (match #[e][SetTable.below #[j] (j+1)]?,#[j][SetTable.below #[j] (j+1)]? with |some (_,x),some j=>some (x,j+1) |_,_=>none) s;rw[b1];exact hq
  obtain ⟨slot,ord,e0,od,k1,k2⟩:=key;refine h _ s.drawn _ _ ord _ (λb o e=>ah _ e) od (S5 hh ?_ hf slot ord k1 k2) ⟨?_,ah _ ho⟩ ?_ ?_ ?_ ?_
  ·exact b6 hS
  ·rw[e0];exact aI _ rfl
  ·intro b hb;rw[cb];simp only[bb,e9,or_false]at hb;rcases hb with rfl |rfl
   ·exact gl _
   ·exact dE hS
  ·simp
  ·exact av _
  ·intro b hb;simp only[bb,e9,or_false]at hb;rcases hb with rfl |rfl
   ·exact .inr (av _)
   ·exact .inl rfl
end
section
variable {prog:Program} {w:World} {A:Around} {E:Value->Shared->Prop} {s:Shared} {S:Addr} {es:Array (Int×Value)} {ep:Nat} {t:SetTable}
theorem Td{Q:Bool->Shared->Prop}(ho:s.heap.get? S=some (cW es ep t))(h:Q false s):wpAny (model prog w) A (Builtin.List.listLengthHint (.ref S)) Q E s:=by
 have hT:s.TypeIs (.ref S) "set":=⟨_,ho,rfl⟩;unfold Builtin.List.listLengthHint;refine ae (wpAny_specialOf hT PySem.F.slot_set_len.lookup ?_)
 (generalize hid:("set.__len__":String)=id0;(fail_if_success (clear hid id0));wp_delta;rw[show splitId id0=some ("set","__len__") from by subst hid;ac_rfl];subst hid)
 refine ae (wpAny_isInstance (b:=true) hT (by rw[isSubtype_type];rfl') ?_);refine ae (wpAny_typeOf hT ?_);exact am h
theorem touch {L:Addr} {Q:Unit->Shared->Prop} (ho:s.heap.get? L=some { cls:=.type "list",dict:=none,data:=.seq #[] 0,slots:=#[] }) (h:∀h' c,h'.get? L=some { cls:=.type "list",dict:=none,data:=.seq #[] c,slots:=#[] }->(∀b o,b≠L->s.heap.get? b=some o->h'.get? b=some o)->h'.objs.size=s.heap.objs.size->Q () { s with heap:=h' }):
  wpAny (model prog w) A (Builtin.List.listTouch (.ref L)) Q E s:=by
 unfold Builtin.List.listTouch Builtin.List.listUpdate;refine ae (wpAny_updateSeq ho rfl ?_ (by size_fits) (by show 1<=sizeLine+1;omega));have g1:=gc (Obj.mapSeq (·.push Value.none)) ho (by rfl);refine wpAny_updateSeq (s:={ s with heap:=_ }) g1 rfl ?_ (by rw[dS];decide) (by show 0<=sizeLine+1;omega);have g2:=gc (Obj.mapSeq (·.pop)) g1 (by rfl);refine h _ _ g2 (λb o hb e=>(b9 ..).extBut _ _ hb ((b9 ..).extBut _ _ hb e)) ?_;rw[Heap.size_update,Heap.size_update]
theorem yq(hh:A.handled=none){L:Bool}(hL:L=!bK w){Q:List Value->Shared->Prop}(ho:s.heap.get? S=some (cW es ep t))(hf:t.fits es.size=true)(hl:t.led=L)(hpl:t.plain=true->es.size=0)(hz:es.size<=sizeLine)
  (h:∀h' d tk acc,(∀b o,s.heap.get? b=some o->h'.get? b=some o)->s.toks<=tk->acc.Perm (es.toList.map (·.2))->Q acc { s with heap:=h',drawn:=d,toks:=tk }):
  wpAny (model prog w) A (collect (.ref S)) Q E s:=by
 have hS:S < s.heap.objs.size:=ay ho;have hSI:s.heap.objs.size≠S:=fb hS;unfold collect;refine ae (wpAny_runValue (hZ PySem.F.entry_proto_collect ?_));rw[g0 PySem.F.plain_proto_collect _];show wpAny _ A.in1 (newList [] >>= λl=>again (.builtin "list.__iadd__" ⟨[l,.ref S],[]⟩)) _ _ s;refine ae (fx ?_);refine am ⟨plainId_quiet PySem.F.plain_list_iadd _,hZ PySem.F.entry_list_iadd ?_⟩;rw[g0 PySem.F.plain_list_iadd _];have hS₁:(s.heap.push { cls:=.type "list",data:=.seq ([]:List Value).toArray }).get? s.heap.objs.size=some { cls:=.type "list",data:=.seq ([]:List Value).toArray }:=aI _ rfl;have ho₁:=ah { cls:=.type "list",data:=.seq ([]:List Value).toArray } ho;have hT₁:Shared.TypeIs { s with heap:=s.heap.push { cls:=.type "list",data:=.seq ([]:List Value).toArray } } (.ref S) "set":=⟨_,ho₁,rfl⟩;have h1:Builtin.List.listSameRef (.ref s.heap.objs.size) (.ref S)=false:=by simp[Builtin.List.listSameRef,hSI]
 show wpAny _ A.in1 (Builtin.List.listExtendWith (.ref s.heap.objs.size) (.ref S) (.ref s.heap.objs.size)) _ _ _;unfold Builtin.List.listExtendWith;refine ae (wpAny_typeOf hT₁ ?_);rw[if_neg (by rw[h1];decide)];refine ae (Tc (by simpa using hh) hL ho₁ hf hl hpl hz λh2 d I fp ord St k2 od W hst hfp hI hge hfo=>?_);refine ae (cq (Td (k2 _ _ ho₁) ?_));have hLf:s.heap.objs.size∉fp:=λz=>by
  rcases hfo _ z with e |e
  ·exact hSI e
  ·rw[cb]at e;exact dL _ e
 have hIL:I≠s.heap.objs.size:=λe=>hLf (e ▸ hI);refine ite_yes (by rfl) ?_;refine ae (et ?_);refine ae (touch (k2 _ _ hS₁) λh3 c g3 k3 z3=>?_);have hst₃:=W.frame 0 _ h3 hst λb hb o e=>k3 b o (λz=>hLf (z ▸ hb)) e;refine am ⟨plainId_quiet PySem.F.plain_extend_loop _,codeAny_extend_loopS W.toS hz _ hLf _ es.size 0 _ _ _ rfl (fS _) hst₃ g3 (ItemsOf.nil _) λs' acc' c' hm hS' hacc=>?_⟩;show wpAny _ A (load s.heap.objs.size >>= _) _ _ s';refine ae (wpAny_load hS' ?_);refine am ?_;obtain ⟨h',g',d',tk',os'⟩:=s';have eg:g'=s.gens:=hm.gens;have ed:d'=d:=hm.drawn;have eo:os'=s.os:=hm.os;subst eg;subst ed;subst eo;refine h h' d' tk' acc'.toList (λb o e=>?_) hm.toks ?_
 ·have hb:=ay e;have hb1:b≠s.heap.objs.size:=b6 hb;have hb2:b≠I:=λz=>by rw[cb]at hge;rw[z]at hb;exact dL _ (bp hb (Nat.le_of_succ_le hge))
  exact hm.heap b o (by simp only[bb,e9,or_false,not_or];exact ⟨hb1,hb2⟩) (k3 _ _ hb1 (k2 _ _ (ah _ e)))
 ·refine g7 (fN ?_) od.2;refine List.ext_getElem? λi=>?_;rw[ce,eW];rcases Nat.lt_or_ge i es.size with hi |hi
  ·rw[List.getElem?_range hi,fF (by rw[hacc.1];exact hi)];exact d6 some (hacc.2 i _ (fF (by rw[hacc.1];exact hi)))
  ·rw[dn (by simpa using hi),Array.getElem?_eq_none (by rw[hacc.1];exact hi)];rfl
theorem Te{ks:List Str}{Q:Value->Shared->Prop}(hh:A.handled=none)(hS:SetL prog w s.heap S ks (!bK w))(h64:ks.length < 64)
  (h:∀(h1 h':Heap) d tk e (out:Array Value) (ss':List Str),StrsAre out.toList ss'->ss'.Perm ks->sortedS ss'=true->(∀b o',s.heap.get? b=some o'->h1.get? b=some o')->(∀b o',h1.get? b=some o'->h'.get? b=some o')->s.toks<=tk->h'.get? h1.objs.size=some (seqObj "list" out e)->Q (.ref h1.objs.size) { s with heap:=h',drawn:=d,toks:=tk }):
  wpAny (model prog w) A (call (.builtin "sorted") [.ref S]) Q E s:=by
 obtain ⟨es,ep,t,ho,hel,hp,hb,hf,hl,hpl⟩:=hS;refine Calls.call_function_entry kind_sorted plain_sorted entry_sorted (args_sorted1 _) ?_;unfold Builtin.«sorted»;refine ae (m:=checkCount "sorted" 1 1 _) (am ?_);refine ae (yq (by simpa using hh) rfl ho hf hl hpl (by rw[dS];unfold scanBound at hb;omega) λh1 d tk acc k1 htk hacc=>?_);have hall:∀v,v∈acc->∃x u,v=Value.str x u:=λv hv=>by
  obtain ⟨e,he,rfl⟩:=cy.mp (hacc.mem_iff.mp hv);obtain ⟨k,tk,rfl⟩:=hel e he;exact ⟨k,tk,rfl⟩
 have hSA:=strsAre_map acc hall;have hlen:acc.length < 64:=by rw[hacc.length_eq,ax,<-ax (f:=gA),hp.length_eq];exact h64
 refine ae (wpAny_newList ?_ (by rw[dS];omega));have hoL:(h1.push (seqObj "list" acc.toArray 0)).get? h1.objs.size=some (seqObj "list" acc.toArray 0):=aI _ rfl;show wpAny _ _ _ _ _ { s with heap:=h1.push (seqObj "list" acc.toArray 0),drawn:=d,toks:=tk };have hpk:(acc.map strOf).Perm ks:=by refine (hacc.map strOf).trans (g7 (fN ?_) hp);rw[eJ];refine gT λe he=>?_;obtain ⟨k,tk,rfl⟩:=hel e he;rfl
 refine ae (cq (eA slot_list_sort ⟨_,hoL,rfl⟩ entry_list_sort (list_sort_treeK strKind_oneLt hoL hSA.keysOf (λv₁ v₂ rest e=>keyKind_strs (by rw[<-e];exact hSA)) hlen λst' hp' hs'=>⟨_,rfl,?_⟩) (args_list_sort _)));obtain ⟨ss',a1,a2,a3⟩:=sorted_out_str hSA hp' hs';generalize (arrOf st').map (·.2)=out at a1;obtain ⟨e,he⟩:=sortedHeap_at (vs:=acc) (out:=out) hoL;refine am ⟨_,rfl,h h1 _ d tk e out ss' a1 (a2.trans hpk) a3 k1 (λb o' hb1=>?_) htk he⟩;rw[sortedHeap_old (b6 (ay hb1)) (by rw[size_push'];exact dE (ay hb1))];exact ah _ hb1
end
noncomputable def yr:Bool->Keyed->Array Keyed->Nat->Nat->Nat->StateT SortSt Sem (Option Nat):=sortPriv% PySem.Builtin.gallop
def yt:Array Keyed->Array Keyed->StateT SortSt Sem (Array Keyed):=sortPriv% PySem.Builtin.mergeLo
def yu:Array Keyed->Array Keyed->StateT SortSt Sem (Array Keyed):=sortPriv% PySem.Builtin.mergeHi
section
variable {prog:Program} {w:World} {A:Around} {E:Value->Shared->Prop} {s:Shared} {κ:PyProof.Rows.KeyKind}
def okK(κ:PyProof.Rows.KeyKind)(p:Keyed):Prop:=∃a,κ.keyOf p.1=some a
def okA(κ:PyProof.Rows.KeyKind)(xs:Array Keyed):Prop:=∀p,p∈xs.toList->okK κ p
theorem az{σ α:Type}{c:Prop}[Decidable c]{a b:StateT σ Sem α}{Q:α->σ->Prop}{st:σ}(ha:c->PyProof.Rows.wpS (model prog w) A E s a Q st)(hb:¬c->PyProof.Rows.wpS (model prog w) A E s b Q st):PyProof.Rows.wpS (model prog w) A E s (if c then a else b) Q st:=by
 by_cases h:c
 ·rw[if_pos h];exact ha h
 ·rw[if_neg h];exact hb h
theorem nb{a b:Nat}(h:¬(a==b)=true):a≠b:=λz=>h (aE.mpr z)
theorem ju(hO:κ.OneLt){st:SortSt}{x y:Keyed}{Q:Option Bool->SortSt->Prop}(hk:kindOf st=oneType')(hx:okK κ x)(hy:okK κ y)(h:∀b,Q (some b) st):PyProof.Rows.wpS (model prog w) A E s (lt' x y) Q st:=by obtain ⟨a,ha⟩:=hx;obtain ⟨b,hb⟩:=hy;rw[lt'_eq];refine al (wpS_get ?_);rw[hk,keyLt'_oneType];refine al (wpS_lift (wpAny_attempt (hO _ _ _ _ _ _ _ a b ha hb ⟨rfl,?_⟩)));exact ap (h _)
theorem aP{xs:Array Keyed}{i:Nat}{st:SortSt}{Q:Keyed->SortSt->Prop}(hi:i < xs.size)(h:Q xs[i] st):PyProof.Rows.wpS (model prog w) A E s (elem' xs i) Q st:=by rw[elem'_eq,getElem?_pos xs i hi];exact ap h
theorem okA.at{xs:Array Keyed}(h:okA κ xs){i:Nat}(hi:i < xs.size):okK κ xs[i]:=h _ (by simp)
theorem jw(hO:κ.OneLt){left:Bool}{key:Keyed}{xs:Array Keyed}{i:Nat}{st:SortSt}{Q:Option Bool->SortSt->Prop}(hk:kindOf st=oneType')(hkey:okK κ key)(hxs:okA κ xs)(hi:i < xs.size)
  (h:∀b,Q (some b) st):PyProof.Rows.wpS (model prog w) A E s (do let x <-elem' xs i;if left=true then lt' x key else do let r <-lt' key x;pure (Option.map (λx=>!x) r)) Q st:=by
 refine al (aP hi ?_);cases left with
 |true=>exact ju hO hk (hxs.at hi) hkey h
 |false=>exact al (ju hO hk hkey (hxs.at hi) λb=>ap (h _))
theorem fP(hO:κ.OneLt){left:Bool}{key:Keyed}{xs:Array Keyed}{base n hint:Nat}{st:SortSt}{Q:Option Nat->SortSt->Prop}(hk:kindOf st=oneType')(hkey:okK κ key)(hxs:okA κ xs)(hb:base+n<=xs.size)(hh:hint < n)
  (h:∀k,k<=n->Q (some k) st):PyProof.Rows.wpS (model prog w) A E s (yr left key xs base n hint) Q st:=by
 unfold yr;refine al (jw hO hk hkey hxs (by omega) λright=>?_);dsimp only;cases right with
 |true=>
  simp only[↓reduceIte];refine al (wpS_mono (de (I:=λ_ c st'=>st'=st/\∃l o,c=(none,l,o)/\l < n - hint) (Q:=λc st'=>st'=st/\∃l o,c=(none,l,o)/\l < n - hint) ?step (λ_ _ hh=>hh) ⟨rfl,0,1,rfl,by omega⟩) ?post);case step=>
   rintro x c st' _ _ ⟨rfl,l,o,rfl,hl⟩;dsimp only;split
   ·exact ap ⟨rfl,l,o,rfl,hl⟩
   ·refine al (jw hO hk hkey hxs (by omega) λmore=>?_);dsimp only;split
    ·exact ap ⟨rfl,l,o,rfl,hl⟩
    ·exact ap ⟨rfl,o,_,rfl,by omega⟩
  case post=>
   rintro c st' ⟨rfl,l,o,rfl,hl⟩;dsimp only;refine al (wpS_mono (de (I:=λ_ c st''=>st''=st'/\∃l o,c=(none,l,o)/\o<=n) (Q:=λc st''=>st''=st'/\∃l o,c=(none,l,o)/\o<=n) ?step2 (λ_ _ hh=>hh) ⟨rfl,_,_,rfl,by omega⟩) ?post2);case step2=>
    rintro x c st' _ _ ⟨rfl,l,o,rfl,hl⟩;dsimp only;split
    ·exact ap ⟨rfl,l,o,rfl,hl⟩
    ·refine al (jw hO hk hkey hxs (by omega) λmore=>?_);dsimp only;split
     ·exact ap ⟨rfl,_,o,rfl,hl⟩
     ·exact ap ⟨rfl,_,_,rfl,by omega⟩
   case post2=>
    rintro c st'' ⟨rfl,l,o,rfl,hl⟩;exact ap (h o hl)
 |false=>
  simp only[gs,↓reduceIte];refine al (wpS_mono (de (I:=λ_ c st'=>st'=st/\∃l o,c=(none,l,o)/\l < hint+1) (Q:=λc st'=>st'=st/\∃l o,c=(none,l,o)/\l < hint+1) ?step (λ_ _ hh=>hh) ⟨rfl,0,1,rfl,by omega⟩) ?post);case step=>
   rintro x c st' _ _ ⟨rfl,l,o,rfl,hl⟩;dsimp only;split
   ·exact ap ⟨rfl,l,o,rfl,hl⟩
   ·refine al (jw hO hk hkey hxs (by omega) λmore=>?_);dsimp only;split
    ·exact ap ⟨rfl,l,o,rfl,hl⟩
    ·exact ap ⟨rfl,o,_,rfl,by omega⟩
  case post=>
   rintro c st' ⟨rfl,l,o,rfl,hl⟩;dsimp only;refine al (wpS_mono (de (I:=λ_ c st''=>st''=st'/\∃l o,c=(none,l,o)/\o<=n) (Q:=λc st''=>st''=st'/\∃l o,c=(none,l,o)/\o<=n) ?step2 (λ_ _ hh=>hh) ⟨rfl,_,_,rfl,by omega⟩) ?post2);case step2=>
    rintro x c st' _ _ ⟨rfl,l,o,rfl,hl⟩;dsimp only;split
    ·exact ap ⟨rfl,l,o,rfl,hl⟩
    ·refine al (jw hO hk hkey hxs (by omega) λmore=>?_);dsimp only;split
     ·exact ap ⟨rfl,_,o,rfl,hl⟩
     ·exact ap ⟨rfl,_,_,rfl,by omega⟩
   case post2=>
    rintro c st'' ⟨rfl,l,o,rfl,hl⟩;exact ap (h o hl)
def Same1(st st':SortSt):Prop:=kindOf st'=kindOf st/\arrOf st'=arrOf st/\pendingOf st'=pendingOf st/\failedOf st'=failedOf st
theorem Same1.refl(st:SortSt):Same1 st st:=⟨rfl,rfl,rfl,rfl⟩
theorem Same1.k{st st':SortSt}(h:Same1 st st')(hk:kindOf st=oneType'):kindOf st'=oneType':=h.1.trans hk
section
variable {xs ys:Array Keyed}
def JL(xs ys:Array Keyed)(out:Array Keyed)(i j:Nat):Prop:=out.toList.Perm (xs.toList.take i++ys.toList.take j)
def All(xs ys out:Array Keyed):Prop:=out.toList.Perm (xs.toList++ys.toList)
theorem yw(xs:Array Keyed)(i k:Nat):xs.toList.take (i+k)=xs.toList.take i++(xs.extract i (i+k)).toList:=by rw[dv,fq,List.take_add,Nat.add_sub_cancel_left]
theorem yx{i:Nat}(hi:i < xs.size):xs.toList.take (i+1)=xs.toList.take i++[xs[i]]:=by rw[fm,eW,getElem?_pos xs i hi];rfl
theorem yz(xs:Array Keyed)(i:Nat):xs.toList=xs.toList.take i++(xs.extract i).toList:=by rw[dv,fq,eI (l:=List.drop i xs.toList) (by rw[dA,bn];exact av _),fA]
variable {out:Array Keyed} {i j k:Nat}
theorem JL.appX(h:JL xs ys out i j):JL xs ys (out++xs.extract i (i+k)) (i+k) j:=by unfold JL at h ⊢;rw[bX,yw,bg];refine (h.append_right _).trans ?_;rw[bg];exact cx.append_left _
theorem JL.appY(h:JL xs ys out i j):JL xs ys (out++ys.extract j (j+k)) i (j+k):=by unfold JL at h ⊢;rw[bX,yw,<-bg];exact h.append_right _
theorem JL.pushX(h:JL xs ys out i j)(hi:i < xs.size):JL xs ys (out.push xs[i]) (i+1) j:=by unfold JL at h ⊢;rw[fT,yx hi,bg];refine (h.append_right _).trans ?_;rw[bg];exact cx.append_left _
theorem JL.pushY(h:JL xs ys out i j)(hj:j < ys.size):JL xs ys (out.push ys[j]) i (j+1):=by unfold JL at h ⊢;rw[fT,yx hj,<-bg];exact h.append_right _
theorem JL.done(h:JL xs ys out i j):All xs ys (out++xs.extract i++ys.extract j):=by
 unfold JL at h;unfold All;rw[bX,bX];conv=>rhs;rw[yz xs i,yz ys j]
 rw[bg,bg];refine (h.append_right _).trans ?_;rw[bg];refine List.Perm.append_left _ ?_;rw[<-bg,<-bg];exact cx.append_right _
theorem JL.last(h:JL xs ys out i j):All xs ys (out++ys.extract j++xs.extract i):=by refine g7 ?_ h.done;rw[bX,bX,bX,bX,bg,bg];exact cx.append_left _
end
def MQ(xs ys:Array Keyed)(st:SortSt)(lo:Nat)(r:Option (Array Keyed))(out:Array Keyed)(i j:Nat)(st':SortSt):Prop:=
 Same1 st st'/\match r with |some r=>All xs ys r |none=>JL xs ys out i j/\i+1 < xs.size/\j < ys.size/\lo<=i+j
theorem fQ{xs ys out:Array Keyed}{st st':SortSt}{i j:Nat}(lo:Nat)(sm:Same1 st st')(jl:JL xs ys out i j)(h1:i+1 < xs.size)(h2:j < ys.size)(h3:lo<=i+j):MQ xs ys st lo none out i j st':=⟨sm,jl,h1,h2,h3⟩
theorem Tf(hO:κ.OneLt){xs ys:Array Keyed}{st:SortSt}{Q:Array Keyed->SortSt->Prop}(hk:kindOf st=oneType')(hxs:okA κ xs)(hys:okA κ ys)(hx:0 < xs.size)(hy:0 < ys.size)
  (h:∀out st',All xs ys out->Same1 st st'->Q out st'):PyProof.Rows.wpS (model prog w) A E s (yt xs ys) Q st:=by
 unfold yt;refine al (wpS_lift (et ⟨rfl,?_⟩));dsimp only;refine al (aP hy ?_);have j0:JL xs ys #[ys[0]] 0 1:=by have:=JL.pushY (xs:=xs) (ys:=ys) (out:=#[]) (i:=0) (j:=0) (eP _) hy;exact this
 refine az (λ_=>ap (h _ _ j0.done (Same1.refl st))) λh1=>?_;refine az (λ_=>ap (h _ _ j0.last (Same1.refl st))) λh2=>?_;have h1:¬1=ys.size:=λz=>h1 (aE.mpr z);have h2:¬0+1=xs.size:=λz=>h2 (aE.mpr z);refine al (wpS_get ?_);refine al (wpS_mono (de (I:=λx c st'=>∃out i j mg,c=(none,out,i,j,mg)/\MQ xs ys st (x+1) none out i j st') (Q:=λc st'=>∃r,c.1=some r/\All xs ys r/\Same1 st st') ?step ?fin ⟨_,0,1,_,rfl,Same1.refl st,j0,by omega,by omega,by omega⟩) ?post);case post=>
  rintro ⟨c1,c2⟩ st' ⟨r,e,hr,sm⟩;dsimp only at e;subst e;exact ap (h _ _ hr sm)
 case fin=>
  rintro c st' ⟨out,i,j,mg,rfl,sm,jl,b1,b2,b3⟩;omega
 case step=>
  rintro x c st' _ hxt ⟨out,i,j,mg,rfl,sm,jl,b1,b2,b3⟩;dsimp only;refine al (wpS_mono (de (I:=λy c st'=>∃out i' j' ac bc,c=(none,out,i',j',ac,bc)/\MQ xs ys st (i+j+y) none out i' j' st') (Q:=λc st'=>MQ xs ys st (i+j+1) c.1 c.2.1 c.2.2.1 c.2.2.2.1 st') ?step1 ?fin1 ⟨_,i,j,_,_,rfl,sm,jl,b1,b2,by omega⟩) ?post1);case fin1=>
   rintro c st' ⟨out,i',j',ac,bc,rfl,sm,jl,c1,c2,c3⟩;exact ⟨sm,jl,c1,c2,by omega⟩
  case step1=>
   rintro y c st' _ hyt ⟨out,i',j',ac,bc,rfl,sm,jl,c1,c2,c3⟩;dsimp only;refine al (aP (by omega) (al (aP (by omega) ?_)));refine al (ju hO (sm.k hk) (hys.at (by omega)) (hxs.at (by omega)) λb=>?_);refine az (λ_=>?_) λ_=>?_
   ·refine al (aP (by omega) ?_);have jl':=jl.pushY (by omega);refine az (λ_=>ap ⟨sm,jl'.done⟩) λh3=>?_;have h3:¬j'+1=ys.size:=λz=>h3 (aE.mpr z);have q1:=fQ (i+j+1) sm jl' (by omega) (by omega) (by omega);have q2:=fQ (i+j+(y+1)) sm jl' (by omega) (by omega) (by omega);exact az (λ_=>ap q1) λ_=>ap ⟨_,_,_,_,_,rfl,q2⟩
   ·refine al (aP (by omega) ?_);have jl':=jl.pushX (by omega);refine az (λ_=>ap ⟨sm,jl'.last⟩) λh3=>?_;have h3:¬i'+1+1=xs.size:=λz=>h3 (aE.mpr z);have q1:=fQ (i+j+1) sm jl' (by omega) (by omega) (by omega);have q2:=fQ (i+j+(y+1)) sm jl' (by omega) (by omega) (by omega);exact az (λ_=>ap q1) λ_=>ap ⟨_,_,_,_,_,rfl,q2⟩
  case post1=>
   rintro ⟨r,out1,i1,j1,ac,bc⟩ st1 ⟨sm1,hr⟩;dsimp only at hr ⊢;cases r with
   |some r=>exact ap ⟨r,rfl,hr,sm1⟩
   |none=>
    obtain ⟨jl1,d1,d2,d3⟩:=hr;dsimp only;refine al (wpS_lift (et ⟨rfl,?_⟩));refine al (wpS_mono (de (I:=λy c st'=>∃out i' j' mg ac bc,c=(none,out,i',j',mg,ac,bc)/\MQ xs ys st (i+j+1) none out i' j' st') (Q:=λc st'=>MQ xs ys st (i+j+1) c.1 c.2.1 c.2.2.1 c.2.2.2.1 st') ?step2 ?fin2 ⟨_,i1,j1,_,_,_,rfl,sm1,jl1,d1,d2,d3⟩) ?post2);case fin2=>
     rintro c st' ⟨out,i',j',mg,ac,bc,rfl,sm,jl,c1,c2,c3⟩;exact ⟨sm,jl,c1,c2,c3⟩
    case post2=>
     rintro ⟨r,out2,i2,j2,mg2,ac2,bc2⟩ st2 ⟨sm2,hr⟩;dsimp only at hr ⊢;cases r with
     |some r=>exact ap ⟨r,rfl,hr,sm2⟩
     |none=>
      obtain ⟨jl2,e1,e2,e3⟩:=hr;dsimp only;refine al (gp ?_);exact ap ⟨_,i2,j2,_,rfl,sm2,jl2,e1,e2,by omega⟩
    case step2=>
     rintro y c st2 _ hyt ⟨out,i',j',mg,ac,bc,rfl,sm,jl,c1,c2,c3⟩;dsimp only;refine az (λ_=>?_) λ_=>?_;all_goals
      refine al (gp ?_);refine al (aP (by omega) ?_);refine al (fP hO (sm.k hk) (hys.at (by omega)) hxs (by omega) (by omega) λk hk'=>?_);refine az (λhk0=>?_) λhk0=>?_
      ·have jl2:=jl.appX (k:=k);refine az (λ_=>ap ⟨sm,jl2.last⟩) λh3=>?_;have h3:=nb h3;refine az (λ_=>ap ⟨sm,jl2.done⟩) λh4=>?_;have h4:=nb h4;refine al (aP (by omega) ?_);have jl3:=jl2.pushY (by omega);refine az (λ_=>ap ⟨sm,jl3.done⟩) λh5=>?_;have h5:=nb h5;refine al (aP (by omega) ?_);refine al (fP hO (sm.k hk) (hxs.at (by omega)) hys (by omega) (by omega) λk2 hk2=>?_);refine az (λhk3=>?_) λhk3=>?_
       ·have jl4:=jl3.appY (k:=k2);refine az (λ_=>ap ⟨sm,jl4.done⟩) λh6=>?_;have h6:=nb h6;refine al (aP (by omega) ?_);have jl5:=jl4.pushX (by omega);refine az (λ_=>ap ⟨sm,jl5.last⟩) λh7=>?_;have h7:=nb h7;have q:=fQ (i+j+1) sm jl5 (by omega) (by omega) (by omega);exact az (λ_=>ap q) λ_=>ap ⟨_,_,_,_,_,_,rfl,q⟩
       ·refine al (aP (by omega) ?_);have jl5:=jl3.pushX (by omega);refine az (λ_=>ap ⟨sm,jl5.last⟩) λh7=>?_;have h7:=nb h7;have q:=fQ (i+j+1) sm jl5 (by omega) (by omega) (by omega);exact az (λ_=>ap q) λ_=>ap ⟨_,_,_,_,_,_,rfl,q⟩
      ·have jl2:=jl;refine al (aP (by omega) ?_);have jl3:=jl2.pushY (by omega);refine az (λ_=>ap ⟨sm,jl3.done⟩) λh5=>?_;have h5:=nb h5;refine al (aP (by omega) ?_);refine al (fP hO (sm.k hk) (hxs.at (by omega)) hys (by omega) (by omega) λk2 hk2=>?_);refine az (λhk3=>?_) λhk3=>?_
       ·have jl4:=jl3.appY (k:=k2);refine az (λ_=>ap ⟨sm,jl4.done⟩) λh6=>?_;have h6:=nb h6;refine al (aP (by omega) ?_);have jl5:=jl4.pushX (by omega);refine az (λ_=>ap ⟨sm,jl5.last⟩) λh7=>?_;have h7:=nb h7;have q:=fQ (i+j+1) sm jl5 (by omega) (by omega) (by omega);exact az (λ_=>ap q) λ_=>ap ⟨_,_,_,_,_,_,rfl,q⟩
       ·refine al (aP (by omega) ?_);have jl5:=jl3.pushX (by omega);refine az (λ_=>ap ⟨sm,jl5.last⟩) λh7=>?_;have h7:=nb h7;have q:=fQ (i+j+1) sm jl5 (by omega) (by omega) (by omega);exact az (λ_=>ap q) λ_=>ap ⟨_,_,_,_,_,_,rfl,q⟩
end
section
variable {xs ys:Array Keyed}
def JH(xs ys:Array Keyed)(out:Array Keyed)(i j:Nat):Prop:=out.toList.Perm (xs.toList.drop i++ys.toList.drop j)
theorem yC(xs:Array Keyed){i k:Nat}(hk:k<=i)(hi:i<=xs.size):xs.toList.drop k=(xs.extract k i).toList++xs.toList.drop i:=by
 rw[dv,fq];conv=>lhs;rw[<-fA (i - k) (xs.toList.drop k)]
 rw[List.drop_drop,gS hk]
theorem yD{i:Nat}(h0:0 < i)(hi:i<=xs.size):xs.toList.drop (i - 1)=xs[i - 1]::xs.toList.drop i:=by rw[cm (by rw[bn];omega),Nat.sub_add_cancel h0];rfl
theorem yE(xs:Array Keyed)(i:Nat):xs.toList=(xs.extract 0 i).toList++xs.toList.drop i:=by rw[dv,fq,List.drop_zero,Nat.sub_zero,fA]
variable {out:Array Keyed} {i j k:Nat}
theorem JH.appX(h:JH xs ys out i j)(hk:k<=i)(hi:i<=xs.size):JH xs ys (out++(xs.extract k i).reverse) k j:=by unfold JH at h ⊢;rw[bX,Array.toList_reverse,yC xs hk hi,bg];exact ((List.reverse_perm _).append h |> λz=>(cx.trans z))
theorem JH.appY(h:JH xs ys out i j)(hk:k<=j)(hj:j<=ys.size):JH xs ys (out++(ys.extract k j).reverse) i k:=by unfold JH at h ⊢;rw[bX,Array.toList_reverse,yC ys hk hj];refine cx.trans (((List.reverse_perm _).append h).trans ?_);rw[<-bg,<-bg];exact cx.append_right _
theorem JH.pushX(h:JH xs ys out i j)(h0:0 < i)(hi:i<=xs.size):JH xs ys (out.push xs[i - 1]) (i - 1) j:=by unfold JH at h ⊢;rw[fT,yD h0 hi,List.cons_append];exact cx.trans (h.cons _)
theorem JH.pushY(h:JH xs ys out i j)(h0:0 < j)(hj:j<=ys.size):JH xs ys (out.push ys[j - 1]) i (j - 1):=by unfold JH at h ⊢;rw[fT,yD h0 hj];refine cx.trans ((h.cons _).trans ?_);exact List.perm_middle.symm
theorem JH.done(h:JH xs ys out i j):All xs ys (xs.extract 0 i++ys.extract 0 j++out.reverse):=by
 unfold JH at h;unfold All;rw[bX,bX,Array.toList_reverse];conv=>rhs;rw[yE xs i,yE ys j]
 rw[bg,bg];refine List.Perm.append_left _ ?_;refine (((List.reverse_perm _).trans h).append_left _).trans ?_;rw[<-bg,<-bg];exact cx.append_right _
theorem JH.fst(h:JH xs ys out i j):All xs ys (ys.extract 0 j++xs.extract 0 i++out.reverse):=by refine g7 ?_ h.done;rw[bX,bX,bX,bX];exact cx.append_right _
end
section
variable {prog:Program} {w:World} {A:Around} {E:Value->Shared->Prop} {s:Shared} {κ:PyProof.Rows.KeyKind}
def MH(xs ys:Array Keyed)(st:SortSt)(lo:Nat)(r:Option (Array Keyed))(out:Array Keyed)(i j:Nat)(st':SortSt):Prop:=
 Same1 st st'/\match r with |some r=>All xs ys r |none=>JH xs ys out i j/\0 < i/\i<=xs.size/\1 < j/\j<=ys.size/\lo+i+j<=xs.size+ys.size
theorem eQ{xs ys out:Array Keyed}{st st':SortSt}{i j:Nat}(lo:Nat)(sm:Same1 st st')(jl:JH xs ys out i j)(h1:0 < i)(h2:i<=xs.size)(h3:1 < j)(h4:j<=ys.size)(h5:lo+i+j<=xs.size+ys.size):MH xs ys st lo none out i j st':=⟨sm,jl,h1,h2,h3,h4,h5⟩
theorem Th(hO:κ.OneLt){xs ys:Array Keyed}{st:SortSt}{Q:Array Keyed->SortSt->Prop}(hk:kindOf st=oneType')(hxs:okA κ xs)(hys:okA κ ys)(hx:0 < xs.size)(hy:0 < ys.size)
  (h:∀out st',All xs ys out->Same1 st st'->Q out st'):PyProof.Rows.wpS (model prog w) A E s (yu xs ys) Q st:=by
 unfold yu;refine al (wpS_lift (et ⟨rfl,?_⟩));dsimp only;refine al (aP (show xs.size - 1 < xs.size by omega) ?_);have j0:JH xs ys #[xs[xs.size - 1]] (xs.size - 1) ys.size:=by have:=JH.pushX (xs:=xs) (ys:=ys) (out:=#[]) (i:=xs.size) (j:=ys.size) (by unfold JH;rw[<-bn,ii,<-bn,ii];exact eP _) hx (av _);exact this
 refine az (λ_=>ap (h _ _ j0.done (Same1.refl st))) λh1=>?_;refine az (λ_=>ap (h _ _ j0.fst (Same1.refl st))) λh2=>?_;have h1:=nb h1;have h2:=nb h2;refine al (wpS_get ?_);refine al (wpS_mono (de (I:=λx c st'=>∃i j out mg,c=(none,i,j,out,mg)/\MH xs ys st (x+1) none out i j st') (Q:=λc st'=>∃r,c.1=some r/\All xs ys r/\Same1 st st') ?step ?fin ⟨_,_,_,_,rfl,Same1.refl st,j0,by omega,by omega,by omega,by omega,by omega⟩) ?post);case post=>
  rintro ⟨c1,c2⟩ st' ⟨r,e,hr,sm⟩;dsimp only at e;subst e;exact ap (h _ _ hr sm)
 case fin=>
  rintro c st' ⟨i,j,out,mg,rfl,sm,jl,b1,b2,b3,b4,b5⟩;omega
 case step=>
  rintro x c st' _ hxt ⟨i,j,out,mg,rfl,sm,jl,b1,b2,b3,b4,b5⟩;dsimp only;refine al (wpS_mono (de (I:=λy c st'=>∃i' j' out ac bc,c=(none,i',j',out,ac,bc)/\MH xs ys st (x+1+y) none out i' j' st') (Q:=λc st'=>MH xs ys st (x+2) c.1 c.2.2.2.1 c.2.1 c.2.2.1 st') ?step1 ?fin1 ⟨i,j,_,_,_,rfl,sm,jl,b1,b2,b3,b4,by omega⟩) ?post1);case fin1=>
   rintro c st' ⟨i',j',out,ac,bc,rfl,sm,jl,c1,c2,c3,c4,c5⟩;exact eQ (x+2) sm jl c1 c2 c3 c4 (by omega)
  case step1=>
   rintro y c st' _ hyt ⟨i',j',out,ac,bc,rfl,sm,jl,c1,c2,c3,c4,c5⟩;dsimp only;refine al (aP (by omega) (al (aP (by omega) ?_)));refine al (ju hO (sm.k hk) (hys.at (by omega)) (hxs.at (by omega)) λb=>?_);refine az (λ_=>?_) λ_=>?_
   ·refine al (aP (by omega) ?_);have jl':=jl.pushX (by omega) (by omega);refine az (λ_=>ap ⟨sm,jl'.done⟩) λh3=>?_;have h3:=nb h3;have q1:=eQ (x+2) sm jl' (by omega) (by omega) (by omega) (by omega) (by omega);have q2:=eQ (x+1+(y+1)) sm jl' (by omega) (by omega) (by omega) (by omega) (by omega);exact az (λ_=>ap q1) λ_=>ap ⟨_,_,_,_,_,rfl,q2⟩
   ·refine al (aP (by omega) ?_);have jl':=jl.pushY (by omega) (by omega);refine az (λ_=>ap ⟨sm,jl'.fst⟩) λh3=>?_;have h3:=nb h3;have q1:=eQ (x+2) sm jl' (by omega) (by omega) (by omega) (by omega) (by omega);have q2:=eQ (x+1+(y+1)) sm jl' (by omega) (by omega) (by omega) (by omega) (by omega);exact az (λ_=>ap q1) λ_=>ap ⟨_,_,_,_,_,rfl,q2⟩
  case post1=>
   rintro ⟨r,i1,j1,out1,ac,bc⟩ st1 ⟨sm1,hr⟩;dsimp only at hr ⊢;cases r with
   |some r=>exact ap ⟨r,rfl,hr,sm1⟩
   |none=>
    obtain ⟨jl1,d1,d2,d3,d4,d5⟩:=hr;dsimp only;refine al (wpS_lift (et ⟨rfl,?_⟩));refine al (wpS_mono (de (I:=λy c st'=>∃i' j' out mg ac bc,c=(none,i',j',out,mg,ac,bc)/\MH xs ys st (x+2) none out i' j' st') (Q:=λc st'=>MH xs ys st (x+2) c.1 c.2.2.2.1 c.2.1 c.2.2.1 st') ?step2 ?fin2 ⟨i1,j1,_,_,_,_,rfl,sm1,jl1,d1,d2,d3,d4,d5⟩) ?post2);case fin2=>
     rintro c st' ⟨i',j',out,mg,ac,bc,rfl,sm,q⟩;exact ⟨sm,q⟩
    case post2=>
     rintro ⟨r,i2,j2,out2,mg2,ac2,bc2⟩ st2 ⟨sm2,hr⟩;dsimp only at hr ⊢;cases r with
     |some r=>exact ap ⟨r,rfl,hr,sm2⟩
     |none=>
      obtain ⟨jl2,e1,e2,e3,e4,e5⟩:=hr;dsimp only;refine al (gp ?_);exact ap ⟨i2,j2,_,_,rfl,sm2,jl2,e1,e2,e3,e4,by omega⟩
    case step2=>
     rintro y c st2 _ hyt ⟨i',j',out,mg,ac,bc,rfl,sm,jl,c1,c2,c3,c4,c5⟩;dsimp only;refine az (λ_=>?_) λ_=>?_;all_goals
      refine al (gp ?_);refine al (aP (by omega) ?_);refine al (fP hO (sm.k hk) (hys.at (by omega)) hxs (by omega) (by omega) λk hk'=>?_);refine az (λhk0=>?_) λhk0=>?_
      ·have jl2:=jl.appX (k:=k) (by omega) (by omega);refine az (λ_=>ap ⟨sm,jl2.done⟩) λh3=>?_;have h3:=nb h3;refine al (aP (by omega) ?_);have jl3:=jl2.pushY (by omega) (by omega);refine az (λ_=>ap ⟨sm,jl3.fst⟩) λh5=>?_;have h5:=nb h5;refine al (aP (by omega) ?_);refine al (fP hO (sm.k hk) (hxs.at (by omega)) hys (by omega) (by omega) λk2 hk2=>?_);refine az (λhk3=>?_) λhk3=>?_
       ·have jl4:=jl3.appY (k:=k2) (by omega) (by omega);refine az (λ_=>ap ⟨sm,jl4.fst⟩) λh6=>?_;have h6:=nb h6;refine az (λ_=>ap ⟨sm,jl4.done⟩) λh8=>?_;have h8:=nb h8;refine al (aP (by omega) ?_);have jl5:=jl4.pushX (by omega) (by omega);refine az (λ_=>ap ⟨sm,jl5.done⟩) λh7=>?_;have h7:=nb h7;have q:=eQ (x+2) sm jl5 (by omega) (by omega) (by omega) (by omega) (by omega);exact az (λ_=>ap q) λ_=>ap ⟨_,_,_,_,_,_,rfl,q⟩
       ·refine al (aP (by omega) ?_);have jl5:=jl3.pushX (by omega) (by omega);refine az (λ_=>ap ⟨sm,jl5.done⟩) λh7=>?_;have h7:=nb h7;have q:=eQ (x+2) sm jl5 (by omega) (by omega) (by omega) (by omega) (by omega);exact az (λ_=>ap q) λ_=>ap ⟨_,_,_,_,_,_,rfl,q⟩
      ·have jl2:=jl;refine al (aP (by omega) ?_);have jl3:=jl2.pushY (by omega) (by omega);refine az (λ_=>ap ⟨sm,jl3.fst⟩) λh5=>?_;have h5:=nb h5;refine al (aP (by omega) ?_);refine al (fP hO (sm.k hk) (hxs.at (by omega)) hys (by omega) (by omega) λk2 hk2=>?_);refine az (λhk3=>?_) λhk3=>?_
       ·have jl4:=jl3.appY (k:=k2) (by omega) (by omega);refine az (λ_=>ap ⟨sm,jl4.fst⟩) λh6=>?_;have h6:=nb h6;refine az (λ_=>ap ⟨sm,jl4.done⟩) λh8=>?_;have h8:=nb h8;refine al (aP (by omega) ?_);have jl5:=jl4.pushX (by omega) (by omega);refine az (λ_=>ap ⟨sm,jl5.done⟩) λh7=>?_;have h7:=nb h7;have q:=eQ (x+2) sm jl5 (by omega) (by omega) (by omega) (by omega) (by omega);exact az (λ_=>ap q) λ_=>ap ⟨_,_,_,_,_,_,rfl,q⟩
       ·refine al (aP (by omega) ?_);have jl5:=jl3.pushX (by omega) (by omega);refine az (λ_=>ap ⟨sm,jl5.done⟩) λh7=>?_;have h7:=nb h7;have q:=eQ (x+2) sm jl5 (by omega) (by omega) (by omega) (by omega) (by omega);exact az (λ_=>ap q) λ_=>ap ⟨_,_,_,_,_,_,rfl,q⟩
end
theorem yF(sa:Nat):∀(m:List Keyed)(n:Nat)(a:Array Keyed),sa+n+m.length<=a.size->
  ((m.zipIdx n).foldl (λ(a:Array Keyed) (q:Keyed×Nat)=>a.setIfInBounds (sa+q.2) q.1) a).toList=a.toList.take (sa+n)++m++a.toList.drop (sa+n+m.length)
 |[],n,a,h=>by simp
 |p::m,n,a,h=>by
  have hl:sa+n < a.toList.length:=by rw[bn];simp only[c6]at h;omega
  have ih:=yF sa m (n+1) (a.setIfInBounds (sa+n) p) (by rw[Array.size_setIfInBounds];simp only[c6]at h;omega);rw[List.zipIdx_cons,List.foldl_cons];refine ih.trans ?_;rw[Array.toList_setIfInBounds];have e1:(a.toList.set (sa+n) p).take (sa+(n+1))=a.toList.take (sa+n)++[p]:=by rw[<-Nat.add_assoc,fm,eK hl,List.take_set_of_le (av _)];rfl
  have e2:(a.toList.set (sa+n) p).drop (sa+(n+1)+m.length)=a.toList.drop (sa+n+(p::m).length):=by rw[List.drop_set_of_lt (by omega),c6];congr 1;omega
  rw[e1,e2];simp
theorem Ti(l:List Keyed)(a b c:Nat)(h1:a<=b):l=l.take a++((l.drop a).take (b - a)++(l.drop b).take c)++l.drop (b+c):=by
 conv=>lhs;rw[<-fA a l,<-fA (b - a) (l.drop a),List.drop_drop,gS h1,<-fA c (l.drop b),List.drop_drop]
 simp
section
variable {prog:Program} {w:World} {A:Around} {E:Value->Shared->Prop} {s:Shared} {κ:PyProof.Rows.KeyKind}
def Fin1(a₀:Array Keyed)(p:Array (Nat×Nat×Nat))(st:SortSt):Prop:=(arrOf st).Perm a₀/\kindOf st=oneType'/\failedOf st=none/\pendingOf st=p
variable {a₀:Array Keyed}
theorem Fin1.size{p:Array (Nat×Nat×Nat)}{st:SortSt}(h:Fin1 a₀ p st):(arrOf st).size=a₀.size:=h.1.size_eq
theorem Fin1.okA{p:Array (Nat×Nat×Nat)}{st:SortSt}(h:Fin1 a₀ p st)(h0:L2.okA κ a₀):L2.okA κ (arrOf st):=λq hq=>h0 q ((Array.perm_iff_toList_perm.mp h.1).mem_iff.mp hq)
theorem okA.cut{xs:Array Keyed}(h:L2.okA κ xs)(i j:Nat):L2.okA κ (xs.extract i j):=λq hq=>h q (by
 rw[dv,fq]at hq;exact List.mem_of_mem_drop (List.mem_of_mem_take hq))
theorem Tj(hO:κ.OneLt)(h0:L2.okA κ a₀){n1 n2 pw q2:Nat}{st:SortSt}{Q:Bool->SortSt->Prop}(hB:Fin1 a₀ #[(0,n1,pw),(n1,n2,q2)] st)(h1:0 < n1)(h2:0 < n2)(hs:n1+n2=a₀.size)
  (h:∀st',Fin1 a₀ #[(0,n1+n2,pw)] st'->Q true st'):PyProof.Rows.wpS (model prog w) A E s (mergeAt' 0) Q st:=by
 have hsz:=hB.size;have hok:=hB.okA h0;obtain ⟨kd,ar,pd,mg,fl⟩:=st;obtain ⟨hperm,e1,e2,e3⟩:=hB;have hperm:ar.Perm a₀:=hperm;have e1:kd=oneType':=e1;have e2:fl=none:=e2;have e3:pd=#[(0,n1,pw),(n1,n2,q2)]:=e3;have hsz:ar.size=a₀.size:=hsz;have hok:L2.okA κ ar:=hok;subst e1 e2 e3;unfold mergeAt';refine al (wpS_get ?_);have ep:(#[(0,n1,pw),(n1,n2,q2)].setIfInBounds 0 (0,n1+n2,pw)).eraseIdxIfInBounds (0+1)=#[(0,n1+n2,pw)]:=by simp
 generalize hP:(#[(0,n1,pw),(n1,n2,q2)].setIfInBounds 0 (0,n1+n2,pw)).eraseIdxIfInBounds (0+1)=P at ep;have fin0:Fin1 a₀ #[(0,n1+n2,pw)] (SortSt.mk' oneType' ar P mg none):=⟨hperm,rfl,rfl,ep⟩;have hset:∀{st st':SortSt}{Q:PUnit->SortSt->Prop},Q ⟨⟩ st'->PyProof.Rows.wpS (model prog w) A E s (set st':StateT SortSt Sem PUnit) Q st:=λhq=>by
  unfold PyProof.Rows.wpS;rw[StateT.run_set];exact am ⟨rfl,hq⟩
 refine al (hset (st':=SortSt.mk' oneType' ar ((#[(0,n1,pw),(n1,n2,q2)].setIfInBounds 0 (0,n1+n2,pw)).eraseIdxIfInBounds (0+1)) mg none) ?_);rw[hP];refine al (aP (xs:=ar) (by omega) ?_);refine al (fP (xs:=ar) hO rfl (hok.at (by omega)) hok (by omega) (by omega) λk hk=>?_);dsimp only;refine az (λ_=>ap (h _ fin0)) λh3=>?_;have h3:=nb h3;refine al (aP (xs:=ar) (by omega) ?_);refine al (fP (xs:=ar) hO rfl (hok.at (by omega)) hok (by omega) (by omega) λm hm=>?_);dsimp only;refine az (λ_=>ap (h _ fin0)) λh4=>?_;have h4:=nb h4;have okx:=okA.cut hok (0+k) n1;have oky:=okA.cut hok n1 (n1+m);have zx:(ar.extract (0+k) n1).size=n1 - k:=by rw[Array.size_extract];omega
 have zy:(ar.extract n1 (n1+m)).size=m:=by rw[Array.size_extract];omega
 have tail:∀(out:Array Keyed)(st':SortSt),All (ar.extract (0+k) n1) (ar.extract n1 (n1+m)) out->Same1 (SortSt.mk' oneType' ar P mg none) st'->
   PyProof.Rows.wpS (model prog w) A E s (do
    modify λs=>SortSt.mk' (kindOf s) (List.foldl (λ(a:Array Keyed) (q:Keyed×Nat)=>a.setIfInBounds (0+k+q.2) q.1) (arrOf s) out.toList.zipIdx) (pendingOf s) (gallopOf s) (failedOf s)
    let r <-get
    pure (failedOf r).isNone) Q st':=by
  intro out st' ha sm;obtain ⟨m1,m2,m3,m4⟩:=sm;refine al (gp (al (wpS_get ?_)));have ef:failedOf st'=none:=m4;have:(failedOf (SortSt.mk' (kindOf st') (List.foldl (λ(a:Array Keyed) (q:Keyed×Nat)=>a.setIfInBounds (0+k+q.2) q.1) (arrOf st') out.toList.zipIdx) (pendingOf st') (gallopOf st') (failedOf st'))).isNone=true:=by show (failedOf st').isNone=true;rw[ef];rfl
  rw[this];refine ap (h _ ⟨?_,m1,m4,m3.trans ep⟩);show (List.foldl (λ(a:Array Keyed) (q:Keyed×Nat)=>a.setIfInBounds (0+k+q.2) q.1) (arrOf st') out.toList.zipIdx).Perm a₀;have ea:arrOf st'=ar:=m2;rw[ea];refine Array.Perm.trans ?_ hperm;rw[Array.perm_iff_toList_perm];have zo:out.toList.length=n1 - k+m:=by rw[ha.length_eq,bd,bn,bn,zx,zy]
  have pf:=yF (0+k) out.toList 0 ar (by rw[zo];omega);refine (fN pf).trans ?_;have ct:=Ti ar.toList (0+k) n1 m (by omega);have ed:0+k+0+out.toList.length=n1+m:=by rw[zo];omega
  rw[ed,Nat.add_zero];conv=>rhs;rw[ct]
  refine List.Perm.append_right _ (List.Perm.append_left _ ?_);refine ha.trans (fN ?_);rw[dv,dv,fq,fq,Nat.add_sub_cancel_left]
 refine az (λ_=>?_) λ_=>?_
 ·exact al (Tf hO rfl okx oky (by omega) (by omega) tail)
 ·exact al (Th hO rfl okx oky (by omega) (by omega) tail)
end
section
variable {prog:Program} {w:World} {A:Around} {E:Value->Shared->Prop} {s:Shared} {κ:PyProof.Rows.KeyKind} {a₀:Array Keyed} {p:Array (Nat×Nat×Nat)}
theorem du(hO:κ.OneLt)(h0:L2.okA κ a₀){st:SortSt}{i j:Nat}{Q:Option Bool->SortSt->Prop}(hB:Fin1 a₀ p st)(hi:i < a₀.size)(hj:j < a₀.size)(h:∀b,Q (some b) st):PyProof.Rows.wpS (model prog w) A E s (ltAt' i j) Q st:=by rw[ltAt'_eq];refine al (wpS_get ?_);have hsz:=hB.size;have hok:=hB.okA h0;refine al (aP (xs:=arrOf st) (by omega) (al (aP (xs:=arrOf st) (by omega) ?_)));exact ju hO hB.2.1 (hok.at (by omega)) (hok.at (by omega)) h
theorem Fin1.arr{st:SortSt}{xs:Array Keyed}(hB:Fin1 a₀ p st)(h:xs.Perm (arrOf st)):Fin1 a₀ p (setArr st xs):=⟨h.trans hB.1,hB.2.1,hB.2.2.1,hB.2.2.2⟩
theorem jx{lo a nrem:Nat}{st:SortSt}{Q:Option Nat->SortSt->Prop}{f:Nat->Option (Option Nat)×Nat->StateT SortSt Sem (ForInStep (Option (Option Nat)×Nat))}{k:Option (Option Nat)×Nat->StateT SortSt Sem (Option Nat)}(han:a<=nrem)
  (hf:∀y n (Q':ForInStep (Option (Option Nat)×Nat)->SortSt->Prop),a<=n->n < nrem->Q' (.done (none,n)) st->Q' (.yield (none,n+1)) st->PyProof.Rows.wpS (model prog w) A E s (f y (none,n)) Q' st)
  (h:∀n,a<=n->n<=nrem->PyProof.Rows.wpS (model prog w) A E s (k (none,n)) Q st):
  PyProof.Rows.wpS (model prog w) A E s ((forIn [a:nrem] ((none,a):Option (Option Nat)×Nat) f) >>= k) Q st:=by
 refine al (wpS_mono (de (I:=λx c st'=>st'=st/\c=(none,x)) (Q:=λc st'=>st'=st/\∃n,c=(none,n)/\a<=n/\n<=nrem) ?step ?fin ⟨rfl,rfl⟩) ?post);case step=>
  rintro x c st' hx1 hx2 ⟨rfl,rfl⟩;exact hf x x _ hx1 hx2 ⟨rfl,x,rfl,hx1,by omega⟩ ⟨rfl,rfl⟩
 case fin=>
  rintro c st' ⟨rfl,rfl⟩;exact ⟨rfl,_,rfl,by omega,by omega⟩
 case post=>
  rintro c st' ⟨rfl,n,rfl,h1,h2⟩;exact h n h1 h2
theorem eU{st:SortSt}{i j:Nat}{Q:Unit->SortSt->Prop}(hB:Fin1 a₀ p st)(h:∀st',Fin1 a₀ p st'->Q () st'):PyProof.Rows.wpS (model prog w) A E s (reverseSlice' i j) Q st:=by rw[reverseSlice'_eq];exact gp (h _ (hB.arr (mirror_perm _ _ _ _)))
theorem yG(hO:κ.OneLt)(h0:L2.okA κ a₀){lo nrem:Nat}{st:SortSt}{Q:Option Nat->SortSt->Prop}(hB:Fin1 a₀ p st)(hn:lo+nrem<=a₀.size)(h1:1<=nrem)
  (h:∀m st',Fin1 a₀ p st'->1<=m->m<=nrem->Q (some m) st'):PyProof.Rows.wpS (model prog w) A E s (countRun' lo nrem) Q st:=by
 rw[countRun'_eq];dsimp only;refine jx (lo:=lo) h1 ?_ λn n1 n2=>?_
 ·intro y n Q' q1 q2 q3 q4;dsimp only;refine al (du hO h0 hB (by omega) (by omega) λb=>?_);exact az (λ_=>ap q3) λ_=>ap q4
 ·dsimp only;refine az (λ_=>ap (h _ _ hB n1 n2)) λhne=>?_;have hne:=nb hne;refine az (λ_=>?_) λ_=>?_
  ·refine al (du hO h0 hB (by omega) (by omega) λb=>?_);refine az (λ_=>ap (h _ _ hB n1 n2)) λ_=>?_;refine al (eU hB λst3 hB3=>?_);refine al (wpS_lift (et ⟨rfl,?_⟩));refine al (wpS_mono (de (I:=λx c st'=>Fin1 a₀ p st'/\∃q,c=(none,x,q)) (Q:=λc st'=>Fin1 a₀ p st'/\∃m q,c=(none,m,q)/\n+1<=m/\m<=nrem) ?_ ?_ ⟨hB3,0,rfl⟩) ?_)
   ·rintro x c st4 hx1 hx2 ⟨hB4,q,rfl⟩;dsimp only;refine al (du hO h0 hB4 (by omega) (by omega) λb=>?_);refine az (λ_=>?_) λ_=>?_
    ·refine az (λ_=>?_) λ_=>ap ⟨hB4,_,rfl⟩;exact al (eU hB4 λst5 hB5=>ap ⟨hB5,_,rfl⟩)
    ·refine al (du hO h0 hB4 (by omega) (by omega) λb=>?_);exact az (λ_=>ap ⟨hB4,_,_,rfl,by omega,by omega⟩) λ_=>ap ⟨hB4,_,rfl⟩
   ·rintro c st4 ⟨hB4,q,rfl⟩;exact ⟨hB4,_,_,rfl,by omega,by omega⟩
   ·rintro c st4 ⟨hB4,m,q,rfl,m1,m2⟩;dsimp only;refine az (λ_=>?_) λ_=>?_
    ·refine al (eU hB4 λst5 hB5=>?_);refine al (eU hB5 λst9 hB9=>?_);refine jx (lo:=lo) (by omega) ?_ λn9 m1 m2=>?_
     ·intro y n Q' q1 q2 q3 q4;dsimp only;refine al (du hO h0 hB9 (by omega) (by omega) λb=>?_);exact az (λ_=>ap q3) λ_=>ap q4
     ·exact ap (h _ _ hB9 (by omega) (by omega))
    ·skip;refine al (eU hB4 λst9 hB9=>?_);refine jx (lo:=lo) (by omega) ?_ λn9 m1 m2=>?_
     ·intro y n Q' q1 q2 q3 q4;dsimp only;refine al (du hO h0 hB9 (by omega) (by omega) λb=>?_);exact az (λ_=>ap q3) λ_=>ap q4
     ·exact ap (h _ _ hB9 (by omega) (by omega))
  ·skip;refine al (wpS_lift (et ⟨rfl,?_⟩));refine al (wpS_mono (de (I:=λx c st'=>Fin1 a₀ p st'/\∃q,c=(none,x,q)) (Q:=λc st'=>Fin1 a₀ p st'/\∃m q,c=(none,m,q)/\n+1<=m/\m<=nrem) ?_ ?_ ⟨hB,0,rfl⟩) ?_)
   ·rintro x c st4 hx1 hx2 ⟨hB4,q,rfl⟩;dsimp only;refine al (du hO h0 hB4 (by omega) (by omega) λb=>?_);refine az (λ_=>?_) λ_=>?_
    ·refine az (λ_=>?_) λ_=>ap ⟨hB4,_,rfl⟩;exact al (eU hB4 λst5 hB5=>ap ⟨hB5,_,rfl⟩)
    ·refine al (du hO h0 hB4 (by omega) (by omega) λb=>?_);exact az (λ_=>ap ⟨hB4,_,_,rfl,by omega,by omega⟩) λ_=>ap ⟨hB4,_,rfl⟩
   ·rintro c st4 ⟨hB4,q,rfl⟩;exact ⟨hB4,_,_,rfl,by omega,by omega⟩
   ·rintro c st4 ⟨hB4,m,q,rfl,m1,m2⟩;dsimp only;refine az (λ_=>?_) λ_=>?_
    ·refine al (eU hB4 λst5 hB5=>?_);refine al (eU hB5 λst9 hB9=>?_);refine jx (lo:=lo) (by omega) ?_ λn9 m1 m2=>?_
     ·intro y n Q' q1 q2 q3 q4;dsimp only;refine al (du hO h0 hB9 (by omega) (by omega) λb=>?_);exact az (λ_=>ap q3) λ_=>ap q4
     ·exact ap (h _ _ hB9 (by omega) (by omega))
    ·skip;refine al (eU hB4 λst9 hB9=>?_);refine jx (lo:=lo) (by omega) ?_ λn9 m1 m2=>?_
     ·intro y n Q' q1 q2 q3 q4;dsimp only;refine al (du hO h0 hB9 (by omega) (by omega) λb=>?_);exact az (λ_=>ap q3) λ_=>ap q4
     ·exact ap (h _ _ hB9 (by omega) (by omega))
end
section
variable {prog:Program} {w:World} {A:Around} {E:Value->Shared->Prop} {s:Shared} {κ:PyProof.Rows.KeyKind} {a₀:Array Keyed} {p:Array (Nat×Nat×Nat)}
theorem yH(hO:κ.OneLt)(h0:L2.okA κ a₀){lo n ok:Nat}{st:SortSt}{Q:Bool->SortSt->Prop}(hB:Fin1 a₀ p st)(hn:lo+n<=a₀.size)
  (h:∀st',Fin1 a₀ p st'->Q true st'):PyProof.Rows.wpS (model prog w) A E s (binarySort' lo n ok) Q st:=by
 rw[binarySort'_eq];dsimp only;refine al (wpS_mono (de (I:=λ_ c st'=>c=(none,())/\Fin1 a₀ p st') (Q:=λc st'=>c=(none,())/\Fin1 a₀ p st') ?step (λ_ _ z=>z) ⟨rfl,hB⟩) ?post);case post=>
  rintro c st' ⟨rfl,hB'⟩;exact ap (h st' hB')
 case step=>
  rintro k c st' hk1 hk2 ⟨rfl,hB'⟩;refine al (wpS_mono (de (I:=λ_ c st''=>st''=st'/\∃l r,c=(none,l,r)/\r<=k) (Q:=λc st''=>st''=st'/\∃l r,c=(none,l,r)) ?step2 ?fin2 ⟨rfl,0,k,rfl,av _⟩) ?post2);case step2=>
   rintro x c st'' _ _ ⟨rfl,l,r,rfl,hr⟩;dsimp only;refine az (λ_=>ap ⟨rfl,l,r,rfl⟩) λhlr=>?_;refine al (du hO h0 hB' (by omega) (by omega) λb=>?_);exact az (λ_=>ap ⟨rfl,_,_,rfl,by omega⟩) λ_=>ap ⟨rfl,_,_,rfl,by omega⟩
  case fin2=>
   rintro c st'' ⟨rfl,l,r,rfl,_⟩;exact ⟨rfl,l,r,rfl⟩
  case post2=>
   rintro c st'' ⟨rfl,l,r,rfl⟩;dsimp only;rw[moveDown'_eq];exact al (gp (ap ⟨rfl,hB'.arr (bubble_perm _ _ _)⟩))
theorem Tn:minRun' 64 64 0=32:=by decide
theorem Tp(hO:κ.OneLt)(h0:L2.okA κ a₀){st:SortSt}{Q:Unit->SortSt->Prop}(hB:Fin1 a₀ #[] st)(h64:a₀.size=64)
  (h:∀st',(arrOf st').Perm a₀->failedOf st'=none->Q () st'):PyProof.Rows.wpS (model prog w) A E s sortRuns' Q st:=by
 rw[sortRuns'_eq];refine al (wpS_get ?_);dsimp only;have hsz:=hB.size;simp only[hsz,h64,Tn];refine al (wpS_mono (de
  (I:=λx c st'=>(x=0/\c=(none,0)/\Fin1 a₀ #[] st')\/(x=1/\∃n1,32<=n1/\n1<=64/\c=(none,n1)/\Fin1 a₀ #[(0,n1,0)] st')\/(∃n1 pw,0 < n1/\n1 < 64/\c=(none,64)/\Fin1 a₀ #[(0,n1,pw),(n1,64 - n1,0)] st'))
  (Q:=λc st'=>c=(none,64)/\(Fin1 a₀ #[(0,64,0)] st'\/∃n1 pw,0 < n1/\n1 < 64/\Fin1 a₀ #[(0,n1,pw),(n1,64 - n1,0)] st')) ?step ?fin (.inl ⟨rfl,rfl,hB⟩)) ?post)
 case fin=>
  rintro c st' (⟨hx,_,_⟩ |⟨hx,_⟩ |⟨n1,pw,g1,g2,e,hB'⟩)
  ·exact absurd hx (by decide)
  ·exact absurd hx (by decide)
  ·exact ⟨e,.inr ⟨n1,pw,g1,g2,hB'⟩⟩
 case step=>
  rintro x c st' _ hx (⟨rfl,rfl,hB'⟩ |⟨rfl,n1,g1,g2,rfl,hB'⟩ |⟨n1,pw,g1,g2,rfl,hB'⟩)
  ·dsimp only;refine az (λz=>absurd z (by decide)) λ_=>?_;refine al (yG hO h0 hB' (by omega) (by omega) λm st2 hB2 m1 m2=>?_);dsimp only;refine az (λhm=>?_) λhm=>?_
   ·refine al (wpS_lift (et ⟨rfl,?_⟩));refine al (yH hO h0 hB2 (by omega) λst3 hB3=>?_);simp only[Bool.not_true,gs,if_false];refine al (wpS_get ?_);have hb:(pendingOf st3).back?=none:=by rw[hB3.2.2.2];rfl
    rw[hb];dsimp only;exact al (gp (ap (.inr (.inl ⟨by trivial,32,by omega,by omega,rfl,hB3.1,hB3.2.1,hB3.2.2.1,by show (pendingOf st3).push _=_;rw[hB3.2.2.2];rfl⟩))))
   ·skip;refine al (wpS_get ?_);have hb:(pendingOf st2).back?=none:=by rw[hB2.2.2.2];rfl
    rw[hb];dsimp only;exact al (gp (ap (.inr (.inl ⟨by trivial,m,by omega,by omega,by rw[Nat.zero_add],hB2.1,hB2.2.1,hB2.2.2.1,by show (pendingOf st2).push _=_;rw[hB2.2.2.2];rfl⟩))))
  ·dsimp only;refine az (λz=>?_) λhz=>?_
   ·have e:n1=64:=by omega
    subst e;exact ap ⟨rfl,.inl hB'⟩
   refine al (yG hO h0 hB' (by omega) (by omega) λm st2 hB2 m1 m2=>?_);dsimp only;refine az (λhm=>?_) λhm=>?_
   ·refine al (wpS_lift (et ⟨rfl,?_⟩));refine al (yH hO h0 hB2 (by omega) λst3 hB3=>?_);simp only[Bool.not_true,gs,if_false];refine al (wpS_get ?_);have hp:=hB3.2.2.2;have hb:(pendingOf st3).back?=some (0,n1,0):=by rw[hp];rfl
    rw[hb];dsimp only;refine al (wpS_mono (de (I:=λ_ c st''=>st''=st3/\c=(none,())) (Q:=λc st''=>st''=st3/\c=(none,())) ?_ (λ_ _ z=>z) ⟨rfl,rfl⟩) ?_)
    ·rintro x c st'' _ _ ⟨rfl,rfl⟩;refine al (wpS_get ?_);rw[hp];exact ap ⟨rfl,rfl⟩
    ·rintro c st'' ⟨rfl,rfl⟩;dsimp only;refine al (gp (al (gp (ap (.inr (.inr ⟨n1,power' 64 (2 * 0+n1) (2 * 0+n1+n1+min (64 - n1) 32) 64,by omega,by omega,?_,hB3.1,hB3.2.1,hB3.2.2.1,?_⟩))))))
     ·have en:min (64 - n1) 32=64 - n1:=by omega
      rw[en,gS (by omega)]
     ·show ((pendingOf st'').modify ((pendingOf st'').size - 1) _).push (n1,min (64 - n1) 32,0)=_;have en:min (64 - n1) 32=64 - n1:=by omega
      rw[hp,en];rfl
   ·skip;refine al (wpS_get ?_);have hp:=hB2.2.2.2;have hb:(pendingOf st2).back?=some (0,n1,0):=by rw[hp];rfl
    rw[hb];dsimp only;refine al (wpS_mono (de (I:=λ_ c st''=>st''=st2/\c=(none,())) (Q:=λc st''=>st''=st2/\c=(none,())) ?_ (λ_ _ z=>z) ⟨rfl,rfl⟩) ?_)
    ·rintro x c st'' _ _ ⟨rfl,rfl⟩;refine al (wpS_get ?_);rw[hp];exact ap ⟨rfl,rfl⟩
    ·rintro c st'' ⟨rfl,rfl⟩;dsimp only;refine al (gp (al (gp (ap (.inr (.inr ⟨n1,power' 64 (2 * 0+n1) (2 * 0+n1+n1+m) 64,by omega,by omega,?_,hB2.1,hB2.2.1,hB2.2.2.1,?_⟩))))))
     ·have en:m=64 - n1:=by omega
      rw[en,gS (by omega)]
     ·show ((pendingOf st'').modify ((pendingOf st'').size - 1) _).push (n1,m,0)=_;have en:m=64 - n1:=by omega
      rw[hp,en];rfl
  ·dsimp only;rw[if_pos (av _)];exact ap ⟨rfl,.inr ⟨n1,pw,g1,g2,hB'⟩⟩
 case post=>
  rintro c st' ⟨rfl,hD⟩;dsimp only;refine al (wpS_mono (de (I:=λx c st''=>c=(none,())/\(Fin1 a₀ #[(0,64,0)] st''\/(∃pw,Fin1 a₀ #[(0,64,pw)] st'')\/x=0/\∃n1 pw,0 < n1/\n1 < 64/\Fin1 a₀ #[(0,n1,pw),(n1,64 - n1,0)] st'')) (Q:=λc st''=>c=(none,())/\(arrOf st'').Perm a₀/\failedOf st''=none) ?_ ?_ ⟨rfl,hD.elim .inl λz=>.inr (.inr ⟨rfl,z⟩)⟩) ?_)
  ·rintro x c st'' _ _ ⟨rfl,hD⟩;refine al (wpS_get ?_);rcases hD with hB' |⟨pw,hB'⟩ |⟨_,n1,pw,g1,g2,hB'⟩
   ·refine az (λ_=>ap ⟨rfl,hB'.1,hB'.2.2.1⟩) λz=>?_;rw[hB'.2.2.2]at z;exact absurd (av 1) z
   ·refine az (λ_=>ap ⟨rfl,hB'.1,hB'.2.2.1⟩) λz=>?_;rw[hB'.2.2.2]at z;exact absurd (av 1) z
   ·rw[hB'.2.2.2];refine az (λz=>absurd z (show ¬(2<=1) by decide)) λ_=>?_;have hm:=Tj (prog:=prog) (w:=w) (A:=A) (E:=E) (s:=s) hO h0 hB' g1 (by omega) (by omega) (Q:=λb st'=>b=true/\∃pw,Fin1 a₀ #[(0,64,pw)] st') λst' hB4=>⟨rfl,pw,by rw[gS (by omega)]at hB4;exact hB4⟩;refine al (wpS_mono hm λb st' hb=>?_);obtain ⟨rfl,hb⟩:=hb;exact ap ⟨rfl,.inr (.inl hb)⟩
  ·rintro c st'' ⟨rfl,hD⟩;rcases hD with hB' |⟨pw,hB'⟩ |⟨z,_⟩
   ·exact ⟨rfl,hB'.1,hB'.2.2.1⟩
   ·exact ⟨rfl,hB'.1,hB'.2.2.1⟩
   ·exact absurd z (by decide)
  ·rintro c st'' ⟨rfl,hp,hf⟩;exact ap (h _ hp hf)
end
section
variable {prog:Program} {w:World} {A:Around} {E:Value->Shared->Prop} {s:Shared}
theorem Tq {κ:PyProof.Rows.KeyKind} (hO:κ.OneLt) {a:Addr} {vs:List Value} {n:Nat} {P:Fin->Shared->Prop} (ho:s.heap.get? a=some (seqObj "list" vs.toArray n)) (h0:L2.okA κ (pairsOf vs)) (hkk:keyKind' vs.toArray=pure oneType') (h64:vs.length=64)
  (h:∀st':SortSt,(arrOf st').Perm (pairsOf vs)->P (.done (.ret .none)) { s with heap:=sortedHeap s.heap a vs ((arrOf st').map (·.2)) }):wpAny (model prog w) A (Builtin.«list.sort» ⟨[.ref a],[]⟩) P E s:=by
 have la:=ay ho;have zv:vs.toArray.size=64:=by rw[aw];exact h64
 have zp:(pairsOf vs).size=64:=by rw[pairsOf_size];exact h64
 have n2:¬vs.toArray.size < 2:=by omega
 rw[list_sort_plain];refine ae (listItems_at ho rfl (ae (listUpdate_at ho rfl ?_)));have h1:=get?_update_seq ho (λ_=>#[]);refine ae (seqEpoch_at h1 rfl (ae (wpAny_newTuple ?_ (by rw[h64,dS];decide))));refine ae (wpAny_newList (cq ?_));have h2:=ah (seqObj "list" #[] 0) (ah (seqObj "tuple" vs.toArray 0) h1);show wpAny (model prog w) A _ P E { s with heap:=((s.heap.update a (Obj.mapSeq λ_=>#[])).push (seqObj "tuple" vs.toArray 0)).push (seqObj "list" #[] 0) };dsimp only;rw[if_neg n2,if_neg n2,hkk];refine ae (am ?_);have go:=Tp (prog:=prog) (w:=w) (A:=A) (E:=E) (s:={ s with heap:=((s.heap.update a (Obj.mapSeq λ_=>#[])).push (seqObj "tuple" vs.toArray 0)).push (seqObj "list" #[] 0) }) hO h0 (st:=SortSt.mk' oneType' (vs.toArray.zip vs.toArray) #[] 7 none) (Q:=λ_ st'=>(arrOf st').Perm (pairsOf vs)/\failedOf st'=none) ⟨Array.Perm.refl _,rfl,rfl,rfl⟩ zp λst' p f=>⟨p,f⟩;refine ae (cr go ?_ λ_ _ e=>e);rintro ⟨⟨⟩,st'⟩ s' ⟨rfl,hp,hf⟩;dsimp only;have zz:((arrOf st').map (·.2)).size<=sizeLine:=by rw[Array.size_map,hp.size_eq,zp,dS];decide
 refine ae (seqEpoch_at h2 rfl (ae (listUpdate_at h2 rfl ?_ (hsz2:=Nat.le_succ_of_le zz))));rw[hf];simp only[gx,gs,if_false];exact am (h st' hp)
theorem Tt{vs:List Value}{ss:List Str}(hS:StrsAre vs ss){xs:Array Keyed}(hp:xs.Perm (pairsOf vs)):∃ss',StrsAre (xs.map (·.2)).toList ss'/\ss'.Perm ss:=by
 have hl:=Array.perm_iff_toList_perm.mp hp;rw[pairsOf_toList]at hl;have e1:(xs.map (·.2)).toList.Perm vs:=by rw[Array.toList_map];refine (hl.map (·.2)).trans (fN ?_);exact List.map_snd_zip (av _)
 refine ⟨(xs.map (·.2)).toList.map strOf,strsAre_map _ λv hv=>hS.all v (e1.mem_iff.mp hv),?_⟩;refine (e1.map strOf).trans (fN hS.strs)
theorem Tu{S:Addr}{ks:List Str}{Q:Value->Shared->Prop}(hh:A.handled=none)(hS:SetL prog w s.heap S ks (!bK w))(h64:ks.length<=64)
  (h:∀(h1 h':Heap) d tk e (out:Array Value) (ss':List Str),StrsAre out.toList ss'->ss'.Perm ks->(ks.length < 64->sortedS ss'=true)->(∀b o',s.heap.get? b=some o'->h1.get? b=some o')->(∀b o',h1.get? b=some o'->h'.get? b=some o')->s.toks<=tk->h'.get? h1.objs.size=some (seqObj "list" out e)->Q (.ref h1.objs.size) { s with heap:=h',drawn:=d,toks:=tk }):
  wpAny (model prog w) A (call (.builtin "sorted") [.ref S]) Q E s:=by
 rcases Nat.lt_or_ge ks.length 64 with hlt |hge
 ·exact Te hh hS hlt λh1 h' d tk e out ss' a1 a2 a3=>h h1 h' d tk e out ss' a1 a2 λ_=>a3
 have e64:ks.length=64:=by omega
 obtain ⟨es,ep,t,ho,hel,hp,hb,hf,hl,hpl⟩:=hS;refine Calls.call_function_entry kind_sorted plain_sorted entry_sorted (args_sorted1 _) ?_;unfold Builtin.«sorted»;refine ae (m:=checkCount "sorted" 1 1 _) (am ?_);refine ae (yq (by simpa using hh) rfl ho hf hl hpl (by rw[dS];unfold scanBound at hb;omega) λh1 d tk acc k1 htk hacc=>?_);have hall:∀v,v∈acc->∃x u,v=Value.str x u:=λv hv=>by
  obtain ⟨e,he,rfl⟩:=cy.mp (hacc.mem_iff.mp hv);obtain ⟨k,tk,rfl⟩:=hel e he;exact ⟨k,tk,rfl⟩
 have hSA:=strsAre_map acc hall;have hlen:acc.length=64:=by rw[hacc.length_eq,ax,<-ax (f:=gA),hp.length_eq];exact e64
 refine ae (wpAny_newList ?_ (by rw[dS];omega));have hoL:(h1.push (seqObj "list" acc.toArray 0)).get? h1.objs.size=some (seqObj "list" acc.toArray 0):=aI _ rfl;show wpAny _ _ _ _ _ { s with heap:=h1.push (seqObj "list" acc.toArray 0),drawn:=d,toks:=tk };have hpk:(acc.map strOf).Perm ks:=by refine (hacc.map strOf).trans (g7 (fN ?_) hp);rw[eJ];refine gT λe he=>?_;obtain ⟨k,tk,rfl⟩:=hel e he;rfl
 have hkk:keyKind' acc.toArray=pure oneType':=by
  match acc,hlen,hSA with
  |v₁::v₂::rest,_,hSA=>exact keyKind_strs hSA
  |[_],hl,_=>exact absurd hl (show ¬1=64 by decide)
  |[],hl,_=>exact absurd hl (show ¬0=64 by decide)
 refine ae (cq (eA slot_list_sort ⟨_,hoL,rfl⟩ entry_list_sort (Tq strKind_oneLt hoL hSA.keysOf hkk hlen λst' hp'=>⟨_,rfl,?_⟩) (args_list_sort _)));obtain ⟨ss',a1,a2⟩:=Tt hSA hp';generalize (arrOf st').map (·.2)=out at a1;obtain ⟨e,he⟩:=sortedHeap_at (vs:=acc) (out:=out) hoL;refine am ⟨_,rfl,h h1 _ d tk e out ss' a1 (a2.trans hpk) (λz=>by omega) k1 (λb o' hb1=>?_) htk he⟩;rw[sortedHeap_old (b6 (ay hb1)) (by rw[size_push'];exact dE (ay hb1))];exact ah _ hb1
end
end L2
namespace RF
open PySem PySem.Spec PyProof.Rows L2
inductive D where
 |non |bl (b:Bool) |int (i:Int) |str (l:List Nat) |tup (xs:List D) |lst (xs:List D) |ref (a:Addr) |scr (ns:List Int) |exn (C:String) |exa (C f:String) (d:D) |obj (C f:String) (q:Addr)
 deriving Inhabited
inductive DO where
 |lst (xs:List D)
 deriving Inhabited
abbrev DH:=Addr->Option DO
def bf(G:DH)(a:Addr)(o:DO):DH:=λb=>if b=a then some o else G b
def gB(G:DH)(a:Addr):DH:=λb=>if b=a then none else G b
theorem cH{G:DH}{a:Addr}{o:DO}:bf G a o a=some o:=if_pos rfl
theorem gC{G:DH}{a b:Addr}{o:DO}(h:b≠a):bf G a o b=G b:=if_neg h
theorem rn{G:DH}{a:Addr}:gB G a a=none:=if_pos rfl
theorem rz{G:DH}{a b:Addr}(h:b≠a):gB G a b=G b:=if_neg h
theorem Tv{G:DH}{a:Addr}{o u:DO}:bf (bf G a o) a u=bf G a u:=by funext b;unfold bf;split <;> rfl
theorem yI{G:DH}{a:Addr}{o:DO}(h:G a=none):gB (bf G a o) a=G:=by
 funext b;unfold bf gB;split
 ·rename_i e;rw[e,h]
 ·rename_i e;exact if_neg e
theorem Tw{G:DH}{a b:Addr}{o:DO}(h:G a=some o)(h':G b=none):a≠b:=by intro e;subst e;rw[h]at h';cases h'
abbrev sz:Nat:=1000000
abbrev FZ:=Addr->Prop
def FzL(H:Hp)(F:FZ)(a:Addr)(vs:List V):Prop:=F a/\H a=some (.lst vs)
theorem FzL.sq{K:PF}{H:Hp}{F:FZ}{a:Addr}{vs:List V}(h:FzL H F a vs):SqL K H a vs:=.inl (.inl h.2)
structure TpT(K:PF)(H:Hp)(a:Addr)(vs:List V):Prop where
 it:H a=some (.tup vs)
theorem TpT.sq{K:PF}{H:Hp}{a:Addr}{vs:List V}(h:TpT K H a vs):SqT K H a vs:=.inl (.inl h.it)
def ScL(K:PF)(H:Hp)(a:Addr)(vs:List V):Prop:=
 (∃o,H a=some (.frz o (.lst vs)))\/
  ∃(o:Obj) (its:Array Value) (n:Nat),K.lookup a=some o/\o.cls=.type "list"/\o.dict=none/\o.data=.seq its n/\its.size<=sizeLine/\Vals vs its.toList
theorem ScL.sq{K:PF}{H:Hp}{a:Addr}{vs:List V}(h:ScL K H a vs):SqL K H a vs:=by
 rcases h with ⟨o,h⟩ |h
 ·exact .inl (.inr ⟨o,h⟩)
 ·exact .inr h
def FzO(H:Hp)(F:FZ)(a c dx:Addr)(f:Str)(q:Addr):Prop:=F a/\H a=some (.ins c dx [(f,.ref q)])
mutual
noncomputable def Rep(K:PF)(H:Hp)(F:FZ):D->V->Prop
 |.non,v=>v=.non
 |.bl b,v=>v=.bl b
 |.int i,v=>v=.int i
 |.str l,v=>v=.str (tx l)/\l.length<=sz
 |.tup ds,v=>∃a vs,v=.ref a/\TpT K H a vs/\Reps K H F ds vs
 |.lst ds,v=>∃a vs,v=.ref a/\FzL H F a vs/\Reps K H F ds vs
 |.ref a,v=>v=.ref a
 |.scr ns,v=>∃a,v=.ref a/\ScL K H a (ns.map V.int)
 |.obj C f q,v=>∃a c dx,v=.ref a/\FzO H F a c dx (Str.ofString f) q/\PySem.W.nsIn K mainGlobals (Str.ofString C)=some (some (.ref c))
 |.exa C f d,v=>∃a c dx ob od,∃(y:Addr)(u:V),v=.ref a/\(H a=some (.frz ob (.own y))/\ob.cls=.ref c/\ob.dict=some dx/\PySem.W.notCls ob=true)/\H dx=some (.frz od (.xd [(Str.ofString f,u)]))/\Rep K H F d u/\PySem.W.nsIn K mainGlobals (Str.ofString C)=some (some (.ref c))
 |.exn C,v=>∃a c,v=.ref a/\XO H a c/\PySem.W.nsIn K mainGlobals (Str.ofString C)=some (some (.ref c))
noncomputable def Reps(K:PF)(H:Hp)(F:FZ):List D->List V->Prop
 |[],vs=>vs=[]
 |d::ds,vs=>∃v r,vs=v::r/\Rep K H F d v/\Reps K H F ds r
end
structure Ext(H:Hp)(F:FZ)(H':Hp)(F':FZ):Prop where
 sub:∀a,F a->F' a
 keep:∀a,F a->H' a=H a
 tups:∀a xs,H a=some (.tup xs)->H' a=some (.tup xs)
 frzs:∀a o u,H a=some (.frz o u)->H' a=some (.frz o u)
theorem Ext.refl(H:Hp)(F:FZ):Ext H F H F:=⟨λ_ h=>h,λ_ _=>rfl,λ_ _ h=>h,λ_ _ _ h=>h⟩
theorem Ext.trans{H H1 H2:Hp}{F F1 F2:FZ}(a:Ext H F H1 F1)(b:Ext H1 F1 H2 F2):Ext H F H2 F2:=
 ⟨λc h=>b.sub c (a.sub c h),λc h=>(b.keep c (a.sub c h)).trans (a.keep c h),λc xs h=>b.tups c xs (a.tups c xs h),λc o u h=>b.frzs c o u (a.frzs c o u h)⟩
section
variable {K:PF} {H H':Hp} {F F':FZ}
theorem TpT.ext{a:Addr}{vs:List V}(x:Ext H F H' F')(h:TpT K H a vs):TpT K H' a vs:=⟨x.tups _ _ h.it⟩
theorem FzL.ext{a:Addr}{vs:List V}(x:Ext H F H' F')(h:FzL H F a vs):FzL H' F' a vs:=⟨x.sub _ h.1,(x.keep _ h.1).trans h.2⟩
theorem ScL.ext{a:Addr}{vs:List V}(x:Ext H F H' F')(h:ScL K H a vs):ScL K H' a vs:=by
 rcases h with ⟨o,h⟩ |h
 ·exact .inl ⟨o,x.frzs _ _ _ h⟩
 ·exact .inr h
mutual
theorem Rep.ext(x:Ext H F H' F'):∀{d:D}{v:V},Rep K H F d v->Rep K H' F' d v
 |.non,_,h=>h
 |.bl _,_,h=>h
 |.int _,_,h=>h
 |.str _,_,h=>h
 |.tup _,_,⟨a,vs,e,q,r⟩=>⟨a,vs,e,TpT.ext x q,Reps.ext x r⟩
 |.lst _,_,⟨a,vs,e,q,r⟩=>⟨a,vs,e,FzL.ext x q,Reps.ext x r⟩
 |.ref _,_,h=>h
 |.scr _,_,⟨a,e,q⟩=>⟨a,e,ScL.ext x q⟩
 |.obj _ _ _,_,⟨a,c,dx,e,⟨hf,hh⟩,n⟩=>⟨a,c,dx,e,⟨x.sub _ hf,(x.keep _ hf).trans hh⟩,n⟩
 |.exn _,_,⟨a,c,e,⟨o,y,q,hc⟩,n⟩=>⟨a,c,e,⟨o,y,x.frzs _ _ _ q,hc⟩,n⟩
 |.exa _ _ _,_,⟨a,c,dx,ob,od,y,u,e,⟨q,h1,h2,h3⟩,qd,r,n⟩=>⟨a,c,dx,ob,od,y,u,e,⟨x.frzs _ _ _ q,h1,h2,h3⟩,x.frzs _ _ _ qd,Rep.ext x r,n⟩
theorem Reps.ext(x:Ext H F H' F'):∀{ds:List D}{vs:List V},Reps K H F ds vs->Reps K H' F' ds vs
 |[],_,h=>h
 |_::_,_,⟨v,r,e,h,t⟩=>⟨v,r,e,Rep.ext x h,Reps.ext x t⟩
end
theorem Reps.nil:Reps K H F [] []:=rfl
theorem Reps.cons{d:D}{v:V}{ds:List D}{vs:List V}(h:Rep K H F d v)(t:Reps K H F ds vs):Reps K H F (d::ds) (v::vs):=⟨v,vs,rfl,h,t⟩
theorem Reps.length:∀{ds:List D}{vs:List V},Reps K H F ds vs->ds.length=vs.length
 |[],_,h=>by cases h;rfl
 |_::_,_,⟨v,r,e,_,t⟩=>by subst e;simp[Reps.length t]
theorem Reps.append:∀{ds es:List D}{vs us:List V},Reps K H F ds vs->Reps K H F es us->Reps K H F (ds++es) (vs++us)
 |[],_,_,_,h,t=>by cases h;exact t
 |_::_,_,_,_,⟨v,r,e,h,t⟩,t'=>by subst e;exact ⟨v,_,rfl,h,Reps.append t t'⟩
theorem Reps.get:∀{ds:List D}{vs:List V}{i:Nat}{d:D},Reps K H F ds vs->ds[i]?=some d->∃v,vs[i]?=some v/\Rep K H F d v
 |[],_,_,_,_,e=>by simp at e
 |_::_,_,0,_,⟨v,r,e,h,t⟩,q=>by subst e;simp at q;subst q;exact ⟨v,rfl,h⟩
 |_::_,_,i+1,d,⟨v,r,e,h,t⟩,q=>by
  subst e;obtain ⟨u,h1,h2⟩:=Reps.get (i:=i) (d:=d) t (by simpa using q);exact ⟨u,by simpa using h1,h2⟩
theorem Reps.set{d:D}{v:V}(r:Rep K H F d v):∀{ds:List D}{vs:List V}(i:Nat),Reps K H F ds vs->Reps K H F (ds.set i d) (vs.set i v)
 |[],_,_,h=>by cases h;exact rfl
 |_::_,_,0,⟨v',r',e,h,t⟩=>by subst e;exact ⟨_,_,rfl,r,t⟩
 |_::_,_,i+1,⟨v',r',e,h,t⟩=>by subst e;exact ⟨_,_,rfl,h,Reps.set r i t⟩
theorem Reps.take:∀{ds:List D}{vs:List V}(n:Nat),Reps K H F ds vs->Reps K H F (ds.take n) (vs.take n)
 |_,_,0,_=>rfl
 |[],_,_+1,h=>by cases h;exact rfl
 |_::_,_,n+1,⟨v',r',e,h,t⟩=>by subst e;exact ⟨_,_,rfl,h,Reps.take n t⟩
theorem Reps.drop:∀{ds:List D}{vs:List V}(n:Nat),Reps K H F ds vs->Reps K H F (ds.drop n) (vs.drop n)
 |_,_,0,h=>h
 |[],_,_+1,h=>by cases h;exact rfl
 |_::_,_,n+1,⟨v',r',e,h,t⟩=>by subst e;exact Reps.drop n t
theorem Reps.cut{ds:List D}{vs:List V}(h:Reps K H F ds vs)(lo hi:Option Int):
  Reps K H F ((ds.drop (HT.sIx ds.length 0 lo)).take (HT.sIx ds.length ds.length hi - HT.sIx ds.length 0 lo)) (dm vs lo hi):=by
 unfold dm;rw[<-h.length];exact (h.drop _).take _
theorem Reps.rep{ds:List D}{vs:List V}(h:Reps K H F ds vs):∀k:Nat,Reps K H F (List.replicate k ds).flatten (List.replicate k vs).flatten
 |0=>rfl
 |k+1=>by
  rw[cp,cp,gz,gz];exact Reps.append h (Reps.rep h k)
end
def Tz(K:PF)(H:Hp)(F:FZ)(a:Addr):DO->Prop
 |.lst ds=>∃vs,H a=some (.lst vs)/\Reps K H F ds vs
structure R(K:PF)(H:Hp)(F:FZ)(G:DH):Prop where
 fz:∀a,F a->G a=none/\∃o,H a=some o
 ob:∀a o,G a=some o->Tz K H F a o
section
variable {K:PF} {H:Hp} {F:FZ} {G:DH} {p:Addr} {vs:List V} {ds:List D}
theorem R.lst(r:R K H F G)(h:G p=some (.lst ds)):∃vs,H p=some (.lst vs)/\Reps K H F ds vs:=r.ob p _ h
theorem R.free(r:R K H F G)(h:H p=none):G p=none:=by
 cases e:G p with
 |none=>rfl
 |some o=>
  cases o with
  |lst ds=>obtain ⟨vs,q,_⟩:=r.lst e;rw[h]at q;cases q
theorem R.notF(r:R K H F G)(h:H p=none):¬F p:=λf=>by
 obtain ⟨_,vs,q⟩:=r.fz p f;rw[h]at q;cases q
theorem cC{o:HO}(r:R K H F G)(h:H p=none):Ext H F (upd H p o) F:=
 ⟨λ_ f=>f,λa f=>aB λe=>r.notF h (by rw[<-e];exact f),λa xs q=>by rw[aB (aV q h)];exact q,λa ob u q=>by rw[aB (aV q h)];exact q⟩
theorem R.new{o:HO}(r:R K H F G)(h:H p=none):R K (upd H p o) F G:=by
 have x:Ext H F (upd H p o) F:=cC r h;refine ⟨λa f=>⟨(r.fz a f).1,?_⟩,λa u e=>?_⟩
 ·obtain ⟨_,vs,q⟩:=r.fz a f;exact ⟨vs,by rw[x.keep a f];exact q⟩
 ·cases u with
  |lst ds=>
   obtain ⟨vs,q,t⟩:=r.lst e;exact ⟨vs,by rw[aB (aV q h)];exact q,Reps.ext x t⟩
theorem R.newL(r:R K H F G)(h:H p=none)(t:Reps K H F ds vs):R K (upd H p (.lst vs)) F (bf G p (.lst ds)):=by
 have x:Ext H F (upd H p (.lst vs)) F:=cC r h;have r':R K (upd H p (.lst vs)) F G:=r.new h;refine ⟨λa f=>⟨?_,(r'.fz a f).2⟩,λa u e=>?_⟩
 ·rw[gC λe=>r.notF h (by rw[<-e];exact f)];exact (r.fz a f).1
 ·by_cases ha:a=p
  ·subst ha;rw[cH]at e;cases e;exact ⟨vs,cg,Reps.ext x t⟩
  ·rw[gC ha]at e;exact r'.ob a u e
theorem mC(r:R K H F G)(h:H p=none):Ext H F (upd H p (.lst vs)) (λa=>F a\/a=p):=
 ⟨λ_ f=>.inl f,(cC r h).keep,(cC r h).tups,(cC r h).frzs⟩
theorem R.newF(r:R K H F G)(h:H p=none):R K (upd H p (.lst vs)) (λa=>F a\/a=p) G:=by
 have x:Ext H F (upd H p (.lst vs)) (λa=>F a\/a=p):=mC r h;refine ⟨λa f=>?_,λa u e=>?_⟩
 ·rcases f with f |f
  ·obtain ⟨g,vs',q⟩:=r.fz a f;exact ⟨g,vs',by rw[x.keep a f];exact q⟩
  ·subst f;exact ⟨r.free h,_,cg⟩
 ·cases u with
  |lst ds=>
   obtain ⟨vs',q,t⟩:=r.lst e;exact ⟨vs',by rw[aB (aV q h)];exact q,Reps.ext x t⟩
theorem yJ(r:R K H F G)(h:H p=none)(t:Reps K H F ds vs):Rep K (upd H p (.lst vs)) (λa=>F a\/a=p) (.lst ds) (.ref p):=
 ⟨p,vs,rfl,⟨.inr rfl,cg⟩,Reps.ext (mC r h) t⟩
theorem yK:∀{xs:List D}{z:D}{vs:List V},Reps K H F (xs++[z]) vs->∃us u,vs=us++[u]/\Reps K H F xs us/\Rep K H F z u
 |[],z,vs,h=>by
  obtain ⟨u,r,e,h1,h2⟩:=h;have h2:r=[]:=h2;subst h2;exact ⟨[],u,e,rfl,h1⟩
 |x::xs,z,vs,h=>by
  obtain ⟨u,r,e,h1,h2⟩:=h;obtain ⟨us,u',e',h3,h4⟩:=yK h2;subst e';exact ⟨u::us,u',e,⟨u,us,rfl,h1,h3⟩,h4⟩
theorem mD(r:R K H F G)(h:H p=none)(t:Reps K H F ds vs):Rep K (upd H p (.tup vs)) F (.tup ds) (.ref p):=
 ⟨p,vs,rfl,⟨cg⟩,Reps.ext (cC r h) t⟩
theorem dN{H:Hp}{a x:Addr}{u:HO}{φ:Heap->Prop}(h:H a=some u)(hx:H x=some (.ext φ))(hu:u≠.ext φ):a≠x:=λe=>hu (by subst e;rw[h]at hx;exact bP hx)
mutual
theorem Rep.setX{x:Addr}{φ:Heap->Prop}{ho:HO}(hx:H x=some (.ext φ)):∀{d:D}{v:V},Rep K H F d v->Rep K (upd H x ho) F d v
 |.non,_,h=>h
 |.bl _,_,h=>h
 |.int _,_,h=>h
 |.str _,_,h=>h
 |.tup _,_,⟨a,vs,e,q,r⟩=>⟨a,vs,e,⟨by rw[aB (dN q.it hx (by intro w;cases w))];exact q.it⟩,Reps.setX hx r⟩
 |.lst _,_,⟨a,vs,e,q,r⟩=>⟨a,vs,e,⟨q.1,by rw[aB (dN q.2 hx (by intro w;cases w))];exact q.2⟩,Reps.setX hx r⟩
 |.ref _,_,h=>h
 |.scr _,_,⟨a,e,q⟩=>⟨a,e,by
   rcases q with ⟨o,q⟩ |q
   ·exact .inl ⟨o,by rw[aB (dN q hx (by intro w;cases w))];exact q⟩
   ·exact .inr q⟩
 |.obj _ _ _,_,⟨a,c',dx',e,⟨hf,hh⟩,n⟩=>⟨a,c',dx',e,⟨hf,by rw[aB (dN hh hx (by intro w;cases w))];exact hh⟩,n⟩
 |.exn _,_,⟨a,c',e,⟨o,y,q,hc⟩,n⟩=>⟨a,c',e,⟨o,y,by rw[aB (dN q hx (by intro w;cases w))];exact q,hc⟩,n⟩
 |.exa _ _ _,_,⟨a,c',dx',ob,od,y,u,e,⟨q,h1,h2,h3⟩,qd,r,n⟩=>⟨a,c',dx',ob,od,y,u,e,⟨by rw[aB (dN q hx (by intro w;cases w))];exact q,h1,h2,h3⟩,by rw[aB (dN qd hx (by intro w;cases w))];exact qd,Rep.setX hx r,n⟩
theorem Reps.setX{x:Addr}{φ:Heap->Prop}{ho:HO}(hx:H x=some (.ext φ)):∀{ds:List D}{vs:List V},Reps K H F ds vs->Reps K (upd H x ho) F ds vs
 |[],_,h=>h
 |_::_,_,⟨v,r,e,h,t⟩=>⟨v,r,e,Rep.setX hx h,Reps.setX hx t⟩
end
theorem R.setX{x:Addr}{φ:Heap->Prop}{ho:HO}(r:R K H F G)(hx:H x=some (.ext φ)):R K (upd H x ho) F G:=by
 refine ⟨λa f=>⟨(r.fz a f).1,?_⟩,λa u e=>?_⟩
 ·by_cases h:a=x
  ·exact ⟨_,by rw[h,cg]⟩
  ·rw[aB h];exact (r.fz a f).2
 ·cases u with
  |lst ds=>
   obtain ⟨vs,q,t⟩:=r.lst e;exact ⟨vs,by rw[aB (dN q hx (by intro w;cases w))];exact q,Reps.setX hx t⟩
theorem gD{ds0:List D}{o:HO}(r:R K H F G)(h:G p=some (.lst ds0)):Ext H F (upd H p o) F:=by
 obtain ⟨vs0,q,_⟩:=r.lst h;refine ⟨λ_ f=>f,λa f=>aB λe=>?_,λa xs z=>?_,λa ob u z=>?_⟩
 ·subst e;rw[(r.fz a f).1]at h;cases h
 ·rw[aB (vV z q (by intro w;cases w))];exact z
 ·rw[aB (vV z q (by intro w;cases w))];exact z
theorem R.write{ds0:List D}(r:R K H F G)(h:G p=some (.lst ds0))(t:Reps K H F ds vs):R K (upd H p (.lst vs)) F (bf G p (.lst ds)):=by
 have x:Ext H F (upd H p (.lst vs)) F:=gD r h;refine ⟨λa f=>⟨?_,?_⟩,λa u e=>?_⟩
 ·rw[gC λe=>by subst e;rw[(r.fz a f).1]at h;cases h];exact (r.fz a f).1
 ·obtain ⟨_,vs',q⟩:=r.fz a f;exact ⟨vs',by rw[x.keep a f];exact q⟩
 ·by_cases ha:a=p
  ·subst ha;rw[cH]at e;cases e;exact ⟨vs,cg,Reps.ext x t⟩
  ·rw[gC ha]at e;cases u with
   |lst ds'=>
    obtain ⟨vs',q,t'⟩:=r.lst e;exact ⟨vs',by rw[aB ha];exact q,Reps.ext x t'⟩
theorem rA:Ext H F H (λa=>F a\/a=p):=⟨λ_ f=>.inl f,λ_ _=>rfl,λ_ _ h=>h,λ_ _ _ h=>h⟩
theorem R.frz(r:R K H F G)(h:G p=some (.lst ds)):R K H (λa=>F a\/a=p) (gB G p):=by
 have x:Ext H F H (λa=>F a\/a=p):=rA;refine ⟨λa f=>?_,λa u e=>?_⟩
 ·rcases f with f |f
  ·obtain ⟨g,vs',q⟩:=r.fz a f;refine ⟨?_,vs',q⟩;by_cases ha:a=p
   ·rw[ha];exact rn
   ·rw[rz ha];exact g
  ·subst f;obtain ⟨vs,q,_⟩:=r.lst h;exact ⟨rn,_,q⟩
 ·by_cases ha:a=p
  ·rw[ha,rn]at e;cases e
  ·rw[rz ha]at e;cases u with
   |lst ds'=>
    obtain ⟨vs',q,t'⟩:=r.lst e;exact ⟨vs',q,Reps.ext x t'⟩
theorem TF(r:R K H F G)(h:G p=some (.lst ds)):Rep K H (λa=>F a\/a=p) (.lst ds) (.ref p):=by obtain ⟨vs,q,t⟩:=r.lst h;exact ⟨p,vs,rfl,⟨.inr rfl,q⟩,Reps.ext rA t⟩
end
def view(G:DH):D->D
 |.ref p=>match G p with |some (.lst ds)=>.lst ds |none=>.ref p
 |d=>d
theorem Rep.list{K:PF}{H:Hp}{F:FZ}{G:DH}{d:D}{v:V}{ds:List D}(r:R K H F G)(h:Rep K H F d v)(e:view G d=.lst ds):∃a vs,v=.ref a/\SqL K H a vs/\Reps K H F ds vs:=by
 cases d with
 |lst xs=>
  have e':D.lst xs=.lst ds:=e;cases e';obtain ⟨a,vs,e1,q,t⟩:=h;exact ⟨a,vs,e1,q.sq,t⟩
 |ref p=>
  have hv:v=.ref p:=h;unfold view at e;cases g:G p with
  |none=>simp only[g]at e;cases e
  |some o=>
   cases o with
   |lst xs=>
    simp only[g]at e;cases e;obtain ⟨vs,q,t⟩:=r.lst g;exact ⟨p,vs,hv,.inl (.inl q),t⟩
 |_=>cases (show _=D.lst ds from e)
theorem dO{G:DH}{d:D}{ds:List D}(e:view G d=.tup ds):d=.tup ds:=by
 cases d with
 |ref p=>
  unfold view at e;cases g:G p with
  |none=>simp only[g]at e;cases e
  |some o=>cases o;simp only[g]at e;cases e
 |_=>exact e
theorem dR{G:DH}{d:D}{l:List Nat}(e:view G d=.str l):d=.str l:=by
 cases d with
 |ref p=>
  unfold view at e;cases g:G p with
  |none=>simp only[g]at e;cases e
  |some o=>cases o;simp only[g]at e;cases e
 |_=>exact e
theorem cL{G:DH}{d:D}{l:Int}(e:view G d=.int l):d=.int l:=by
 cases d with
 |ref p=>
  unfold view at e;cases g:G p with
  |none=>simp only[g]at e;cases e
  |some o=>cases o;simp only[g]at e;cases e
 |_=>exact e
theorem rB{G:DH}{d:D}{l:Bool}(e:view G d=.bl l):d=.bl l:=by
 cases d with
 |ref p=>
  unfold view at e;cases g:G p with
  |none=>simp only[g]at e;cases e
  |some o=>cases o;simp only[g]at e;cases e
 |_=>exact e
theorem yL{G:DH}{d:D}(e:view G d=.non):d=.non:=by
 cases d with
 |ref p=>
  unfold view at e;cases g:G p with
  |none=>simp only[g]at e;cases e
  |some o=>cases o;simp only[g]at e;cases e
 |_=>exact e
abbrev aj:=List (Option D)
def EnvR(K:PF)(H:Hp)(F:FZ):aj->L2.St->Prop
 |[],σ=>σ=[]
 |o::ρ,σ=>∃u τ,σ=u::τ/\(∀d,o=some d->∃v,u=some v/\Rep K H F d v)/\EnvR K H F ρ τ
section
variable {K:PF} {H H':Hp} {F F':FZ}
theorem EnvR.ext(x:Ext H F H' F'):∀{ρ:aj}{σ:L2.St},EnvR K H F ρ σ->EnvR K H' F' ρ σ
 |[],_,h=>h
 |_::_,_,⟨u,τ,e,h,t⟩=>⟨u,τ,e,λd q=>by obtain ⟨v,e1,r⟩:=h d q;exact ⟨v,e1,Rep.ext x r⟩,EnvR.ext x t⟩
theorem EnvR.get:∀{ρ:aj}{σ:L2.St}{i:Nat}{d:D},EnvR K H F ρ σ->ρ[i]?=some (some d)->∃v,σ[i]?=some (some v)/\Rep K H F d v
 |[],_,_,_,_,e=>by simp at e
 |_::_,_,0,d,⟨u,τ,e,h,t⟩,q=>by
  subst e;obtain ⟨v,e1,r⟩:=h d (by simpa using q);exact ⟨v,by simp[e1],r⟩
 |_::_,_,i+1,d,⟨u,τ,e,h,t⟩,q=>by
  subst e;obtain ⟨v,e1,r⟩:=EnvR.get (i:=i) (d:=d) t (by simpa using q);exact ⟨v,by simpa using e1,r⟩
theorem EnvR.set{d:D}{v:V}(r:Rep K H F d v):∀{ρ:aj}{σ:L2.St}(i:Nat),EnvR K H F ρ σ->EnvR K H F (ρ.set i (some d)) (σ.set i (some v))
 |[],_,_,h=>by cases h;exact rfl
 |_::_,_,0,⟨u,τ,e,h,t⟩=>by subst e;exact ⟨_,_,rfl,λd' q=>⟨v,rfl,by cases q;exact r⟩,t⟩
 |_::_,_,i+1,⟨u,τ,e,h,t⟩=>by subst e;exact ⟨_,_,rfl,h,EnvR.set r i t⟩
theorem EnvR.none:∀(n:Nat),EnvR K H F (List.replicate n Option.none) (List.replicate n Option.none)
 |0=>rfl
 |n+1=>⟨_,_,rfl,λd q=>(nomatch q),EnvR.none n⟩
theorem EnvR.start:∀{ds:List D}{vs:List V}(n:Nat),Reps K H F ds vs->EnvR K H F (ds.map some++List.replicate n Option.none) (vs.map some++List.replicate n Option.none)
 |[],_,n,h=>by cases h;exact EnvR.none n
 |d::ds,_,n,⟨v,r,e,h,t⟩=>by
  subst e;exact ⟨_,_,rfl,λd' q=>⟨v,rfl,by cases q;exact h⟩,EnvR.start n t⟩
theorem EnvR.cap{ρ:aj}{σ:L2.St}(h:EnvR K H F ρ σ):∀(cap:List (Option Nat)),EnvR K H F (cap.map λo=>match o with |Option.none=>Option.none |some j=>(ρ[j]?).join) (cV cap σ)
 |[]=>rfl
 |Option.none::cap=>⟨_,_,rfl,λd q=>(nomatch q),EnvR.cap h cap⟩
 |some j::cap=>by
  refine ⟨_,_,rfl,λd q=>?_,EnvR.cap h cap⟩;have q':(ρ[j]?).join=some d:=q;have z:ρ[j]?=some (some d):=by
   cases e:ρ[j]? with
   |none=>rw[e]at q';cases q'
   |some o=>rw[e]at q';exact d6 some q'
  obtain ⟨v,e1,r⟩:=h.get z;exact ⟨v,by show (σ[j]?).join=some v;rw[e1];rfl,r⟩
end
mutual
noncomputable def deq:D->D->Bool
 |.non,.non=>true
 |.bl a,.bl b=>a==b
 |.bl a,.int b=>(if a then 1 else 0)==b
 |.int a,.bl b=>a==(if b then 1 else 0)
 |.int a,.int b=>a==b
 |.str a,.str b=>a==b
 |.tup a,.tup b=>bL a b
 |.lst a,.lst b=>bL a b
 |_,_=>false
noncomputable def bL:List D->List D->Bool
 |[],[]=>true
 |a::as,b::bs=>deq a b&&bL as bs
 |_,_=>false
end
mutual
/-- no tracked object within -/
noncomputable def nr:D->Bool
 |.tup a=>nrs a
 |.lst a=>nrs a
 |.ref _=>false
 |.scr _=>false
 |.exn _=>false
 |.exa _ _ _=>false
 |.obj _ _ _=>false
 |_=>true
noncomputable def nrs:List D->Bool
 |[]=>true
 |a::as=>nr a&&nrs as
end
mutual
def dpt:D->Nat
 |.tup a=>aR a+1
 |.lst a=>aR a+1
 |_=>0
def aR:List D->Nat
 |[]=>0
 |a::as=>max (dpt a) (aR as)
end
noncomputable def truth:D->Option Bool
 |.non=>some false
 |.bl b=>some b
 |.int i=>some (i != 0)
 |.str l=>some (!l.isEmpty)
 |.tup l=>some (!l.isEmpty)
 |.lst l=>some (!l.isEmpty)
 |_=>none
noncomputable def cut{α:Type}(xs:List α)(lo hi:Option Int):List α:=(xs.drop (HT.sIx xs.length 0 lo)).take (HT.sIx xs.length xs.length hi - HT.sIx xs.length 0 lo)
def reps{α:Type}(xs:List α)(n:Nat):List α:=(List.replicate n xs).flatten
def mk(fz:Bool)(xs:List D)(G:DH)(k:D->DH->Prop):Prop:=
 match fz with
 |true=>k (.lst xs) G
 |false=>∀p,G p=none->k (.ref p) (bf G p (.lst xs))
def iu(fz:Bool)(a b:D)(G:DH)(k:D->DH->Prop):Prop:=
 match a with
 |.int i=>(match b with |.int j=>k (.int (i+j)) G |_=>False)
 |.str x=>(match b with |.str y=>x.length+y.length<=sz/\k (.str (x++y)) G |_=>False)
 |.lst x=>(match b with |.lst y=>x.length+y.length<=sz/\mk fz (x++y) G k |_=>False)
 |.tup x=>(match b with |.tup y=>x.length+y.length<=sz/\k (.tup (x++y)) G |_=>False)
 |_=>False
def fU(a b:D)(p:Int->Int->Prop):Prop:=
 match a with
 |.int i=>(match b with |.int j=>p i j |_=>False)
 |_=>False
def iw(fz:Bool)(a b:D)(G:DH)(k:D->DH->Prop):Prop:=
 match b with
 |.int n=>(match a with |.int i=>CMul i n/\k (.int (i * n)) G |.str x=>0<=n/\n<=1000/\x.length * n.toNat<=sz/\k (.str (reps x n.toNat)) G |.tup x=>2<=n/\n<=1000/\x≠[]/\x.length * n.toNat<=sz/\k (.tup (reps x n.toNat)) G |.lst x=>0<=n/\n<=1000/\x.length * n.toNat<=sz/\mk fz (reps x n.toNat) G k |_=>False)
 |_=>False
def bU(op:Operator)(fz:Bool)(a b:D)(G:DH)(k:D->DH->Prop):Prop:=
 match op with
 |.Add=>iu fz a b G k
 |.Sub=>fU a b λi j=>k (.int (i - j)) G
 |.Mult=>iw fz a b G k
 |.FloorDiv=>fU a b λi j=>(0 < j/\j < 1152921504606846976)/\k (.int (i / j)) G
 |.Mod=>fU a b λi j=>0 < j/\k (.int (i % j)) G
 |.Pow=>fU a b λi j=>lW i j/\k (.int (i ^ j.toNat)) G
 |_=>False
def isIn(x:D)(ys:List D):Bool:=ys.any λy=>deq y x
def yM(a b:D):Prop:=nr a=true/\nr b=true/\min (dpt a) (dpt b)<=60
def inG(a:D)(l:List D):Prop:=nr a=true/\nrs l=true/\aR l<=60
def iy(a b:D)(k:Bool->Prop):Prop:=
 match a,b with
 |.int i,.int j=>k (decide (i < j))
 |.str i,.str j=>k (decide (i < j))
 |_,_=>False
def iz(a b:D)(k:Bool->Prop):Prop:=
 match a,b with
 |.int i,.int j=>k (decide (i<=j))
 |.str i,.str j=>k (!decide (j < i))
 |_,_=>False
def iB(a b:D)(k:Bool->Prop):Prop:=
 match a,b with
 |.int i,.int j=>k (decide (j < i))
 |_,_=>False
def iC(a b:D)(k:Bool->Prop):Prop:=
 match a,b with
 |.int i,.int j=>k (decide (j<=i))
 |_,_=>False
def mF(a:D):Bool:=match a with |.non=>true |_=>false
def iD(a b:D)(k:Bool->Prop):Prop:=
 match b with
 |.non=>k (mF a)
 |.bl b=>(match a with |.bl a=>k (a==b) |_=>False)
 |_=>False
def iG(a b:D)(k:Bool->Prop):Prop:=
 match b with
 |.non=>k (!mF a)
 |.bl b=>(match a with |.bl a=>k (a != b) |_=>False)
 |_=>False
def eV(a b:D)(k:Bool->Prop):Prop:=
 match b with
 |.str l=>(match a with |.str [c]=>k (l.contains c) |_=>False)
 |.lst l=>inG a l/\k (isIn a l)
 |.tup l=>inG a l/\k (isIn a l)
 |_=>False
def aU(op:CmpOp)(a b:D)(k:Bool->Prop):Prop:=
 match op with
 |.Eq=>yM a b/\k (deq a b)
 |.NotEq=>yM a b/\k (!deq a b)
 |.Lt=>iy a b k
 |.LtE=>iz a b k
 |.Gt=>iB a b k
 |.GtE=>iC a b k
 |.Is=>iD a b k
 |.IsNot=>iG a b k
 |.In=>eV a b k
 |.NotIn=>eV a b λc=>k (!c)
def bV(a i:D)(k:D->Prop):Prop:=
 match a,i with
 |.lst ds,.int i=>match atI ds i with |some d=>k d |none=>False
 |.tup ds,.int i=>match atI ds i with |some d=>k d |none=>False
 |.str l,.int i=>match atI l i with |some c=>k (.str [c]) |none=>False
 |_,_=>False
def dw(fz:Bool)(a:D)(lo hi:Option Int)(G:DH)(k:D->DH->Prop):Prop:=
 match a with
 |.lst ds=>mk fz (cut ds lo hi) G k
 |.scr ns=>mk fz ((cut ns lo hi).map .int) G k
 |.tup ds=>k (.tup (cut ds lo hi)) G
 |.str l=>k (.str (cut l lo hi)) G
 |_=>False
def iH(fz:Bool)(a y:D)(G:DH)(k:D->DH->Prop):Prop:=
 match a with
 |.lst ds=>y=.int (-1)/\mk fz ds.reverse G k
 |.tup ds=>y=.int (-1)/\k (.tup ds.reverse) G
 |_=>False
noncomputable def bools:List D->Option (List Bool)
 |[]=>some []
 |.bl b::r=>match bools r with |some s=>some (b::s) |none=>none
 |_=>none
noncomputable def dU:List D->Option (List Int)
 |[]=>some []
 |.int b::r=>match dU r with |some s=>some (b::s) |none=>none
 |_=>none
noncomputable def aW:List D->Option (List (List Nat))
 |[]=>some []
 |.str b::r=>match aW r with |some s=>some (b::s) |none=>none
 |_=>none
def dz(s:List Nat):List (List Nat)->List Nat
 |[]=>[]
 |[x]=>x
 |x::y::r=>x++s++dz s (y::r)
inductive Bf where
 |len |all |int |tuple |sum |min |max |str |abs |min2
inductive Lf where
 |list |sorted
inductive Mf where
 |join |append |extend |insert |count |index |pop |find |split
def rD(as:List D)(k:D->Prop):Prop:=
 match as with
 |[.lst ds]=>k (.int ds.length)
 |[.tup ds]=>k (.int ds.length)
 |[.str l]=>k (.int l.length)
 |_=>False
def mG(as:List D)(k:D->Prop):Prop:=
 match as with
 |[.lst ds]=>match bools ds with |some bs=>k (.bl (bs.all id)) |none=>False
 |_=>False
def mH(as:List D)(k:D->Prop):Prop:=
 match as with
 |[.bl b]=>k (.int (if b then 1 else 0))
 |[.int i]=>k (.int i)
 |[.str l]=>match PySem.intText? (tx l) with |some n=>l.length<=640/\k (.int n) |none=>False
 |_=>False
def rE(as:List D)(k:D->Prop):Prop:=
 match as with
 |[.lst ds]=>k (.tup ds)
 |[.tup ds]=>k (.tup ds)
 |_=>False
def rF(as:List D)(k:D->Prop):Prop:=
 match as with
 |[.lst ds]=>match dU ds with |some ns=>k (.int ns.sum) |none=>False
 |_=>False
def yN(as:List D)(k:D->Prop):Prop:=
 match as with
 |[.lst ds]=>match dU ds with
  |some ns=>ns≠[]/\∀m,m∈ns->(∀a,a∈ns->m<=a)->k (.int m)
  |none=>match aW ds with
   |some ls=>∀m,m∈ls->(∀a,a∈ls->¬a < m)->k (.str m)
   |none=>False
 |_=>False
def yO(as:List D)(k:D->Prop):Prop:=match as with
 |[.int a]=>k (.int (if a < 0 then -a else a))
 |_=>False
def yP(as:List D)(k:D->Prop):Prop:=match as with
 |[.int a,.int b]=>k (.int (if b < a then b else a))
 |_=>False
def yQ(as:List D)(k:D->Prop):Prop:=
 match as with
 |[.int a,.int b]=>k (.int (if b > a then b else a))
 |_=>False
def fV(m:Nat):List Nat:=(qU m).cps.toList
def rG(as:List D)(k:D->Prop):Prop:=
 match as with
 |[.int i]=>(0<=i/\i < 100)/\k (.str (fV i.toNat))
 |_=>False
noncomputable def opB:Bf->List D->(D->Prop)->Prop
 |.len=>rD
 |.all=>mG
 |.int=>mH
 |.tuple=>rE
 |.sum=>rF
 |.min=>yN
 |.max=>yQ
 |.abs=>yO
 |.min2=>yP
 |.str=>rG
def rH(as:List D)(k:List D->Prop):Prop:=
 match as with
 |[.lst ds]=>k ds
 |[.tup ds]=>k ds
 |[.str l]=>k (l.map λc=>.str [c])
 |_=>False
def mJ(as:List D)(k:List D->Prop):Prop:=
 match as with
 |[.lst ds]=>match aW ds with |some ls=>ls.length < 64/\∀ls':List (List Nat),ls'.Perm ls->PyProof.Rows.sortedS (ls'.map tx)=true->k (ls'.map D.str) |none=>False
 |[.tup ds]=>match dU ds with |some ns=>ns.length < 64/\∀ns':List Int,ns'.Perm ns->ns'.Pairwise (·<=·)->k (ns'.map D.int) |none=>False
 |_=>False
def putN(ks:List (List Nat))(k:List Nat):List (List Nat):=if k∈ks then ks else ks++[k]
def bF(ls:List (List Nat)):List (List Nat):=ls.foldl putN []
def fW(d:D)(k:List D->Prop):Prop:=
 match d with
 |.lst ds=>match aW ds with |some ls=>(ls.length<=1000/\(bF ls).length<=64)/\∀ls':List (List Nat),ls'.Perm (bF ls)->k (ls'.map D.str) |none=>False
 |_=>False
def cF:Lf->List D->(List D->Prop)->Prop
 |.list=>rH
 |.sorted=>mJ
noncomputable def isT(t:String)(d:D):Option Bool:=
 match d with
 |.non=>some false
 |.bl _=>some (t=="bool"||t=="int")
 |.int _=>some (t=="int")
 |.str _=>some (t=="str")
 |.tup _=>some (t=="tuple")
 |.lst _=>some (t=="list")
 |_=>none
def eX (t:String):Bool:=t=="bool"||t=="int"||t=="str"||t=="tuple"||t=="list"
def mK(o:D)(as:List D)(G:DH)(k:D->DH->Prop):Prop:=
 match o,as with
 |.str s,[.lst ds]=>match aW ds with |some ls=>((ls.map (·.length)).sum+ls.length * s.length<=sz)/\k (.str (dz s ls)) G |none=>False
 |_,_=>False
def mL(o:D)(as:List D)(G:DH)(k:D->DH->Prop):Prop:=
 match o,as with
 |.ref p,[x]=>match G p with |some (.lst ds)=>ds.length < sz/\k .non (bf G p (.lst (ds++[x]))) |none=>False
 |_,_=>False
def mO(o:D)(as:List D)(G:DH)(k:D->DH->Prop):Prop:=
 match o,as with
 |.ref p,[.lst xs]=>match G p with |some (.lst ds)=>ds.length+xs.length < sz/\k .non (bf G p (.lst (ds++xs))) |none=>False
 |_,_=>False
def mQ(o:D)(as:List D)(G:DH)(k:D->DH->Prop):Prop:=
 match o,as with
 |.ref p,[.int i,x]=>match G p with |some (.lst ds)=>ds.length < sz/\0<=i/\i<=1000000/\k .non (bf G p (.lst (ds.take i.toNat++x::ds.drop i.toNat))) |none=>False
 |_,_=>False
def rJ(o:D)(as:List D)(G:DH)(k:D->DH->Prop):Prop:=
 match o,as with
 |.ref p,[.int i]=>match G p with |some (.lst ds)=>0<=i/\i<=1000000/\(match ds[i.toNat]? with |some y=>k y (bf G p (.lst (ds.eraseIdx i.toNat))) |none=>False) |none=>False
 |_,_=>False
def mR(o:D)(as:List D)(G:DH)(k:D->DH->Prop):Prop:=
 match o,as with
 |.lst ds,[.bl true]=>match bools ds with |some bs=>k (.int (bs.count true:Nat)) G |none=>False
 |_,_=>False
def mU(o:D)(as:List D)(G:DH)(k:D->DH->Prop):Prop:=
 match o,as with
 |.lst ds,[.bl true]=>match bools ds with |some bs=>true∈bs/\k (.int (bs.idxOf true:Nat)) G |none=>False
 |_,_=>False
def rK(o:D)(as:List D)(G:DH)(k:D->DH->Prop):Prop:=
 match o,as with
 |.str l,[.str [c]]=>k (.int (-1)) G/\∀i:Nat,l[i]?=some c->k (.int (i:Int)) G
 |_,_=>False
def rM(o:D)(as:List D)(G:DH)(k:D->DH->Prop):Prop:=
 match o,as with
 |.str l,[.str [c]]=>(c < 256/\l.length+2<=sz)/\k (.lst ((bh c l).map .str)) G
 |_,_=>False
def rN:D->Prop
 |.lst _=>True
 |_=>False
def recv(m:Mf)(o:D)(G:DH):Prop:=
 match m,o with
 |.join,.str _=>True
 |.find,.str _=>True
 |.split,.str _=>True
 |.append,.ref p=>match G p with |some (.lst _)=>True |none=>False
 |.extend,.ref p=>match G p with |some (.lst _)=>True |none=>False
 |.insert,.ref p=>match G p with |some (.lst _)=>True |none=>False
 |.pop,.ref p=>match G p with |some (.lst _)=>True |none=>False
 |.count,o=>rN (view G o)
 |.index,o=>rN (view G o)
 |_,_=>False
noncomputable def opM:Mf->D->List D->DH->(D->DH->Prop)->Prop
 |.join,o,as,G,k=>mK o (as.map (view G)) G k
 |.append,o,as,G,k=>mL o as G k
 |.find,o,as,G,k=>rK o as G k
 |.split,o,as,G,k=>rM o as G k
 |.extend,o,as,G,k=>mO o (as.map (view G)) G k
 |.insert,o,as,G,k=>mQ o as G k
 |.pop,o,as,G,k=>rJ o as G k
 |.count,o,as,G,k=>mR (view G o) as G k
 |.index,o,as,G,k=>mU (view G o) as G k
def dW (C C':String):Bool:=C==C'||C'=="SieveError"||C'=="ValueError"
def jy(C:String)(xs:List String)(d:D)(k:Bool->Prop):Prop:=match d with
 |.exn c=>xs.contains c=true/\k (dW c C)
 |.exa c _ _=>xs.contains c=true/\k (dW c C)
 |_=>False
def okA(d:D):Prop:=match d with
 |.int i=>0<=i/\i < 100
 |.str l=>l.length<=1000
 |_=>False
def iI(C f:String)(d:D)(k:D->Prop):Prop:=match d with
 |.exa C' f' v=>C'=C/\f'=f/\k v
 |_=>False
mutual
inductive Tg where
 |nm (i:Nat)
 |tp (ts:Tgs)
inductive Tgs where
 |nil
 |cons (t:Tg) (r:Tgs)
end
mutual
inductive Ex where
 |var (i:Nat)
 |cst (d:D)
 |glb (x:String) (d:D)
 |bin (op:Operator) (fz:Bool) (a b:Ex)
 |neg (a:Ex)
 |cmp (op:CmpOp) (a b:Ex)
 |chn (op op':CmpOp) (a b c:Ex)
 |not (a:Ex)
 |boo (isAnd:Bool) (e:Ex) (es:Exs)
 |ife (c:Tx) (a b:Ex)
 |tup (es:Exs)
 |lst (fz:Bool) (es:Exs)
 |idx (a i:Ex)
 |slc (fz:Bool) (a:Ex) (lo hi:Ox)
 |rvs (fz:Bool) (a s:Ex)
 |call (f:String) (es:Exs)
 |bcl (f:Bf) (es:Exs)
 |lcl (fz:Bool) (f:Lf) (es:Exs)
 |isi (a:Ex) (t:String)
 |isx (a:Ex) (C:String) (xs:List String)
 |fst (es:Exs)
 |rgl (fz:Bool) (a:Ex)
 |srs (fz:Bool) (a:Ex)
 |rgt (a:Ex)
 |rpl (f:String) (a b ix:Ex)
 |fld (C f:String) (o:Ex)
 |mcl (f C m:String) (o:Ex) (es:Exs)
 |mko (C:String) (es:Exs)
 |mkx (C:String) (a:Ex)
 |mki (C f:String) (a:Ex)
 |xat (C f:String) (a:Ex)
 |pp0 (o:Ex)
 |mth (m:Mf) (o:Ex) (es:Exs)
 |comp (fz:Bool) (elt:Ex) (tg:Tg) (it:It') (cond:Tx) (N:List String) (cap:List (Option Nat))
 |cm3 (elt:Ex) (t1:Tg) (i1:It') (t2:Tg) (i2:It') (t3:Tg) (i3:It') (N:List String) (cap:List (Option Nat))
 |frz (a:Ex)
inductive Exs where
 |nil
 |cons (e:Ex) (es:Exs)
/-- a test -/
inductive Tx where
 |val (e:Ex)
 |not (t:Tx)
 |boo (isAnd:Bool) (t:Tx) (ts:Txs)
 |yes
inductive Txs where
 |nil
 |cons (t:Tx) (ts:Txs)
/-- a bound of a slice -/
inductive Ox where
 |no
 |ob (e:Ex)
/-- what a loop walks -/
inductive It' where
 |seq (e:Ex)
 |rng (a:Ex)
 |rng2 (a b:Ex)
 |rev (a:Ex)
 |dwn (a b c:Ex)
 |enm (e:Ex)
 |en1 (e:Ex)
 |zip (a b:Ex)
end
inductive Tb where
 |call (f:String) (es:Exs)
 |asg (i:Nat) (f:String) (es:Exs)
 |pick (f g:String) (i:Nat) (es:Exs)
 |ite (c:Tx) (a b:Tb)
 |mcl (f C m:String) (o:Ex) (es:Exs)
 |mko (C:String) (es:Exs)
inductive Hd where
 |flag (i:Nat) (b:Bool)
 |bind (n i:Nat)
mutual
inductive Sx where
 |exp (e:Ex)
 |asg (t:Tg) (e:Ex)
 |star (i j:Nat) (e:Ex)
 |set (o i e:Ex)
 |aug (i:Nat) (op:Operator) (e:Ex)
 |augs (o i:Ex) (op:Operator) (e:Ex)
 |ret (e:Ex)
 |rtn
 |ite (c:Tx) (a b:Sxs)
 |for_ (t:Tg) (it:It') (body:Sxs)
 |whl (c:Tx) (body:Sxs)
 |pas
 |brk
 |cnt
 |nev
 |rse (C:String) (es:Exs)
 |tryc (f:String) (es:Exs) (C:String) (i:Nat) (b:Bool)
 |tryx (b:Tb) (C:String) (h:Hd) (xs:List String)
inductive Sxs where
 |nil
 |cons (s:Sx) (r:Sxs)
end
structure Xn where
 cls:String
 fld:D
structure Spec where
 A:Type
 pre:List D->DH->A->Prop
 post:A->D->DH->Prop
 exc:A->Xn->DH->Prop
abbrev EK:=Xn->DH->Prop
def Spec.t(S:Spec)(ds:List D)(G:DH)(Q:D->DH->Prop)(E:EK):Prop:=
 ∃a,S.pre ds G a/\(∀d G',S.post a d G'->Q d G')/\∀x G',S.exc a x G'->E x G'
theorem Spec.mono{S:Spec}{ds:List D}{G:DH}{Q Q':D->DH->Prop}{E E':EK}(h:S.t ds G Q E)(hq:∀d G',Q d G'->Q' d G')(he:∀x G',E x G'->E' x G'):S.t ds G Q' E':=by obtain ⟨a,h1,h2,h3⟩:=h;exact ⟨a,h1,λd G' q=>hq _ _ (h2 d G' q),λx G' q=>he _ _ (h3 x G' q)⟩
abbrev ao:=String->Spec
def rO(C f:String)(d:D)(k:Addr->Prop):Prop:=match d with |.obj C' f' q=>C'=C/\f'=f/\k q |_=>False
def mV(C m:String)(d:D):Prop:=match d with |.obj C' f' _=>C'=C/\(Str.ofString m==Str.ofString f')=false |_=>False
def rP(d:D)(G:DH)(k:D->DH->Prop):Prop:=match d with |.ref p=>(match G p with |some (.lst ds)=>(match ds[ds.length - 1]? with |some y=>k y (bf G p (.lst ds.dropLast)) |none=>False) |none=>False) |_=>False
def rQ(d:D)(k:List Nat->Prop):Prop:=match d with |.str l=>l.length<=1000/\k l |_=>False
def rR(i:D)(l:List Nat)(k:List Nat->Prop):Prop:=match i with |.int n=>(match atI [48,49] n with |some c=>k (l.map λa=>if a=42 then c else a) |none=>False) |_=>False
def jz(i j:Nat)(d:D)(ρ:aj)(G:DH)(k:aj->DH->Prop):Prop:=
 match d with
 |.lst ds=>ds≠[]/\∀xs y,ds=xs++[y]->k ((ρ.set i (some (.lst xs))).set j (some y)) G
 |_=>False
mutual
noncomputable def aK:Tg->D->aj->DH->(aj->Prop)->Prop
 |.nm i,d,ρ,_,k=>k (ρ.set i (some d))
 |.tp ts,d,ρ,G,k=>match d with |.tup ds=>bz ts ds ρ G k |.lst ds=>bz ts ds ρ G k |_=>False
noncomputable def bz:Tgs->List D->aj->DH->(aj->Prop)->Prop
 |.nil,ds,ρ,_,k=>match ds with |[]=>k ρ |_=>False
 |.cons t r,ds,ρ,G,k=>match ds with |d::ds=>aK t d ρ G (λρ'=>bz r ds ρ' G k) |[]=>False
end
abbrev Hld:=List (Addr×List D)
def held:Hld->DH->Prop
 |[],_=>True
 | (a,ds)::r,G=>G a=some (.lst ds)/\held r G
noncomputable def compLoop(step:D->aj->DH->(Option D->aj->DH->Prop)->Prop)(g:Hld):List D->List D->aj->DH->(List D->DH->Prop)->Prop
 |[],acc,_,G,k=>held g G/\acc.length<=sz/\k acc G
 |d::ds,acc,ρ,G,k=>held g G/\acc.length < sz/\step d ρ G (λo ρ' G'=>match o with |some y=>compLoop step g ds (acc++[y]) ρ' G' k |none=>compLoop step g ds acc ρ' G' k)
noncomputable def cX(step:D->List D->aj->DH->(List D->aj->DH->Prop)->Prop)(g:Hld):List D->List D->aj->DH->(List D->aj->DH->Prop)->Prop
 |[],acc,ρ,G,k=>held g G/\k acc ρ G
 |d::ds,acc,ρ,G,k=>held g G/\step d acc ρ G (λacc' ρ' G'=>cX step g ds acc' ρ' G' k)
def bW:Nat->List D->List D
 |_,[]=>[]
 |i,d::ds=>.tup [.int i,d]::bW (i+1) ds
def bA:List D->List D->List D
 |a::as,b::bs=>.tup [a,b]::bA as bs
 |_,_=>[]
noncomputable def itemsOf(G:DH):D->Option (List D×Hld)
 |.lst ds=>some (ds,[])
 |.tup ds=>some (ds,[])
 |.str l=>some (l.map λc=>.str [c],[])
 |.ref p=>match G p with |some (.lst ds)=>some (ds,[(p,ds)]) |none=>none
 |_=>none
def bY(lo:Int)(n:Nat):List D:=(List.range n).map λi=>.int (lo+(i:Nat))
def mW(lo:Int)(n:Nat):List D:=(List.range n).map λi=>.int (lo - (i:Nat))
def noE:EK:=λ_ _=>False
mutual
def wpE(Φ:ao):Ex->EK->aj->DH->(D->DH->Prop)->Prop
 |.var i,_,ρ,G,k=>match ρ[i]? with |some (some d)=>k d G |_=>False
 |.cst d,_,_,G,k=>k d G
 |.glb _ d,_,_,G,k=>k d G
 |.bin op fz a b,E,ρ,G,k=>wpE Φ a E ρ G λx G1=>wpE Φ b E ρ G1 λy G2=>bU op fz (view G2 x) (view G2 y) G2 k
 |.neg a,E,ρ,G,k=>wpE Φ a E ρ G λx G1=>match x with |.int i=>k (.int (-i)) G1 |_=>False
 |.cmp op a b,E,ρ,G,k=>wpE Φ a E ρ G λx G1=>wpE Φ b E ρ G1 λy G2=>aU op (view G2 x) (view G2 y) λc=>k (.bl c) G2
 |.chn op op' a b c,E,ρ,G,k=>wpE Φ a E ρ G λx G1=>wpE Φ b E ρ G1 λy G2=>aU op (view G2 x) (view G2 y) λt=>
   match t with
   |true=>wpE Φ c E ρ G2 λz G3=>aU op' (view G3 y) (view G3 z) λt'=>k (.bl t') G3
   |false=>k (.bl false) G2
 |.not a,E,ρ,G,k=>wpE Φ a E ρ G λx G1=>match truth (view G1 x) with |some b=>k (.bl (!b)) G1 |none=>False
 |.boo isAnd e es,E,ρ,G,k=>wpE Φ e E ρ G λd G1=>match d with |.bl b=>wpB Φ es isAnd b E ρ G1 (λc G2=>k (.bl c) G2) |_=>False
 |.ife c a b,E,ρ,G,k=>wpT Φ c E ρ G λt G1=>match t with |true=>wpE Φ a E ρ G1 k |false=>wpE Φ b E ρ G1 k
 |.tup es,E,ρ,G,k=>aH Φ es E ρ G λds G1=>ds.length<=sz/\k (.tup ds) G1
 |.lst fz es,E,ρ,G,k=>aH Φ es E ρ G λds G1=>ds.length<=sz/\mk fz ds G1 k
 |.idx a i,E,ρ,G,k=>wpE Φ a E ρ G λx G1=>wpE Φ i E ρ G1 λy G2=>bV (view G2 x) y λd=>k d G2
 |.slc fz a lo hi,E,ρ,G,k=>wpE Φ a E ρ G λx G1=>wpO Φ lo E ρ G1 λl G2=>wpO Φ hi E ρ G2 λh G3=>dw fz (view G3 x) l h G3 k
 |.rvs fz a s,E,ρ,G,k=>wpE Φ a E ρ G λx G1=>wpE Φ s E ρ G1 λy G2=>iH fz (view G2 x) y G2 k
 |.call f es,E,ρ,G,k=>aH Φ es E ρ G λds G1=>(Φ f).t ds G1 k E
 |.bcl f es,E,ρ,G,k=>aH Φ es E ρ G λds G1=>opB f (ds.map (view G1)) λd=>k d G1
 |.lcl fz f es,E,ρ,G,k=>aH Φ es E ρ G λds G1=>cF f (ds.map (view G1)) λxs=>mk fz xs G1 k
 |.isi a t,E,ρ,G,k=>wpE Φ a E ρ G λx G1=>match isT t (view G1 x) with |some b=>k (.bl b) G1 |none=>False
 |.isx a C xs,E,ρ,G,k=>wpE Φ a E ρ G λx G1=>jy C xs x λb=>k (.bl b) G1
 |.fst es,E,ρ,G,k=>wpF Φ es E ρ G λl G1=>l.length<=sz/\k (.str l) G1
 |.srs fz a,E,ρ,G,k=>wpE Φ a E ρ G λd G1=>fW (view G1 d) λxs=>mk fz xs G1 k
 |.rgl fz a,E,ρ,G,k=>wpE Φ a E ρ G λd G1=>match d with |.int n=>(0<=n/\n<=1000)/\mk fz (bY 0 n.toNat) G1 k |_=>False
 |.rpl f a b ix,E,ρ,G,k=>wpE Φ a E ρ G λda G1=>wpE Φ b E ρ G1 λdb G2=>bV (view G2 db) (.int 0) λd0=>(Φ f).t [da,d0] G2 (λd G3=>rQ d λl=>wpE Φ ix E ρ G3 λi G4=>rR i l λm=>k (.str m) G4) E
 |.fld C f o,E,ρ,G,k=>wpE Φ o E ρ G λd G1=>rO C f d λq=>k (.ref q) G1
 |.mcl f C m o es,E,ρ,G,k=>wpE Φ o E ρ G λd G1=>mV C m d/\aH Φ es E ρ G1 λds G2=>(Φ f).t (d::ds) G2 k E
 |.mko C es,E,ρ,G,k=>aH Φ es E ρ G λds G1=>(Φ C).t ds G1 k E
 |.mkx C a,E,ρ,G,k=>wpE Φ a E ρ G λ_ G1=>k (.exn C) G1
 |.mki C f a,E,ρ,G,k=>wpE Φ a E ρ G λd G1=>okA d/\k (.exa C f d) G1
 |.xat C f a,E,ρ,G,k=>wpE Φ a E ρ G λd G1=>iI C f d λv=>k v G1
 |.pp0 o,E,ρ,G,k=>wpE Φ o E ρ G λd G1=>rP d G1 k
 |.rgt a,E,ρ,G,k=>wpE Φ a E ρ G λd G1=>match d with |.int n=>(0<=n/\n<=1000)/\k (.tup (bY 0 n.toNat)) G1 |_=>False
 |.mth m o es,E,ρ,G,k=>wpE Φ o E ρ G λx G1=>recv m x G1/\aH Φ es E ρ G1 λds G2=>opM m x ds G2 k
 |.comp fz elt tg it cond _ cap,E,ρ,G,k=>wpI Φ it E ρ G λitems g G1=>
   compLoop (λd ρ' G' k'=>aK tg d ρ' G' λρ1=>wpT Φ cond noE ρ1 G' λb G2=>match b with |true=>wpE Φ elt noE ρ1 G2 λy G3=>k' (some y) ρ1 G3 |false=>k' none ρ1 G2)
    g items [] (cap.map λo=>match o with |none=>none |some j=>(ρ[j]?).join) G1 λds G2=>mk fz ds G2 k
 |.cm3 elt t1 i1 t2 i2 t3 i3 _ cap,E,ρ,G,k=>wpI Φ i1 E ρ G λitems g G1=>cX (λd acc ρ' G' k1=>aK t1 d ρ' G' λρ1=>wpI Φ i2 noE ρ1 G' λitems2 g2 G2=>cX (λd acc ρ' G' k2=>aK t2 d ρ' G' λρ1=>wpI Φ i3 noE ρ1 G' λitems3 g3 G3=>cX (λd acc ρ' G' k3=>aK t3 d ρ' G' λρ1=>acc.length < sz/\wpE Φ elt noE ρ1 G' λy G4=>k3 (acc++[y]) ρ1 G4) g3 items3 acc ρ1 G3 k2) g2 items2 acc ρ1 G2 k1) g items [] (cap.map λo=>match o with |none=>none |some j=>(ρ[j]?).join) G1 λds _ G2=>ds.length<=sz/\mk true ds G2 k
 |.frz a,E,ρ,G,k=>wpE Φ a E ρ G λx G1=>match x with |.ref p=>(match G1 p with |some (.lst ds)=>k (.lst ds) (gB G1 p) |none=>False) |d=>k d G1
/-- a test -/
def wpT(Φ:ao):Tx->EK->aj->DH->(Bool->DH->Prop)->Prop
 |.not a,E,ρ,G,k=>wpT Φ a E ρ G λb G1=>k (!b) G1
 |.boo isAnd e es,E,ρ,G,k=>wpT Φ e E ρ G λb G1=>eY Φ es isAnd b E ρ G1 k
 |.yes,_,_,G,k=>k true G
 |.val x,E,ρ,G,k=>wpE Φ x E ρ G λd G1=>match truth (view G1 d) with |some b=>k b G1 |none=>False
def wpF(Φ:ao):Exs->EK->aj->DH->(List Nat->DH->Prop)->Prop
 |.nil,_,_,G,k=>k [] G
 |.cons e es,E,ρ,G,k=>wpE Φ e E ρ G λd G1=>match d with
  |.str l=>l.length<=1000/\wpF Φ es E ρ G1 λx G2=>k (l++x) G2
  |.int i=>(0<=i/\i < 100)/\wpF Φ es E ρ G1 λx G2=>k (fV i.toNat++x) G2
  |_=>False
def aH(Φ:ao):Exs->EK->aj->DH->(List D->DH->Prop)->Prop
 |.nil,_,_,G,k=>k [] G
 |.cons e es,E,ρ,G,k=>wpE Φ e E ρ G λd G1=>aH Φ es E ρ G1 λds G2=>k (d::ds) G2
/-- and,or as values:truths alone;b:the one ahead -/
def wpB(Φ:ao):Exs->Bool->Bool->EK->aj->DH->(Bool->DH->Prop)->Prop
 |.nil,_,b,_,_,G,k=>k b G
 |.cons e es,isAnd,b,E,ρ,G,k=>match isAnd,b with
  |true,false=>k false G
  |false,true=>k true G
  |_,_=>wpE Φ e E ρ G λd G1=>match d with |.bl b'=>wpB Φ es isAnd b' E ρ G1 k |_=>False
def eY(Φ:ao):Txs->Bool->Bool->EK->aj->DH->(Bool->DH->Prop)->Prop
 |.nil,_,b,_,_,G,k=>k b G
 |.cons e es,isAnd,b,E,ρ,G,k=>match isAnd,b with
  |true,false=>k false G
  |false,true=>k true G
  |_,_=>wpT Φ e E ρ G λb' G1=>eY Φ es isAnd b' E ρ G1 k
/-- a bound of a slice -/
def wpO(Φ:ao):Ox->EK->aj->DH->(Option Int->DH->Prop)->Prop
 |.no,_,_,G,k=>k none G
 |.ob x,E,ρ,G,k=>wpE Φ x E ρ G λd G1=>match d with |.int i=>k (some i) G1 |_=>False
def wpI(Φ:ao):It'->EK->aj->DH->(List D->Hld->DH->Prop)->Prop
 |.seq e,E,ρ,G,k=>wpE Φ e E ρ G λd G1=>match itemsOf G1 d with |some ds=>k ds.1 ds.2 G1 |none=>False
 |.rng a,E,ρ,G,k=>wpE Φ a E ρ G λd G1=>match d with |.int n=>(-(2 ^ 62)<=n/\n < 2 ^ 62)/\k (bY 0 n.toNat) [] G1 |_=>False
 |.rng2 a b,E,ρ,G,k=>wpE Φ a E ρ G λx G1=>wpE Φ b E ρ G1 λy G2=>match x,y with
  |.int m,.int n=>(-(2 ^ 62)<=m/\m < 2 ^ 62/\-(2 ^ 62)<=n/\n < 2 ^ 62)/\k (bY m (n - m).toNat) [] G2
  |_,_=>False
 |.rev a,E,ρ,G,k=>wpE Φ a E ρ G λd G1=>match d with |.int n=>(-(2 ^ 62)<=n/\n < 2 ^ 62)/\k (mW ((n.toNat:Int) - 1) n.toNat) [] G1 |_=>False
 |.dwn a b c,E,ρ,G,k=>wpE Φ a E ρ G λx G1=>wpE Φ b E ρ G1 λy G2=>wpE Φ c E ρ G2 λz G3=>match x,y,z with
  |.int m,.int n,.int s=>(s=-1/\-(2 ^ 62)<=m/\m < 2 ^ 62/\-(2 ^ 62)<=n/\n < 2 ^ 62)/\k (mW m (m - n).toNat) [] G3
  |_,_,_=>False
 |.enm e,E,ρ,G,k=>wpE Φ e E ρ G λd G1=>match itemsOf G1 d with |some ds=>k (bW 0 ds.1) ds.2 G1 |none=>False
 |.en1 e,E,ρ,G,k=>wpE Φ e E ρ G λd G1=>match d with |.lst ds=>k (bW 1 ds) [] G1 |_=>False
 |.zip a b,E,ρ,G,k=>wpE Φ a E ρ G λx G1=>wpE Φ b E ρ G1 λy G2=>match itemsOf G2 x,itemsOf G2 y with |some ds,some es=>k (bA ds.1 es.1) (ds.2++es.2) G2 |_,_=>False
end
structure En where
 nx:aj->DH->Prop
 rt:D->DH->Prop
 bk:aj->DH->Prop
 ct:aj->DH->Prop
noncomputable def forLoop(step:D->aj->DH->(aj->DH->Prop)->Prop)(g:Hld):List D->aj->DH->(aj->DH->Prop)->Prop
 |[],ρ,G,k=>held g G/\k ρ G
 |d::ds,ρ,G,k=>held g G/\step d ρ G λρ' G'=>forLoop step g ds ρ' G' k
def whileLoop(test:aj->DH->(Bool->DH->Prop)->Prop)(body:aj->DH->(aj->DH->Prop)->Prop):Nat->aj->DH->(aj->DH->Prop)->Prop
 |0,_,_,_=>False
 |n+1,ρ,G,k=>test ρ G λb G1=>match b with |true=>body ρ G1 λρ' G'=>whileLoop test body n ρ' G' k |false=>k ρ G1
def dB(o i x:D)(G:DH)(k:DH->Prop):Prop:=
 match o,i with
 |.ref p,.int i=>match G p with |some (.lst ds)=>(match ixN ds.length i with |some j=>k (bf G p (.lst (ds.set j x))) |none=>False) |none=>False
 |_,_=>False
def dX(op:Operator)(a b:D)(k:D->Prop):Prop:=
 match op,a,b with
 |.Add,.int i,.int j=>k (.int (i+j))
 |.Add,.str x,.str y=>x.length+y.length<=sz/\k (.str (x++y))
 |.Sub,.int i,.int j=>k (.int (i - j))
 |_,_,_=>False
def yR:D->Bool
 |.int i=>decide (0<=i)&&decide (i < 100)
 |_=>false
def wpM(Φ:ao):Exs->EK->aj->DH->(DH->Prop)->Prop
 |.nil,_,_,G,k=>k G
 |.cons e es,E,ρ,G,k=>wpE Φ e E ρ G λd G1=>yR d=true/\wpM Φ es E ρ G1 k
def wpX(Φ:ao):Tb->aj->DH->(aj->DH->Prop)->(Xn->aj->DH->Prop)->Prop
 |.call f es,ρ,G,nx,ex=>aH Φ es noE ρ G λds G1=>(Φ f).t ds G1 (λ_ G2=>nx ρ G2) λx G2=>ex x ρ G2
 |.asg i f es,ρ,G,nx,ex=>aH Φ es noE ρ G λds G1=>(Φ f).t ds G1 (λd G2=>nx (ρ.set i (some d)) G2) λx G2=>ex x ρ G2
 |.pick f g i es,ρ,G,nx,ex=>wpE Φ (.var i) noE ρ G λd G1=>∃b:Bool,d=.int (if b then 1 else 0)/\aH Φ es noE ρ G1 λds G2=>(Φ (if b then g else f)).t ds G2 (λ_ G3=>nx ρ G3) λx G3=>ex x ρ G3
 |.ite c a b,ρ,G,nx,ex=>wpT Φ c noE ρ G λt G1=>match t with |true=>wpX Φ a ρ G1 nx ex |false=>wpX Φ b ρ G1 nx ex
 |.mcl f C m o es,ρ,G,nx,ex=>wpE Φ o noE ρ G λd G1=>mV C m d/\aH Φ es noE ρ G1 λds G2=>(Φ f).t (d::ds) G2 (λ_ G3=>nx ρ G3) λx G3=>ex x ρ G3
 |.mko C es,ρ,G,nx,ex=>aH Φ es noE ρ G λds G1=>(Φ C).t ds G1 (λ_ G2=>nx ρ G2) λx G2=>ex x ρ G2
def caught(h:Hd)(C:String)(ρ:aj):aj:=match h with
 |.flag i b=>ρ.set i (some (.bl b))
 |.bind n i=>((ρ.set n (some (.exn C))).set i (some (.exn C))).set n none
mutual
def wpS(Φ:ao):Sx->EK->aj->DH->En->Prop
 |.exp e,E,ρ,G,D=>wpE Φ e E ρ G λ_ G1=>D.nx ρ G1
 |.star i j e,E,ρ,G,D=>wpE Φ e E ρ G λd G1=>jz i j d ρ G1 D.nx
 |.asg t e,E,ρ,G,D=>wpE Φ e E ρ G λd G1=>aK t d ρ G1 λρ'=>D.nx ρ' G1
 |.set o i e,E,ρ,G,D=>wpE Φ e E ρ G λx G1=>wpE Φ o E ρ G1 λa G2=>wpE Φ i E ρ G2 λy G3=>dB a y x G3 λG4=>D.nx ρ G4
 |.aug i op e,E,ρ,G,D=>match ρ[i]? with
  |some (some a)=>wpE Φ e E ρ G λb G1=>dX op a b λc=>D.nx (ρ.set i (some c)) G1
  |_=>False
 |.augs o i op e,E,ρ,G,D=>wpE Φ o E ρ G λa G1=>wpE Φ i E ρ G1 λy G2=>bV (view G2 a) y λold=>wpE Φ e E ρ G2 λb G3=>dX op old b λc=>dB a y c G3 λG4=>D.nx ρ G4
 |.ret e,E,ρ,G,D=>wpE Φ e E ρ G D.rt
 |.rtn,_,_,G,D=>D.rt .non G
 |.ite c a b,E,ρ,G,D=>wpT Φ c E ρ G λt G1=>match t with |true=>aC Φ a E ρ G1 D |false=>aC Φ b E ρ G1 D
 |.for_ t it body,E,ρ,G,D=>wpI Φ it E ρ G λitems g G1=>
   forLoop (λd ρ' G' k=>aK t d ρ' G' λρ1=>aC Φ body E ρ1 G' { D with nx:=k,ct:=k,bk:=D.nx }) g items ρ G1 D.nx
 |.whl c body,E,ρ,G,D=>∃n,whileLoop (λρ' G' k=>wpT Φ c E ρ' G' k) (λρ' G' k=>aC Φ body E ρ' G' { D with nx:=k,ct:=k,bk:=D.nx }) n ρ G D.nx
 |.pas,_,ρ,G,D=>D.nx ρ G
 |.brk,_,ρ,G,D=>D.bk ρ G
 |.cnt,_,ρ,G,D=>D.ct ρ G
 |.nev,_,_,_,_=>False
 |.rse C es,E,ρ,G,_=>wpM Φ es E ρ G λG1=>E ⟨C,.non⟩ G1
 |.tryc f es C i b,_,ρ,G,D=>aH Φ es noE ρ G λds G1=>(Φ f).t ds G1 (λ_ G2=>D.nx ρ G2) λx G2=>x.cls=C/\x.fld=.non/\D.nx (ρ.set i (some (.bl b))) G2
 |.tryx b C h xs,_,ρ,G,D=>wpX Φ b ρ G D.nx λx ρ' G'=>x.fld=.non/\xs.contains x.cls=true/\dW x.cls C=true/\D.nx (caught h x.cls ρ') G'
def aC(Φ:ao):Sxs->EK->aj->DH->En->Prop
 |.nil,_,ρ,G,D=>D.nx ρ G
 |.cons s r,E,ρ,G,D=>wpS Φ s E ρ G { D with nx:=λρ' G'=>aC Φ r E ρ' G' D }
end
theorem mX{Φ:ao}{a}{E}{ρ}{G}{k}:wpT Φ (.not a) E ρ G k=(wpT Φ a E ρ G λb G1=>k (!b) G1):=rfl
theorem mY{Φ:ao}{isAnd}{e}{es}{E}{ρ}{G}{k}:wpT Φ (.boo isAnd e es) E ρ G k=(wpT Φ e E ρ G λb G1=>eY Φ es isAnd b E ρ G1 k):=rfl
theorem mZ{Φ:ao}{E}{ρ}{G}{k}:wpT Φ .yes E ρ G k=(k true G):=rfl
theorem iJ{Φ:ao}{x}{E}{ρ}{G}{k}:wpT Φ (.val x) E ρ G k=(wpE Φ x E ρ G λd G1=>match truth (view G1 d) with |some b=>k b G1 |none=>False):=rfl
theorem fX{Φ:ao}{E}{ρ}{G}{k}:aH Φ .nil E ρ G k=(k [] G):=rfl
theorem eZ{Φ:ao}{e}{es}{E}{ρ}{G}{k}:aH Φ (.cons e es) E ρ G k=(wpE Φ e E ρ G λd G1=>aH Φ es E ρ G1 λds G2=>k (d::ds) G2):=rfl
theorem m5{Φ:ao}{isAnd:Bool}{b:Bool}{E}{ρ}{G}{k}:wpB Φ .nil isAnd b E ρ G k=(k b G):=rfl
theorem jA{Φ:ao}{e}{es}{isAnd:Bool}{b:Bool}{E}{ρ}{G}{k}:wpB Φ (.cons e es) isAnd b E ρ G k=(match isAnd,b with
  |true,false=>k false G
  |false,true=>k true G
  |_,_=>wpE Φ e E ρ G λd G1=>match d with |.bl b'=>wpB Φ es isAnd b' E ρ G1 k |_=>False):=rfl
theorem m7{Φ:ao}{isAnd:Bool}{b:Bool}{E}{ρ}{G}{k}:eY Φ .nil isAnd b E ρ G k=(k b G):=rfl
theorem jB{Φ:ao}{e}{es}{isAnd:Bool}{b:Bool}{E}{ρ}{G}{k}:eY Φ (.cons e es) isAnd b E ρ G k=(match isAnd,b with
  |true,false=>k false G
  |false,true=>k true G
  |_,_=>wpT Φ e E ρ G λb' G1=>eY Φ es isAnd b' E ρ G1 k):=rfl
theorem m8{Φ:ao}{E}{ρ}{G}{k}:wpO Φ .no E ρ G k=(k none G):=rfl
theorem m9{Φ:ao}{x}{E}{ρ}{G}{k}:wpO Φ (.ob x) E ρ G k=(wpE Φ x E ρ G λd G1=>match d with |.int i=>k (some i) G1 |_=>False):=rfl
theorem nq{Φ:ao}{e}{E}{ρ}{G}{k}:wpI Φ (.seq e) E ρ G k=(wpE Φ e E ρ G λd G1=>match itemsOf G1 d with |some ds=>k ds.1 ds.2 G1 |none=>False):=rfl
theorem nu{Φ:ao}{a}{E}{ρ}{G}{k}:wpI Φ (.rng a) E ρ G k=(wpE Φ a E ρ G λd G1=>match d with |.int n=>(-(2 ^ 62)<=n/\n < 2 ^ 62)/\k (bY 0 n.toNat) [] G1 |_=>False):=rfl
theorem rT{Φ:ao}{a}{b}{E}{ρ}{G}{k}:wpI Φ (.rng2 a b) E ρ G k=(wpE Φ a E ρ G λx G1=>wpE Φ b E ρ G1 λy G2=>match x,y with
  |.int m,.int n=>(-(2 ^ 62)<=m/\m < 2 ^ 62/\-(2 ^ 62)<=n/\n < 2 ^ 62)/\k (bY m (n - m).toNat) [] G2
  |_,_=>False):=rfl
theorem rU{Φ:ao}{a}{E}{ρ}{G}{k}:wpI Φ (.rev a) E ρ G k=(wpE Φ a E ρ G λd G1=>match d with |.int n=>(-(2 ^ 62)<=n/\n < 2 ^ 62)/\k (mW ((n.toNat:Int) - 1) n.toNat) [] G1 |_=>False):=rfl
theorem rW{Φ:ao}{a}{b}{c}{E}{ρ}{G}{k}:wpI Φ (.dwn a b c) E ρ G k=(wpE Φ a E ρ G λx G1=>wpE Φ b E ρ G1 λy G2=>wpE Φ c E ρ G2 λz G3=>match x,y,z with
  |.int m,.int n,.int s=>(s=-1/\-(2 ^ 62)<=m/\m < 2 ^ 62/\-(2 ^ 62)<=n/\n < 2 ^ 62)/\k (mW m (m - n).toNat) [] G3
  |_,_,_=>False):=rfl
theorem nA{Φ:ao}{e}{E}{ρ}{G}{k}:wpI Φ (.enm e) E ρ G k=(wpE Φ e E ρ G λd G1=>match itemsOf G1 d with |some ds=>k (bW 0 ds.1) ds.2 G1 |none=>False):=rfl
theorem nF{Φ:ao}{a}{b}{E}{ρ}{G}{k}:wpI Φ (.zip a b) E ρ G k=(wpE Φ a E ρ G λx G1=>wpE Φ b E ρ G1 λy G2=>match itemsOf G2 x,itemsOf G2 y with |some ds,some es=>k (bA ds.1 es.1) (ds.2++es.2) G2 |_,_=>False):=rfl
theorem jC{Φ:ao}{E}{ρ}{G}{D}:aC Φ .nil E ρ G D=(D.nx ρ G):=rfl
theorem iK{Φ:ao}{s}{r}{E}{ρ}{G}{D}:aC Φ (.cons s r) E ρ G D=(wpS Φ s E ρ G { D with nx:=λρ' G'=>aC Φ r E ρ' G' D }):=rfl
theorem nG{Φ:ao}{i E ρ G k}:wpE Φ (.var i) E ρ G k=(match ρ[i]? with |some (some d)=>k d G |_=>False):=rfl
theorem fY{Φ:ao}{d E ρ G k}:wpE Φ (.cst d) E ρ G k=(k d G):=rfl
theorem rY{Φ:ao}{u0 d E ρ G k}:wpE Φ (.glb u0 d) E ρ G k=(k d G):=rfl
theorem nH{Φ:ao}{op fz a b E ρ G k}:wpE Φ (.bin op fz a b) E ρ G k=(wpE Φ a E ρ G λx G1=>wpE Φ b E ρ G1 λy G2=>bU op fz (view G2 x) (view G2 y) G2 k):=rfl
theorem rZ{Φ:ao}{a E ρ G k}:wpE Φ (.neg a) E ρ G k=(wpE Φ a E ρ G λx G1=>match x with |.int i=>k (.int (-i)) G1 |_=>False):=rfl
theorem jD{Φ:ao}{op a b E ρ G k}:wpE Φ (.cmp op a b) E ρ G k=(wpE Φ a E ρ G λx G1=>wpE Φ b E ρ G1 λy G2=>aU op (view G2 x) (view G2 y) λc=>k (.bl c) G2):=rfl
theorem jE{Φ:ao}{op op' a b c E ρ G k}:wpE Φ (.chn op op' a b c) E ρ G k=(wpE Φ a E ρ G λx G1=>wpE Φ b E ρ G1 λy G2=>aU op (view G2 x) (view G2 y) λt=>
   match t with
   |true=>wpE Φ c E ρ G2 λz G3=>aU op' (view G3 y) (view G3 z) λt'=>k (.bl t') G3
   |false=>k (.bl false) G2):=rfl
theorem sr{Φ:ao}{a E ρ G k}:wpE Φ (.not a) E ρ G k=(wpE Φ a E ρ G λx G1=>match truth (view G1 x) with |some b=>k (.bl (!b)) G1 |none=>False):=rfl
theorem nJ{Φ:ao}{isAnd e es E ρ G k}:wpE Φ (.boo isAnd e es) E ρ G k=(wpE Φ e E ρ G λd G1=>match d with |.bl b=>wpB Φ es isAnd b E ρ G1 (λc G2=>k (.bl c) G2) |_=>False):=rfl
theorem su{Φ:ao}{c a b E ρ G k}:wpE Φ (.ife c a b) E ρ G k=(wpT Φ c E ρ G λt G1=>match t with |true=>wpE Φ a E ρ G1 k |false=>wpE Φ b E ρ G1 k):=rfl
theorem nM{Φ:ao}{es E ρ G k}:wpE Φ (.tup es) E ρ G k=(aH Φ es E ρ G λds G1=>ds.length<=sz/\k (.tup ds) G1):=rfl
theorem nO{Φ:ao}{fz es E ρ G k}:wpE Φ (.lst fz es) E ρ G k=(aH Φ es E ρ G λds G1=>ds.length<=sz/\mk fz ds G1 k):=rfl
theorem nP{Φ:ao}{a i E ρ G k}:wpE Φ (.idx a i) E ρ G k=(wpE Φ a E ρ G λx G1=>wpE Φ i E ρ G1 λy G2=>bV (view G2 x) y λd=>k d G2):=rfl
theorem sy{Φ:ao}{fz a s E ρ G k}:wpE Φ (.rvs fz a s) E ρ G k=(wpE Φ a E ρ G λx G1=>wpE Φ s E ρ G1 λy G2=>iH fz (view G2 x) y G2 k):=rfl
theorem nQ{Φ:ao}{fz a lo hi E ρ G k}:wpE Φ (.slc fz a lo hi) E ρ G k=(wpE Φ a E ρ G λx G1=>wpO Φ lo E ρ G1 λl G2=>wpO Φ hi E ρ G2 λh G3=>dw fz (view G3 x) l h G3 k):=rfl
theorem nR{Φ:ao}{f es E ρ G k}:wpE Φ (.call f es) E ρ G k=(aH Φ es E ρ G λds G1=>(Φ f).t ds G1 k E):=rfl
theorem nT{Φ:ao}{f es E ρ G k}:wpE Φ (.bcl f es) E ρ G k=(aH Φ es E ρ G λds G1=>opB f (ds.map (view G1)) λd=>k d G1):=rfl
theorem nU{Φ:ao}{fz f es E ρ G k}:wpE Φ (.lcl fz f es) E ρ G k=(aH Φ es E ρ G λds G1=>cF f (ds.map (view G1)) λxs=>mk fz xs G1 k):=rfl
theorem nW{Φ:ao}{a t E ρ G k}:wpE Φ (.isi a t) E ρ G k=(wpE Φ a E ρ G λx G1=>match isT t (view G1 x) with |some b=>k (.bl b) G1 |none=>False):=rfl
theorem sE{Φ:ao}{a C xs E ρ G k}:wpE Φ (.isx a C xs) E ρ G k=(wpE Φ a E ρ G λx G1=>jy C xs x λb=>k (.bl b) G1):=rfl
theorem nY{Φ:ao}{fz a E ρ G k}:wpE Φ (.srs fz a) E ρ G k=(wpE Φ a E ρ G λd G1=>fW (view G1 d) λxs=>mk fz xs G1 k):=rfl
theorem sG{Φ:ao}{fz a E ρ G k}:wpE Φ (.rgl fz a) E ρ G k=(wpE Φ a E ρ G λd G1=>match d with |.int n=>(0<=n/\n<=1000)/\mk fz (bY 0 n.toNat) G1 k |_=>False):=rfl
theorem TJ{Φ:ao}{f a b ix E ρ G k}:wpE Φ (.rpl f a b ix) E ρ G k=(wpE Φ a E ρ G λda G1=>wpE Φ b E ρ G1 λdb G2=>bV (view G2 db) (.int 0) λd0=>(Φ f).t [da,d0] G2 (λd G3=>rQ d λl=>wpE Φ ix E ρ G3 λi G4=>rR i l λm=>k (.str m) G4) E):=rfl
theorem sH{Φ:ao}{C f o E ρ G k}:wpE Φ (.fld C f o) E ρ G k=(wpE Φ o E ρ G λd G1=>rO C f d λq=>k (.ref q) G1):=rfl
theorem sI{Φ:ao}{f C m o es E ρ G k}:wpE Φ (.mcl f C m o es) E ρ G k=(wpE Φ o E ρ G λd G1=>mV C m d/\aH Φ es E ρ G1 λds G2=>(Φ f).t (d::ds) G2 k E):=rfl
theorem nZ{Φ:ao}{C a E ρ G k}:wpE Φ (.mkx C a) E ρ G k=(wpE Φ a E ρ G λ_ G1=>k (.exn C) G1):=rfl
theorem n6{Φ:ao}{C f a E ρ G k}:wpE Φ (.mki C f a) E ρ G k=(wpE Φ a E ρ G λd G1=>okA d/\k (.exa C f d) G1):=rfl
theorem n8{Φ:ao}{C f a E ρ G k}:wpE Φ (.xat C f a) E ρ G k=(wpE Φ a E ρ G λd G1=>iI C f d λv=>k v G1):=rfl
theorem sJ{Φ:ao}{C es E ρ G k}:wpE Φ (.mko C es) E ρ G k=(aH Φ es E ρ G λds G1=>(Φ C).t ds G1 k E):=rfl
theorem sO{Φ:ao}{o E ρ G k}:wpE Φ (.pp0 o) E ρ G k=(wpE Φ o E ρ G λd G1=>rP d G1 k):=rfl
theorem sS{Φ:ao}{a E ρ G k}:wpE Φ (.rgt a) E ρ G k=(wpE Φ a E ρ G λd G1=>match d with |.int n=>(0<=n/\n<=1000)/\k (.tup (bY 0 n.toNat)) G1 |_=>False):=rfl
theorem sU{Φ:ao}{es E ρ G k}:wpE Φ (.fst es) E ρ G k=(wpF Φ es E ρ G λl G1=>l.length<=sz/\k (.str l) G1):=rfl
theorem sV{Φ:ao}{E ρ G k}:wpF Φ .nil E ρ G k=k [] G:=rfl
theorem sW{Φ:ao}{e es E ρ G k}:wpF Φ (.cons e es) E ρ G k=(wpE Φ e E ρ G λd G1=>match d with
  |.str l=>l.length<=1000/\wpF Φ es E ρ G1 λx G2=>k (l++x) G2
  |.int i=>(0<=i/\i < 100)/\wpF Φ es E ρ G1 λx G2=>k (fV i.toNat++x) G2
  |_=>False):=rfl
theorem cY{Φ:ao}{m o es E ρ G k}:wpE Φ (.mth m o es) E ρ G k=(wpE Φ o E ρ G λx G1=>recv m x G1/\aH Φ es E ρ G1 λds G2=>opM m x ds G2 k):=rfl
theorem oh{Φ:ao}{a E ρ G k}:wpE Φ (.frz a) E ρ G k=(wpE Φ a E ρ G λx G1=>match x with |.ref p=>(match G1 p with |some (.lst ds)=>k (.lst ds) (gB G1 p) |none=>False) |d=>k d G1):=rfl
theorem ou{Φ:ao}{e E ρ G D}:wpS Φ (.exp e) E ρ G D=(wpE Φ e E ρ G λ_ G1=>D.nx ρ G1):=rfl
theorem oA{Φ:ao}{i j e E ρ G D}:wpS Φ (.star i j e) E ρ G D=(wpE Φ e E ρ G λd G1=>jz i j d ρ G1 D.nx):=rfl
theorem oE{Φ:ao}{e}{E}{ρ}{G}{k}:wpI Φ (.en1 e) E ρ G k=(wpE Φ e E ρ G λd G1=>match d with |.lst ds=>k (bW 1 ds) [] G1 |_=>False):=rfl
theorem iM{Φ:ao}{t e E ρ G D}:wpS Φ (.asg t e) E ρ G D=(wpE Φ e E ρ G λd G1=>aK t d ρ G1 λρ'=>D.nx ρ' G1):=rfl
theorem oF{Φ:ao}{o i e E ρ G D}:wpS Φ (.set o i e) E ρ G D=(wpE Φ e E ρ G λx G1=>wpE Φ o E ρ G1 λa G2=>wpE Φ i E ρ G2 λy G3=>dB a y x G3 λG4=>D.nx ρ G4):=rfl
theorem sX{Φ:ao}{i op e E ρ G D}:wpS Φ (.aug i op e) E ρ G D=(match ρ[i]? with
  |some (some a)=>wpE Φ e E ρ G λb G1=>dX op a b λc=>D.nx (ρ.set i (some c)) G1
  |_=>False):=rfl
theorem sY{Φ:ao}{o i op e E ρ G D}:wpS Φ (.augs o i op e) E ρ G D=(wpE Φ o E ρ G λa G1=>wpE Φ i E ρ G1 λy G2=>bV (view G2 a) y λold=>wpE Φ e E ρ G2 λb G3=>dX op old b λc=>dB a y c G3 λG4=>D.nx ρ G4):=rfl
theorem oG{Φ:ao}{e E ρ G D}:wpS Φ (.ret e) E ρ G D=(wpE Φ e E ρ G D.rt):=rfl
theorem oH{Φ:ao}{E ρ G D}:wpS Φ .rtn E ρ G D=(D.rt .non G):=rfl
theorem oJ{Φ:ao}{c a b E ρ G D}:wpS Φ (.ite c a b) E ρ G D=(wpT Φ c E ρ G λt G1=>match t with |true=>aC Φ a E ρ G1 D |false=>aC Φ b E ρ G1 D):=rfl
theorem oK{Φ:ao}{E ρ G D}:wpS Φ .pas E ρ G D=(D.nx ρ G):=rfl
theorem oM{Φ:ao}{E ρ G D}:wpS Φ .brk E ρ G D=(D.bk ρ G):=rfl
theorem oN{Φ:ao}{E ρ G D}:wpS Φ .cnt E ρ G D=(D.ct ρ G):=rfl
theorem sZ{Φ:ao}{C es E ρ G D}:wpS Φ (.rse C es) E ρ G D=(wpM Φ es E ρ G λG1=>E ⟨C,.non⟩ G1):=rfl
theorem yS{Φ:ao}{E ρ G k}:wpM Φ .nil E ρ G k=k G:=rfl
theorem yU{Φ:ao}{e es E ρ G k}:wpM Φ (.cons e es) E ρ G k=(wpE Φ e E ρ G λd G1=>yR d=true/\wpM Φ es E ρ G1 k):=rfl
theorem tB{Φ:ao}{f es C i b E ρ G D}:wpS Φ (.tryc f es C i b) E ρ G D=(aH Φ es noE ρ G λds G1=>(Φ f).t ds G1 (λ_ G2=>D.nx ρ G2) λx G2=>x.cls=C/\x.fld=.non/\D.nx (ρ.set i (some (.bl b))) G2):=rfl
theorem tD{Φ:ao}{b C h xs E ρ G D}:wpS Φ (.tryx b C h xs) E ρ G D=(wpX Φ b ρ G D.nx λx ρ' G'=>x.fld=.non/\xs.contains x.cls=true/\dW x.cls C=true/\D.nx (caught h x.cls ρ') G'):=rfl
theorem tH{Φ:ao}{f g i es ρ G nx ex}:wpX Φ (.pick f g i es) ρ G nx ex=(wpE Φ (.var i) noE ρ G λd G1=>∃b:Bool,d=.int (if b then 1 else 0)/\aH Φ es noE ρ G1 λds G2=>(Φ (if b then g else f)).t ds G2 (λ_ G3=>nx ρ G3) λx G3=>ex x ρ G3):=rfl
theorem tM{Φ:ao}{f C m o es ρ G nx ex}:wpX Φ (.mcl f C m o es) ρ G nx ex=(wpE Φ o noE ρ G λd G1=>mV C m d/\aH Φ es noE ρ G1 λds G2=>(Φ f).t (d::ds) G2 (λ_ G3=>nx ρ G3) λx G3=>ex x ρ G3):=rfl
theorem tO{Φ:ao}{C es ρ G nx ex}:wpX Φ (.mko C es) ρ G nx ex=(aH Φ es noE ρ G λds G1=>(Φ C).t ds G1 (λ_ G2=>nx ρ G2) λx G2=>ex x ρ G2):=rfl
theorem tQ{Φ:ao}{f es ρ G nx ex}:wpX Φ (.call f es) ρ G nx ex=(aH Φ es noE ρ G λds G1=>(Φ f).t ds G1 (λ_ G2=>nx ρ G2) λx G2=>ex x ρ G2):=rfl
theorem tR{Φ:ao}{i f es ρ G nx ex}:wpX Φ (.asg i f es) ρ G nx ex=(aH Φ es noE ρ G λds G1=>(Φ f).t ds G1 (λd G2=>nx (ρ.set i (some d)) G2) λx G2=>ex x ρ G2):=rfl
theorem tU{Φ:ao}{c a b ρ G nx ex}:wpX Φ (.ite c a b) ρ G nx ex=(wpT Φ c noE ρ G λt G1=>match t with |true=>wpX Φ a ρ G1 nx ex |false=>wpX Φ b ρ G1 nx ex):=rfl
theorem oO{Φ:ao}{E ρ G D}:wpS Φ .nev E ρ G D=(False):=rfl
theorem tV{Φ:ao}{fz elt tg it cond N cap E ρ G k}:wpE Φ (.comp fz elt tg it cond N cap) E ρ G k=(wpI Φ it E ρ G λitems g G1=>
   compLoop (λd ρ' G' k'=>aK tg d ρ' G' λρ1=>wpT Φ cond noE ρ1 G' λb G2=>match b with |true=>wpE Φ elt noE ρ1 G2 λy G3=>k' (some y) ρ1 G3 |false=>k' none ρ1 G2)
    g items [] (cap.map λo=>match o with |none=>none |some j=>(ρ[j]?).join) G1 λds G2=>mk fz ds G2 k):=rfl
theorem yV{Φ:ao}{elt t1 i1 t2 i2 t3 i3 N cap E ρ G k}:wpE Φ (.cm3 elt t1 i1 t2 i2 t3 i3 N cap) E ρ G k=(wpI Φ i1 E ρ G λitems g G1=>cX (λd acc ρ' G' k1=>aK t1 d ρ' G' λρ1=>wpI Φ i2 noE ρ1 G' λitems2 g2 G2=>cX (λd acc ρ' G' k2=>aK t2 d ρ' G' λρ1=>wpI Φ i3 noE ρ1 G' λitems3 g3 G3=>cX (λd acc ρ' G' k3=>aK t3 d ρ' G' λρ1=>acc.length < sz/\wpE Φ elt noE ρ1 G' λy G4=>k3 (acc++[y]) ρ1 G4) g3 items3 acc ρ1 G3 k2) g2 items2 acc ρ1 G2 k1) g items [] (cap.map λo=>match o with |none=>none |some j=>(ρ[j]?).join) G1 λds _ G2=>ds.length<=sz/\mk true ds G2 k):=rfl
theorem yW{Φ:ao}{t it body E ρ G D}:wpS Φ (.for_ t it body) E ρ G D=(wpI Φ it E ρ G λitems g G1=>
   forLoop (λd ρ' G' k=>aK t d ρ' G' λρ1=>aC Φ body E ρ1 G' { D with nx:=k,ct:=k,bk:=D.nx }) g items ρ G1 D.nx):=rfl
theorem TQ{Φ:ao}{c body E ρ G D}:wpS Φ (.whl c body) E ρ G D=(∃n,whileLoop (λρ' G' k=>wpT Φ c E ρ' G' k) (λρ' G' k=>aC Φ body E ρ' G' { D with nx:=k,ct:=k,bk:=D.nx }) n ρ G D.nx):=rfl
section
variable {k k':D->DH->Prop} {G:DH}
theorem cu{fz:Bool}{xs:List D}(h:∀d G',k d G'->k' d G')(q:mk fz xs G k):mk fz xs G k':=by
 cases fz with
 |true=>exact h _ _ q
 |false=>exact λp hp=>h _ _ (q p hp)
theorem yX{a b:D}{p:Int->Int->Prop}(h:fU a b p):∃i j,a=.int i/\b=.int j/\p i j:=by
 cases a with
 |int i=>cases b with
  |int j=>exact ⟨i,j,rfl,rfl,h⟩
  |_=>exact h.elim
 |_=>exact h.elim
theorem oR{a b:D}{p q:Int->Int->Prop}(h:∀i j,p i j->q i j)(z:fU a b p):fU a b q:=by obtain ⟨i,j,rfl,rfl,z⟩:=yX z;exact h i j z
theorem yZ{op:Operator}{fz:Bool}{a b:D}(h:∀d G',k d G'->k' d G')(q:bU op fz a b G k):bU op fz a b G k':=by
 cases op with
 |Add=>
  have q:iu fz a b G k:=q;show iu fz a b G k';unfold iu at q ⊢;cases a with
  |int i=>cases b <;> first |exact h _ _ q |exact q
  |str i=>cases b <;> first |exact ⟨q.1,h _ _ q.2⟩ |exact q
  |lst i=>cases b <;> first |exact ⟨q.1,cu h q.2⟩ |exact q
  |tup i=>cases b <;> first |exact ⟨q.1,h _ _ q.2⟩ |exact q
  |_=>exact q
 |Sub=>exact oR (λ_ _ z=>h _ _ z) q
 |Mult=>
  have q:iw fz a b G k:=q;show iw fz a b G k';unfold iw at q ⊢;cases b with
  |int n=>cases a <;> first |exact ⟨q.1,h _ _ q.2⟩ |exact ⟨q.1,q.2.1,q.2.2.1,h _ _ q.2.2.2⟩ |exact ⟨q.1,q.2.1,q.2.2.1,cu h q.2.2.2⟩ |exact ⟨q.1,q.2.1,q.2.2.1,q.2.2.2.1,h _ _ q.2.2.2.2⟩ |exact q
  |_=>exact q
 |FloorDiv=>exact oR (λ_ _ z=>⟨z.1,h _ _ z.2⟩) q
 |Mod=>exact oR (λ_ _ z=>⟨z.1,h _ _ z.2⟩) q
 |Pow=>exact oR (λ_ _ z=>⟨z.1,h _ _ z.2⟩) q
 |_=>exact q
theorem za{a b:D}{k k':Bool->Prop}(h:∀c,k c->k' c)(q:eV a b k):eV a b k':=by
 unfold eV at q ⊢;split at q
 ·split at q
  ·exact h _ q
  ·exact q
 ·exact ⟨q.1,h _ q.2⟩
 ·exact ⟨q.1,h _ q.2⟩
 ·exact q
theorem gF{op:CmpOp}{a b:D}{k k':Bool->Prop}(h:∀c,k c->k' c)(q:aU op a b k):aU op a b k':=by
 cases op with
 |Eq=>exact ⟨q.1,h _ q.2⟩
 |NotEq=>exact ⟨q.1,h _ q.2⟩
 |Lt=>have q:iy a b k:=q;show iy a b k';unfold iy at q ⊢;split at q <;> first |exact h _ q |exact q
 |LtE=>have q:iz a b k:=q;show iz a b k';unfold iz at q ⊢;split at q <;> first |exact h _ q |exact q
 |Gt=>have q:iB a b k:=q;show iB a b k';unfold iB at q ⊢;split at q <;> first |exact h _ q |exact q
 |GtE=>have q:iC a b k:=q;show iC a b k';unfold iC at q ⊢;split at q <;> first |exact h _ q |exact q
 |Is=>
  have q:iD a b k:=q;show iD a b k';unfold iD at q ⊢;split at q
  ·exact h _ q
  ·split at q
   ·exact h _ q
   ·exact q
  ·exact q
 |IsNot=>
  have q:iG a b k:=q;show iG a b k';unfold iG at q ⊢;split at q
  ·exact h _ q
  ·split at q
   ·exact h _ q
   ·exact q
  ·exact q
 |In=>exact za h q
 |NotIn=>exact za (λc=>h _) q
theorem oU{a i:D}{k k':D->Prop}(h:∀c,k c->k' c)(q:bV a i k):bV a i k':=by
 unfold bV at q ⊢;split at q
 ·split at q
  ·exact h _ q
  ·exact q
 ·split at q
  ·exact h _ q
  ·exact q
 ·split at q
  ·exact h _ q
  ·exact q
 ·exact q
theorem zb{fz:Bool}{a:D}{lo hi:Option Int}(h:∀d G',k d G'->k' d G')(q:dw fz a lo hi G k):dw fz a lo hi G k':=by
 unfold dw at q ⊢;split at q <;> first
  |exact cu h q
  |exact h _ _ q
  |exact q.elim
theorem TV{fz:Bool}{a y:D}(h:∀d G',k d G'->k' d G')(q:iH fz a y G k):iH fz a y G k':=by
 unfold iH at q ⊢;split at q
 ·exact ⟨q.1,cu h q.2⟩
 ·exact ⟨q.1,h _ _ q.2⟩
 ·exact q.elim
theorem zc{f:Bf}{as:List D}{k k':D->Prop}(h:∀c,k c->k' c)(q:opB f as k):opB f as k':=by
 cases f with
 |len=>simp only[opB,rD]at q ⊢;split at q <;> first |exact h _ q |exact q.elim
 |all=>
  simp only[opB,mG]at q ⊢;split at q
  ·split at q
   ·exact h _ q
   ·exact q
  ·exact q
 |int=>
  simp only[opB,mH]at q ⊢;split at q
  ·exact h _ q
  ·exact h _ q
  ·split at q
   ·exact ⟨q.1,h _ q.2⟩
   ·exact q
  ·exact q
 |tuple=>simp only[opB,rE]at q ⊢;split at q <;> first |exact h _ q |exact q.elim
 |sum=>
  simp only[opB,rF]at q ⊢;split at q
  ·split at q
   ·exact h _ q
   ·exact q
  ·exact q
 |min=>
  simp only[opB,yN]at q ⊢;split at q
  ·split at q
   ·exact ⟨q.1,λm h1 h2=>h _ (q.2 m h1 h2)⟩
   ·split at q
    ·exact λm h1 h2=>h _ (q m h1 h2)
    ·exact q
  ·exact q
 |max=>simp only[opB,yQ]at q ⊢;split at q <;> first |exact h _ q |exact q.elim
 |abs=>simp only[opB,yO]at q ⊢;split at q <;> first |exact h _ q |exact q.elim
 |min2=>simp only[opB,yP]at q ⊢;split at q <;> first |exact h _ q |exact q.elim
 |str=>
  simp only[opB,rG]at q ⊢;split at q
  ·exact ⟨q.1,h _ q.2⟩
  ·exact q
theorem TX{d:D}{k k':List D->Prop}(h:∀c,k c->k' c)(q:fW d k):fW d k':=by
 unfold fW at q ⊢;split at q
 ·split at q
  ·exact ⟨q.1,λls p=>h _ (q.2 ls p)⟩
  ·exact q
 ·exact q
theorem zf{f:Lf}{as:List D}{k k':List D->Prop}(h:∀c,k c->k' c)(q:cF f as k):cF f as k':=by
 cases f with
 |list=>simp only[cF,rH]at q ⊢;split at q <;> first |exact h _ q |exact q.elim
 |sorted=>
  simp only[cF,mJ]at q ⊢;split at q
  ·split at q
   ·exact ⟨q.1,λls p z=>h _ (q.2 ls p z)⟩
   ·exact q
  ·split at q
   ·exact ⟨q.1,λls p z=>h _ (q.2 ls p z)⟩
   ·exact q
  ·exact q
theorem dY{m:Mf}{o:D}{as:List D}(h:∀d G',k d G'->k' d G')(q:opM m o as G k):opM m o as G k':=by
 cases m with
 |join=>
  simp only[opM,mK]at q ⊢;split at q
  ·split at q
   ·exact ⟨q.1,h _ _ q.2⟩
   ·exact q
  ·exact q
 |find=>
  simp only[opM,rK]at q ⊢;split at q
  ·exact ⟨h _ _ q.1,λi hi=>h _ _ (q.2 i hi)⟩
  ·exact q
 |split=>
  simp only[opM,rM]at q ⊢;split at q
  ·exact ⟨q.1,h _ _ q.2⟩
  ·exact q
 |append=>
  simp only[opM,mL]at q ⊢;split at q
  ·split at q
   ·exact ⟨q.1,h _ _ q.2⟩
   ·exact q
  ·exact q
 |extend=>
  simp only[opM,mO]at q ⊢;split at q
  ·split at q
   ·exact ⟨q.1,h _ _ q.2⟩
   ·exact q
  ·exact q
 |insert=>
  simp only[opM,mQ]at q ⊢;split at q
  ·split at q
   ·exact ⟨q.1,q.2.1,q.2.2.1,h _ _ q.2.2.2⟩
   ·exact q
  ·exact q
 |pop=>
  simp only[opM,rJ]at q ⊢;split at q
  ·split at q
   ·refine ⟨q.1,q.2.1,?_⟩;have q2:=q.2.2;split at q2
    ·exact h _ _ q2
    ·exact q2
   ·exact q
  ·exact q
 |count=>
  simp only[opM,mR]at q ⊢;split at q
  ·split at q
   ·exact h _ _ q
   ·exact q
  ·exact q
 |index=>
  simp only[opM,mU]at q ⊢;split at q
  ·split at q
   ·exact ⟨q.1,h _ _ q.2⟩
   ·exact q
  ·exact q
theorem tW{o i x:D}{k k':DH->Prop}(h:∀G',k G'->k' G')(q:dB o i x G k):dB o i x G k':=by
 unfold dB at q ⊢;split at q
 ·split at q
  ·split at q
   ·exact h _ q
   ·exact q
  ·exact q
 ·exact q
theorem zg{op:Operator}{a b:D}{k k':D->Prop}(h:∀c,k c->k' c)(q:dX op a b k):dX op a b k':=by
 unfold dX at q ⊢;split at q <;> first
  |exact h _ q
  |exact ⟨q.1,h _ q.2⟩
  |exact q.elim
mutual
theorem cM{k k':aj->Prop}(h:∀ρ,k ρ->k' ρ):∀(t:Tg){d:D}{ρ:aj},aK t d ρ G k->aK t d ρ G k'
 |.nm i,d,ρ,q=>h _ q
 |.tp ts,d,ρ,q=>by
  unfold aK at q ⊢;split at q
  ·exact tX h ts q
  ·exact tX h ts q
  ·exact q
theorem tX{k k':aj->Prop}(h:∀ρ,k ρ->k' ρ):∀(ts:Tgs){ds:List D}{ρ:aj},bz ts ds ρ G k->bz ts ds ρ G k'
 |.nil,ds,ρ,q=>by
  unfold bz at q ⊢;split at q
  ·exact h _ q
  ·exact q
 |.cons t r,ds,ρ,q=>by
  unfold bz at q ⊢;split at q
  ·exact cM (λρ' q'=>tX h r q') t q
  ·exact q
end
theorem oV{step step':D->aj->DH->(Option D->aj->DH->Prop)->Prop}(hs:∀d ρ G (k k':Option D->aj->DH->Prop),(∀o ρ' G',k o ρ' G'->k' o ρ' G')->step d ρ G k->step' d ρ G k')
  {g:Hld} {k k':List D->DH->Prop} (h:∀ds G',k ds G'->k' ds G'):∀(ds acc:List D)(ρ:aj)(G:DH),compLoop step g ds acc ρ G k->compLoop step' g ds acc ρ G k'
 |[],acc,ρ,G,q=>⟨q.1,q.2.1,h _ _ q.2.2⟩
 |d::ds,acc,ρ,G,q=>by
  refine ⟨q.1,q.2.1,hs d ρ G _ _ (λo ρ' G' z=>?_) q.2.2⟩;cases o with
  |some y=>exact oV hs h ds (acc++[y]) ρ' G' z
  |none=>exact oV hs h ds acc ρ' G' z
theorem oW{step step':D->List D->aj->DH->(List D->aj->DH->Prop)->Prop}(hs:∀d acc ρ G (k k':List D->aj->DH->Prop),(∀a ρ' G',k a ρ' G'->k' a ρ' G')->step d acc ρ G k->step' d acc ρ G k')
  {g:Hld} {k k':List D->aj->DH->Prop} (h:∀a ρ G',k a ρ G'->k' a ρ G'):∀(ds acc:List D)(ρ:aj)(G:DH),cX step g ds acc ρ G k->cX step' g ds acc ρ G k'
 |[],acc,ρ,G,q=>⟨q.1,h _ _ _ q.2⟩
 |d::ds,acc,ρ,G,q=>⟨q.1,hs d acc ρ G _ _ (λa ρ' G' z=>oW hs h ds a ρ' G' z) q.2⟩
theorem zj{step step':D->aj->DH->(aj->DH->Prop)->Prop}(hs:∀d ρ G (k k':aj->DH->Prop),(∀ρ' G',k ρ' G'->k' ρ' G')->step d ρ G k->step' d ρ G k')
  {g:Hld} {k k':aj->DH->Prop} (h:∀ρ G',k ρ G'->k' ρ G'):∀(ds:List D)(ρ:aj)(G:DH),forLoop step g ds ρ G k->forLoop step' g ds ρ G k'
 |[],ρ,G,q=>⟨q.1,h _ _ q.2⟩
 |d::ds,ρ,G,q=>⟨q.1,hs d ρ G _ _ (λρ' G' z=>zj hs h ds ρ' G' z) q.2⟩
theorem zm{test test':aj->DH->(Bool->DH->Prop)->Prop}{body body':aj->DH->(aj->DH->Prop)->Prop}
  (ht:∀ρ G (k k':Bool->DH->Prop),(∀b G',k b G'->k' b G')->test ρ G k->test' ρ G k') (hb:∀ρ G (k k':aj->DH->Prop),(∀ρ' G',k ρ' G'->k' ρ' G')->body ρ G k->body' ρ G k')
  {k k':aj->DH->Prop} (h:∀ρ G',k ρ G'->k' ρ G'):∀(n:Nat)(ρ:aj)(G:DH),whileLoop test body n ρ G k->whileLoop test' body' n ρ G k'
 |0,ρ,G,q=>q
 |n+1,ρ,G,q=>ht ρ G _ _ (λb G' z=>by
   cases b with
   |true=>exact hb ρ G' _ _ (λρ' G'' z'=>zm ht hb h n ρ' G'' z') z
   |false=>exact h _ _ z) q
end
section
variable {Φ:ao} {G:DH}
mutual
theorem aA{E:EK}{ρ:aj}:∀(x:Ex){G:DH}{k k':D->DH->Prop},(∀d G',k d G'->k' d G')->wpE Φ x E ρ G k->wpE Φ x E ρ G k'
 |.var i,G,k,k',h,q=>by
  rw[nG]at q ⊢;split at q
  ·exact h _ _ q
  ·exact q
 |.cst d,G,k,k',h,q=>by rw[fY]at q ⊢;exact h _ _ q
 |.glb x d,G,k,k',h,q=>by rw[rY]at q ⊢;exact h _ _ q
 |.bin op fz a b,G,k,k',h,q=>by
  rw[nH]at q ⊢;exact aA a (λ_ _ q=>aA b (λ_ _ q=>yZ h q) q) q
 |.neg a,G,k,k',h,q=>by
  rw[rZ]at q ⊢;refine aA a (λx _ q=>?_) q;split at q
  ·exact h _ _ q
  ·exact q
 |.cmp op a b,G,k,k',h,q=>by
  rw[jD]at q ⊢;exact aA a (λ_ _ q=>aA b (λ_ _ q=>gF (λ_ q=>h _ _ q) q) q) q
 |.chn op op' a b c,G,k,k',h,q=>by
  rw[jE]at q ⊢;refine aA a (λ_ _ q=>aA b (λ_ _ q=>gF (λt q=>?_) q) q) q;cases t with
  |true=>exact aA c (λ_ _ q=>gF (λ_ q=>h _ _ q) q) q
  |false=>exact h _ _ q
 |.not a,G,k,k',h,q=>by
  rw[sr]at q ⊢;refine aA a (λx _ q=>?_) q;split at q
  ·exact h _ _ q
  ·exact q
 |.boo isAnd e es,G,k,k',h,q=>by
  rw[nJ]at q ⊢;refine aA e (λx _ q=>?_) q;split at q
  ·exact oX es (λ_ _ q=>h _ _ q) q
  ·exact q
 |.ife c a b,G,k,k',h,q=>by
  rw[su]at q ⊢;refine cN c (λt _ q=>?_) q;cases t with
  |true=>exact aA a h q
  |false=>exact aA b h q
 |.tup es,G,k,k',h,q=>by
  rw[nM]at q ⊢;exact bZ es (λ_ _ q=>⟨q.1,h _ _ q.2⟩) q
 |.lst fz es,G,k,k',h,q=>by
  rw[nO]at q ⊢;exact bZ es (λ_ _ q=>⟨q.1,cu h q.2⟩) q
 |.idx a i,G,k,k',h,q=>by
  rw[nP]at q ⊢;exact aA a (λ_ _ q=>aA i (λ_ _ q=>oU (λ_ q=>h _ _ q) q) q) q
 |.slc fz a lo hi,G,k,k',h,q=>by
  rw[nQ]at q ⊢;exact aA a (λ_ _ q=>tZ lo (λ_ _ q=>tZ hi (λ_ _ q=>zb h q) q) q) q
 |.rvs fz a s,G,k,k',h,q=>by
  rw[sy]at q ⊢;exact aA a (λ_ _ q=>aA s (λ_ _ q=>TV h q) q) q
 |.call f es,G,k,k',h,q=>by
  rw[nR]at q ⊢;exact bZ es (λ_ _ q=>Spec.mono q h λ_ _ z=>z) q
 |.bcl f es,G,k,k',h,q=>by
  rw[nT]at q ⊢;exact bZ es (λ_ _ q=>zc (λ_ q=>h _ _ q) q) q
 |.lcl fz f es,G,k,k',h,q=>by
  rw[nU]at q ⊢;exact bZ es (λ_ _ q=>zf (λ_ q=>cu h q) q) q
 |.isi a t,G,k,k',h,q=>by
  rw[nW]at q ⊢;refine aA a (λx _ q=>?_) q;split at q
  ·exact h _ _ q
  ·exact q
 |.isx a C xs,G,k,k',h,q=>by
  rw[sE]at q ⊢;refine aA a (λx _ q=>?_) q;unfold jy at q ⊢;split at q
  ·exact ⟨q.1,h _ _ q.2⟩
  ·exact ⟨q.1,h _ _ q.2⟩
  ·exact q
 |.srs fz a,G,k,k',h,q=>by
  rw[nY]at q ⊢;exact aA a (λd _ q=>TX (λ_ z=>cu h z) q) q
 |.rgl fz a,G,k,k',h,q=>by
  rw[sG]at q ⊢;refine aA a (λd _ q=>?_) q;split at q
  ·exact ⟨q.1,cu h q.2⟩
  ·exact q
 |.rpl f a b ix,G,k,k',h,q=>by
  rw[TJ]at q ⊢;refine aA a (λ_ _ q=>aA b (λ_ _ q=>oU (λ_ q=>Spec.mono q (λd G3 q=>?_) λ_ _ z=>z) q) q) q;unfold rQ at q ⊢;split at q
  ·refine ⟨q.1,aA ix (λi G4 q=>?_) q.2⟩;unfold rR at q ⊢;split at q
   ·split at q
    ·exact h _ _ q
    ·exact q
   ·exact q
  ·exact q
 |.fld C f o,G,k,k',h,q=>by
  rw[sH]at q ⊢;refine aA o (λd _ q=>?_) q;unfold rO at q ⊢;split at q
  ·exact ⟨q.1,q.2.1,h _ _ q.2.2⟩
  ·exact q
 |.mcl f C m o es,G,k,k',h,q=>by
  rw[sI]at q ⊢;exact aA o (λd _ q=>⟨q.1,bZ es (λ_ _ q=>Spec.mono q h λ_ _ z=>z) q.2⟩) q
 |.mkx C a,G,k,k',h,q=>by
  rw[nZ]at q ⊢;exact aA a (λd _ q=>h _ _ q) q
 |.mki C f a,G,k,k',h,q=>by
  rw[n6]at q ⊢;exact aA a (λd _ q=>⟨q.1,h _ _ q.2⟩) q
 |.xat C f a,G,k,k',h,q=>by
  rw[n8]at q ⊢;refine aA a (λd _ q=>?_) q;unfold iI at q ⊢;split at q
  ·exact ⟨q.1,q.2.1,h _ _ q.2.2⟩
  ·exact q
 |.mko C es,G,k,k',h,q=>by
  rw[sJ]at q ⊢;exact bZ es (λ_ _ q=>Spec.mono q h λ_ _ z=>z) q
 |.pp0 o,G,k,k',h,q=>by
  rw[sO]at q ⊢;refine aA o (λd _ q=>?_) q;unfold rP at q ⊢;split at q
  ·split at q
   ·split at q
    ·exact h _ _ q
    ·exact q
   ·exact q
  ·exact q
 |.rgt a,G,k,k',h,q=>by
  rw[sS]at q ⊢;refine aA a (λd _ q=>?_) q;split at q
  ·exact ⟨q.1,h _ _ q.2⟩
  ·exact q
 |.fst es,G,k,k',h,q=>by
  rw[sU]at q ⊢;exact tY es (λ_ _ q=>⟨q.1,h _ _ q.2⟩) q
 |.mth m o es,G,k,k',h,q=>by
  rw[cY]at q ⊢;exact aA o (λ_ _ q=>⟨q.1,bZ es (λ_ _ q=>dY h q) q.2⟩) q
 |.comp fz elt tg it cond N cap,G,k,k',h,q=>by
  rw[tV]at q ⊢;refine dZ it (λitems g G1 q=>?_) q;refine oV ?_ (λds G2 z=>cu h z) items [] _ G1 q;intro d ρ' G' k k' hk z;refine cM (λρ1 z=>?_) tg z;refine cN cond (λb G2 z=>?_) z;cases b with
  |true=>exact aA elt (λy G3 z=>hk _ _ _ z) z
  |false=>exact hk _ _ _ z
 |.cm3 elt t1 i1 t2 i2 t3 i3 N cap,G,k,k',h,q=>by
  rw[yV]at q ⊢;refine dZ i1 (λitems g G1 q=>?_) q;refine oW ?_ (λds _ G2 z=>⟨z.1,cu h z.2⟩) items [] _ G1 q;intro d acc ρ' G' k k' hk z;refine cM (λρ1 z=>dZ i2 (λitems g G1 q=>?_) z) t1 z;refine oW ?_ hk items _ _ G1 q;intro d acc ρ' G' k k' hk z;refine cM (λρ1 z=>dZ i3 (λitems g G1 q=>?_) z) t2 z;refine oW ?_ hk items _ _ G1 q;intro d acc ρ' G' k k' hk z;exact cM (λρ1 z=>⟨z.1,aA elt (λy G3 z=>hk _ _ _ z) z.2⟩) t3 z
 |.frz a,G,k,k',h,q=>by
  rw[oh]at q ⊢;refine aA a (λx G1 q=>?_) q;split at q
  ·split at q
   ·exact h _ _ q
   ·exact q
  ·exact h _ _ q
theorem cN{E:EK}{ρ:aj}:∀(x:Tx){G:DH}{k k':Bool->DH->Prop},(∀d G',k d G'->k' d G')->wpT Φ x E ρ G k->wpT Φ x E ρ G k'
 |.not a,G,k,k',h,q=>by rw[mX]at q ⊢;exact cN a (λ_ _ q=>h _ _ q) q
 |.boo isAnd e es,G,k,k',h,q=>by rw[mY]at q ⊢;exact cN e (λ_ _ q=>oY es h q) q
 |.yes,G,k,k',h,q=>by rw[mZ]at q ⊢;exact h _ _ q
 |.val a,G,k,k',h,q=>by
  rw[iJ]at q ⊢;refine aA a (λx _ q=>?_) q;split at q
  ·exact h _ _ q
  ·exact q
theorem tY{E:EK}{ρ:aj}:∀(x:Exs){G:DH}{k k':List Nat->DH->Prop},(∀d G',k d G'->k' d G')->wpF Φ x E ρ G k->wpF Φ x E ρ G k'
 |.nil,G,k,k',h,q=>by rw[sV]at q ⊢;exact h _ _ q
 |.cons e es,G,k,k',h,q=>by
  rw[sW]at q ⊢;refine aA e (λd _ q=>?_) q;split at q
  ·exact ⟨q.1,tY es (λ_ _ q=>h _ _ q) q.2⟩
  ·exact ⟨q.1,tY es (λ_ _ q=>h _ _ q) q.2⟩
  ·exact q
theorem bZ{E:EK}{ρ:aj}:∀(x:Exs){G:DH}{k k':List D->DH->Prop},(∀d G',k d G'->k' d G')->aH Φ x E ρ G k->aH Φ x E ρ G k'
 |.nil,G,k,k',h,q=>by rw[fX]at q ⊢;exact h _ _ q
 |.cons e es,G,k,k',h,q=>by rw[eZ]at q ⊢;exact aA e (λ_ _ q=>bZ es (λ_ _ q=>h _ _ q) q) q
theorem oX{E:EK}{ρ:aj}:∀(x:Exs){isAnd b:Bool}{G:DH}{k k':Bool->DH->Prop},(∀d G',k d G'->k' d G')->wpB Φ x isAnd b E ρ G k->wpB Φ x isAnd b E ρ G k'
 |.nil,_,_,G,k,k',h,q=>by rw[m5]at q ⊢;exact h _ _ q
 |.cons e es,isAnd,b,G,k,k',h,q=>by
  rw[jA]at q ⊢;cases isAnd <;> cases b <;> first
   |exact h _ _ q
   | (refine aA e (λd _ q=>?_) q
      split at q
      ·exact oX es h q
      ·exact q)
theorem oY{E:EK}{ρ:aj}:∀(x:Txs){isAnd b:Bool}{G:DH}{k k':Bool->DH->Prop},(∀d G',k d G'->k' d G')->eY Φ x isAnd b E ρ G k->eY Φ x isAnd b E ρ G k'
 |.nil,_,_,G,k,k',h,q=>by rw[m7]at q ⊢;exact h _ _ q
 |.cons e es,isAnd,b,G,k,k',h,q=>by
  rw[jB]at q ⊢;cases isAnd <;> cases b <;> first
   |exact h _ _ q
   |exact cN e (λd _ q=>oY es h q) q
theorem tZ{E:EK}{ρ:aj}:∀(x:Ox){G:DH}{k k':Option Int->DH->Prop},(∀d G',k d G'->k' d G')->wpO Φ x E ρ G k->wpO Φ x E ρ G k'
 |.no,G,k,k',h,q=>by rw[m8]at q ⊢;exact h _ _ q
 |.ob a,G,k,k',h,q=>by
  rw[m9]at q ⊢;refine aA a (λx _ q=>?_) q;split at q
  ·exact h _ _ q
  ·exact q
theorem dZ{E:EK}{ρ:aj}:∀(x:It'){G:DH}{k k':List D->Hld->DH->Prop},(∀d g G',k d g G'->k' d g G')->wpI Φ x E ρ G k->wpI Φ x E ρ G k'
 |.seq a,G,k,k',h,q=>by
  rw[nq]at q ⊢;refine aA a (λx _ q=>?_) q;split at q
  ·exact h _ _ _ q
  ·exact q
 |.rng a,G,k,k',h,q=>by
  rw[nu]at q ⊢;refine aA a (λx _ q=>?_) q;split at q
  ·exact ⟨q.1,h _ _ _ q.2⟩
  ·exact q
 |.rev a,G,k,k',h,q=>by
  rw[rU]at q ⊢;refine aA a (λx _ q=>?_) q;split at q
  ·exact ⟨q.1,h _ _ _ q.2⟩
  ·exact q
 |.dwn a b d,G,k,k',h,q=>by
  rw[rW]at q ⊢;refine aA a (λx _ q=>aA b (λy _ q=>aA d (λz _ q=>?_) q) q) q;split at q
  ·exact ⟨q.1,h _ _ _ q.2⟩
  ·exact q
 |.rng2 a b,G,k,k',h,q=>by
  rw[rT]at q ⊢;refine aA a (λx _ q=>aA b (λy _ q=>?_) q) q;split at q
  ·exact ⟨q.1,h _ _ _ q.2⟩
  ·exact q
 |.enm a,G,k,k',h,q=>by
  rw[nA]at q ⊢;refine aA a (λx _ q=>?_) q;split at q
  ·exact h _ _ _ q
  ·exact q
 |.en1 a,G,k,k',h,q=>by
  rw[oE]at q ⊢;refine aA a (λx _ q=>?_) q;split at q
  ·exact h _ _ _ q
  ·exact q
 |.zip a b,G,k,k',h,q=>by
  rw[nF]at q ⊢;refine aA a (λx _ q=>aA b (λy _ q=>?_) q) q;split at q
  ·exact h _ _ _ q
  ·exact q
end
structure En.Le(D D':En):Prop where
 nx:∀ρ G,D.nx ρ G->D'.nx ρ G
 rt:∀d G,D.rt d G->D'.rt d G
 bk:∀ρ G,D.bk ρ G->D'.bk ρ G
 ct:∀ρ G,D.ct ρ G->D'.ct ρ G
theorem t6:∀(b:Tb){ρ:aj}{G:DH}{nx nx':aj->DH->Prop}{ex ex':Xn->aj->DH->Prop},(∀ρ G,nx ρ G->nx' ρ G)->(∀x ρ G,ex x ρ G->ex' x ρ G)->wpX Φ b ρ G nx ex->wpX Φ b ρ G nx' ex'
 |.call f es,ρ,G,nx,nx',ex,ex',h,h',q=>by rw[tQ]at q ⊢;exact bZ es (λ_ _ q=>Spec.mono q (λ_ _ z=>h _ _ z) λ_ _ z=>h' _ _ _ z) q
 |.pick f g i es,ρ,G,nx,nx',ex,ex',h,h',q=>by
  rw[tH]at q ⊢;exact aA (.var i) (λ_ _ q=>let ⟨b,e,q⟩:=q;⟨b,e,bZ es (λ_ _ q=>Spec.mono q (λ_ _ z=>h _ _ z) λ_ _ z=>h' _ _ _ z) q⟩) q
 |.mcl f C m o es,ρ,G,nx,nx',ex,ex',h,h',q=>by
  rw[tM]at q ⊢;exact aA o (λ_ _ q=>⟨q.1,bZ es (λ_ _ q=>Spec.mono q (λ_ _ z=>h _ _ z) λ_ _ z=>h' _ _ _ z) q.2⟩) q
 |.mko C es,ρ,G,nx,nx',ex,ex',h,h',q=>by rw[tO]at q ⊢;exact bZ es (λ_ _ q=>Spec.mono q (λ_ _ z=>h _ _ z) λ_ _ z=>h' _ _ _ z) q
 |.asg i f es,ρ,G,nx,nx',ex,ex',h,h',q=>by rw[tR]at q ⊢;exact bZ es (λ_ _ q=>Spec.mono q (λ_ _ z=>h _ _ z) λ_ _ z=>h' _ _ _ z) q
 |.ite c a b,ρ,G,nx,nx',ex,ex',h,h',q=>by
  rw[tU]at q ⊢;refine cN c (λt _ q=>?_) q;cases t with
  |true=>exact t6 a h h' q
  |false=>exact t6 b h h' q
mutual
theorem wpS_mono{E:EK}:∀(x:Sx){ρ:aj}{G:DH}{D D':En},D.Le D'->wpS Φ x E ρ G D->wpS Φ x E ρ G D'
 |.exp e,ρ,G,D,D',h,q=>by rw[ou]at q ⊢;exact aA e (λ_ _ q=>h.nx _ _ q) q
 |.star i j e,ρ,G,D,D',h,q=>by
  rw[oA]at q ⊢;refine aA e (λd _ q=>?_) q;unfold jz at q ⊢;split at q
  ·exact ⟨q.1,λxs y z=>h.nx _ _ (q.2 xs y z)⟩
  ·exact q
 |.asg t e,ρ,G,D,D',h,q=>by rw[iM]at q ⊢;exact aA e (λ_ _ q=>cM (λ_ q=>h.nx _ _ q) t q) q
 |.set o i e,ρ,G,D,D',h,q=>by rw[oF]at q ⊢;exact aA e (λ_ _ q=>aA o (λ_ _ q=>aA i (λ_ _ q=>tW (λ_ q=>h.nx _ _ q) q) q) q) q
 |.aug i op e,ρ,G,D,D',h,q=>by
  rw[sX]at q ⊢;split at q
  ·exact aA e (λ_ _ q=>zg (λ_ q=>h.nx _ _ q) q) q
  ·exact q
 |.augs o i op e,ρ,G,D,D',h,q=>by
  rw[sY]at q ⊢;exact aA o (λ_ _ q=>aA i (λ_ _ q=>oU (λ_ q=>aA e (λ_ _ q=>zg (λ_ q=>tW (λ_ q=>h.nx _ _ q) q) q) q) q) q) q
 |.ret e,ρ,G,D,D',h,q=>by rw[oG]at q ⊢;exact aA e (λ_ _ q=>h.rt _ _ q) q
 |.rtn,ρ,G,D,D',h,q=>by rw[oH]at q ⊢;exact h.rt _ _ q
 |.ite c a b,ρ,G,D,D',h,q=>by
  rw[oJ]at q ⊢;refine cN c (λt _ q=>?_) q;cases t with
  |true=>exact dC a h q
  |false=>exact dC b h q
 |.for_ t it body,ρ,G,D,D',h,q=>by
  rw[yW]at q ⊢;exact dZ it (λitems g G1 q=>zj (λd ρ' G' k k' hk z=>cM (λρ1 z=>dC body (D:={ D with nx:=k,ct:=k,bk:=D.nx }) (D':={ D' with nx:=k',ct:=k',bk:=D'.nx }) ⟨hk,h.rt,h.nx,hk⟩ z) t z) h.nx items ρ G1 q) q
 |.whl c body,ρ,G,D,D',h,q=>by
  rw[TQ]at q ⊢;obtain ⟨n,q⟩:=q;refine ⟨n,?_⟩;refine zm ?_ ?_ h.nx n ρ G q
  ·exact λρ' G' k k' hk z=>cN c hk z
  ·exact λρ' G' k k' hk z=>dC body (D:={ D with nx:=k,ct:=k,bk:=D.nx }) (D':={ D' with nx:=k',ct:=k',bk:=D'.nx }) ⟨hk,h.rt,h.nx,hk⟩ z
 |.pas,ρ,G,D,D',h,q=>by rw[oK]at q ⊢;exact h.nx _ _ q
 |.brk,ρ,G,D,D',h,q=>by rw[oM]at q ⊢;exact h.bk _ _ q
 |.cnt,ρ,G,D,D',h,q=>by rw[oN]at q ⊢;exact h.ct _ _ q
 |.nev,ρ,G,D,D',h,q=>by rw[oO]at q;exact q.elim
 |.rse C es,ρ,G,D,D',h,q=>by rw[sZ]at q ⊢;exact q
 |.tryc f es C i b,ρ,G,D,D',h,q=>by rw[tB]at q ⊢;exact bZ es (λ_ _ q=>Spec.mono q (λ_ _ z=>h.nx _ _ z) λ_ _ z=>⟨z.1,z.2.1,h.nx _ _ z.2.2⟩) q
 |.tryx b C hd xs,ρ,G,D,D',h,q=>by rw[tD]at q ⊢;exact t6 b (λ_ _ z=>h.nx _ _ z) (λ_ _ _ z=>⟨z.1,z.2.1,z.2.2.1,h.nx _ _ z.2.2.2⟩) q
theorem dC{E:EK}:∀(x:Sxs){ρ:aj}{G:DH}{D D':En},D.Le D'->aC Φ x E ρ G D->aC Φ x E ρ G D'
 |.nil,ρ,G,D,D',h,q=>by rw[jC]at q ⊢;exact h.nx _ _ q
 |.cons s r,ρ,G,D,D',h,q=>by rw[iK]at q ⊢;exact wpS_mono s (D:={ D with nx:=λρ' G'=>aC Φ r E ρ' G' D }) (D':={ D' with nx:=λρ' G'=>aC Φ r E ρ' G' D' }) ⟨λ_ _ z=>dC r h z,h.rt,h.bk,h.ct⟩ q
end
end
def PV(K:PF)(H:Hp)(F:FZ)(Q:VK):D->DH->Prop:=λd G'=>∀H' F' v,Ext H F H' F'->R K H' F' G'->Rep K H' F' d v->Q v H'
def PB(K:PF)(H:Hp)(F:FZ)(Q:Bool->Hp->Prop):Bool->DH->Prop:=λb G'=>∀H' F',Ext H F H' F'->R K H' F' G'->Q b H'
noncomputable def PLs(K:PF)(H:Hp)(F:FZ)(Q:List V->Hp->Prop):List D->DH->Prop:=λds G'=>∀H' F' vs,Ext H F H' F'->R K H' F' G'->Reps K H' F' ds vs->Q vs H'
section
variable {K:PF} {H:Hp} {F:FZ} {G:DH} {Q:VK}
theorem PV.now{d:D}{v:V}(h:PV K H F Q d G)(r:R K H F G)(q:Rep K H F d v):Q v H:=h H F v (Ext.refl H F) r q
theorem cZ{fz:Bool}{ds:List D}{vs:List V}(h:mk fz ds G (PV K H F Q))(r:R K H F G)(t:Reps K H F ds vs)(p:Addr)(hp:H p=none):Q (.ref p) (upd H p (.lst vs)):=by
 cases fz with
 |true=>exact h _ _ _ (mC r hp) (r.newF hp) (yJ r hp t)
 |false=>exact h p (r.free hp) _ _ _ (cC r hp) (r.newL hp t) rfl
theorem jF{ds:List D}{vs:List V}(h:PV K H F Q (.tup ds) G)(r:R K H F G)(t:Reps K H F ds vs)(p:Addr)(hp:H p=none):Q (.ref p) (upd H p (.tup vs)):=
 h _ _ _ (cC r hp) (r.new hp) (mD r hp t)
end
theorem szl:sz<=sizeLine:=by rw[dS];decide
theorem cz{n:Nat}(h:n<=sz):n<=sizeLine:=cw h szl
def rB2(K:PF)(f:D->D->DH->(D->DH->Prop)->Prop):R2:=λx y H Q=>∃F G a b,R K H F G/\Rep K H F a x/\Rep K H F b y/\f (view G a) (view G b) G (PV K H F Q)
section
variable {X:Cx}
theorem TY:OpR X (binaryOp .Add) (λx y H Q=>∃a b xs ys,x=.ref a/\y=.ref b/\SqL X.K H a xs/\SqL X.K H b ys/\xs.length+ys.length<=sizeLine/\∀p,H p=none->Q (.ref p) (upd H p (.lst (xs++ys)))):=by
 intro pins s σ H x y v u Q I rx ry h;obtain ⟨a,b,xs,ys,rfl,rfl,ha,hb,hz,q⟩:=h;cases rx;cases ry;obtain ⟨its,r1,p1,_⟩:=I.list ha;obtain ⟨its2,r2,p2,_⟩:=I.list hb;obtain ⟨⟨cls,dd,data,sl⟩,ho,hc,n,hd⟩:=p1.isList;obtain ⟨⟨cls2,dd2,data2,sl2⟩,ho2,hc2,n2,hd2⟩:=p2.isList;simp only at hc hd hc2 hd2;subst hc hd hc2 hd2;have e:its.toArray++its2.toArray=(its++its2).toArray:=by simp
 refine concat_meets ⟨_,ho,rfl⟩ ⟨_,ho2,rfl⟩ noFill_list_add seq_list_add PySem.F.slot_list_add PySem.F.entry_list_add (PySem.F.args_list_add_2 _ _)
  (list_addW a b its.toArray its2.toArray n n2 dd dd2 sl sl2 (by rw[aw,aw,<-r1.length,<-r2.length];exact hz)) ⟨ho,ho2,?_⟩
 rw[e];exact ⟨.ref _,_,I.lnew (t':=s.toks) (r1.append r2) (by rw[bd];exact hz),rfl,q _ I.fresh⟩
theorem T3:OpR X (binaryOp .Add) (λx y H Q=>∃a b ys,x=.ref a/\y=.ref b/\SqT X.K H a []/\SqT X.K H b ys/\Q (.ref b) H):=by
 intro pins s σ H x y v u Q I rx ry h;obtain ⟨a,b,ys,rfl,rfl,ha,hb,q⟩:=h;cases rx;cases ry;obtain ⟨its,r1,p1,_⟩:=I.tuple ha;obtain ⟨its2,r2,p2,_⟩:=I.tuple hb;obtain ⟨⟨cls,dd,data,sl⟩,ho,hc,n,hd⟩:=id p1;obtain ⟨⟨cls2,dd2,data2,sl2⟩,ho2,hc2,n2,hd2⟩:=id p2;simp only at hc hd hc2 hd2;subst hc hd hc2 hd2;cases r1;exact concat_meets ⟨_,ho,rfl⟩ ⟨_,ho2,rfl⟩ noFill_tuple_add seq_tuple_add PySem.F.slot_tuple_add PySem.F.entry_tuple_add (PySem.F.args_tuple_add_2 _ _)
   (tuple_addW0 a b _ its2.toArray n n2 dd dd2 sl sl2 (by simp)) ⟨ho,ho2,⟨.ref b,H,I,rfl,q⟩⟩
theorem t7{K:PF}{H:Hp}{F:FZ}{ds:List D}{vs:List V}(t:Reps K H F ds vs):ds=[]↔vs=[]:=by
 have:=t.length;constructor
 ·intro e;subst e;exact cK.mp this.symm
 ·intro e;subst e;exact cK.mp this
theorem T4{x:Str}{n:Nat}(h1:n<=1000)(h:x.length * n<=sz):MulOk x (n:Int):=by
 have h2:((x.length * n:Nat):Int)<=((1000000:Nat):Int):=Int.ofNat_le.mpr h;rw[Int.natCast_mul]at h2;refine ⟨?_,?_,?_⟩
 ·rw[cS (by omega),cS (by omega)];rfl
 ·intro hn _ hh;have hp:(0:Int) < n:=by omega
  have h3:(x.length:Int)<=(2 ^ 63 - 1) / n:=(Int.le_ediv_iff_mul_le hp).mpr (Int.le_trans h2 (by decide));exact absurd hh (Int.not_lt.mpr h3)
 ·intro _ _;unfold Builtin.Str.tooLong;rw[dS,im];exact cS (by have:sz=1000000:=rfl;omega)
theorem zq(l:List Nat):∀(n:Nat)(acc:List Nat),(List.replicate n l.toArray).foldl (· ++ ·) acc.toArray=(acc++reps l n).toArray
 |0,acc=>by simp[reps]
 |n+1,acc=>by
  rw[cp,List.foldl_cons];have e:acc.toArray++l.toArray=(acc++l).toArray:=by simp
  rw[e,zq l n (acc++l)];unfold reps;rw[cp,gz,bg]
theorem T5(n:Nat):reps ([]:List Nat) n=[]:=by
 unfold reps;induction n with
 |zero=>rfl
 |succ n ih=>rw[cp,gz,ih];rfl
theorem T6{α:Type}(l:List α)(n:Nat):(reps l n).length=n * l.length:=len_rep l n
theorem T7(l:List Nat)(n:Nat):Txt.mul (tx l) (n:Int)=tx (reps l n):=by
 unfold Txt.mul;by_cases h:(n:Int) < 1
 ·rw[if_pos h];have:n=0:=by omega
  subst this;rfl
 ·rw[if_neg h];by_cases h2:((n:Int)==1||(tx l).length==0)=true
  ·rw[if_pos h2];rw[df]at h2;rcases h2 with h2 |h2
   ·have:n=1:=by have:=eq_of_beq h2;omega
    subst this;simp[reps]
   ·have h3:=eq_of_beq h2;rw[bQ]at h3;have:l=[]:=cK.mp h3;subst this;rw[T5]
  ·rw[if_neg h2];have e:=zq l n [];rw[List.nil_append]at e;exact d6 Str.mk (by simpa using e)
theorem T8(op:Operator)(fz:Bool):OpR X (binaryOp op) (rB2 X.K (bU op fz)):=by
 intro pins s σ H x y v u Q I rx ry h;obtain ⟨F,G,a,b,r,ra,rb,h⟩:=h;generalize ea:view G a=va at h;generalize eb:view G b=vb at h;have twoI:∀{p:Int->Int->Prop},fU va vb p->∃i j,x=.int i/\y=.int j/\p i j:=λ{p} h=>by
  obtain ⟨i,j,rfl,rfl,h⟩:=yX h;cases cL ea;cases cL eb;exact ⟨i,j,ra,rb,h⟩
 cases op with
 |Add=>
  have h:iu fz va vb G _:=h;unfold iu at h;cases va with
  |int _=>cases vb with
   |int _=>
    cases cL ea;cases cL eb;have ha:x=.int _:=ra;have hb:y=.int _:=rb;subst ha;subst hb;exact N7 pins s σ H _ _ v u Q I rx ry ⟨_,_,rfl,rfl,h.now r rfl⟩
   |_=>exact h.elim
  |str _=>cases vb with
   |str _=>
    cases dR ea;cases dR eb;obtain ⟨ha,la⟩:=ra;obtain ⟨hb,lb⟩:=rb;subst ha;subst hb;refine Oq pins s σ H _ _ v u Q I rx ry ⟨_,_,rfl,rfl,?_,?_⟩
    ·rw[bQ,bQ];exact cz h.1
    ·rw[qO];exact h.2.now r ⟨rfl,by rw[bd];exact h.1⟩
   |_=>exact h.elim
  |lst _=>cases vb with
   |lst _=>
    obtain ⟨p,vs,rfl,q1,t1⟩:=Rep.list r ra ea;obtain ⟨p',vs',rfl,q2,t2⟩:=Rep.list r rb eb;exact TY pins s σ H _ _ v u Q I rx ry ⟨p,p',vs,vs',rfl,rfl,q1,q2,by rw[<-t1.length,<-t2.length];exact cz h.1,cZ h.2 r (t1.append t2)⟩
   |_=>exact h.elim
  |tup xs=>cases vb with
   |tup ys=>
    cases dO ea;cases dO eb;obtain ⟨p,vs,rfl,q1,t1⟩:=id ra;obtain ⟨p',vs',rfl,q2,t2⟩:=id rb;by_cases hx:vs=[]
    ·subst hx;have:xs=[]:=(t7 t1).mpr rfl;subst this;exact T3 pins s σ H _ _ v u Q I rx ry ⟨p,p',vs',rfl,rfl,q1.sq,q2.sq,h.2.now r rb⟩
    ·refine PL pins s σ H _ _ v u Q I rx ry ⟨p,p',vs,vs',rfl,rfl,q1.sq,q2.sq,hx,by rw[<-t1.length,<-t2.length];exact cz h.1,λe=>?_,λ_=>jF h.2 r (t1.append t2)⟩;subst e;have:ys=[]:=(t7 t2).mpr rfl;subst this;have h2:=h.2;rw[g6]at h2;exact h2.now r ra
   |_=>exact h.elim
  |_=>exact h.elim
 |Sub=>
  obtain ⟨i,j,rfl,rfl,h⟩:=twoI h;exact N8 pins s σ H _ _ v u Q I rx ry ⟨_,_,rfl,rfl,h.now r rfl⟩
 |Mult=>
  have h:iw fz va vb G _:=h;unfold iw at h;cases vb with
  |int _=>cases va with
   |int _=>
    cases cL ea;cases cL eb;have ha:x=.int _:=ra;have hb:y=.int _:=rb;subst ha;subst hb;exact Oa pins s σ H _ _ v u Q I rx ry ⟨_,_,rfl,rfl,h.1,h.2.now r rfl⟩
   |str _=>
    cases dR ea;cases cL eb;obtain ⟨ha,la⟩:=ra;have hb:y=.int _:=rb;subst ha;subst hb;obtain ⟨h0,h1,h2,h3⟩:=h;obtain ⟨n,rfl⟩:=dr h0;rw[im]at h2 h3;refine QJ pins s σ H _ _ v u Q I rx ry ⟨_,_,rfl,rfl,T4 (by omega) (by rw[bQ];exact h2),?_⟩;rw[T7];exact h3.now r ⟨rfl,by rw[T6,Nat.mul_comm];exact h2⟩
   |tup _=>
    cases dO ea;cases cL eb;obtain ⟨p,vs,rfl,q1,t1⟩:=ra;have hb:y=.int _:=rb;subst hb;obtain ⟨h0,h1,h2,h3,h4⟩:=h;refine Rk pins s σ H _ _ v u Q I rx ry ⟨p,_,vs,rfl,rfl,q1.sq,λe=>h2 ((t7 t1).mpr e),h0,h1,by rw[<-t1.length];exact cz h3,?_⟩;exact jF h4 r (t1.rep _)
   |lst _=>
    cases cL eb;have hb:y=.int _:=rb;subst hb;obtain ⟨p,vs,rfl,q1,t1⟩:=ra.list r ea;obtain ⟨h0,h1,h2,h3⟩:=h;exact Rp pins s σ H _ _ v u Q I rx ry ⟨p,_,vs,rfl,rfl,q1,h0,h1,by rw[<-t1.length];exact cz h2,cZ h3 r (t1.rep _)⟩
   |_=>exact h.elim
  |_=>exact h.elim
 |FloorDiv=>
  obtain ⟨i,j,rfl,rfl,h⟩:=twoI h;exact Ra pins s σ H _ _ v u Q I rx ry ⟨_,_,rfl,rfl,h.1,h.2.now r rfl⟩
 |Mod=>
  obtain ⟨i,j,rfl,rfl,h⟩:=twoI h;exact Ob pins s σ H _ _ v u Q I rx ry ⟨_,_,rfl,rfl,h.1,h.2.now r rfl⟩
 |Pow=>
  obtain ⟨i,j,rfl,rfl,h⟩:=twoI h;exact Oc pins s σ H _ _ v u Q I rx ry ⟨_,_,rfl,rfl,h.1,h.2.now r rfl⟩
 |_=>exact h.elim
end
mutual
theorem t8:∀{d:D},nr d=true->deq d d=true
 |.non,_=>rfl
 |.bl b,_=>by simp[deq]
 |.int i,_=>by simp[deq]
 |.str l,_=>by simp[deq]
 |.tup xs,h=>by rw[deq];exact ud (by rw[nr]at h;exact h)
 |.lst xs,h=>by rw[deq];exact ud (by rw[nr]at h;exact h)
 |.ref a,h=>by rw[nr]at h;cases h
 |.scr a,h=>by rw[nr]at h;cases h
 |.exn a,h=>by rw[nr]at h;cases h
 |.exa _ _ _,h=>by rw[nr]at h;cases h
 |.obj _ _ _,h=>by rw[nr]at h;cases h
theorem ud:∀{ds:List D},nrs ds=true->bL ds ds=true
 |[],_=>rfl
 |d::ds,h=>by
  rw[nrs,af]at h;rw[bL,t8 h.1,ud h.2];rfl
end
theorem oZ:∀(xs ys:List D),bL xs ys=((List.range (min xs.length ys.length)).all (λj=>deq (xs.getD j .non) (ys.getD j .non))&&xs.length==ys.length)
 |[],[]=>rfl
 |[],y::ys=>by simp[bL]
 |x::xs,[]=>by simp[bL]
 |x::xs,y::ys=>by
  have e:min (x::xs).length (y::ys).length=(min xs.length ys.length)+1:=by simp only[c6];omega
  rw[bL,oZ xs ys,e,List.range_succ_eq_map,List.all_cons,List.all_map];simp only[List.getD_cons_zero,c6,Bool.and_assoc];congr 1;congr 1;rw[gu];simp
theorem T9{xs ys:List D}(h:xs.length≠ys.length):bL xs ys=false:=by rw[oZ];rw[show (xs.length==ys.length)=false from ge.mpr h,hX]
theorem jG:∀{xs:List D}{i:Nat},nrs xs=true->nr (xs.getD i .non)=true
 |[],_,_=>rfl
 |x::xs,0,h=>by rw[nrs,af]at h;exact h.1
 |x::xs,i+1,h=>by rw[nrs,af]at h;rw[List.getD_cons_succ];exact jG h.2
theorem jH:∀{xs:List D}{i:Nat},dpt (xs.getD i .non)<=aR xs
 |[],_=>fS _
 |x::xs,0=>by rw[aR,List.getD_cons_zero];omega
 |x::xs,i+1=>by rw[aR,List.getD_cons_succ];have:=@jH xs i;omega
section
variable {X:Cx} {pins:List (Addr×Obj)} {σ:L2.St} {H:Hp} {s:Shared} {F:FZ}
mutual
theorem o7(I:Inv X pins σ H s):∀{d d':D}{v:V},nr d=true->nr d'=true->Rep X.K H F d v->Rep X.K H F d' v->d=d'
 |.non,d',v,_,n',h,h'=>by
  have h:v=.non:=h;subst h;cases d' with
  |non=>rfl
  |bl _=>simp only[Rep]at h';cases h'
  |int _=>simp only[Rep]at h';cases h'
  |ref _=>simp only[Rep]at h';cases h'
  |scr _=>rw[nr]at n';cases n'
  |exn _=>rw[nr]at n';cases n'
  |exa _ _ _=>rw[nr]at n';cases n'
  |obj _ _ _=>rw[nr]at n';cases n'
  |str _=>simp only[Rep]at h';obtain ⟨e,_⟩:=h';cases e
  |tup _=>simp only[Rep]at h';obtain ⟨_,_,e,_⟩:=h';cases e
  |lst _=>simp only[Rep]at h';obtain ⟨_,_,e,_⟩:=h';cases e
 |.bl b,d',v,_,n',h,h'=>by
  have h:v=.bl b:=h;subst h;cases d' with
  |non=>simp only[Rep]at h';cases h'
  |bl _=>simp only[Rep]at h';cases h';rfl
  |int _=>simp only[Rep]at h';cases h'
  |ref _=>simp only[Rep]at h';cases h'
  |scr _=>rw[nr]at n';cases n'
  |exn _=>rw[nr]at n';cases n'
  |exa _ _ _=>rw[nr]at n';cases n'
  |obj _ _ _=>rw[nr]at n';cases n'
  |str _=>simp only[Rep]at h';obtain ⟨e,_⟩:=h';cases e
  |tup _=>simp only[Rep]at h';obtain ⟨_,_,e,_⟩:=h';cases e
  |lst _=>simp only[Rep]at h';obtain ⟨_,_,e,_⟩:=h';cases e
 |.int b,d',v,_,n',h,h'=>by
  have h:v=.int b:=h;subst h;cases d' with
  |non=>simp only[Rep]at h';cases h'
  |bl _=>simp only[Rep]at h';cases h'
  |int _=>simp only[Rep]at h';cases h';rfl
  |ref _=>simp only[Rep]at h';cases h'
  |scr _=>rw[nr]at n';cases n'
  |exn _=>rw[nr]at n';cases n'
  |exa _ _ _=>rw[nr]at n';cases n'
  |obj _ _ _=>rw[nr]at n';cases n'
  |str _=>simp only[Rep]at h';obtain ⟨e,_⟩:=h';cases e
  |tup _=>simp only[Rep]at h';obtain ⟨_,_,e,_⟩:=h';cases e
  |lst _=>simp only[Rep]at h';obtain ⟨_,_,e,_⟩:=h';cases e
 |.str l,d',v,_,n',h,h'=>by
  obtain ⟨h,_⟩:=h;subst h;cases d' with
  |str l'=>
   obtain ⟨e,_⟩:=h';injection e with e;rw[xg e]
  |non=>simp only[Rep]at h';cases h'
  |bl _=>simp only[Rep]at h';cases h'
  |int _=>simp only[Rep]at h';cases h'
  |ref _=>simp only[Rep]at h';cases h'
  |scr _=>rw[nr]at n';cases n'
  |exn _=>rw[nr]at n';cases n'
  |exa _ _ _=>rw[nr]at n';cases n'
  |obj _ _ _=>rw[nr]at n';cases n'
  |tup _=>simp only[Rep]at h';obtain ⟨_,_,e,_⟩:=h';cases e
  |lst _=>simp only[Rep]at h';obtain ⟨_,_,e,_⟩:=h';cases e
 |.tup xs,d',v,n,n',h,h'=>by
  obtain ⟨a,vs,e,q,t⟩:=h;subst e;cases d' with
  |tup ys=>
   obtain ⟨a',vs',e,q',t'⟩:=h';injection e with e;subst e;have:=I.tuple_inj q.sq q'.sq;subst this;rw[nr]at n n';rw[ue I n n' t t']
  |lst ys=>
   obtain ⟨a',vs',e,q',t'⟩:=h';injection e with e;subst e;obtain ⟨its,_,⟨o,e1,c1,_⟩,_⟩:=I.tuple q.sq;obtain ⟨its',_,⟨o',n',e2,c2,_⟩,_⟩:=I.list q'.sq;rw[e1]at e2;cases e2;rw[c1]at c2;exact absurd c2 (by ac_rfl)
  |ref _=>rw[nr]at n';cases n'
  |scr _=>rw[nr]at n';cases n'
  |exn _=>rw[nr]at n';cases n'
  |exa _ _ _=>rw[nr]at n';cases n'
  |obj _ _ _=>rw[nr]at n';cases n'
  |str _=>simp only[Rep]at h';obtain ⟨e,_⟩:=h';cases e
  |non=>simp only[Rep]at h';cases h'
  |bl _=>simp only[Rep]at h';cases h'
  |int _=>simp only[Rep]at h';cases h'
 |.lst xs,d',v,n,n',h,h'=>by
  obtain ⟨a,vs,e,q,t⟩:=h;subst e;cases d' with
  |lst ys=>
   obtain ⟨a',vs',e,q',t'⟩:=h';injection e with e;subst e;have:=I.list_inj q.sq q'.sq;subst this;rw[nr]at n n';rw[ue I n n' t t']
  |tup ys=>
   obtain ⟨a',vs',e,q',t'⟩:=h';injection e with e;subst e;obtain ⟨its,_,⟨o,e1,c1,_⟩,_⟩:=I.tuple q'.sq;obtain ⟨its',_,⟨o',n',e2,c2,_⟩,_⟩:=I.list q.sq;rw[e1]at e2;cases e2;rw[c1]at c2;exact absurd c2 (by ac_rfl)
  |ref _=>rw[nr]at n';cases n'
  |scr _=>rw[nr]at n';cases n'
  |exn _=>rw[nr]at n';cases n'
  |exa _ _ _=>rw[nr]at n';cases n'
  |obj _ _ _=>rw[nr]at n';cases n'
  |str _=>simp only[Rep]at h';obtain ⟨e,_⟩:=h';cases e
  |non=>simp only[Rep]at h';cases h'
  |bl _=>simp only[Rep]at h';cases h'
  |int _=>simp only[Rep]at h';cases h'
 |.ref a,d',v,n,_,_,_=>by rw[nr]at n;cases n
 |.scr a,d',v,n,_,_,_=>by rw[nr]at n;cases n
 |.exn a,d',v,n,_,_,_=>by rw[nr]at n;cases n
 |.exa _ _ _,d',v,n,_,_,_=>by rw[nr]at n;cases n
 |.obj _ _ _,d',v,n,_,_,_=>by rw[nr]at n;cases n
theorem ue(I:Inv X pins σ H s):∀{ds ds':List D}{vs:List V},nrs ds=true->nrs ds'=true->Reps X.K H F ds vs->Reps X.K H F ds' vs->ds=ds'
 |[],[],_,_,_,_,_=>rfl
 |[],_::_,_,_,_,h,⟨v,r,e,_⟩=>by have h:_=[]:=h;rw[h]at e;cases e
 |_::_,[],_,_,_,⟨v,r,e,_⟩,h=>by have h:_=[]:=h;rw[h]at e;cases e
 |d::ds,d'::ds',_,n,n',⟨v,r,e,h,t⟩,⟨v',r',e',h',t'⟩=>by
  subst e;injection e' with e1 e2;subst e1;subst e2;rw[nrs,af]at n n';rw[o7 I n.1 n'.1 h h',ue I n.2 n'.2 t t']
end
theorem o8{I:Inv X pins σ H s}{ds:List D}{vs:List V}{its:List Value}(t:Reps X.K H F ds vs)(r:Vals vs its)(j:Nat)(h:j < its.length):∃v,Rep X.K H F (ds.getD j .non) v/\RelV v its[j]:=by
 have hl:j < ds.length:=by rw[t.length,r.length];exact h
 have e1:ds[j]?=some (ds.getD j .non):=by rw[eL,a9 hl];rfl
 obtain ⟨v,e2,r2⟩:=t.get e1;obtain ⟨u,e3,r3⟩:=r.get e2;rw[a9 h]at e3;cases e3;exact ⟨v,r2,r3⟩
theorem Ua(a b:List Nat):(tx a==tx b)=(a==b):=by rw[gu,aE,aE];exact ⟨λh=>xg h,λh=>by rw[h]⟩
theorem Ub(I:Inv X pins σ H s){n:Nat}{A:Around}{xs ys:List D}{a a':Addr}{vs vs':List V}{its its':List Value}
  (ih:∀m,m < n->∀(A:Around)(d d':D)(v v':V)(u u':Value),A.units+m < cLine->min (dpt d) (dpt d')<=m->nr d=true->nr d'=true->Rep X.K H F d v->Rep X.K H F d' v'->RelV v u->RelV v' u'->
   SeqAt.RcAt A s u u' (deq d d')/\SeqAt.EqAt A s u u' (deq d d')/\SeqAt.RcNeAt A s u u' (!deq d d'))
  (hu:A.units+n < cLine) (hd:min (dpt (.tup xs)) (dpt (.tup ys))<=n) (n1:nr (.tup xs)=true) (n2:nr (.tup ys)=true) (h:Rep X.K H F (.tup xs) (.ref a)) (h':Rep X.K H F (.tup ys) (.ref a'))
  (pt:s.heap.IsTuple a its.toArray) (pt':s.heap.IsTuple a' its'.toArray) (rv:Vals vs its) (rv':Vals vs' its') (tt:Reps X.K H F xs vs) (tt':Reps X.K H F ys vs'):
  SeqAt.RcAt A s (.ref a) (.ref a') (deq (.tup xs) (.tup ys))/\SeqAt.EqAt A s (.ref a) (.ref a') (deq (.tup xs) (.tup ys))/\SeqAt.RcNeAt A s (.ref a) (.ref a') (!deq (.tup xs) (.tup ys)):=by
 have hd':min (aR xs+1) (aR ys+1)<=n:=by rw[dpt,dpt]at hd;exact hd
 have hn1:nrs xs=true:=by rw[nr]at n1;exact n1
 have hn2:nrs ys=true:=by rw[nr]at n2;exact n2
 have l1:its.toArray.size=xs.length:=by rw[aw,<-rv.length,tt.length]
 have l2:its'.toArray.size=ys.length:=by rw[aw,<-rv'.length,tt'.length]
 have he:∀j (h1:j < its.toArray.size) (h2:j < its'.toArray.size),SeqAt.EqAt A.in1 s its.toArray[j] its'.toArray[j] (deq (xs.getD j .non) (ys.getD j .non)):=by intro j h1 h2;obtain ⟨w1,q1,q2⟩:=o8 (I:=I) tt rv j (by simpa using h1);obtain ⟨w2,q3,q4⟩:=o8 (I:=I) tt' rv' j (by simpa using h2);have d1:=@jH xs j;have d2:=@jH ys j;exact (ih (n - 1) (by omega) A.in1 _ _ w1 w2 _ _ (by show A.units+1+(n - 1) < cLine;omega) (by omega) (jG hn1) (jG hn2) q1 q3 (by simpa using q2) (by simpa using q4)).2.1
 have e:deq (.tup xs) (.tup ys)=((List.range (min its.toArray.size its'.toArray.size)).all (λj=>deq (xs.getD j .non) (ys.getD j .non))&&its.toArray.size==its'.toArray.size):=by rw[deq,oZ,l1,l2]
 have rc:SeqAt.RcAt A s (.ref a) (.ref a') (deq (.tup xs) (.tup ys)):=by rw[e];exact .tuples pt pt' (by omega) he
 refine ⟨rc,?_,by rw[e];exact .tuples pt pt' (by omega) he⟩;by_cases z:a=a'
 ·subst z;have:=o7 I n1 n2 h h';rw[<-this,t8 n1];exact .same _
 ·exact .of_refs z rc
theorem Uc(I:Inv X pins σ H s){n:Nat}{A:Around}{xs ys:List D}{a a':Addr}{vs vs':List V}{its its':List Value}
  (ih:∀m,m < n->∀(A:Around)(d d':D)(v v':V)(u u':Value),A.units+m < cLine->min (dpt d) (dpt d')<=m->nr d=true->nr d'=true->Rep X.K H F d v->Rep X.K H F d' v'->RelV v u->RelV v' u'->
   SeqAt.RcAt A s u u' (deq d d')/\SeqAt.EqAt A s u u' (deq d d')/\SeqAt.RcNeAt A s u u' (!deq d d'))
  (hu:A.units+n < cLine) (hd:min (dpt (.lst xs)) (dpt (.lst ys))<=n) (n1:nr (.lst xs)=true) (n2:nr (.lst ys)=true) (h:a=a'->xs=ys)
  (pt:s.heap.IsList a its.toArray) (pt':s.heap.IsList a' its'.toArray) (rv:Vals vs its) (rv':Vals vs' its') (tt:Reps X.K H F xs vs) (tt':Reps X.K H F ys vs'):
  SeqAt.RcAt A s (.ref a) (.ref a') (deq (.lst xs) (.lst ys))/\SeqAt.EqAt A s (.ref a) (.ref a') (deq (.lst xs) (.lst ys))/\SeqAt.RcNeAt A s (.ref a) (.ref a') (!deq (.lst xs) (.lst ys)):=by
 have hd':min (aR xs+1) (aR ys+1)<=n:=by rw[dpt,dpt]at hd;exact hd
 have hn1:nrs xs=true:=by rw[nr]at n1;exact n1
 have hn2:nrs ys=true:=by rw[nr]at n2;exact n2
 have l1:its.toArray.size=xs.length:=by rw[aw,<-rv.length,tt.length]
 have l2:its'.toArray.size=ys.length:=by rw[aw,<-rv'.length,tt'.length]
 have eqs:∀(rc:SeqAt.RcAt A s (.ref a) (.ref a') (deq (.lst xs) (.lst ys))),SeqAt.EqAt A s (.ref a) (.ref a') (deq (.lst xs) (.lst ys)):=λrc=>by
  by_cases z:a=a'
  ·have:=h z;subst z;subst this;rw[t8 n1];exact .same _
  ·exact .of_refs z rc
 by_cases hl:xs.length=ys.length
 ·have he:∀j (h1:j < its.toArray.size) (h2:j < its'.toArray.size),SeqAt.EqAt A.in1 s its.toArray[j] its'.toArray[j] (deq (xs.getD j .non) (ys.getD j .non)):=by
   intro j h1 h2;obtain ⟨w1,q1,q2⟩:=o8 (I:=I) tt rv j (by simpa using h1);obtain ⟨w2,q3,q4⟩:=o8 (I:=I) tt' rv' j (by simpa using h2);have d1:=@jH xs j;have d2:=@jH ys j;exact (ih (n - 1) (by omega) A.in1 _ _ w1 w2 _ _ (by show A.units+1+(n - 1) < cLine;omega) (by omega) (jG hn1) (jG hn2) q1 q3 (by simpa using q2) (by simpa using q4)).2.1
  have e:deq (.lst xs) (.lst ys)=(List.range its.toArray.size).all (λj=>deq (xs.getD j .non) (ys.getD j .non)):=by rw[deq,oZ,l1,hl,Nat.min_self];simp
  have rc:SeqAt.RcAt A s (.ref a) (.ref a') (deq (.lst xs) (.lst ys)):=by rw[e];exact .lists pt pt' (by rw[l1,l2];exact hl) (by omega) he
  exact ⟨rc,eqs rc,by rw[e];exact .lists pt pt' (by rw[l1,l2];exact hl) (by omega) he⟩
 ·have e:deq (.lst xs) (.lst ys)=false:=by rw[deq];exact T9 hl
  have hne:(its.toArray.size != its'.toArray.size)=true:=by rw[l1,l2];simpa using hl
  have rc:SeqAt.RcAt A s (.ref a) (.ref a') (deq (.lst xs) (.lst ys)):=by rw[e];exact .lists_lengths pt pt' hne (by omega)
  exact ⟨rc,eqs rc,by rw[e];exact .lists_lengths pt pt' hne (by omega)⟩
theorem uf(I:Inv X pins σ H s):∀(n:Nat)(A:Around)(d d':D)(v v':V)(u u':Value),A.units+n < cLine->min (dpt d) (dpt d')<=n->nr d=true->nr d'=true->Rep X.K H F d v->Rep X.K H F d' v'->RelV v u->RelV v' u'->
  SeqAt.RcAt A s u u' (deq d d')/\SeqAt.EqAt A s u u' (deq d d')/\SeqAt.RcNeAt A s u u' (!deq d d'):=by
 intro n;induction n using Nat.strongRecOn with
 |_ n ih=>
  intro A d d' v v' u u' hu hd n1 n2 h h' r r';have hu0:A.units < cLine:=by omega
  cases d with
  |ref a=>rw[nr]at n1;cases n1
  |scr a=>rw[nr]at n1;cases n1
  |exn a=>rw[nr]at n1;cases n1
  |exa _ _ _=>rw[nr]at n1;cases n1
  |obj _ _ _=>rw[nr]at n1;cases n1
  |non=>
   have hv:v=.non:=h;subst hv;have hr:u=Value.none:=r;subst hr;cases d' with
   |ref a=>rw[nr]at n2;cases n2
   |scr a=>rw[nr]at n2;cases n2
   |exn a=>rw[nr]at n2;cases n2
   |exa _ _ _=>rw[nr]at n2;cases n2
   |obj _ _ _=>rw[nr]at n2;cases n2
   |non=>
    have hv:v'=.non:=h';subst hv;have hr:u'=Value.none:=r';subst hr;exact ⟨.none_none,.same _,.none_none⟩
   |bl b'=>
    have hv:v'=.bl b':=h';subst hv;have hr:u'=Value.bool b':=r';subst hr;exact ⟨.none_bool b',.none_bool b',.none_bool b'⟩
   |int i'=>
    have hv:v'=.int i':=h';subst hv;obtain ⟨t',hr⟩:∃t',u'=Value.int i' t':=r';subst hr;exact ⟨.none_int i' t',.none_int i' t',.none_int i' t'⟩
   |str l'=>
    obtain ⟨hv,_⟩:=h';subst hv;obtain ⟨t',hr⟩:∃t',u'=Value.str (tx l') t':=r';subst hr;exact ⟨.none_str (tx l') t',.none_str (tx l') t',.none_str (tx l') t'⟩
   |tup ys=>
    obtain ⟨a',vs',hv,q',tt'⟩:=id h';subst hv;have hr:u'=Value.ref a':=r';subst hr;obtain ⟨its',rv',pt',_⟩:=I.tuple q'.sq;have pt':s.heap.IsTuple a' its'.toArray:=pt';exact ⟨.none_tuple pt' hu0,.none_tuple pt' hu0,.none_tuple pt' hu0⟩
   |lst ys=>
    obtain ⟨a',vs',hv,q',tt'⟩:=id h';subst hv;have hr:u'=Value.ref a':=r';subst hr;obtain ⟨its',rv',pl',_⟩:=I.list q'.sq;have pt':s.heap.IsList a' its'.toArray:=pl'.isList;exact ⟨.none_list pt' hu0,.none_list pt' hu0,.none_list pt' hu0⟩
  |bl b=>
   have hv:v=.bl b:=h;subst hv;have hr:u=Value.bool b:=r;subst hr;cases d' with
   |ref a=>rw[nr]at n2;cases n2
   |scr a=>rw[nr]at n2;cases n2
   |exn a=>rw[nr]at n2;cases n2
   |exa _ _ _=>rw[nr]at n2;cases n2
   |obj _ _ _=>rw[nr]at n2;cases n2
   |non=>
    have hv:v'=.non:=h';subst hv;have hr:u'=Value.none:=r';subst hr;exact ⟨.bool_none b,.bool_none b,.bool_none b⟩
   |bl b'=>
    have hv:v'=.bl b':=h';subst hv;have hr:u'=Value.bool b':=r';subst hr;exact ⟨.bool_bool b b',.bool_bool b b',.bool_bool b b'⟩
   |int i'=>
    have hv:v'=.int i':=h';subst hv;obtain ⟨t',hr⟩:∃t',u'=Value.int i' t':=r';subst hr;exact ⟨.bool_int b i' t',.bool_int b i' t',.bool_int b i' t'⟩
   |str l'=>
    obtain ⟨hv,_⟩:=h';subst hv;obtain ⟨t',hr⟩:∃t',u'=Value.str (tx l') t':=r';subst hr;exact ⟨.bool_str b (tx l') t',.bool_str b (tx l') t',.bool_str b (tx l') t'⟩
   |tup ys=>
    obtain ⟨a',vs',hv,q',tt'⟩:=id h';subst hv;have hr:u'=Value.ref a':=r';subst hr;obtain ⟨its',rv',pt',_⟩:=I.tuple q'.sq;have pt':s.heap.IsTuple a' its'.toArray:=pt';exact ⟨.bool_tuple b pt' hu0,.bool_tuple b pt' hu0,.bool_tuple b pt' hu0⟩
   |lst ys=>
    obtain ⟨a',vs',hv,q',tt'⟩:=id h';subst hv;have hr:u'=Value.ref a':=r';subst hr;obtain ⟨its',rv',pl',_⟩:=I.list q'.sq;have pt':s.heap.IsList a' its'.toArray:=pl'.isList;exact ⟨.bool_list b pt' hu0,.bool_list b pt' hu0,.bool_list b pt' hu0⟩
  |int i=>
   have hv:v=.int i:=h;subst hv;obtain ⟨t,hr⟩:∃t,u=Value.int i t:=r;subst hr;cases d' with
   |ref a=>rw[nr]at n2;cases n2
   |scr a=>rw[nr]at n2;cases n2
   |exn a=>rw[nr]at n2;cases n2
   |exa _ _ _=>rw[nr]at n2;cases n2
   |obj _ _ _=>rw[nr]at n2;cases n2
   |non=>
    have hv:v'=.non:=h';subst hv;have hr:u'=Value.none:=r';subst hr;exact ⟨.int_none i t,.int_none i t,.int_none i t⟩
   |bl b'=>
    have hv:v'=.bl b':=h';subst hv;have hr:u'=Value.bool b':=r';subst hr;exact ⟨.int_bool i t b',.int_bool i t b',.int_bool i t b'⟩
   |int i'=>
    have hv:v'=.int i':=h';subst hv;obtain ⟨t',hr⟩:∃t',u'=Value.int i' t':=r';subst hr;exact ⟨.int_int i t i' t',.int_int i t i' t',.int_int i t i' t'⟩
   |str l'=>
    obtain ⟨hv,_⟩:=h';subst hv;obtain ⟨t',hr⟩:∃t',u'=Value.str (tx l') t':=r';subst hr;exact ⟨.int_str i t (tx l') t',.int_str i t (tx l') t',.int_str i t (tx l') t'⟩
   |tup ys=>
    obtain ⟨a',vs',hv,q',tt'⟩:=id h';subst hv;have hr:u'=Value.ref a':=r';subst hr;obtain ⟨its',rv',pt',_⟩:=I.tuple q'.sq;have pt':s.heap.IsTuple a' its'.toArray:=pt';exact ⟨.int_tuple i t pt' hu0,.int_tuple i t pt' hu0,.int_tuple i t pt' hu0⟩
   |lst ys=>
    obtain ⟨a',vs',hv,q',tt'⟩:=id h';subst hv;have hr:u'=Value.ref a':=r';subst hr;obtain ⟨its',rv',pl',_⟩:=I.list q'.sq;have pt':s.heap.IsList a' its'.toArray:=pl'.isList;exact ⟨.int_list i t pt' hu0,.int_list i t pt' hu0,.int_list i t pt' hu0⟩
  |str l=>
   obtain ⟨hv,_⟩:=h;subst hv;obtain ⟨t,hr⟩:∃t,u=Value.str (tx l) t:=r;subst hr;cases d' with
   |ref a=>rw[nr]at n2;cases n2
   |scr a=>rw[nr]at n2;cases n2
   |exn a=>rw[nr]at n2;cases n2
   |exa _ _ _=>rw[nr]at n2;cases n2
   |obj _ _ _=>rw[nr]at n2;cases n2
   |non=>
    have hv:v'=.non:=h';subst hv;have hr:u'=Value.none:=r';subst hr;exact ⟨.str_none (tx l) t,.str_none (tx l) t,.str_none (tx l) t⟩
   |bl b'=>
    have hv:v'=.bl b':=h';subst hv;have hr:u'=Value.bool b':=r';subst hr;exact ⟨.str_bool (tx l) t b',.str_bool (tx l) t b',.str_bool (tx l) t b'⟩
   |int i'=>
    have hv:v'=.int i':=h';subst hv;obtain ⟨t',hr⟩:∃t',u'=Value.int i' t':=r';subst hr;exact ⟨.str_int (tx l) t i' t',.str_int (tx l) t i' t',.str_int (tx l) t i' t'⟩
   |str l'=>
    obtain ⟨hv,_⟩:=h';subst hv;obtain ⟨t',hr⟩:∃t',u'=Value.str (tx l') t':=r';subst hr;rw[deq,<-Ua];exact ⟨.str_str (tx l) t (tx l') t',.str_str (tx l) t (tx l') t',.str_str (tx l) t (tx l') t'⟩
   |tup ys=>
    obtain ⟨a',vs',hv,q',tt'⟩:=id h';subst hv;have hr:u'=Value.ref a':=r';subst hr;obtain ⟨its',rv',pt',_⟩:=I.tuple q'.sq;have pt':s.heap.IsTuple a' its'.toArray:=pt';exact ⟨.str_tuple (tx l) t pt' hu0,.str_tuple (tx l) t pt' hu0,.str_tuple (tx l) t pt' hu0⟩
   |lst ys=>
    obtain ⟨a',vs',hv,q',tt'⟩:=id h';subst hv;have hr:u'=Value.ref a':=r';subst hr;obtain ⟨its',rv',pl',_⟩:=I.list q'.sq;have pt':s.heap.IsList a' its'.toArray:=pl'.isList;exact ⟨.str_list (tx l) t pt' hu0,.str_list (tx l) t pt' hu0,.str_list (tx l) t pt' hu0⟩
  |tup xs=>
   obtain ⟨a,vs,hv,q,tt⟩:=id h;subst hv;have hr:u=Value.ref a:=r;subst hr;obtain ⟨its,rv,pt,_⟩:=I.tuple q.sq;have pt:s.heap.IsTuple a its.toArray:=pt;cases d' with
   |ref a=>rw[nr]at n2;cases n2
   |scr a=>rw[nr]at n2;cases n2
   |exn a=>rw[nr]at n2;cases n2
   |exa _ _ _=>rw[nr]at n2;cases n2
   |obj _ _ _=>rw[nr]at n2;cases n2
   |non=>
    have hv:v'=.non:=h';subst hv;have hr:u'=Value.none:=r';subst hr;exact ⟨.tuple_none pt hu0,.tuple_none pt hu0,.tuple_none pt hu0⟩
   |bl b'=>
    have hv:v'=.bl b':=h';subst hv;have hr:u'=Value.bool b':=r';subst hr;exact ⟨.tuple_bool b' pt hu0,.tuple_bool b' pt hu0,.tuple_bool b' pt hu0⟩
   |int i'=>
    have hv:v'=.int i':=h';subst hv;obtain ⟨t',hr⟩:∃t',u'=Value.int i' t':=r';subst hr;exact ⟨.tuple_int i' t' pt hu0,.tuple_int i' t' pt hu0,.tuple_int i' t' pt hu0⟩
   |str l'=>
    obtain ⟨hv,_⟩:=h';subst hv;obtain ⟨t',hr⟩:∃t',u'=Value.str (tx l') t':=r';subst hr;exact ⟨.tuple_str (tx l') t' pt hu0,.tuple_str (tx l') t' pt hu0,.tuple_str (tx l') t' pt hu0⟩
   |tup ys=>
    obtain ⟨a',vs',hv,q',tt'⟩:=id h';subst hv;have hr:u'=Value.ref a':=r';subst hr;obtain ⟨its',rv',pt',_⟩:=I.tuple q'.sq;have pt':s.heap.IsTuple a' its'.toArray:=pt';exact Ub I ih hu hd n1 n2 h h' pt pt' rv rv' tt tt'
   |lst ys=>
    obtain ⟨a',vs',hv,q',tt'⟩:=id h';subst hv;have hr:u'=Value.ref a':=r';subst hr;obtain ⟨its',rv',pl',_⟩:=I.list q'.sq;have pt':s.heap.IsList a' its'.toArray:=pl'.isList;exact ⟨.tuple_list pt pt' hu0,.tuple_list pt pt' hu0,.tuple_list pt pt' hu0⟩
  |lst xs=>
   obtain ⟨a,vs,hv,q,tt⟩:=id h;subst hv;have hr:u=Value.ref a:=r;subst hr;obtain ⟨its,rv,pl,_⟩:=I.list q.sq;have pt:s.heap.IsList a its.toArray:=pl.isList;cases d' with
   |ref a=>rw[nr]at n2;cases n2
   |scr a=>rw[nr]at n2;cases n2
   |exn a=>rw[nr]at n2;cases n2
   |exa _ _ _=>rw[nr]at n2;cases n2
   |obj _ _ _=>rw[nr]at n2;cases n2
   |non=>
    have hv:v'=.non:=h';subst hv;have hr:u'=Value.none:=r';subst hr;exact ⟨.list_none pt hu0,.list_none pt hu0,.list_none pt hu0⟩
   |bl b'=>
    have hv:v'=.bl b':=h';subst hv;have hr:u'=Value.bool b':=r';subst hr;exact ⟨.list_bool b' pt hu0,.list_bool b' pt hu0,.list_bool b' pt hu0⟩
   |int i'=>
    have hv:v'=.int i':=h';subst hv;obtain ⟨t',hr⟩:∃t',u'=Value.int i' t':=r';subst hr;exact ⟨.list_int i' t' pt hu0,.list_int i' t' pt hu0,.list_int i' t' pt hu0⟩
   |str l'=>
    obtain ⟨hv,_⟩:=h';subst hv;obtain ⟨t',hr⟩:∃t',u'=Value.str (tx l') t':=r';subst hr;exact ⟨.list_str (tx l') t' pt hu0,.list_str (tx l') t' pt hu0,.list_str (tx l') t' pt hu0⟩
   |tup ys=>
    obtain ⟨a',vs',hv,q',tt'⟩:=id h';subst hv;have hr:u'=Value.ref a':=r';subst hr;obtain ⟨its',rv',pt',_⟩:=I.tuple q'.sq;have pt':s.heap.IsTuple a' its'.toArray:=pt';exact ⟨.list_tuple pt pt' hu0,.list_tuple pt pt' hu0,.list_tuple pt pt' hu0⟩
   |lst ys=>
    obtain ⟨a',vs',hv,q',tt'⟩:=id h';subst hv;have hr:u'=Value.ref a':=r';subst hr;obtain ⟨its',rv',pl',_⟩:=I.list q'.sq;have pt':s.heap.IsList a' its'.toArray:=pl'.isList;exact Uc I ih hu hd n1 n2 (λz=>by subst z;have e:=o7 I n1 n2 h h';injection e) pt pt' rv rv' tt tt'
end
def FA(F:FZ)(G:DH):FZ:=λa=>F a\/∃o,G a=some o
theorem zr{H:Hp}{F:FZ}{G:DH}:Ext H F H (FA F G):=⟨λ_ f=>.inl f,λ_ _=>rfl,λ_ _ h=>h,λ_ _ _ h=>h⟩
theorem o9{K:PF}{H:Hp}{F:FZ}{G:DH}{d:D}{v:V}(r:R K H F G)(h:Rep K H F d v):Rep K H (FA F G) (view G d) v:=by
 cases d with
 |ref p=>
  have hv:v=.ref p:=h;cases g:G p with
  |none=>
   have e:view G (.ref p)=.ref p:=by simp only[view,g]
   rw[e];exact hv
  |some o=>
   cases o with
   |lst ds=>
    have e:view G (.ref p)=.lst ds:=by simp only[view,g]
    rw[e];obtain ⟨vs,q,t⟩:=r.lst g;exact ⟨p,vs,hv,⟨.inr ⟨_,g⟩,q⟩,Reps.ext zr t⟩
 |_=>exact Rep.ext zr h
def rC2(K:PF)(f:D->D->(Bool->Prop)->Prop):R2:=λx y H Q=>∃F G a b,R K H F G/\Rep K H F a x/\Rep K H F b y/\f (view G a) (view G b) (λc=>PV K H F Q (.bl c) G)
section
variable {X:Cx}
theorem zu(c:Nat)(l:List Nat):(!(Builtin.Str.occurrences (tx l) (tx [c]) 0 (tx l).length 1).isEmpty)=l.contains c:=by have:=StrLaws.found_one (tx l) c;rw[this,gu];simp
theorem Ud{pins:List (Addr×Obj)}{σ:L2.St}{H:Hp}{s:Shared}{F:FZ}(I:Inv X pins σ H s){A:Around}{x:D}{v:V}{u:Value}(hu:A.units+64 < cLine)(hx:nr x=true)(rx:Rep X.K H F x v)(ru:RelV v u):
  ∀{ds:List D}{vs:List V}{us:List Value},nrs ds=true->aR ds<=60->Reps X.K H F ds vs->Vals vs us->∃e:Value->Bool,(∀y∈us,SeqAt.EqAt A s y u (e y))/\us.any e=isIn x ds:=by
 intro ds vs us hn hd t r;let P:Value->D->Prop:=λy d=>nr d=true/\∃v,Rep X.K H F d v/\RelV v y
 have one:∀y d d',P y d->P y d'->d=d':=λy d d' ⟨n,v,q,z⟩ ⟨n',v',q',z'⟩=>by
  have e:=z.inj z';subst e;exact o7 I n n' q q'
 have ⟨f,hf⟩:∃f:Value->D,∀y d,P y d->f y=d:=by refine ⟨λy=>Classical.epsilon (P y),λy d h=>?_⟩;exact one y _ _ (Classical.epsilon_spec ⟨d,h⟩) h
 refine ⟨λy=>deq (f y) x,?_,?_⟩
 ·skip;have key:∀{ds:List D}{vs:List V}{us:List Value},nrs ds=true->aR ds<=60->Reps X.K H F ds vs->Vals vs us->∀y∈us,SeqAt.EqAt A s y u (deq (f y) x):=by
   intro ds;induction ds with
   |nil=>
    intro vs us _ _ t r y hy;have t:vs=[]:=t;subst t;cases r;cases hy
   |cons d ds ih=>
    intro vs us hn hd t r y hy;obtain ⟨v1,r1,e,h1,t1⟩:=t;subst e;rw[nrs,af]at hn;rw[aR]at hd;cases r with
    |cons p q=>
     rcases bb.mp hy with e |hy
     ·subst e;rw[hf _ d ⟨hn.1,_,h1,p⟩];exact (uf I 60 A d x v1 v _ u (by omega) (by omega) hn.1 hx h1 rx p ru).2.1
     ·exact ih hn.2 (by omega) t1 q y hy
  exact key hn hd t r
 ·have key:∀{ds:List D}{vs:List V}{us:List Value},nrs ds=true->Reps X.K H F ds vs->Vals vs us->us.any (λy=>deq (f y) x)=isIn x ds:=by
   intro ds;induction ds with
   |nil=>
    intro vs us _ t r;have t:vs=[]:=t;subst t;cases r;rfl
   |cons d ds ih=>
    intro vs us hn t r;obtain ⟨v1,r1,e,h1,t1⟩:=t;subst e;rw[nrs,af]at hn;cases r with
    |cons p q=>
     rw[List.any_cons,hf _ d ⟨hn.1,_,h1,p⟩,ih hn.2 t1 q];rfl
  exact key hn t r
theorem iQ(op:CmpOp)(hu:X.A.units+100 < cLine):OpR X (compareOp op) (rC2 X.K (aU op)):=by
 intro pins s σ H x y v u Q I rx ry h;obtain ⟨F,G,a,b,r,ra,rb,h⟩:=h;have ra':=o9 r ra;have rb':=o9 r rb;generalize ea:view G a=va at h ra';generalize eb:view G b=vb at h rb';have fin:∀c:Bool,PV X.K H F Q (.bl c) G->EP X pins σ Q (.bool c) s:=λc q=>⟨.bl c,H,I,rfl,q.now r rfl⟩;have hin:∀(l:List D)(k:Bool->Prop),(nr va=true/\nrs l=true/\aR l<=60)->∀{vs:List V}{us:List Value},Reps X.K H (FA F G) l vs->Vals vs us->
   ∃e:Value->Bool,(∀z∈us,SeqAt.EqAt X.A.in1 s z v (e z))/\us.any e=isIn va l:=λl k hh {vs us} t rv=>
  Ud I (A:=X.A.in1) (by show X.A.units+1+64 < cLine;omega) hh.1 ra' rx hh.2.1 hh.2.2 t rv
 cases op with
 |Eq=>
  obtain ⟨⟨n1,n2,n3⟩,q⟩:=h;exact (uf I 60 X.A _ _ x y v u (by omega) n3 n1 n2 ra' rb' rx ry).1 _ _ _ _ (fin _ q)
 |NotEq=>
  obtain ⟨⟨n1,n2,n3⟩,q⟩:=h;exact (uf I 60 X.A _ _ x y v u (by omega) n3 n1 n2 ra' rb' rx ry).2.2 _ _ _ _ (fin _ q)
 |Lt=>
  have h:iy va vb (λc=>PV X.K H F Q (.bl c) G):=h;unfold iy at h;split at h
  ·have e1:x=.int _:=ra';have e2:y=.int _:=rb';subst e1;subst e2;obtain ⟨t,rfl⟩:=rx;obtain ⟨t',rfl⟩:=ry;exact lt_int (fin _ h)
  ·obtain ⟨e1,_⟩:=ra';obtain ⟨e2,_⟩:=rb';subst e1;subst e2;obtain ⟨t,rfl⟩:=rx;obtain ⟨t',rfl⟩:=ry;exact lt_str (fin _ h)
  ·exact h.elim
 |LtE=>
  have h:iz va vb (λc=>PV X.K H F Q (.bl c) G):=h;unfold iz at h;split at h
  ·have e1:x=.int _:=ra';have e2:y=.int _:=rb';subst e1;subst e2;obtain ⟨t,rfl⟩:=rx;obtain ⟨t',rfl⟩:=ry;exact le_int (fin _ h)
  ·obtain ⟨e1,_⟩:=ra';obtain ⟨e2,_⟩:=rb';subst e1;subst e2;obtain ⟨t,rfl⟩:=rx;obtain ⟨t',rfl⟩:=ry;exact PySem.P.le_str (fin _ h)
  ·exact h.elim
 |Gt=>
  have h:iB va vb (λc=>PV X.K H F Q (.bl c) G):=h;unfold iB at h;split at h
  ·have e1:x=.int _:=ra';have e2:y=.int _:=rb';subst e1;subst e2;obtain ⟨t,rfl⟩:=rx;obtain ⟨t',rfl⟩:=ry;exact gt_int (fin _ h)
  ·exact h.elim
 |GtE=>
  have h:iC va vb (λc=>PV X.K H F Q (.bl c) G):=h;unfold iC at h;split at h
  ·have e1:x=.int _:=ra';have e2:y=.int _:=rb';subst e1;subst e2;obtain ⟨t,rfl⟩:=rx;obtain ⟨t',rfl⟩:=ry;exact ge_int (fin _ h)
  ·exact h.elim
 |Is=>
  have h:iD va vb (λc=>PV X.K H F Q (.bl c) G):=h;unfold iD at h;split at h
  ·have e2:y=.non:=rb';subst e2;have q:∀c,(c=decide (x=.non))->PV X.K H F Q (.bl c) G->wpAny (model X.prog X.w) X.A (compareOp .Is v u) (EP X pins σ Q) X.xe s:=λc e q=>
    Od pins s σ H _ _ v u Q I rx ry ⟨rfl,by rw[<-e];exact q.now r rfl⟩
   refine q _ ?_ h;have:mF va=decide (x=.non):=by
    cases va with
    |non=>have e1:x=.non:=ra';subst e1;rfl
    |bl _=>have e1:x=.bl _:=ra';subst e1;rfl
    |int _=>have e1:x=.int _:=ra';subst e1;rfl
    |str _=>obtain ⟨e1,_⟩:=ra';subst e1;rfl
    |tup _=>obtain ⟨_,_,e1,_⟩:=ra';subst e1;rfl
    |lst _=>obtain ⟨_,_,e1,_⟩:=ra';subst e1;rfl
    |ref _=>have e1:x=.ref _:=ra';subst e1;rfl
    |scr _=>obtain ⟨_,e1,_⟩:=ra';subst e1;rfl
    |exn _=>obtain ⟨_,_,e1,_⟩:=ra';subst e1;rfl
    |exa _ _ _=>obtain ⟨_,_,_,_,_,_,_,e1,_⟩:=ra';subst e1;rfl
    |obj _ _ _=>obtain ⟨_,_,_,e1,_⟩:=ra';subst e1;rfl
   rw[this]
  ·split at h
   ·have e1:x=.bl _:=ra';have e2:y=.bl _:=rb';subst e1;subst e2;exact QR pins s σ H _ _ v u Q I rx ry ⟨_,_,rfl,rfl,h.now r rfl⟩
   ·exact h.elim
  ·exact h.elim
 |IsNot=>
  have h:iG va vb (λc=>PV X.K H F Q (.bl c) G):=h;unfold iG at h;split at h
  ·have e2:y=.non:=rb';subst e2;have q:∀c,(c=!decide (x=.non))->PV X.K H F Q (.bl c) G->wpAny (model X.prog X.w) X.A (compareOp .IsNot v u) (EP X pins σ Q) X.xe s:=λc e q=>
    Oe pins s σ H _ _ v u Q I rx ry ⟨rfl,by rw[<-e];exact q.now r rfl⟩
   refine q _ ?_ h;have:mF va=decide (x=.non):=by
    cases va with
    |non=>have e1:x=.non:=ra';subst e1;rfl
    |bl _=>have e1:x=.bl _:=ra';subst e1;rfl
    |int _=>have e1:x=.int _:=ra';subst e1;rfl
    |str _=>obtain ⟨e1,_⟩:=ra';subst e1;rfl
    |tup _=>obtain ⟨_,_,e1,_⟩:=ra';subst e1;rfl
    |lst _=>obtain ⟨_,_,e1,_⟩:=ra';subst e1;rfl
    |ref _=>have e1:x=.ref _:=ra';subst e1;rfl
    |scr _=>obtain ⟨_,e1,_⟩:=ra';subst e1;rfl
    |exn _=>obtain ⟨_,_,e1,_⟩:=ra';subst e1;rfl
    |exa _ _ _=>obtain ⟨_,_,_,_,_,_,_,e1,_⟩:=ra';subst e1;rfl
    |obj _ _ _=>obtain ⟨_,_,_,e1,_⟩:=ra';subst e1;rfl
   rw[this]
  ·split at h
   ·have e1:x=.bl _:=ra';have e2:y=.bl _:=rb';subst e1;subst e2;exact QW pins s σ H _ _ v u Q I rx ry ⟨_,_,rfl,rfl,h.now r rfl⟩
   ·exact h.elim
  ·exact h.elim
 |In=>
  have h:eV va vb (λc=>PV X.K H F Q (.bl c) G):=h;unfold eV at h;split at h
  ·split at h
   ·obtain ⟨e1,_⟩:=ra';obtain ⟨e2,_⟩:=rb';subst e1;subst e2;obtain ⟨t,rfl⟩:=rx;obtain ⟨t',rfl⟩:=ry;exact in_str (by rw[zu];exact fin _ h)
   ·exact h.elim
  ·obtain ⟨hh,q⟩:=h;obtain ⟨p,vs,e2,q2,t⟩:=rb';subst e2;cases ry;obtain ⟨its,rv,pl,hz⟩:=I.list q2.sq;obtain ⟨e,he,hany⟩:=hin _ (λ_=>True) hh t rv;refine SeqAt.in_listAt e pl.isList (λw hw=>he w (by simpa using hw)) ?_;rw[show its.toArray.any e=its.any e by simp,hany];exact fin _ q
  ·obtain ⟨hh,q⟩:=h;obtain ⟨p,vs,e2,q2,t⟩:=rb';subst e2;cases ry;obtain ⟨its,rv,pl,hz⟩:=I.tuple q2.sq;obtain ⟨e,he,hany⟩:=hin _ (λ_=>True) hh t rv;refine SeqAt.in_tupleAt e pl (λw hw=>he w (by simpa using hw)) ?_;rw[show its.toArray.any e=its.any e by simp,hany];exact fin _ q
  ·exact h.elim
 |NotIn=>
  have h:eV va vb (λc=>PV X.K H F Q (.bl (!c)) G):=h;unfold eV at h;split at h
  ·split at h
   ·obtain ⟨e1,_⟩:=ra';obtain ⟨e2,_⟩:=rb';subst e1;subst e2;obtain ⟨t,rfl⟩:=rx;obtain ⟨t',rfl⟩:=ry;exact notIn_str (by rw[zu];exact fin _ h)
   ·exact h.elim
  ·obtain ⟨hh,q⟩:=h;obtain ⟨p,vs,e2,q2,t⟩:=rb';subst e2;cases ry;obtain ⟨its,rv,pl,hz⟩:=I.list q2.sq;obtain ⟨e,he,hany⟩:=hin _ (λ_=>True) hh t rv;refine SeqAt.notIn_listAt e pl.isList (λw hw=>he w (by simpa using hw)) ?_;rw[show its.toArray.any e=its.any e by simp,hany];exact fin _ q
  ·obtain ⟨hh,q⟩:=h;obtain ⟨p,vs,e2,q2,t⟩:=rb';subst e2;cases ry;obtain ⟨its,rv,pl,hz⟩:=I.tuple q2.sq;obtain ⟨e,he,hany⟩:=hin _ (λ_=>True) hh t rv;refine SeqAt.notIn_tupleAt e pl (λw hw=>he w (by simpa using hw)) ?_;rw[show its.toArray.any e=its.any e by simp,hany];exact fin _ q
  ·exact h.elim
end
section
variable {X:Cx}
def Ue(K:PF):R2:=λx y H Q=>∃F G a b,R K H F G/\Rep K H F a x/\Rep K H F b y/\bV (view G a) b (λd=>PV K H F Q d G)
theorem zA{K:PF}{H:Hp}{F:FZ}{ds:List D}{vs:List V}{i:Int}{d:D}(t:Reps K H F ds vs)(h:atI ds i=some d):∃v,atI vs i=some v/\Rep K H F d v:=by
 unfold atI at h ⊢;rw[<-t.length];cases e:ixN ds.length i with
 |none=>rw[e]at h;cases h
 |some j=>
  rw[e]at h;obtain ⟨v,e1,r⟩:=t.get (show ds[j]?=some d from h);exact ⟨v,e1,r⟩
theorem Ug:IxR X (Ue X.K):=by
 intro value slice pins s σ H x y v u Q I rx ry h hs;obtain ⟨F,G,a,b,r,ra,rb,h⟩:=h;generalize ea:view G a=va at h;unfold bV at h;split at h
 ·obtain ⟨p,vs,e,q,t⟩:=Rep.list r ra ea;subst e;have e2:y=.int _:=rb;subst e2;split at h
  ·rename_i d hd;obtain ⟨w,hw,rw'⟩:=zA t hd;exact Qa value slice pins s σ H _ _ v u Q I rx ry ⟨p,vs,_,w,rfl,rfl,q,hw,h.now r rw'⟩ hs
  ·exact h.elim
 ·cases dO ea;obtain ⟨p,vs,e,q,t⟩:=ra;subst e;have e2:y=.int _:=rb;subst e2;split at h
  ·rename_i d hd;obtain ⟨w,hw,rw'⟩:=zA t hd;exact Qc value slice pins s σ H _ _ v u Q I rx ry ⟨p,vs,_,w,rfl,rfl,q.sq,hw,h.now r rw'⟩ hs
  ·exact h.elim
 ·cases dR ea;obtain ⟨e,hl⟩:=ra;subst e;have e2:y=.int _:=rb;subst e2;split at h
  ·rename_i c hc;exact Qd value slice pins s σ H _ _ v u Q I rx ry ⟨_,_,c,rfl,rfl,by rw[bQ];exact cz hl,hc,h.now r ⟨rfl,by show 1<=sz;decide⟩⟩ hs
  ·exact h.elim
 ·exact h.elim
theorem Uh(l:List Nat)(lo hi:Option Int):Txt.slice (tx l) lo hi=tx (cut l lo hi):=by
 have e:Builtin.Str.strSliceIndices lo hi 1 (tx l).length=sliceRange (sliceBounds lo hi none (tx l).length).1 (sliceBounds lo hi none (tx l).length).2.1 1:=by unfold Builtin.Str.strSliceIndices sliceBounds;cases lo <;> cases hi <;> rfl
 obtain ⟨h1,h2,h3⟩:=wN lo hi (tx l).length;rw[h1,h2,sliceRange_one]at e;have e2:((Builtin.Str.strSliceIndices lo hi 1 (tx l).length).filterMap ((tx l).cps[·]?))=cut l lo hi:=by rw[e,pick_run];unfold cut;rw[bQ]
 unfold Txt.slice;split
 ·rename_i hh;rw[af]at hh;have hl:=eq_of_beq hh.2;rw[e,ax,hW,bQ]at hl;have b1:HT.sIx l.length l.length hi<=l.length:=HT.wG _ _ (av _) hi;unfold cut;by_cases hz:l=[]
  ·subst hz;simp
  ·have hp:0 < l.length:=List.length_pos_iff.mpr hz;have e3:HT.sIx l.length 0 lo=0:=by omega
   have e4:HT.sIx l.length l.length hi=l.length:=by omega
   rw[e3,e4];simp
 ·rw[e2]
theorem Ui{α:Type}(xs:List α)(lo hi:Option Int):(cut xs lo hi).length<=xs.length:=by unfold cut;rw[c9,dA];omega
theorem Uj{prog:Program}{w:World}{A:Around}{E:Value->Shared->Prop}{s:Shared}{t sl:Addr}{items:Array Value}{vl vu:Value}{lo hi:Option Int}{Q:Value->Shared->Prop}(ht:IsTup s.heap t items)(hs:s.heap.IsSliceOf sl vl vu .none)(pl:IsPart vl lo)(pu:IsPart vu hi)
  (hw:HT.sIx items.size 0 lo=0/\HT.sIx items.size items.size hi=items.size) (h:Q (.ref t) s):wpAny (model prog w) A (getItem (.ref t) (.ref sl)) Q E s:=by
 obtain ⟨os,hos,hcs,hds⟩:=id hs;have hTs:s.TypeIs (.ref sl) "slice":=⟨os,hos,hcs⟩;unfold getItem;try with_reducible refine cq ?_
 first |refine ae (am ?_) |skip
 refine ae (wpAny_sequenceKey ht.typeIs (by decide) ?_);refine ae (fy (name:=Str.ofString "__getitem__") ht.typeIs gd
  (eA gd ht.typeIs entry_tuple_getitem ?_ (args_tuple_getitem _ _)))
 show wpAny _ _ (Builtin.Tuple.tupleItemsOf (.ref t) >>= _) _ _ s;refine ae (tupleItemsOf_ ht ?_);refine ae (wpAny_typeOf hTs ?_);rw[if_pos (by decide)];refine ae (HT.wJ hs pl pu ?_);have hyes:(((HT.sIx items.size 0 lo:Nat):Int)==0&&(1:Int)==1&&(HT.sIx items.size items.size hi - HT.sIx items.size 0 lo)==items.size)=true:=by rw[hw.1,hw.2];simp
 show wpAny _ _ (if (((HT.sIx items.size 0 lo:Nat):Int)==0&&(1:Int)==1&&(HT.sIx items.size items.size hi - HT.sIx items.size 0 lo)==items.size)=true then _ else _) _ _ s;rw[if_pos hyes];refine ae (m:=Builtin.Tuple.tupleIsExact _) (ae (wpAny_typeOf ht.typeIs (am ?_)));rw[if_pos (by decide)];exact ae (et (am ⟨_,rfl,am h⟩))
theorem Uk:SlR X (λx lo hi H Q=>∃a xs,x=.ref a/\SqT X.K H a xs/\(HT.sIx xs.length 0 lo=0/\HT.sIx xs.length xs.length hi=xs.length)/\Q (.ref a) H):=by
 intro pins s σ H x v vl vu lo hi sl Q I rx hs pl pu h;obtain ⟨a,xs,rfl,hx,hw,q⟩:=h;cases rx;obtain ⟨its,r,ht,hz⟩:=I.tuple hx;have hlen:its.toArray.size=xs.length:=by rw[aw];exact r.length.symm
 exact ⟨"tuple",_,gd.lookup,ht.typeIs,Uj ht hs pl pu (by rw[hlen];exact hw) ⟨.ref a,H,I,rfl,q⟩⟩
theorem zB{K:PF}{H:Hp}{F:FZ}:∀ns:List Int,Reps K H F (ns.map D.int) (ns.map V.int)
 |[]=>rfl
 |n::ns=>⟨_,_,rfl,rfl,zB ns⟩
noncomputable def Ul(K:PF)(fz:Bool):V->Option Int->Option Int->Hp->VK->Prop:=λx lo hi H Q=>∃F G a,R K H F G/\Rep K H F a x/\dw fz (view G a) lo hi G (PV K H F Q)
theorem zE{K:PF}{H:Hp}{F:FZ}{ds:List D}{vs:List V}(t:Reps K H F ds vs)(lo hi:Option Int):Reps K H F (cut ds lo hi) (dm vs lo hi):=t.cut lo hi
theorem Um(fz:Bool):SlR X (Ul X.K fz):=by
 intro pins s σ H x v vl vu lo hi sl Q I rx hs pl pu h;obtain ⟨F,G,a,r,ra,h⟩:=h;generalize ea:view G a=va at h;unfold dw at h;split at h
 ·obtain ⟨p,vs,e,q,t⟩:=Rep.list r ra ea;subst e;exact wO pins s σ H _ v vl vu lo hi sl Q I rx hs pl pu ⟨p,vs,rfl,q,cZ h r (zE t lo hi)⟩
 ·rename_i ns;have ea':a=.scr ns:=by
   cases a with
   |ref p=>
    unfold view at ea;cases g:G p with
    |none=>simp only[g]at ea;cases ea
    |some o=>cases o;simp only[g]at ea;cases ea
   |_=>exact ea
  subst ea';obtain ⟨p,e,q⟩:=ra;subst e;refine wO pins s σ H _ v vl vu lo hi sl Q I rx hs pl pu ⟨p,_,rfl,q.sq,cZ h r ?_⟩;have e2:dm (ns.map V.int) lo hi=(cut ns lo hi).map V.int:=by unfold dm cut;rw[ax,List.map_take,List.map_drop]
  rw[e2];exact zB (cut ns lo hi)
 ·cases dO ea;obtain ⟨p,vs,e,q,t⟩:=id ra;subst e;by_cases hw:HT.sIx vs.length 0 lo=0/\HT.sIx vs.length vs.length hi=vs.length
  ·refine Uk pins s σ H _ v vl vu lo hi sl Q I rx hs pl pu ⟨p,vs,rfl,q.sq,hw,?_⟩;refine h.now r ?_;rename_i ds;have:cut ds lo hi=ds:=by
    unfold cut;rw[t.length,hw.1,hw.2];simp[<-t.length]
   rw[this];exact ra
  ·exact PJ pins s σ H _ v vl vu lo hi sl Q I rx hs pl pu ⟨p,vs,rfl,q.sq,hw,jF h r (zE t lo hi)⟩
 ·cases dR ea;obtain ⟨e,hl⟩:=ra;subst e;refine QV pins s σ H _ v vl vu lo hi sl Q I rx hs pl pu ⟨_,rfl,by rw[bQ];exact cz hl,?_⟩;rw[Uh];exact h.now r ⟨rfl,cw (Ui _ _ _) hl⟩
 ·exact h.elim
theorem Uo{K:PF}{H:Hp}{F:FZ}{G:DH}{d:D}{v:V}{b:Bool}(r:R K H F G)(h:Rep K H F d v)(e:truth (view G d)=some b):qJ K v H b:=by
 have h':=o9 r h;generalize view G d=w at e h';cases w with
 |non=>have e1:v=.non:=h';subst e1;simp only[truth,ba]at e;exact e.symm
 |bl x=>have e1:v=.bl x:=h';subst e1;simp only[truth,ba]at e;exact e.symm
 |int i=>have e1:v=.int i:=h';subst e1;simp only[truth,ba]at e;exact e.symm
 |str l=>
  obtain ⟨e1,hl⟩:=h';subst e1;simp only[truth,ba]at e;refine ⟨by rw[bQ];exact cz hl,?_⟩;rw[bQ,<-e];cases l with
  |nil=>rfl
  |cons c l=>simp;omega
 |tup l=>
  obtain ⟨a,vs,e1,q,t⟩:=h';subst e1;simp only[truth,ba]at e;refine .inr (.inl ⟨vs,q.sq,?_⟩);rw[<-e];cases l with
  |nil=>have t:vs=[]:=t;subst t;rfl
  |cons c l=>obtain ⟨_,_,e2,_⟩:=t;subst e2;rfl
 |lst l=>
  obtain ⟨a,vs,e1,q,t⟩:=h';subst e1;simp only[truth,ba]at e;refine .inl ⟨vs,q.sq,?_⟩;rw[<-e];cases l with
  |nil=>have t:vs=[]:=t;subst t;rfl
  |cons c l=>obtain ⟨_,_,e2,_⟩:=t;subst e2;rfl
 |ref a=>simp[truth]at e
 |scr a=>simp[truth]at e
 |exn a=>simp[truth]at e
 |exa _ _ _=>simp[truth]at e
 |obj _ _ _=>simp[truth]at e
theorem ph{K:PF}{H:Hp}{F:FZ}:∀{ds:List D}{vs:List V}{bs:List Bool},bools ds=some bs->Reps K H F ds vs->vs=bs.map V.bl
 |[],_,bs,e,h=>by
  simp only[bools,ba]at e;subst e;exact h
 |d::ds,_,bs,e,⟨v,w,e1,h,t⟩=>by
  cases d with
  |bl b=>
   simp only[bools]at e;cases q:bools ds with
   |none=>rw[q]at e;cases e
   |some s=>
    rw[q]at e;cases e;have hv:v=.bl b:=h;rw[e1,hv,ph q t];rfl
  |_=>simp[bools]at e
theorem bj{K:PF}{H:Hp}{F:FZ}{d:D}{vs:List V}(t:Reps K H F [d] vs):∃v,vs=[v]/\Rep K H F d v:=by obtain ⟨v,r,e,h,t⟩:=t;have t:r=[]:=t;subst t;exact ⟨v,e,h⟩
noncomputable def iR(K:PF)(f:Bf):List V->Hp->VK->Prop:=λvs H Q=>∃F G ds,R K H F G/\Reps K H F ds vs/\opB f (ds.map (view G)) (λd=>PV K H F Q d G)
theorem map_one{G:DH}{ds:List D}{x:D}(h:ds.map (view G)=[x]):∃d,ds=[d]/\view G d=x:=by
 match ds,h with
 |[d],h=>exact ⟨d,rfl,by simpa using h⟩
theorem Up:bD X (.builtin "len") (iR X.K .len):=by
 intro pins s σ H xs us Q I rs h;obtain ⟨F,G,ds,r,t,h⟩:=h;generalize ea:ds.map (view G)=va at h;simp only[opB,rD]at h;split at h
 ·obtain ⟨d,rfl,ev⟩:=map_one ea;obtain ⟨v,rfl,rv⟩:=bj t;obtain ⟨a,vs,e,q,t'⟩:=Rep.list r rv ev;subst e;exact wQ pins s σ H _ us Q I rs ⟨a,vs,rfl,.inl q,by rw[<-t'.length];exact h.now r rfl⟩
 ·obtain ⟨d,rfl,ev⟩:=map_one ea;obtain ⟨v,rfl,rv⟩:=bj t;cases dO ev;obtain ⟨a,vs,e,q,t'⟩:=rv;subst e;exact wQ pins s σ H _ us Q I rs ⟨a,vs,rfl,.inr q.sq,by rw[<-t'.length];exact h.now r rfl⟩
 ·obtain ⟨d,rfl,ev⟩:=map_one ea;obtain ⟨v,rfl,rv⟩:=bj t;cases dR ev;obtain ⟨e,hl⟩:=rv;subst e;exact Qi pins s σ H _ us Q I rs ⟨_,rfl,by rw[bQ];exact cz hl,by rw[bQ];exact h.now r rfl⟩
 ·exact h.elim
theorem Uq (hc:X.calm=true):bD X (.builtin "all") (iR X.K .all):=by
 intro pins s σ H xs us Q I rs h;obtain ⟨F,G,ds,r,t,h⟩:=h;generalize ea:ds.map (view G)=va at h;simp only[opB,mG]at h;split at h
 ·obtain ⟨d,rfl,ev⟩:=map_one ea;obtain ⟨v,rfl,rv⟩:=bj t;obtain ⟨a,vs,e,q,t'⟩:=Rep.list r rv ev;subst e;split at h
  ·rename_i bs hb;have e2:=ph hb t';subst e2;exact QQ hc pins s σ H _ us Q I rs ⟨a,bs,rfl,q,h.now r rfl⟩
  ·exact h.elim
 ·exact h.elim
theorem Ur:bD X (.type "int") (iR X.K .int):=by
 intro pins s σ H xs us Q I rs h;obtain ⟨F,G,ds,r,t,h⟩:=h;generalize ea:ds.map (view G)=va at h;simp only[opB,mH]at h;split at h
 ·obtain ⟨d,rfl,ev⟩:=map_one ea;obtain ⟨v,rfl,rv⟩:=bj t;cases rB ev;have e:v=.bl _:=rv;subst e;exact ww pins s σ H _ us Q I rs (.inr ⟨_,rfl,h.now r rfl⟩)
 ·obtain ⟨d,rfl,ev⟩:=map_one ea;obtain ⟨v,rfl,rv⟩:=bj t;cases cL ev;have e:v=.int _:=rv;subst e;exact ww pins s σ H _ us Q I rs (.inl ⟨_,rfl,h.now r rfl⟩)
 ·obtain ⟨d,rfl,ev⟩:=map_one ea;obtain ⟨v,rfl,rv⟩:=bj t;cases dR ev;obtain ⟨e,hl⟩:=rv;subst e;split at h
  ·rename_i n hn;exact QS pins s σ H _ us Q I rs ⟨_,n,rfl,hn,by rw[bQ];exact h.1,h.2.now r rfl⟩
  ·exact h.elim
 ·exact h.elim
theorem Us:bD X (.type "tuple") (iR X.K .tuple):=by
 intro pins s σ H xs us Q I rs h;obtain ⟨F,G,ds,r,t,h⟩:=h;generalize ea:ds.map (view G)=va at h;simp only[opB,rE]at h;split at h
 ·obtain ⟨d,rfl,ev⟩:=map_one ea;obtain ⟨v,rfl,rv⟩:=bj t;obtain ⟨a,vs,e,q,t'⟩:=Rep.list r rv ev;subst e;exact wU pins s σ H _ us Q I rs ⟨a,vs,rfl,.inl ⟨q,jF h r t'⟩⟩
 ·obtain ⟨d,rfl,ev⟩:=map_one ea;obtain ⟨v,rfl,rv⟩:=bj t;cases dO ev;obtain ⟨a,vs,e,q,t'⟩:=id rv;subst e;exact wU pins s σ H _ us Q I rs ⟨a,vs,rfl,.inr ⟨q.sq,h.now r rv⟩⟩
 ·exact h.elim
noncomputable def zF(K:PF)(fz:Bool)(f:Lf):List V->Hp->VK->Prop:=λvs H Q=>∃F G ds,R K H F G/\Reps K H F ds vs/\cF f (ds.map (view G)) (λxs=>mk fz xs G (PV K H F Q))
theorem Ut(l:List Nat):∀(us:List Value),us.length=l.length->(∀(j:Nat)(v:Value),us[j]?=some v->∃(c:Nat)(u:Tok),l[j]?=some c/\v=Value.str ⟨#[c]⟩ u)->Vals (l.map λc=>V.str (tx [c])) us:=by
 induction l with
 |nil=>intro us h _;cases us with |nil=>exact .nil |cons _ _=>cases h
 |cons c l ih=>
  intro us h q;cases us with
  |nil=>cases h
  |cons u us=>
   obtain ⟨c',t,e1,e2⟩:=q 0 u (by simp);have e1:c=c':=by simpa using e1
   subst e1;exact .cons ⟨t,e2⟩ (ih us (by simpa using h) λj v hv=>by simpa using q (j+1) v (by simpa using hv))
theorem Uu (hc:X.calm=true):bD X (.type "list") (λxs H Q=>∃l:List Nat,xs=[.str (tx l)]/\l.length<=sizeLine/\∀p,H p=none->Q (.ref p) (upd H p (.lst (l.map λc=>V.str (tx [c]))))):=by
 intro pins s σ H xs us Q I r h;obtain ⟨l,rfl,hz,q⟩:=h;obtain ⟨u,rfl,t,rfl⟩:=vals1 r;have hz':(tx l).cps.size<=sizeLine:=by simpa using hz
 refine call_list_str (hn:=hz') (I.ok.hd hc) (tx l) t λh' tk acc' c' kp e hi=>?_;have hv:Vals (l.map λc=>V.str (tx [c])) acc'.toList:=by
  refine Ut l _ ?_ λj v hv=>?_
  ·rw[bn,hi.1];simp
  ·obtain ⟨c,u,e1,e2⟩:=hi.2 j v (by rw[<-eW];exact hv);exact ⟨c,u,by simpa using e1,e2⟩
 exact ⟨.ref s.heap.objs.size,_,I.laid (t':=tk) kp (av _) (show ObjOk X.prog X.w _ h' _ (.lst _) from ⟨by rw[ax];exact hz,acc'.toList,c',hv,by rw[Array.toArray_toList];exact e⟩),rfl,q _ (I.hok.fresh (av _))⟩
theorem ug{K:PF}{H:Hp}{F:FZ}:∀l:List Nat,Reps K H F (l.map λc=>D.str [c]) (l.map λc=>V.str (tx [c]))
 |[]=>rfl
 |c::l=>⟨_,_,rfl,⟨rfl,by show 1<=sz;decide⟩,ug l⟩
theorem Uv (hc:X.calm=true) (fz:Bool):bD X (.type "list") (zF X.K fz .list):=by
 intro pins s σ H xs us Q I rs h;obtain ⟨F,G,ds,r,t,h⟩:=h;generalize ea:ds.map (view G)=va at h;simp only[cF,rH]at h;split at h
 ·obtain ⟨d,rfl,ev⟩:=map_one ea;obtain ⟨v,rfl,rv⟩:=bj t;obtain ⟨a,vs,e,q,t'⟩:=Rep.list r rv ev;subst e;exact wR pins s σ H _ us Q I rs ⟨a,vs,rfl,.inl q,cZ h r t'⟩
 ·obtain ⟨d,rfl,ev⟩:=map_one ea;obtain ⟨v,rfl,rv⟩:=bj t;cases dO ev;obtain ⟨a,vs,e,q,t'⟩:=id rv;subst e;exact wR pins s σ H _ us Q I rs ⟨a,vs,rfl,.inr q.sq,cZ h r t'⟩
 ·obtain ⟨d,rfl,ev⟩:=map_one ea;obtain ⟨v,rfl,rv⟩:=bj t;cases dR ev;obtain ⟨e,hl⟩:=rv;subst e;exact Uu hc pins s σ H _ us Q I rs ⟨_,rfl,cz hl,cZ h r (ug _)⟩
 ·exact h.elim
theorem uh{K:PF}{H:Hp}{F:FZ}:∀{ds:List D}{vs:List V}{ls:List (List Nat)},aW ds=some ls->Reps K H F ds vs->vs=(ls.map tx).map V.str
 |[],_,bs,e,h=>by
  simp only[aW,ba]at e;subst e;exact h
 |d::ds,_,bs,e,⟨v,w,e1,h,t⟩=>by
  cases d with
  |str b=>
   simp only[aW]at e;cases q:aW ds with
   |none=>rw[q]at e;cases e
   |some s=>
    rw[q]at e;cases e;obtain ⟨hv,_⟩:=h;rw[e1,hv,uh q t];rfl
  |_=>simp[aW]at e
theorem Uw:bootBuiltins "sorted"=some (.builtin "sorted"):=by ac_rfl
theorem zG:∀{ls:List (List Nat)}{its:List Value},Vals ((ls.map tx).map V.str) its->StrsAre its (ls.map tx)
 |[],its,h=>by cases h;exact .nil
 |n::ns,its,h=>by
  cases h with
  |cons a b=>
   obtain ⟨t,rfl⟩:=a;exact .cons _ t (zG b)
theorem zH:∀{ss:List Str}{its:List Value},StrsAre its ss->Vals (ss.map V.str) its
 |_,_,.nil=>.nil
 |_,_,.cons y t h=>.cons ⟨t,rfl⟩ (zH h)
theorem Ux{ss:List Str}{ls:List (List Nat)}(h:ss.Perm (ls.map tx)):∃ls':List (List Nat),ss=ls'.map tx/\ls'.Perm ls:=by
 refine ⟨ss.map λs=>s.cps.toList,?_,?_⟩
 ·rw[eJ];refine (List.map_id ss).symm.trans (gT λs _=>?_);show s=tx s.cps.toList;exact qP s
 ·have:=h.map λs=>s.cps.toList;rw[eJ]at this;have e:(λs:Str=>s.cps.toList)∘tx=id:=by funext l;rfl
  rw[e,List.map_id]at this;exact this
theorem txe{a b:List Nat}(h:tx a=tx b):a=b:=d6 (λs:Str=>s.cps.toList) h
theorem Uy(ks:List (List Nat))(k:List Nat):putK (ks.map tx) (tx k)=(putN ks k).map tx:=by
 unfold putK putN;by_cases h:k∈ks
 ·rw[if_pos h,if_pos (List.mem_map_of_mem h)]
 ·rw[if_neg h,if_neg (λz=>by obtain ⟨y,hy,e⟩:=cy.mp z;exact h (txe e ▸ hy)),List.map_append];rfl
def jJ(X:Cx)(l:Addr)(ks:List (List Nat)):HO:=.ext λh=>SetL X.prog X.w h l (ks.map tx) (!bK X.w)
theorem zJ:∀(ls ks:List (List Nat))(y:List Nat),y∈ls.foldl putN ks->y∈ks\/y∈ls
 |[],ks,y,h=>.inl h
 |x::ls,ks,y,h=>by
  rcases zJ ls (putN ks x) y h with z |z
  ·unfold putN at z;split at z
   ·exact .inl z
   ·rcases cf.mp z with z |z
    ·exact .inl z
    ·exact .inr (by rw[a8.mp z];exact aT)
  ·exact .inr (bo _ z)
theorem um(ls:List (List Nat)){y:List Nat}(h:y∈bF ls):y∈ls:=by
 rcases zJ ls [] y h with z |z
 ·cases z
 ·exact z
theorem Uz(ls:List (List Nat)):met (λi=>tx (ls.getD i [])) ls.length=(bF ls).map tx:=by
 have go:∀n,n<=ls.length->met (λi=>tx (ls.getD i [])) n=(bF (ls.take n)).map tx:=by
  intro n;induction n with
  |zero=>intro _;rfl
  |succ n ih=>
   intro hn;have hlt:n < ls.length:=hn;rw[q8,ih (Nat.le_of_succ_le hn),Uy,List.take_succ_eq_append_getElem hlt];unfold bF;rw[List.foldl_append];show _=(putN _ ls[n]).map tx;rw[eL,a9 hlt];rfl
 have:=go ls.length (av _);rw[gI]at this;exact this
theorem UG (hc:X.calm=true):bD X (.type "set") (λxs H Q=>∃(p:Addr) (ls:List (List Nat)),xs=[.ref p]/\SqL X.K H p ((ls.map tx).map V.str)/\ls.length<=1000/\∀l,H l=none->Q (.ref l) (upd H l (jJ X l (bF ls)))):=by
 intro pins s σ H xs us Q I r h;obtain ⟨p,ls,rfl,hq,hz,q⟩:=h;obtain ⟨u,rfl,ru⟩:=vals1 r;cases ru;obtain ⟨its,rv,pl,_⟩:=I.list hq;have hlen:its.length=ls.length:=by rw[<-rv.length];simp
 have hsa:=zG rv;refine Sw (val:=λi=>tx (ls.getD i [])) (I.ok.hd hc) pl.isList (λi v e=>?_) (by rw[aw];unfold scanBound;omega) λh' tk hS hk=>?_
 ·have hi:i < its.length:=by
   rcases Nat.lt_or_ge i its.length with z |z
   ·exact z
   ·rw[ib,dn z]at e;cases e
  have e2:its[i]?=some v:=by rw[ib]at e;exact e
  obtain ⟨x,t,rfl⟩:=hsa.all v (bv e2);have e3:=d6 (·[i]?) hsa.strs;simp only[ce,e2]at e3;rw[a9 (by omega)]at e3;refine ⟨t,?_⟩;rw[eL,a9 (by omega)];have e4:x=tx (ls[i]'(by omega)):=bP e3;rw[e4];rfl
 ·have ez:its.toArray.size=ls.length:=by rw[aw];exact hlen
  rw[ez,Uz]at hS;obtain ⟨es,ep,t,ho,rest⟩:=hS;refine ⟨.ref s.heap.objs.size,_,I.laid (t':=tk) (λb o e=>hk b o (ay e) e) (av _) (show ObjOk X.prog X.w _ _ _ (jJ X s.heap.objs.size (bF ls)) from ⟨⟨es,ep,t,ho,rest⟩,⟨_,ho⟩,λh1 h2 z k=>?_⟩),rfl,q _ (I.hok.fresh (av _))⟩;obtain ⟨es1,ep1,t1,ho1,rest1⟩:=z;exact ⟨es1,ep1,t1,k _ ho1,rest1⟩
theorem UJ{pins:List (Addr×Obj)}{σ:L2.St}{H:Hp}{s:Shared}{d:Drawn}(I:L2.Inv X pins σ H s):L2.Inv X pins σ H { s with drawn:=d }:=by cases I;constructor <;> assumption
theorem UL (hc:X.calm=true):bD X (.builtin "sorted") (λxs H Q=>∃(p:Addr) (ks:List (List Nat)),xs=[.ref p]/\H p=some (jJ X p ks)/\ks.length<=64/\∀ls':List (List Nat),ls'.Perm ks->∀l,H l=none->Q (.ref l) (upd H l (.lst ((ls'.map tx).map V.str)))):=by
 intro pins s σ H xs us Q I r h;obtain ⟨p,ks,rfl,hq,h64,q⟩:=h;obtain ⟨u,rfl,ru⟩:=vals1 r;cases ru;have hS:=(show ObjOk X.prog X.w H s.heap p (jJ X p ks) from I.hok p _ hq).1;refine Tu (I.ok.hd hc) hS (by rw[ax];exact h64) λh1 h' d tk e out ss' a1 a2 _ k1 k2 htk he=>?_;obtain ⟨ls',rfl,pm⟩:=Ux a2;have hsz:((ls'.map tx).map V.str).length<=sizeLine:=by rw[ax,ax,pm.length_eq];exact cw h64 (by decide)
 have I1:Inv X pins σ H { s with heap:=h1,drawn:=d,toks:=tk }:=UJ (I.kept (t':=tk) k1);exact ⟨.ref h1.objs.size,_,I1.laid k2 (av _) (show ObjOk X.prog X.w _ _ _ (.lst ((ls'.map tx).map V.str)) from ⟨hsz,out.toList,e,zH a1,by rw[Array.toArray_toList];exact he⟩),rfl,q ls' pm _ (I1.hok.fresh (av _))⟩
theorem zK{K:PF}{H:Hp}{F:FZ}:∀{ls:List (List Nat)},(∀l∈ls,l.length<=sz)->Reps K H F (ls.map D.str) ((ls.map tx).map V.str)
 |[],_=>rfl
 |l::ls,h=>⟨_,_,rfl,⟨rfl,h l aT⟩,zK λx hx=>h x (bo _ hx)⟩
theorem zL{K:PF}{H:Hp}{F:FZ}:∀{ds:List D}{vs:List V}{ls:List (List Nat)},aW ds=some ls->Reps K H F ds vs->∀l∈ls,l.length<=sz
 |[],vs,ls,e,t=>by simp only[aW,ba]at e;subst e;intro l hl;cases hl
 |d::ds,vs,ls,e,t=>by
  obtain ⟨v,r,e1,h,t⟩:=t;cases d with
  |str b=>
   simp only[aW]at e;cases q:aW ds with
   |none=>rw[q]at e;cases e
   |some s=>
    rw[q]at e;cases e;intro l hl;rcases bb.mp hl with e |hl
    ·rw[e];exact h.2
    ·exact zL q t l hl
  |_=>simp[aW]at e
theorem abf{ds:List D}{ls:List (List Nat)}(h0:dU ds=none)(h1:aW ds=some ls):ls≠[]:=by
 rintro rfl;cases ds with
 |nil=>simp[dU]at h0
 |cons x y=>cases x <;> simp only[aW]at h1 <;> first | (cases h1;done) | (cases hd:aW y <;> rw[hd]at h1 <;> cases h1)
theorem UT:bD X (.type "str") (iR X.K .str):=by
 intro pins s σ H xs us Q I r h;obtain ⟨F,G,ds,rr,t,h⟩:=h;generalize ea:ds.map (view G)=va at h;simp only[opB,rG]at h;split at h
 ·rename_i i;obtain ⟨d',rfl,ev⟩:=map_one ea;obtain ⟨v',rfl,rv⟩:=bj t;have e1:=cL ev;subst e1;have e2:v'=.int i:=rv;subst e2;obtain ⟨⟨h0,h1⟩,h2⟩:=h;have hm:(i.toNat:Int)=i:=Int.toNat_of_nonneg h0;have hl:(fV i.toNat).length<=3:=by
   have:=digits_le ⟨i.toNat,by omega⟩;unfold fV;rw[bn];exact this
  have hs:=h2.now rr (v:=.str (tx (fV i.toNat))) ⟨rfl,by have hz:sz=1000000:=rfl;omega⟩;have ht:tx (fV i.toNat)=qU i.toNat:=(qP _).symm;rw[ht]at hs;exact Rc pins s σ H _ us Q I r ⟨i.toNat,by rw[hm],by omega,hs⟩
 ·exact h.elim
noncomputable def cO:D->Option String
 |.non=>some "NoneType"
 |.bl _=>some "bool"
 |.int _=>some "int"
 |.str _=>some "str"
 |.tup _=>some "tuple"
 |.lst _=>some "list"
 |_=>none
theorem UV{K:PF}{H:Hp}{F:FZ}{G:DH}{d:D}{v:V}{T:String}(r:R K H F G)(h:Rep K H F d v)(e:cO (view G d)=some T):TyOf K H v (.type T):=by
 have h':=o9 r h;generalize view G d=w at e h';cases w with
 |non=>have e1:v=.non:=h';subst e1;simp only[cO,ba]at e;subst e;exact .non
 |bl x=>have e1:v=.bl x:=h';subst e1;simp only[cO,ba]at e;subst e;exact .bl x
 |int i=>have e1:v=.int i:=h';subst e1;simp only[cO,ba]at e;subst e;exact .int i
 |str l=>obtain ⟨e1,hl⟩:=h';subst e1;simp only[cO,ba]at e;subst e;exact .str _
 |tup l=>obtain ⟨a,vs,e1,q,t⟩:=h';subst e1;simp only[cO,ba]at e;subst e;exact .tup q.it
 |lst l=>obtain ⟨a,vs,e1,q,t⟩:=h';subst e1;simp only[cO,ba]at e;subst e;exact .lst q.2
 |ref a=>simp[cO]at e
 |scr a=>simp[cO]at e
 |exn a=>simp[cO]at e
 |exa _ _ _=>simp[cO]at e
 |obj _ _ _=>simp[cO]at e
def UW (K:PF):Prop:=∀T t:String,T∈["NoneType","bool","int","str","tuple","list"]->eX t=true->PySem.W.kitOne K (.type T) (.type t)=some (T==t||(T=="bool"&&t=="int"))
theorem U0{K:PF}:UW K:=by intro T t hT ht;simp only[bb,e9,or_false]at hT;simp only[eX,df,aE]at ht;rcases hT with rfl |rfl |rfl |rfl |rfl |rfl <;> rcases ht with (((rfl |rfl) |rfl) |rfl) |rfl <;> (with_unfolding_all rfl)
theorem U3 {d:D} {t:String} {b:Bool} (e:isT t d=some b):∃T,cO d=some T/\T∈["NoneType","bool","int","str","tuple","list"]/\(eX t=true->b=(T==t||(T=="bool"&&t=="int"))):=by
 have comm:∀a b:String,(a==b)=(b==a):=λa b=>by rw[gu,aE,aE];exact ⟨Eq.symm,Eq.symm⟩
 cases d with
 |non=>
  refine ⟨"NoneType",rfl,by simp,λht=>?_⟩;simp only[isT,ba]at e;simp only[eX,df,aE]at ht;subst e;rcases ht with (((rfl |rfl) |rfl) |rfl) |rfl <;> rfl
 |bl _=>
  refine ⟨"bool",rfl,by simp,λht=>?_⟩;simp only[isT,ba]at e;rw[<-e,comm t "bool"];rfl
 |int _=>
  refine ⟨"int",rfl,by simp,λht=>?_⟩;simp only[isT,ba]at e;rw[<-e,comm t "int"];simp
 |str _=>
  refine ⟨"str",rfl,by simp,λht=>?_⟩;simp only[isT,ba]at e;rw[<-e,comm t "str"];simp
 |tup _=>
  refine ⟨"tuple",rfl,by simp,λht=>?_⟩;simp only[isT,ba]at e;rw[<-e,comm t "tuple"];simp
 |lst _=>
  refine ⟨"list",rfl,by simp,λht=>?_⟩;simp only[isT,ba]at e;rw[<-e,comm t "list"];simp
 |ref a=>simp[isT]at e
 |scr a=>simp[isT]at e
 |exn a=>simp[isT]at e
 |exa _ _ _=>simp[isT]at e
 |obj _ _ _=>simp[isT]at e
theorem zM(s:List Nat):∀ls:List (List Nat),Str.join (tx s) (ls.map tx)=tx (dz s ls)
 |[]=>rfl
 |[x]=>rfl
 |x::y::r=>by
  have ih:=zM s (y::r);show tx x++tx s++Str.join (tx s) ((y::r).map tx)=_;rw[ih,qO,qO];rfl
theorem zN(s:List Nat):∀ls:List (List Nat),(dz s ls).length<=(ls.map (·.length)).sum+ls.length * s.length
 |[]=>by simp[dz]
 |[x]=>by simp[dz]
 |x::y::r=>by
  have ih:=zN s (y::r);simp only[dz,bd,dy,List.sum_cons,c6]at ih ⊢;have:(r.length+1+1) * s.length=(r.length+1) * s.length+s.length:=by rw[Nat.succ_mul]
  omega
noncomputable def fj(K:PF)(m:Mf):V->List V->Hp->VK->Prop:=λx vs H Q=>∃F G d ds,R K H F G/\Rep K H F d x/\Reps K H F ds vs/\opM m d ds G (PV K H F Q)
theorem U4:MtR X "str.join" (fj X.K .join):=by
 intro pins s σ H x xs v us Q I rx rs h;obtain ⟨F,G,d,ds,r,rd,t,h⟩:=h;simp only[opM]at h;generalize ea:ds.map (view G)=va at h;simp only[mK]at h;split at h
 ·obtain ⟨d',rfl,ev⟩:=map_one ea;obtain ⟨v',rfl,rv⟩:=bj t;obtain ⟨a,vs,e,q,t'⟩:=Rep.list r rv ev;subst e;obtain ⟨e1,hl⟩:=rd;subst e1;split at h
  ·rename_i ls hls;have e2:=uh hls t';subst e2;refine QB pins s σ H _ _ v us Q I rx rs ⟨_,a,_,rfl,rfl,q,?_,?_⟩
   ·have hz:=h.1;rw[eJ,ax,bQ,show (λx:Str=>x.length)∘tx=λl=>l.length from funext bQ];have:sz=1000000:=rfl;omega
   ·rw[zM];exact h.2.now r ⟨rfl,cw (zN _ _) h.1⟩
  ·exact h.elim
 ·exact h.elim
theorem U5{l:List Nat}{c i:Nat}(h1:i+(tx [c]).length<=(tx l).length)(h:PySem.Builtin.Str.strSub (tx l) i (i+(tx [c]).length)=tx [c]):l[i]?=some c:=by
 have e:(⟨(tx l).cps.extract i (i+1)⟩:Str)=⟨#[c]⟩:=h;have e2:(tx l).cps.extract i (i+1)=#[c]:=d6 Str.cps e;have h1':i+1<=l.length:=by have:=h1;rw[bQ,bQ]at this;exact this
 have e3:((tx l).cps.extract i (i+1)).toList=[c]:=d6 Array.toList e2;rw[dv]at e3;have e4:(tx l).cps.toList=l:=rfl;rw[e4]at e3;have e5:=d6 (·[0]?) e3;simpa [List.extract,List.getElem?_take,List.getElem?_drop] using e5
theorem m_find:MtR X "str.find" (fj X.K .find):=by
 intro pins s σ H x xs v us Q I rx rs h;obtain ⟨F,G,d,ds,r,rd,t,h⟩:=h;simp only[opM,rK]at h;split at h
 ·rename_i l c;obtain ⟨v',rfl,rv⟩:=bj t;obtain ⟨e1,_⟩:=rd;subst e1;obtain ⟨e2,_⟩:=rv;subst e2;obtain ⟨tt,rfl⟩:=rx;obtain ⟨u,rfl,ru⟩:=vals1 rs;obtain ⟨tu,rfl⟩:=ru;refine SC.find ?_;rcases find_spec (tx l) (tx [c]) with e |⟨i,e,hl,hs⟩
  ·rw[e];exact ⟨.int (-1),H,I.tok _,⟨_,rfl⟩,h.1.now r rfl⟩
  ·rw[e];exact ⟨.int i,H,I.tok _,⟨_,rfl⟩,(h.2 i (U5 hl hs)).now r rfl⟩
 ·exact h.elim
theorem zO:∀(ls:List (Str×Tok))(ps:List (List Nat)),(ls.map (·.1))=ps.map tx->Vals (ps.map λp=>V.str (tx p)) (strValues ls)
 |[],[],_=>.nil
 |[],_::_,h=>nomatch h
 |_::_,[],h=>nomatch h
 | (a,t)::ls,p::ps,h=>by
  have h1:a=tx p:=(List.cons.inj h).1;have h2:ls.map (·.1)=ps.map tx:=(List.cons.inj h).2;subst h1;exact .cons ⟨t,rfl⟩ (zO ls ps h2)
theorem zP{K:PF}{H:Hp}{F:FZ}:∀(ps:List (List Nat)),(∀p∈ps,p.length<=sz)->Reps K H F (ps.map D.str) (ps.map λp=>V.str (tx p))
 |[],_=>rfl
 |p::ps,h=>⟨_,_,rfl,⟨rfl,h p (aT ..)⟩,zP ps λq hq=>h q (bo _ hq)⟩
theorem m_split:MtR X "str.split" (fj X.K .split):=by
 intro pins s σ H x xs v us Q I rx rs h;obtain ⟨F,G,d,ds,r,rd,t,h⟩:=h;simp only[opM,rM]at h;split at h
 ·rename_i l c;obtain ⟨v',rfl,rv⟩:=bj t;obtain ⟨e1,_⟩:=rd;subst e1;obtain ⟨e2,_⟩:=rv;subst e2;obtain ⟨tt,rfl⟩:=rx;obtain ⟨u,rfl,ru⟩:=vals1 rs;obtain ⟨tu,rfl⟩:=ru;have hl:(tx l).length+2<=sizeLine:=by rw[bQ];exact cz h.1.2
  refine PySem.call_split rfl hl λls tk e=>?_;have hv:=zO ls (bh c l) (e.trans (RQ l c h.1.1));have hn:((bh c l).map λp=>V.str (tx p)).length<=sizeLine:=by rw[ax];have:=xX c l;have:=h.1.2;exact cz (by omega)
  exact ⟨.ref s.heap.objs.size,_,I.laid (t':=tk) (λb o e=>ah _ e) (av _) (show ObjOk X.prog X.w _ _ _ (.lst _) from ⟨hn,strValues ls,0,hv,aI _ rfl⟩),rfl,
   cZ (fz:=true) h.2 r (zP _ λp hp=>by have:=split_len c l p hp;have:=h.1.2;omega) _ (I.hok.fresh (av _))⟩
 ·exact h.elim
theorem U6:MtM X "list.append" (fj X.K .append):=by
 intro pins s σ H x xs v us Q I rx rs h;obtain ⟨F,G,d,ds,r,rd,t,h⟩:=h;simp only[opM,mL]at h;split at h
 ·obtain ⟨v',rfl,rv⟩:=bj t;have e1:x=.ref _:=rd;subst e1;split at h
  ·rename_i ds0 hg;obtain ⟨vs,q,t'⟩:=r.lst hg;refine Ql pins s σ H _ _ v us Q I rx rs ⟨_,vs,v',rfl,rfl,q,?_,?_⟩
   ·rw[<-t'.length];exact bp h.1 szl
   ·exact h.2 _ _ _ (gD r hg) (r.write hg (t'.append (Reps.cons rv Reps.nil))) rfl
  ·exact h.elim
 ·exact h.elim
theorem U7:MtR X "list.count" (fj X.K .count):=by
 intro pins s σ H x xs v us Q I rx rs h;obtain ⟨F,G,d,ds,r,rd,t,h⟩:=h;simp only[opM]at h;generalize ea:view G d=va at h;simp only[mR]at h;split at h
 ·obtain ⟨a,vs,e,q,t'⟩:=Rep.list r rd ea;subst e;obtain ⟨v',rfl,rv⟩:=bj t;have e2:v'=.bl true:=rv;subst e2;split at h
  ·rename_i bs hbs;have e3:=ph hbs t';subst e3;exact Q7 pins s σ H _ _ v us Q I rx rs ⟨a,bs,rfl,rfl,q,h.now r rfl⟩
  ·exact h.elim
 ·exact h.elim
theorem U8:MtR X "list.index" (fj X.K .index):=by
 intro pins s σ H x xs v us Q I rx rs h;obtain ⟨F,G,d,ds,r,rd,t,h⟩:=h;simp only[opM]at h;generalize ea:view G d=va at h;simp only[mU]at h;split at h
 ·obtain ⟨a,vs,e,q,t'⟩:=Rep.list r rd ea;subst e;obtain ⟨v',rfl,rv⟩:=bj t;have e2:v'=.bl true:=rv;subst e2;split at h
  ·rename_i bs hbs;have e3:=ph hbs t';subst e3;exact Q9 pins s σ H _ _ v us Q I rx rs ⟨a,bs,rfl,rfl,q,h.1,h.2.now r rfl⟩
  ·exact h.elim
 ·exact h.elim
noncomputable def U9:V->List V->Hp->VK->Prop:=λx vs H Q=>∃(l:Addr)(xs:List V)(i:Int)(y:V),x=.ref l/\vs=[.int i,y]/\H l=some (.lst xs)/\xs.length < sizeLine/\0<=i/\i<=1000000/\Q .non (upd H l (.lst (xs.take i.toNat++y::xs.drop i.toNat)))
theorem Va{its:List Value}{i:Int}{u:Value}(h:0<=i):(its.toArray.extract 0 (if i < 0 then (i+(its.toArray.size:Int)).toNat else min i.toNat its.toArray.size)).push u++its.toArray.extract (if i < 0 then (i+(its.toArray.size:Int)).toNat else min i.toNat its.toArray.size)=(its.take i.toNat++u::its.drop i.toNat).toArray:=by
 rw[if_neg (by omega),PySem.W.kl_ins_eq,aw];by_cases hc:i.toNat<=its.length
 ·rw[Nat.min_eq_left hc]
 ·rw[Nat.min_eq_right (by omega),eI (av _),List.drop_of_length_le (av _),eI (by omega),List.drop_of_length_le (by omega)]
theorem Vb{i:Int}(h0:0<=i)(h1:i<=1000000):¬(!Builtin.List.listFitsIndex i)=true:=by
 have:Builtin.List.listFitsIndex i=true:=by unfold Builtin.List.listFitsIndex;rw[af];exact ⟨fe (by omega),fe (by omega)⟩
 rw[this];decide
theorem Vc:MtM X "list.insert" U9:=by
 intro pins s σ H x vs v us Q I rx rv h;obtain ⟨l,xs,i,y,rfl,rfl,hH,hz,h0,h1,q⟩:=h;cases rx;cases rv with
 |cons r1 rv=>
  obtain ⟨t,rfl⟩:=r1;obtain ⟨u,rfl,ru⟩:=L2.Vals.one rv;obtain ⟨z,its,m,r,hl,e⟩:=I.lstM hH;refine gV PySem.F.slot_list_insert ⟨_,e,rfl⟩ PySem.F.entry_list_insert (PySem.F.args_list_insert_3 _ _ _) (PySem.AutoSeq1.list_insert_list_int_val_1 l its.toArray m i t u (Vb h0 h1) (by rw[aw];omega)) ⟨e,?_⟩;refine ⟨.non,_,I.lset (its':=its.take i.toNat++u::its.drop i.toNat) hH e (Va h0) ((r.take _).append (.cons ru (r.drop _))) ?_,rfl,q⟩;rw[bd,c6,c9,dA];omega
theorem Vd:MtM X "list.insert" (fj X.K .insert):=by
 intro pins s σ H x xs v us Q I rx rs h;obtain ⟨F,G,d,ds,r,rd,t,h⟩:=h;simp only[opM,mQ]at h;split at h
 ·rename_i i y;obtain ⟨v1,r1,rfl,rv1,t⟩:=t;obtain ⟨v',rfl,rv⟩:=bj t;have e1:x=.ref _:=rd;subst e1;have e2:v1=.int i:=rv1;subst e2;split at h
  ·rename_i ds0 hg;obtain ⟨h1,h2,h3,h4⟩:=h;obtain ⟨vs,q,t'⟩:=r.lst hg;refine Vc pins s σ H _ _ v us Q I rx rs ⟨_,vs,i,v',rfl,rfl,q,?_,h2,h3,?_⟩
   ·rw[<-t'.length];exact bp h1 szl
   ·exact h4 _ _ _ (gD r hg) (r.write hg ((t'.take _).append (Reps.cons rv (t'.drop _)))) rfl
  ·exact h.elim
 ·exact h.elim
theorem Ve:MtM X "list.pop" (fj X.K .pop):=by
 intro pins s σ H x xs v us Q I rx rs h;obtain ⟨F,G,d,ds,r,rd,t,h⟩:=h;simp only[opM,rJ]at h;split at h
 ·rename_i i;obtain ⟨v',rfl,rv⟩:=bj t;have e1:x=.ref _:=rd;subst e1;have e2:v'=.int i:=rv;subst e2;split at h
  ·rename_i ds0 hg;obtain ⟨h1,h2,h3⟩:=h;obtain ⟨vs,q,t'⟩:=r.lst hg;split at h3
   ·rename_i y hy;obtain ⟨u,hu,ru⟩:=t'.get hy;have hlt:i.toNat < vs.length:=(a7.mp hu).1;refine Qp pins s σ H _ _ v us Q I rx rs ⟨_,vs,i,i.toNat,u,rfl,rfl,q,by omega,by omega,?_,hu,?_⟩
    ·unfold seqIndex?;have e3:¬i < 0:=by omega
     simp[e3];omega
    ·rw[List.eraseIdx_eq_take_drop_succ];rw[List.eraseIdx_eq_take_drop_succ]at h3;have rw2:=r.write hg ((t'.take i.toNat).append (t'.drop (i.toNat+1)));exact h3 _ _ _ (gD r hg) rw2 (Rep.ext (gD r hg) ru)
   ·exact h3.elim
  ·exact h.elim
 ·exact h.elim
theorem Vf{K:PF}{H:Hp}{F:FZ}{G:DH}{d:D}{v:V}{ds:List D}(r:R K H F G)(h:Rep K H F d v)(e:view G d=.lst ds):∃a vs,v=.ref a/\H a=some (.lst vs)/\Reps K H F ds vs:=by
 cases d with
 |lst xs=>
  have e':D.lst xs=.lst ds:=e;cases e';obtain ⟨a,vs,e1,q,t⟩:=h;exact ⟨a,vs,e1,q.2,t⟩
 |ref p=>
  have hv:v=.ref p:=h;unfold view at e;cases g:G p with
  |none=>simp only[g]at e;cases e
  |some o=>
   cases o with
   |lst xs=>
    simp only[g]at e;cases e;obtain ⟨vs,q,t⟩:=r.lst g;exact ⟨p,vs,hv,q,t⟩
 |_=>cases (show _=D.lst ds from e)
theorem Vg:MtM X "list.extend" (fj X.K .extend):=by
 intro pins s σ H x xs v us Q I rx rs h;obtain ⟨F,G,d,ds,r,rd,t,h⟩:=h;simp only[opM]at h;generalize ea:ds.map (view G)=va at h;simp only[mO]at h;split at h
 ·obtain ⟨d',rfl,ev⟩:=map_one ea;obtain ⟨v',rfl,rv⟩:=bj t;obtain ⟨b,vs2,e2,q2,t2⟩:=Vf r rv ev;subst e2;have e1:x=.ref _:=rd;subst e1;split at h
  ·rename_i ds0 hg;obtain ⟨vs,q,t'⟩:=r.lst hg;refine Qn pins s σ H _ _ v us Q I rx rs ⟨_,b,vs,vs2,rfl,rfl,q,q2,?_,?_⟩
   ·rw[<-t'.length,<-t2.length];exact Nat.le_of_lt (bp h.1 szl)
   ·exact h.2 _ _ _ (gD r hg) (r.write hg (t'.append t2)) rfl
  ·exact h.elim
 ·exact h.elim
theorem Vh:qz X (λo i x H Q=>∃F G a b c,R X.K H F G/\Rep X.K H F a o/\Rep X.K H F b i/\Rep X.K H F c x/\dB a b c G (λG'=>∀H' F',Ext H F H' F'->R X.K H' F' G'->Q H')):=by
 intro pins s σ H o i v ov iv u Q I ro ri rv h;obtain ⟨F,G,a,b,c,r,ra,rb,rc,h⟩:=h;unfold dB at h;split at h
 ·have e1:o=.ref _:=ra;have e2:i=.int _:=rb;subst e1;subst e2;split at h
  ·rename_i ds hg;obtain ⟨vs,q,t⟩:=r.lst hg;split at h
   ·rename_i j hj;refine set_list pins s σ H _ _ v ov iv u Q I ro ri rv ⟨_,vs,_,j,rfl,rfl,q,by rw[<-t.length];exact hj,?_⟩;exact h _ _ (gD r hg) (r.write hg (t.set rc j))
   ·exact h.elim
  ·exact h.elim
 ·exact h.elim
end
inductive SK where
 |lst (a:Addr) |tup (a:Addr) |str (x:Str) (t:Tok)
def SK.val:SK->Value
 |.lst a=>.ref a
 |.tup a=>.ref a
 |.str x t=>.str x t
def SK.cls:SK->String
 |.lst _=>"list_iterator"
 |.tup _=>"tuple_iterator"
 |.str x _=>strIterType x
def SK.obj(k:SK):Obj:={ cls:=.type k.cls,data:=.fields #[k.val,.int 0 0] }
def SK.pos(k:SK)(it:Addr)(i:Nat)(h:Heap):Prop:=∃o,h.get? it=some o/\o.cls=.type k.cls/\o.data=.fields #[k.val,.int i 0]
def SK.Sat(H:Hp)(vs:List V):SK->Prop
 |.lst a=>H a=some (.lst vs)
 |.tup a=>H a=some (.tup vs)
 |.str x _=>vs=x.cps.toList.map λc=>V.str ⟨#[c]⟩
def SK.No(e:Addr):SK->Prop
 |.lst a=>a≠e
 |.tup a=>a≠e
 |.str _ _=>True
theorem SK.Sat.no{H:Hp}{vs:List V}{k:SK}{e:Addr}(h:k.Sat H vs)(he:H e=none):k.No e:=by
 cases k with
 |lst a=>exact aV (show H a=some _ from h) he
 |tup a=>exact aV (show H a=some _ from h) he
 |str x t=>trivial
def SK.On(its:Array Value)(h:Heap):SK->Prop
 |.lst a=>h.IsList a its
 |.tup a=>h.IsTuple a its
 |.str _ _=>True
theorem SK.On.keeps{its:Array Value}{h h':Heap}{k:SK}(x:k.On its h)(kk:∀b o,k.val=.ref b->h.get? b=some o->h'.get? b=some o):k.On its h':=by
 cases k with
 |lst a=>obtain ⟨o,e,r⟩:=x;exact ⟨o,kk a o rfl e,r⟩
 |tup a=>obtain ⟨o,e,r⟩:=x;exact ⟨o,kk a o rfl e,r⟩
 |str _ _=>trivial
section
variable {prog:Program} {w:World} {A:Around} {E:Value->Shared->Prop} {s:Shared}
theorem SK.iter{k:SK}{its:Array Value}{Q:Value->Shared->Prop}(h:k.On its s.heap)(q:Q (.ref s.heap.objs.size) { s with heap:=s.heap.push k.obj }):wpAny (model prog w) A (pyIter k.val) Q E s:=by
 cases k with
 |lst a=>exact wpAny_pyIter_list h q
 |tup a=>exact wpAny_pyIter_tuple h q
 |str x t=>exact wpAny_pyIter_strU q
theorem SK.pos0{k:SK}{h:Heap}:k.pos h.objs.size 0 (h.push k.obj):=⟨_,aI _ rfl,rfl,rfl⟩
theorem SK.pos.keep{k:SK}{it:Addr}{i:Nat}{h h':Heap}(x:k.pos it i h)(kk:∀o,h.get? it=some o->h'.get? it=some o):k.pos it i h':=let ⟨o,e,r⟩:=x;⟨o,kk o e,r⟩
theorem Vi{it t:Addr}{i:Nat}{items}{x:Value}{Q:Value->Shared->Prop}(hit:s.heap.IsTupleIter it t i)
  (ht:s.heap.IsTuple t items) (hx:items[i]?=some x)
  (hQ:∀h',h'.IsTupleIter it t (i+1)->Heap.SameBut it s.heap h'->Q x { s with heap:=h' }):
  wpAny (model prog w) A (Builtin.SmallTypes.nextOf (.ref it)) Q E s:=by
 obtain ⟨o,ho,hc,hd⟩:=id hit;obtain ⟨ol,hol,_,nl,hdl⟩:=ht;unfold Builtin.SmallTypes.nextOf;refine ae (fy (name:=Str.ofString "__next__") hit.typeIs gX
  (eA gX hit.typeIs F.entry_tuple_iterator_next ?_ (F.args_tuple_iterator_next_1 _)))
 show wpAny _ _ (field (.ref it) 0 >>= _) _ _ s;refine ae (dQ ho hd (x:=.ref t) rfl ?_);show wpAny _ _ (if (Value.ref t==Value.none)=true then _ else _) _ _ s;rw[if_neg (show ¬((Value.ref t==Value.none)=true) from br)];show wpAny _ _ (field (.ref it) 1 >>= _) _ _ s;refine ae (dQ ho hd (x:=.int i 0) rfl ?_);show wpAny _ _ (seqItems? (.ref t) >>= _) _ _ s;refine ae (eT hol hdl ?_);simp only[im,hx];refine ae (gt ho hd (by simp) (am ⟨x,rfl,am (hQ _ ?_ (b9 ..))⟩));exact ⟨_,gc _ ho (Obj.isFreed_of_fields (Obj.data_mapFields hd _)),(Obj.cls_mapFields ..).trans hc,by
  rw[Obj.data_mapFields hd];simp[rawInt]⟩
theorem Vj{it t:Addr}{i:Nat}{items}{Q:Value->Shared->Prop}(hh:A.handled=none)
  (hit:s.heap.IsTupleIter it t i) (ht:s.heap.IsTuple t items) (hx:items[i]?=none)
  (hE:∀h' e,Heap.ExtBut it s.heap h'->(∃o,h'.get? e=some o/\o.cls=.type "StopIteration")->E (.ref e) { s with heap:=h' }):
  wpAny (model prog w) A (Builtin.SmallTypes.nextOf (.ref it)) Q E s:=by
 obtain ⟨o,ho,hc,hd⟩:=id hit;obtain ⟨ol,hol,_,nl,hdl⟩:=ht;unfold Builtin.SmallTypes.nextOf;refine ae (fy (name:=Str.ofString "__next__") hit.typeIs gX
  (eA gX hit.typeIs F.entry_tuple_iterator_next ?_ (F.args_tuple_iterator_next_1 _)))
 show wpAny _ _ (field (.ref it) 0 >>= _) _ _ s;refine ae (dQ ho hd (x:=.ref t) rfl ?_);show wpAny _ _ (if (Value.ref t==Value.none)=true then _ else _) _ _ s;rw[if_neg (show ¬((Value.ref t==Value.none)=true) from br)];show wpAny _ _ (field (.ref it) 1 >>= _) _ _ s;refine ae (dQ ho hd (x:=.int i 0) rfl ?_);show wpAny _ _ (seqItems? (.ref t) >>= _) _ _ s;refine ae (eT hol hdl ?_);simp only[im,hx];refine ae (et (ae (gt ho hd (by simp) ?_)));show wpAny _ _ (newExc (.type "StopIteration") [] >>= _) _ _ _;refine ae ?_;simp only[newExc,newTuple];refine ae (fx ?_ (by size_fits));refine ae (m:=firstArgMember _ _) (wpAny_of_eq (a:=Value.none) (by first |rfl | (simp only[firstArgMember];rfl)) ?_);refine fx ?_ (by size_fits);simp only[raiseNew];refine ae (wpAny_handled ?_);first |rw[show A.in1.handled=none from hh] |rw[hh]
 refine ae (am (wpAny_throw ?_));exact hE _ _ (((b9 ..).extBut.push _).push _) ⟨_,aI _ rfl,rfl⟩
theorem Vk(hh:A.handled=none)(it l:Addr)(hne:l≠it)(items:Array Value):
  Draws prog w A it [it,l] items.size (λi v=>items[i]?=some v) (λi h=>h.IsTupleIter it l i/\h.IsTuple l items) where
 live:=λ_ _ st=>let ⟨o,ho,_⟩:=st.1;⟨o,ho⟩
 frame:=λ_ _ _ st hk=>⟨let ⟨o,e,r⟩:=st.1;⟨o,hk it (by simp) o e,r⟩,let ⟨o,e,r⟩:=st.2;⟨o,hk l (by simp) o e,r⟩⟩
 item:=λi s Q E hi st hQ=>by
  refine Vi st.1 st.2 (x:=items[i]) (by simp[hi]) λh' hit' hs'=>?_;exact hQ _ h' s.toks (by simp[hi]) ⟨hit',let ⟨o,e,r⟩:=st.2;⟨o,hs'.extBut l o hne e,r⟩⟩ hs'
 done:=λs Q E st hE=>Vj hh st.1 st.2 (by simp) hE
end
structure Drawn(P:Program)(w:World)(A:Around)(k:SK)(it:Addr)(i:Nat)(vs:List V)(h:Heap)(fp:List Addr)(Pd:Nat->Value->Prop)(S:Nat->Heap->Prop):Prop where
 D:Draws P w A it fp vs.length Pd S
 st:S i h
 val:∀j v,Pd j v->∃x,vs[j]?=some x/\RelV x v
 pos:∀j h,S j h->k.pos it j h
 fp:∀b∈fp,b=it\/k.val=.ref b
theorem drawn{X:Cx}{pins:List (Addr×Obj)}{σ:L2.St}{H:Hp}{s:Shared}{A:Around}(hh:A.handled=none)(I:Inv X pins σ H s){k:SK}{it:Addr}{i:Nat}{vs:List V}(sat:k.Sat H vs)(hit:H it=none)(p:k.pos it i s.heap):
  ∃fp Pd S,Drawn X.prog X.w A k it i vs s.heap fp Pd S:=by
 cases k with
 |lst a=>
  have sat:H a=some (.lst vs):=sat;obtain ⟨its,r,pl,_⟩:=I.list (SqL.of sat);refine ⟨[it,a],λj v=>its.toArray[j]?=some v,λj h=>h.IsListIter it a j/\h.IsList a its.toArray,?_,⟨p,pl.isList⟩,?_,λj h st=>st.1,?_⟩
  ·have D:=Draws.list (prog:=X.prog) (w:=X.w) hh it a (aV sat hit) its.toArray;rw[aw,<-r.length]at D;exact D
  ·intro j v e;have e:its.toArray[j]?=some v:=e;have hj:j < vs.length:=by
    rw[r.length];have:=(Array.getElem?_eq_some_iff.mp e).1;simpa using this
   obtain ⟨u,e2,r2⟩:=r.get (show vs[j]?=some vs[j] by simp[hj]);refine ⟨vs[j],by simp[hj],?_⟩;have:its[j]?=some v:=by simpa using e
   rw[this]at e2;cases e2;exact r2
  ·intro b hb;have hb:b=it\/b=a:=by simpa using hb
   rcases hb with e |e
   ·exact .inl e
   ·exact .inr (by rw[e];rfl)
 |tup a=>
  have sat:H a=some (.tup vs):=sat;obtain ⟨its,r,pl,_⟩:=I.tuple (SqT.of sat);refine ⟨[it,a],λj v=>its.toArray[j]?=some v,λj h=>h.IsTupleIter it a j/\h.IsTuple a its.toArray,?_,⟨p,pl⟩,?_,λj h st=>st.1,?_⟩
  ·have D:=Vk (prog:=X.prog) (w:=X.w) hh it a (aV sat hit) its.toArray;rw[aw,<-r.length]at D;exact D
  ·intro j v e;have e:its.toArray[j]?=some v:=e;have hj:j < vs.length:=by
    rw[r.length];have:=(Array.getElem?_eq_some_iff.mp e).1;simpa using this
   obtain ⟨u,e2,r2⟩:=r.get (show vs[j]?=some vs[j] by simp[hj]);refine ⟨vs[j],by simp[hj],?_⟩;have:its[j]?=some v:=by simpa using e
   rw[this]at e2;cases e2;exact r2
  ·intro b hb;have hb:b=it\/b=a:=by simpa using hb
   rcases hb with e |e
   ·exact .inl e
   ·exact .inr (by rw[e];rfl)
 |str x t=>
  have sat:vs=x.cps.toList.map λc=>V.str ⟨#[c]⟩:=sat;refine ⟨[it],λi v=>∃c u,x.cps[i]?=some c/\v=.str ⟨#[c]⟩ u,λi h=>h.IsStrIter it (strIterType x) x t i,?_,p,?_,λj h st=>st,?_⟩
  ·have D:=QK (prog:=X.prog) (w:=X.w) hh it x t;have e:x.cps.size=vs.length:=by rw[sat,ax,bn]
   rw[e]at D;exact D
  ·rintro j v ⟨c,u,e1,e2⟩;refine ⟨V.str ⟨#[c]⟩,?_,u,e2⟩;rw[sat,ce,eW,e1];rfl
  ·intro b hb;exact .inl (by simpa using hb)
def Jk(k:SK):It:=⟨λi H=>∃vs,k.Sat H vs/\i < vs.length,λi H x H'=>H'=H/\∀vs,k.Sat H vs->vs[i]?=some x,λi H=>∃vs,k.Sat H vs/\vs.length=i⟩
def Je(k:SK):It:=⟨λi H=>∃vs,k.Sat H vs/\i < vs.length,λi H x H'=>∃T y,H T=none/\x=.ref T/\H'=upd H T (.tup [.int i,y])/\∀vs,k.Sat H vs->vs[i]?=some y,λi H=>∃vs,k.Sat H vs/\vs.length=i⟩
theorem pq{H:Hp}{k:SK}{vs ws:List V}(h:k.Sat H vs)(h':k.Sat H ws):vs=ws:=by
 cases k with
 |lst a=>have e:=(show H a=some _ from h).symm.trans h';cases e;rfl
 |tup a=>have e:=(show H a=some _ from h).symm.trans h';cases e;rfl
 |str x t=>exact (show vs=_ from h).trans (show ws=_ from h').symm
theorem Vl{P:Program}{w:World}{K:PF}{elts:List Expr}{x1:Nat}{pos:Pos}(k:SK)(e it:Addr)(hne:e≠it):
  Turn P w K (.Tuple elts x1 pos) (Je k) [e,it] e (λi h=>(∃old,IsEnum h e it i old)/\k.pos it i h) where
 mem:=by simp
 obj:=λi h st b hb=>by
  obtain ⟨⟨old,he⟩,o,ho,c,d⟩:=st;have hb:b=e\/b=it:=by simpa using hb
  rcases hb with rfl |rfl
  ·exact ⟨_,he,λv z=>by have z':Data.fields _=Data.cell v:=z;cases z'⟩
  ·exact ⟨o,ho,λv z=>by rw[d]at z;cases z⟩
 keep:=λi h h' st kk=>⟨let ⟨old,he⟩:=st.1;⟨old,kk e (by simp) _ he⟩,st.2.keep λo ho=>kk it (by simp) o ho⟩
 item:=by
  intro X hP hw hK hc i pins s σ H E I hf st hg;subst hP hw hK;obtain ⟨vs,sat,hi⟩:=hg;obtain ⟨⟨old,he⟩,hit⟩:=st;have hfe:=hf e (by simp);have hfi:=hf it (by simp);obtain ⟨fp,Pd,S,Dr⟩:=drawn (A:=X.A.in1) (I.ok.hd hc) I sat hfi.1 hit;have helt:e < s.heap.objs.size:=ay he;have hef:e∉fp:=λhb=>by
   rcases Dr.fp e hb with z |z
   ·exact hne z
   ·have:=sat.no hfe.1;cases k with
    |lst a=>cases z;exact this rfl
    |tup a=>cases z;exact this rfl
    |str _ _=>cases z
  refine wpAny_pyNext_enum_itemD Dr.D he Dr.st hi hne hef λu h1 tk hu heo hit1 ht1 hz1 hk1=>?_;obtain ⟨x,hx,ru⟩:=Dr.val _ _ hu;refine ⟨_,rfl,?_⟩;refine wpAny_letOwnedTupleGo_enum heo λh2 he2 hs2=>?_;have hs2':Heap.SameBut e h1 h2:=hs2;have hn:H s.heap.objs.size=none:=I.hok.fresh (av _);have k2:∀b o,b∉[e,it]->s.heap.get? b=some o->h2.get? b=some o:=λb o hb q=>by
   have hb':b≠e/\b≠it:=by simpa using hb
   exact hs2'.extBut b o hb'.1 (hk1 b o hb'.1 hb'.2 q)
  have I2:Inv X pins σ H { s with heap:=h2,toks:=tk+1 }:=I.turnedL hf k2;have ht2:h2.get? s.heap.objs.size=some { cls:=.type "tuple",data:=.seq #[.int i tk,u] }:=hs2'.extBut _ _ (fb helt) ht1;have ob:ObjOk X.prog X.w (upd H s.heap.objs.size (.tup [.int i,x])) h2 s.heap.objs.size (.tup [.int i,x]):=
   ⟨by rw[dS];simp,[.int i tk,u],.cons ⟨_,rfl⟩ (.cons ru .nil),⟨_,ht2,rfl,_,rfl⟩⟩
  have I3:=I2.track (I.fpOk (av _) hn) ob;have nee:s.heap.objs.size≠e:=fb helt;have nei:s.heap.objs.size≠it:=by obtain ⟨o,ho,_⟩:=hit;exact fb (ay ho)
  refine ⟨.ref s.heap.objs.size,_,I3,rfl,⟨s.heap.objs.size,x,hn,rfl,rfl,λys hy=>by rw[pq hy sat];exact hx⟩,⟨⟨u,?_⟩,?_⟩,λb hb=>?_⟩
  ·show IsEnum h2 e it (((i+1:Nat)):Int) u;rw[show (((i+1:Nat):Int))=(i:Int)+1 by omega];exact he2
  ·exact (Dr.pos _ _ hit1).keep λo ho=>hs2'.extBut _ _ (Ne.symm hne) ho
  ·have hb':b=e\/b=it:=by simpa using hb
   rw[aB (by rcases hb' with rfl |rfl;exact Ne.symm nee;exact Ne.symm nei)];exact (hf b hb).1
 done:=by
  intro X hP hw hK hc i pins s σ H E I hf st hg;subst hP hw hK;obtain ⟨vs,sat,hi⟩:=hg;subst hi;obtain ⟨⟨old,he⟩,hit⟩:=st;have hfi:=hf it (by simp);obtain ⟨fp,Pd,S,Dr⟩:=drawn (A:=X.A.in1) (I.ok.hd hc) I sat hfi.1 hit;refine wpAny_pyNext_enum_endD Dr.D he Dr.st λh' eb=>⟨rfl,I.turnedL (t':=s.toks) hf λb o hb q=>?_⟩;have hb':b≠e/\b≠it:=by simpa using hb
  exact eb b o hb'.2 q
 self:=λA i s Q E st h=>by
  obtain ⟨⟨old,he⟩,_⟩:=st;exact wpAny_pyIter_enum he h
theorem Vm{P:Program}{w:World}{A:Around}{it:Addr}{fp:List Addr}{n:Nat}{Pd:Nat->Value->Prop}{S:Nat->Heap->Prop}(D:Draws P w A it fp n Pd S):
  Draws P w A it fp (n+1) (λi v=>∃j,i=j+1/\Pd j v) (λi h=>∃j,i=j+1/\S j h) where
 live:=λi h st=>by obtain ⟨j,_,st⟩:=st;exact D.live j h st
 frame:=λi h h' st k=>by obtain ⟨j,e,st⟩:=st;exact ⟨j,e,D.frame j h h' st k⟩
 item:=λi s Q E hi st hQ=>by
  obtain ⟨j,e,st⟩:=st;subst e;exact D.item j s Q E (Nat.lt_of_succ_lt_succ hi) st λx h' tk p st' sb=>hQ x h' tk ⟨j,rfl,p⟩ ⟨j+1,rfl,st'⟩ sb
 done:=λs Q E st hE=>by
  obtain ⟨j,e,st⟩:=st;have e':n=j:=Nat.succ.inj e;subst e';exact D.done s Q E st hE
def Je1(k:SK):It:=⟨λi H=>∃vs,k.Sat H vs/\i < vs.length,λi H x H'=>∃T y,H T=none/\x=.ref T/\H'=upd H T (.tup [.int ((i+1:Nat):Int),y])/\∀vs,k.Sat H vs->vs[i]?=some y,λi H=>∃vs,k.Sat H vs/\vs.length=i⟩
theorem Vn{P:Program}{w:World}{K:PF}{elts:List Expr}{x1:Nat}{pos:Pos}(k:SK)(e it:Addr)(hne:e≠it):
  Turn P w K (.Tuple elts x1 pos) (Je1 k) [e,it] e (λi h=>(∃old,IsEnum h e it ((i+1:Nat):Int) old)/\k.pos it i h) where
 mem:=by simp
 obj:=λi h st b hb=>by
  obtain ⟨⟨old,he⟩,o,ho,c,d⟩:=st;have hb:b=e\/b=it:=by simpa using hb
  rcases hb with rfl |rfl
  ·exact ⟨_,he,λv z=>by have z':Data.fields _=Data.cell v:=z;cases z'⟩
  ·exact ⟨o,ho,λv z=>by rw[d]at z;cases z⟩
 keep:=λi h h' st kk=>⟨let ⟨old,he⟩:=st.1;⟨old,kk e (by simp) _ he⟩,st.2.keep λo ho=>kk it (by simp) o ho⟩
 item:=by
  intro X hP hw hK hc i pins s σ H E I hf st hg;subst hP hw hK;obtain ⟨vs,sat,hi⟩:=hg;obtain ⟨⟨old,he⟩,hit⟩:=st;have hfe:=hf e (by simp);have hfi:=hf it (by simp);obtain ⟨fp,Pd,S,Dr⟩:=drawn (A:=X.A.in1) (I.ok.hd hc) I sat hfi.1 hit;have helt:e < s.heap.objs.size:=ay he;have hef:e∉fp:=λhb=>by
   rcases Dr.fp e hb with z |z
   ·exact hne z
   ·have:=sat.no hfe.1;cases k with
    |lst a=>cases z;exact this rfl
    |tup a=>cases z;exact this rfl
    |str _ _=>cases z
  refine wpAny_pyNext_enum_itemD (i:=i+1) (Vm Dr.D) he ⟨i,rfl,Dr.st⟩ (Nat.succ_lt_succ hi) hne hef λu h1 tk hu heo hit1 ht1 hz1 hk1=>?_;obtain ⟨i1,z1,hu⟩:=hu;cases z1;obtain ⟨i2,z2,hit1⟩:=hit1;cases z2;obtain ⟨x,hx,ru⟩:=Dr.val _ _ hu;refine ⟨_,rfl,?_⟩;refine wpAny_letOwnedTupleGo_enum heo λh2 he2 hs2=>?_;have hs2':Heap.SameBut e h1 h2:=hs2;have hn:H s.heap.objs.size=none:=I.hok.fresh (av _);have k2:∀b o,b∉[e,it]->s.heap.get? b=some o->h2.get? b=some o:=λb o hb q=>by
   have hb':b≠e/\b≠it:=by simpa using hb
   exact hs2'.extBut b o hb'.1 (hk1 b o hb'.1 hb'.2 q)
  have I2:Inv X pins σ H { s with heap:=h2,toks:=tk+1 }:=I.turnedL hf k2;have ht2:h2.get? s.heap.objs.size=some { cls:=.type "tuple",data:=.seq #[.int ((i+1:Nat):Int) tk,u] }:=hs2'.extBut _ _ (fb helt) ht1;have ob:ObjOk X.prog X.w (upd H s.heap.objs.size (.tup [.int ((i+1:Nat):Int),x])) h2 s.heap.objs.size (.tup [.int ((i+1:Nat):Int),x]):=
   ⟨by rw[dS];simp,[.int ((i+1:Nat):Int) tk,u],.cons ⟨_,rfl⟩ (.cons ru .nil),⟨_,ht2,rfl,_,rfl⟩⟩
  have I3:=I2.track (I.fpOk (av _) hn) ob;have nee:s.heap.objs.size≠e:=fb helt;have nei:s.heap.objs.size≠it:=by obtain ⟨o,ho,_⟩:=hit;exact fb (ay ho)
  refine ⟨.ref s.heap.objs.size,_,I3,rfl,⟨s.heap.objs.size,x,hn,rfl,rfl,λys hy=>by rw[pq hy sat];exact hx⟩,⟨⟨u,?_⟩,?_⟩,λb hb=>?_⟩
  ·show IsEnum h2 e it (((i+1+1:Nat)):Int) u;rw[show (((i+1+1:Nat):Int))=((i+1:Nat):Int)+1 by omega];exact he2
  ·exact (Dr.pos _ _ hit1).keep λo ho=>hs2'.extBut _ _ (Ne.symm hne) ho
  ·have hb':b=e\/b=it:=by simpa using hb
   rw[aB (by rcases hb' with rfl |rfl;exact Ne.symm nee;exact Ne.symm nei)];exact (hf b hb).1
 done:=by
  intro X hP hw hK hc i pins s σ H E I hf st hg;subst hP hw hK;obtain ⟨vs,sat,hi⟩:=hg;subst hi;obtain ⟨⟨old,he⟩,hit⟩:=st;have hfi:=hf it (by simp);obtain ⟨fp,Pd,S,Dr⟩:=drawn (A:=X.A.in1) (I.ok.hd hc) I sat hfi.1 hit;refine wpAny_pyNext_enum_endD Dr.D he Dr.st λh' eb=>⟨rfl,I.turnedL (t':=s.toks) hf λb o hb q=>?_⟩;have hb':b≠e/\b≠it:=by simpa using hb
  exact eb b o hb'.2 q
 self:=λA i s Q E st h=>by
  obtain ⟨⟨old,he⟩,_⟩:=st;exact wpAny_pyIter_enum he h
theorem Vo{P:Program}{w:World}{K:PF}{tg:Expr}(k:SK)(it:Addr):Turn P w K tg (Jk k) [it] it (λi h=>k.pos it i h) where
 mem:=by simp
 obj:=λi h st b hb=>by
  have e:b=it:=by simpa using hb
  subst e;obtain ⟨o,e,c,d⟩:=st;exact ⟨o,e,λv z=>by rw[d]at z;cases z⟩
 keep:=λi h h' st kk=>st.keep λo e=>kk it (by simp) o e
 item:=by
  intro X hP hw hK hc i pins s σ H E I hf st hg;obtain ⟨vs,sat,hi⟩:=hg;have hfi:=hf it (by simp);cases k with
  |lst a=>
   have sat':H a=some (.lst vs):=sat;refine cr ((v6 (tg:=tg) a it).item X hP hw hK hc i pins s σ H E I hf st ⟨vs,vs[i],SqL.of sat',by simp[hi]⟩) ?_ (λ_ _ e=>e);rintro r s1 ⟨u,hr,h1⟩;refine ⟨u,hr,cr h1 ?_ (λ_ _ e=>e)⟩;rintro _ s2 ⟨x,H',I',rx,⟨e1,e2⟩,st',fr⟩;exact ⟨x,H',I',rx,⟨e1,λws hw'=>e2 ws (SqL.of (show H a=some (.lst ws) from hw'))⟩,st',fr⟩
  |tup a=>
   have sat':H a=some (.tup vs):=sat;refine cr ((v7 (tg:=tg) a it).item X hP hw hK hc i pins s σ H E I hf st ⟨vs,vs[i],SqT.of sat',by simp[hi]⟩) ?_ (λ_ _ e=>e);rintro r s1 ⟨u,hr,h1⟩;refine ⟨u,hr,cr h1 ?_ (λ_ _ e=>e)⟩;rintro _ s2 ⟨x,H',I',rx,⟨e1,e2⟩,st',fr⟩;exact ⟨x,H',I',rx,⟨e1,λws hw'=>e2 ws (SqT.of (show H a=some (.tup ws) from hw'))⟩,st',fr⟩
  |str y t=>
   have sat':vs=y.cps.toList.map λc=>V.str ⟨#[c]⟩:=sat;have hlen:vs.length=y.cps.size:=by rw[sat',ax,bn]
   refine cr ((qM (tg:=tg) it y t).item X hP hw hK hc i pins s σ H E I hf st (show i < y.cps.size by omega)) ?_ (λ_ _ e=>e);rintro r s1 ⟨u,hr,h1⟩;refine ⟨u,hr,cr h1 ?_ (λ_ _ e=>e)⟩;rintro _ s2 ⟨x,H',I',rx,⟨e1,c,e2,e3⟩,st',fr⟩;refine ⟨x,H',I',rx,⟨e1,λws hw'=>?_⟩,st',fr⟩;have hw':ws=y.cps.toList.map λc=>V.str ⟨#[c]⟩:=hw';rw[hw',e3,ce,eW,e2];rfl
 done:=by
  intro X hP hw hK hc i pins s σ H E I hf st hg;obtain ⟨vs,sat,hi⟩:=hg;cases k with
  |lst a=>exact (v6 (tg:=tg) a it).done X hP hw hK hc i pins s σ H E I hf st ⟨vs,SqL.of (show H a=some (.lst vs) from sat),by omega⟩
  |tup a=>exact (v7 (tg:=tg) a it).done X hP hw hK hc i pins s σ H E I hf st ⟨vs,SqT.of (show H a=some (.tup vs) from sat),by omega⟩
  |str y t=>
   have sat':vs=y.cps.toList.map λc=>V.str ⟨#[c]⟩:=sat;have hlen:vs.length=y.cps.size:=by rw[sat',ax,bn]
   exact (qM (tg:=tg) it y t).done X hP hw hK hc i pins s σ H E I hf st (show i=y.cps.size by omega)
 self:=λA i s Q E st h=>by
  cases k with
  |lst a=>exact wpAny_pyIter_listiter st h
  |tup a=>exact wpAny_pyIter_tupleiter st h
  |str y t=>exact (qM (K:=K) (tg:=tg) it y t).self A i s Q E st h
open Builtin Builtin.Str
section
variable {prog:Program} {w:World} {A:Around} {E:Value->Shared->Prop} {s:Shared}
theorem Vp{z TI TO i1 i2:Addr}{k n1 n2:Nat}{fp1 fp2:List Addr}{P1 P2:Nat->Value->Prop}{S1 S2:Nat->Heap->Prop}{a b:Value}{Q:Value->Shared->Prop}(D:ZApart z TI TO i1 i2)
  (D1:Draws prog w A i1 fp1 n1 P1 S1) (D2:Draws prog w A i2 fp2 n2 P2 S2) (f1:∀c∈fp1,c≠z/\c≠TO/\c≠i2) (f2:∀c∈fp2,c≠z/\c≠TO/\c≠i1)
  (hz:IsZip s.heap z TI TO .none) (hTI:IsPair s.heap TI (.ref i1) (.ref i2)) (hTO:IsPair s.heap TO a b)
  (h1:S1 k s.heap) (h2:S2 k s.heap) (hx:k < n1) (hy:k < n2)
  (hQ:∀h' tk c d,P1 k c->P2 k d->IsZip h' z TI TO (rawInt s.heap.objs.size)->IsPair h' TO c d->S1 (k+1) h'->S2 (k+1) h'->
   IsPair h' s.heap.objs.size c d->h'.objs.size=s.heap.objs.size+1->
   (∀c o,c≠z->c≠TO->c≠i1->c≠i2->s.heap.get? c=some o->h'.get? c=some o)->Q (.ref s.heap.objs.size) { s with heap:=h',toks:=tk }):
  wpAny (model prog w) A (Builtin.«zip.__next__» ⟨[.ref z],[]⟩) (λfin s'=>∃v,fin=.done (.ret v)/\Q v s') E s:=by
 have e1:∀{h h':Heap}{c:Addr}{j:Nat},S1 j h->Heap.ExtBut c h h'->(∀b∈fp1,b≠c)->S1 j h':=λq e n=>D1.frame _ _ _ q λb hb o y=>e b o (n b hb) y;have e2:∀{h h':Heap}{c:Addr}{j:Nat},S2 j h->Heap.ExtBut c h h'->(∀b∈fp2,b≠c)->S2 j h':=λq e n=>D2.frame _ _ _ q λb hb o y=>e b o (n b hb) y;have z1:∀b∈fp1,b≠z:=λb hb=>(f1 b hb).1;have t1:∀b∈fp1,b≠TO:=λb hb=>(f1 b hb).2.1;have j1:∀b∈fp1,b≠i2:=λb hb=>(f1 b hb).2.2;have z2:∀b∈fp2,b≠z:=λb hb=>(f2 b hb).1;have t2:∀b∈fp2,b≠TO:=λb hb=>(f2 b hb).2.1;have j2:∀b∈fp2,b≠i1:=λb hb=>(f2 b hb).2.2;show wpAny _ _ (field (.ref z) 2 >>= _) _ _ _;refine ae (dQ hz rfl (x:=.bool false) rfl ?_);show wpAny _ _ (field (.ref z) 3 >>= _) _ _ _;refine ae (dQ hz rfl (x:=.ref TI) rfl ?_);refine ae (eT hTI rfl ?_);show wpAny _ _ (Builtin.SmallTypes.ownedTupleIsFree (.ref z) >>= _) _ _ _;refine ae ?_;unfold Builtin.SmallTypes.ownedTupleIsFree;refine ae (dQ hz rfl (x:=.none) rfl (am ?_));simp only[if_true];refine ae (et ?_);refine ae (dQ hz rfl (x:=.ref TO) rfl ?_);refine ae (fR hz (by simp) λh₁ hz₁ hs₁=>?_);replace hz₁:IsZip h₁ z TI TO .ellipsis:=hz₁;replace hs₁:Heap.SameBut z s.heap h₁:=hs₁;refine ae ?_;simp only[List.zipIdx_cons,List.zipIdx_nil,List.forIn_cons,List.forIn_nil];refine ae (ae (wpAny_onRaise ?_));show wpAny _ _ (Builtin.SmallTypes.nextOf (.ref i1) >>= _) _ _ _;refine ae (D1.item k _ _ _ hx (e1 h1 hs₁.extBut z1) λc h₂ tk₂ hc h1₂ hs₂=>am ?_);replace hs₂:Heap.SameBut i1 h₁ h₂:=hs₂;have hTO₂:IsPair h₂ TO a b:=hs₂.extBut _ _ D.TOi1 (hs₁.extBut _ _ D.TOz hTO);refine ae (eT hTO₂ rfl ?_);refine ae (wpAny_updateSeq_pair hTO₂ λh₃ hTO₃ hs₃=>?_);replace hTO₃:IsPair h₃ TO c b:=hTO₃;replace hs₃:Heap.SameBut TO h₂ h₃:=hs₃;refine ae (wpAny_letGo (am ?_));refine ae (ae (wpAny_onRaise ?_));show wpAny _ _ (Builtin.SmallTypes.nextOf (.ref i2) >>= _) _ _ _;refine ae (D2.item k _ _ _ hy (e2 (e2 (e2 h2 hs₁.extBut z2) hs₂.extBut j2) hs₃.extBut t2) λd h₄ tk₄ hd h2₄ hs₄=>am ?_);replace hs₄:Heap.SameBut i2 h₃ h₄:=hs₄;have hTO₄:IsPair h₄ TO c b:=hs₄.extBut _ _ D.TOi2 hTO₃;refine ae (eT hTO₄ rfl ?_);refine ae (wpAny_updateSeq_pair hTO₄ λh₅ hTO₅ hs₅=>?_);replace hTO₅:IsPair h₅ TO c d:=hTO₅;replace hs₅:Heap.SameBut TO h₄ h₅:=hs₅;refine ae (wpAny_letGo (am (am ?_)));refine ae (eT hTO₅ rfl ?_);refine ae (wpAny_newTuple ?_);have hsz:h₅.objs.size=s.heap.objs.size:=by rw[hs₅.1,hs₄.1,hs₃.1,hs₂.1,hs₁.1]
 have hz₅:IsZip h₅ z TI TO .ellipsis:=hs₅.extBut _ _ D.TOz.symm (hs₄.extBut _ _ D.i2z.symm (hs₃.extBut _ _ D.TOz.symm (hs₂.extBut _ _ D.i1z.symm hz₁)));have hk₅:∀c o,c≠z->c≠TO->c≠i1->c≠i2->s.heap.get? c=some o->h₅.get? c=some o:=λc o c1 c2 c3 c4 e=>
  hs₅.extBut _ _ c2 (hs₄.extBut _ _ c4 (hs₃.extBut _ _ c2 (hs₂.extBut _ _ c3 (hs₁.extBut _ _ c1 e))))
 have h1₅:S1 (k+1) h₅:=e1 (e1 (e1 h1₂ hs₃.extBut t1) hs₄.extBut j1) hs₅.extBut t1;have h2₅:S2 (k+1) h₅:=e2 h2₄ hs₅.extBut t2;have hzlt:z < h₅.objs.size:=ay hz₅;show wpAny _ _ (Builtin.SmallTypes.ownedTupleHandOut (.ref z) (.ref h₅.objs.size) >>= _) _ _ _;refine ae ?_;unfold Builtin.SmallTypes.ownedTupleHandOut;have hz₆:IsZip (h₅.push { cls:=.type "tuple",data:=.seq #[c,d] }) z TI TO .ellipsis:=ah _ hz₅;refine ae (fR hz₆ (by simp) λh₇ hz₇ hs₇=>?_);replace hz₇:IsZip h₇ z TI TO (rawInt h₅.objs.size):=hz₇;refine fR hz₇ (by simp) λh₈ hz₈ hs₈=>?_;replace hz₈:IsZip h₈ z TI TO (rawInt h₅.objs.size):=hz₈;have up:∀c o,c≠z->h₅.get? c=some o->h₈.get? c=some o:=λc o c1 e=>hs₈.extBut _ _ c1 (hs₇.extBut _ _ c1 (ah _ e));have hT₈:IsPair h₈ h₅.objs.size c d:=hs₈.extBut _ _ (fb hzlt) (hs₇.extBut _ _ (fb hzlt) (aI _ rfl));have hz8:h₈.objs.size=h₅.objs.size+1:=by rw[hs₈.1,hs₇.1,cb]
 rw[hsz]at hz₈ hT₈ hz8;refine am ⟨_,rfl,?_⟩;show Q (.ref h₅.objs.size) _;rw[hsz];exact hQ h₈ tk₄ c d hc hd hz₈ (up _ _ D.TOz hTO₅) (D1.frame _ _ _ h1₅ λb hb o y=>up b o (z1 b hb) y) (D2.frame _ _ _ h2₅ λb hb o y=>up b o (z2 b hb) y) hT₈ hz8 λc o c1 c2 c3 c4 e=>up c o c1 (hk₅ c o c1 c2 c3 c4 e)
theorem Vq{z TI TO i1 i2:Addr}{n1:Nat}{fp1:List Addr}{P1:Nat->Value->Prop}{S1:Nat->Heap->Prop}{a b:Value}{Q:Fin->Shared->Prop}(D:ZApart z TI TO i1 i2)
  (D1:Draws prog w A i1 fp1 n1 P1 S1) (f1:∀c∈fp1,c≠z)
  (hz:IsZip s.heap z TI TO .none) (hTI:IsPair s.heap TI (.ref i1) (.ref i2)) (hTO:IsPair s.heap TO a b) (h1:S1 n1 s.heap)
  (hE:∀h' e,(∀c o,c≠z->c≠TO->c≠i1->c≠i2->s.heap.get? c=some o->h'.get? c=some o)->(∃o,h'.get? e=some o/\o.cls=.type "StopIteration")->E (.ref e) { s with heap:=h' }):
  wpAny (model prog w) A (Builtin.«zip.__next__» ⟨[.ref z],[]⟩) Q E s:=by
 show wpAny _ _ (field (.ref z) 2 >>= _) _ _ _;refine ae (dQ hz rfl (x:=.bool false) rfl ?_);show wpAny _ _ (field (.ref z) 3 >>= _) _ _ _;refine ae (dQ hz rfl (x:=.ref TI) rfl ?_);refine ae (eT hTI rfl ?_);show wpAny _ _ (Builtin.SmallTypes.ownedTupleIsFree (.ref z) >>= _) _ _ _;refine ae ?_;unfold Builtin.SmallTypes.ownedTupleIsFree;refine ae (dQ hz rfl (x:=.none) rfl (am ?_));simp only[if_true];refine ae (et ?_);refine ae (dQ hz rfl (x:=.ref TO) rfl ?_);refine ae (fR hz (by simp) λh₁ hz₁ hs₁=>?_);replace hz₁:IsZip h₁ z TI TO .ellipsis:=hz₁;replace hs₁:Heap.SameBut z s.heap h₁:=hs₁;refine ae ?_;simp only[List.zipIdx_cons,List.zipIdx_nil,List.forIn_cons,List.forIn_nil];refine ae (ae (wpAny_onRaise ?_));show wpAny _ _ (Builtin.SmallTypes.nextOf (.ref i1) >>= _) _ _ _;refine ae (D1.done _ _ _ (D1.frame _ _ _ h1 λb hb o y=>hs₁.extBut b o (f1 b hb) y) λh₂ e hs₂ he=>?_);obtain ⟨oe,hoe,hce⟩:=he;have hz₂:IsZip h₂ z TI TO .ellipsis:=hs₂ _ _ D.i1z.symm hz₁;have hez:e≠z:=λx=>by subst x;rw[hz₂]at hoe;cases hoe;simp at hce
 refine fR hz₂ (by simp) λh₃ _ hs₃=>hE h₃ e (λc o c1 _ c3 _ x=>hs₃.extBut _ _ c1 (hs₂ _ _ c3 (hs₁.extBut _ _ c1 x))) ⟨oe,hs₃.extBut _ _ hez hoe,hce⟩
theorem Vr{z TI TO i1 i2:Addr}{k n1 n2:Nat}{fp1 fp2:List Addr}{P1 P2:Nat->Value->Prop}{S1 S2:Nat->Heap->Prop}{a b:Value}{Q:Fin->Shared->Prop}(D:ZApart z TI TO i1 i2)
  (D1:Draws prog w A i1 fp1 n1 P1 S1) (D2:Draws prog w A i2 fp2 n2 P2 S2) (f1:∀c∈fp1,c≠z/\c≠TO/\c≠i2) (f2:∀c∈fp2,c≠z/\c≠TO/\c≠i1)
  (hz:IsZip s.heap z TI TO .none) (hTI:IsPair s.heap TI (.ref i1) (.ref i2)) (hTO:IsPair s.heap TO a b) (h1:S1 k s.heap) (h2:S2 k s.heap) (hx:k < n1) (hy:k=n2)
  (hE:∀h' tk e,(∀c o,c≠z->c≠TO->c≠i1->c≠i2->s.heap.get? c=some o->h'.get? c=some o)->(∃o,h'.get? e=some o/\o.cls=.type "StopIteration")->E (.ref e) { s with heap:=h',toks:=tk }):
  wpAny (model prog w) A (Builtin.«zip.__next__» ⟨[.ref z],[]⟩) Q E s:=by
 have e1:∀{h h':Heap}{c:Addr}{j:Nat},S1 j h->Heap.ExtBut c h h'->(∀b∈fp1,b≠c)->S1 j h':=λq e n=>D1.frame _ _ _ q λb hb o y=>e b o (n b hb) y;have e2:∀{h h':Heap}{c:Addr}{j:Nat},S2 j h->Heap.ExtBut c h h'->(∀b∈fp2,b≠c)->S2 j h':=λq e n=>D2.frame _ _ _ q λb hb o y=>e b o (n b hb) y;have z1:∀b∈fp1,b≠z:=λb hb=>(f1 b hb).1;have z2:∀b∈fp2,b≠z:=λb hb=>(f2 b hb).1;have t2:∀b∈fp2,b≠TO:=λb hb=>(f2 b hb).2.1;have j2:∀b∈fp2,b≠i1:=λb hb=>(f2 b hb).2.2;show wpAny _ _ (field (.ref z) 2 >>= _) _ _ _;refine ae (dQ hz rfl (x:=.bool false) rfl ?_);show wpAny _ _ (field (.ref z) 3 >>= _) _ _ _;refine ae (dQ hz rfl (x:=.ref TI) rfl ?_);refine ae (eT hTI rfl ?_);show wpAny _ _ (Builtin.SmallTypes.ownedTupleIsFree (.ref z) >>= _) _ _ _;refine ae ?_;unfold Builtin.SmallTypes.ownedTupleIsFree;refine ae (dQ hz rfl (x:=.none) rfl (am ?_));simp only[if_true];refine ae (et ?_);refine ae (dQ hz rfl (x:=.ref TO) rfl ?_);refine ae (fR hz (by simp) λh₁ hz₁ hs₁=>?_);replace hz₁:IsZip h₁ z TI TO .ellipsis:=hz₁;replace hs₁:Heap.SameBut z s.heap h₁:=hs₁;refine ae ?_;simp only[List.zipIdx_cons,List.zipIdx_nil,List.forIn_cons,List.forIn_nil];refine ae (ae (wpAny_onRaise ?_));show wpAny _ _ (Builtin.SmallTypes.nextOf (.ref i1) >>= _) _ _ _;refine ae (D1.item k _ _ _ hx (e1 h1 hs₁.extBut z1) λc h₂ tk₂ hc h1₂ hs₂=>am ?_);replace hs₂:Heap.SameBut i1 h₁ h₂:=hs₂;have hTO₂:IsPair h₂ TO a b:=hs₂.extBut _ _ D.TOi1 (hs₁.extBut _ _ D.TOz hTO);refine ae (eT hTO₂ rfl ?_);refine ae (wpAny_updateSeq_pair hTO₂ λh₃ hTO₃ hs₃=>?_);replace hs₃:Heap.SameBut TO h₂ h₃:=hs₃;refine ae (wpAny_letGo (am ?_));refine ae (ae (wpAny_onRaise ?_));show wpAny _ _ (Builtin.SmallTypes.nextOf (.ref i2) >>= _) _ _ _;subst hy;refine ae (D2.done _ _ _ (e2 (e2 (e2 h2 hs₁.extBut z2) hs₂.extBut j2) hs₃.extBut t2) λh₄ e hs₄ he=>?_);obtain ⟨oe,hoe,hce⟩:=he;have hz₄:IsZip h₄ z TI TO .ellipsis:=hs₄ _ _ D.i2z.symm (hs₃.extBut _ _ D.TOz.symm (hs₂.extBut _ _ D.i1z.symm hz₁));have hez:e≠z:=λx=>by subst x;rw[hz₄]at hoe;cases hoe;simp at hce
 refine fR hz₄ (by simp) λh₅ _ hs₅=>hE h₅ tk₂ e (λc o c1 c2 c3 c4 x=>hs₅.extBut _ _ c1 (hs₄ _ _ c4 (hs₃.extBut _ _ c2 (hs₂.extBut _ _ c3 (hs₁.extBut _ _ c1 x))))) ⟨oe,hs₅.extBut _ _ hez hoe,hce⟩
end
def Jz(k l:SK):It:=⟨λi H=>∃vs ws,k.Sat H vs/\l.Sat H ws/\i < vs.length/\i < ws.length,
 λi H x H'=>∃T y z,H T=none/\x=.ref T/\H'=upd H T (.tup [y,z])/\(∀vs,k.Sat H vs->vs[i]?=some y)/\(∀ws,l.Sat H ws->ws[i]?=some z),
 λi H=>∃vs ws,k.Sat H vs/\l.Sat H ws/\(vs.length=i/\i<=ws.length\/i < vs.length/\ws.length=i)⟩
theorem Vs{P:Program}{w:World}{K:PF}{elts:List Expr}{x1:Nat}{pos:Pos}(k l:SK)(z TI TO i1 i2:Addr)(D:ZApart z TI TO i1 i2):
  Turn P w K (.Tuple elts x1 pos) (Jz k l) [z,TI,TO,i1,i2] z
   (λi h=>IsZip h z TI TO .none/\IsPair h TI (.ref i1) (.ref i2)/\(∃a b,IsPair h TO a b)/\k.pos i1 i h/\l.pos i2 i h) where
 mem:=by simp
 obj:=λi h st b hb=>by
  obtain ⟨hz,hTI,⟨a,c,hTO⟩,⟨o1,e1,_,d1⟩,⟨o2,e2,_,d2⟩⟩:=st;have hb':b=z\/b=TI\/b=TO\/b=i1\/b=i2:=by simpa using hb
  rcases hb' with rfl |rfl |rfl |rfl |rfl
  ·exact ⟨_,hz,λv q=>by have q':Data.fields _=Data.cell v:=q;cases q'⟩
  ·exact ⟨_,hTI,λv q=>by have q':Data.seq _ _=Data.cell v:=q;cases q'⟩
  ·exact ⟨_,hTO,λv q=>by have q':Data.seq _ _=Data.cell v:=q;cases q'⟩
  ·exact ⟨o1,e1,λv q=>by rw[d1]at q;cases q⟩
  ·exact ⟨o2,e2,λv q=>by rw[d2]at q;cases q⟩
 keep:=λi h h' st kk=>by
  obtain ⟨hz,hTI,⟨a,c,hTO⟩,p1,p2⟩:=st;exact ⟨kk z (by simp) _ hz,kk TI (by simp) _ hTI,⟨a,c,kk TO (by simp) _ hTO⟩,p1.keep λo e=>kk i1 (by simp) o e,p2.keep λo e=>kk i2 (by simp) o e⟩
 item:=by
  intro X hP hw hK hc i pins s σ H E I hf st hg;subst hP hw hK;obtain ⟨vs,ws,sat1,sat2,l1,l2⟩:=hg;obtain ⟨hz,hTI,⟨a,b,hTO⟩,h1,h2⟩:=st;have hT:s.TypeIs (.ref z) "zip":=⟨_,hz,rfl⟩;have fz:=hf z (by simp);have fTO:=hf TO (by simp);have fi1:=hf i1 (by simp);have fi2:=hf i2 (by simp);obtain ⟨fp1,P1,S1,Dr1⟩:=drawn (A:=X.A.in1) (I.ok.hd hc) I sat1 fi1.1 h1;obtain ⟨fp2,P2,S2,Dr2⟩:=drawn (A:=X.A.in1) (I.ok.hd hc) I sat2 fi2.1 h2;have no1:∀e,H e=none->e≠i1->∀c∈fp1,c≠e:=λe he hei c hc z=>by
   rcases Dr1.fp c hc with q |q
   ·exact hei (z.symm.trans q)
   ·have:=sat1.no he;cases k with
    |lst a=>injection q with q;exact this (q.trans z)
    |tup a=>injection q with q;exact this (q.trans z)
    |str _ _=>cases q
  have no2:∀e,H e=none->e≠i2->∀c∈fp2,c≠e:=λe he hei c hc z=>by
   rcases Dr2.fp c hc with q |q
   ·exact hei (z.symm.trans q)
   ·have:=sat2.no he;cases l with
    |lst a=>injection q with q;exact this (q.trans z)
    |tup a=>injection q with q;exact this (q.trans z)
    |str _ _=>cases q
  have f1:∀c∈fp1,c≠z/\c≠TO/\c≠i2:=λc hc=>⟨no1 z fz.1 D.i1z.symm c hc,no1 TO fTO.1 D.TOi1 c hc,no1 i2 fi2.1 D.i12.symm c hc⟩;have f2:∀c∈fp2,c≠z/\c≠TO/\c≠i1:=λc hc=>⟨no2 z fz.1 D.i2z.symm c hc,no2 TO fTO.1 D.TOi2 c hc,no2 i1 fi1.1 D.i12 c hc⟩;have ltz:z < s.heap.objs.size:=ay hz;have ltTI:TI < s.heap.objs.size:=ay hTI;have ltTO:TO < s.heap.objs.size:=ay hTO;have lti1:i1 < s.heap.objs.size:=by obtain ⟨_,e,_⟩:=h1;exact ay e
  have lti2:i2 < s.heap.objs.size:=by obtain ⟨_,e,_⟩:=h2;exact ay e
  unfold pyNext;refine ae (wpAny_attempt (fy (name:=Str.ofString "__next__") hT F.slot_zip_next
   (eA F.slot_zip_next hT F.entry_zip_next (Vp D Dr1.D Dr2.D f1 f2 hz hTI hTO Dr1.st Dr2.st l1 l2 λh' tk c d pc pd a1 a2 a3 a4 a5 a6 hk=>am ?_) (F.args_zip_next_1 _))))
  obtain ⟨y,hy,ry⟩:=Dr1.val _ _ pc;obtain ⟨y',hy',ry'⟩:=Dr2.val _ _ pd;refine ⟨_,rfl,?_⟩;refine wpAny_letOwnedTupleGo_zip a1 λh2' hz2 hs2=>?_;have hs2':Heap.SameBut z h' h2':=hs2;have hn:H s.heap.objs.size=none:=I.hok.fresh (av _);have k2:∀b o,b∉[z,TI,TO,i1,i2]->s.heap.get? b=some o->h2'.get? b=some o:=λb o hb q=>by
   have hb':b≠z/\b≠TI/\b≠TO/\b≠i1/\b≠i2:=by simpa using hb
   exact hs2'.extBut b o hb'.1 (hk b o hb'.1 hb'.2.2.1 hb'.2.2.2.1 hb'.2.2.2.2 q)
  have I2:Inv X pins σ H { s with heap:=h2',toks:=tk }:=I.turnedL hf k2;have ht2:h2'.get? s.heap.objs.size=some { cls:=.type "tuple",data:=.seq #[c,d] }:=hs2'.extBut _ _ (fb ltz) a5;have ob:ObjOk X.prog X.w (upd H s.heap.objs.size (.tup [y,y'])) h2' s.heap.objs.size (.tup [y,y']):=
   ⟨by rw[dS];simp,[c,d],.cons ry (.cons ry' .nil),⟨_,ht2,rfl,_,rfl⟩⟩
  have I3:=I2.track (I.fpOk (av _) hn) ob;refine ⟨.ref s.heap.objs.size,_,I3,rfl,⟨s.heap.objs.size,y,y',hn,rfl,rfl,λus hu=>by rw[pq hu sat1];exact hy,λus hu=>by rw[pq hu sat2];exact hy'⟩,
   ⟨hz2,hs2'.extBut _ _ D.TIz (hk _ _ D.TIz D.TITO D.TIi1 D.TIi2 hTI),⟨_,_,hs2'.extBut _ _ D.TOz a2⟩,(Dr1.pos _ _ a3).keep λo e=>hs2'.extBut _ _ D.i1z e,(Dr2.pos _ _ a4).keep λo e=>hs2'.extBut _ _ D.i2z e⟩,λb hb=>?_⟩
  have hb':b=z\/b=TI\/b=TO\/b=i1\/b=i2:=by simpa using hb
  rw[aB (by rcases hb' with rfl |rfl |rfl |rfl |rfl <;> exact b6 ‹_›)];exact (hf b hb).1
 done:=by
  intro X hP hw hK hc i pins s σ H E I hf st hg;subst hP hw hK;obtain ⟨vs,ws,sat1,sat2,hend⟩:=hg;obtain ⟨hz,hTI,⟨a,b,hTO⟩,h1,h2⟩:=st;have hT:s.TypeIs (.ref z) "zip":=⟨_,hz,rfl⟩;have fz:=hf z (by simp);have fTO:=hf TO (by simp);have fi1:=hf i1 (by simp);have fi2:=hf i2 (by simp);obtain ⟨fp1,P1,S1,Dr1⟩:=drawn (A:=X.A.in1) (I.ok.hd hc) I sat1 fi1.1 h1;obtain ⟨fp2,P2,S2,Dr2⟩:=drawn (A:=X.A.in1) (I.ok.hd hc) I sat2 fi2.1 h2;have no1:∀e,H e=none->e≠i1->∀c∈fp1,c≠e:=λe he hei c hc z=>by
   rcases Dr1.fp c hc with q |q
   ·exact hei (z.symm.trans q)
   ·have:=sat1.no he;cases k with
    |lst a=>injection q with q;exact this (q.trans z)
    |tup a=>injection q with q;exact this (q.trans z)
    |str _ _=>cases q
  have no2:∀e,H e=none->e≠i2->∀c∈fp2,c≠e:=λe he hei c hc z=>by
   rcases Dr2.fp c hc with q |q
   ·exact hei (z.symm.trans q)
   ·have:=sat2.no he;cases l with
    |lst a=>injection q with q;exact this (q.trans z)
    |tup a=>injection q with q;exact this (q.trans z)
    |str _ _=>cases q
  have f1:∀c∈fp1,c≠z/\c≠TO/\c≠i2:=λc hc=>⟨no1 z fz.1 D.i1z.symm c hc,no1 TO fTO.1 D.TOi1 c hc,no1 i2 fi2.1 D.i12.symm c hc⟩;have f2:∀c∈fp2,c≠z/\c≠TO/\c≠i1:=λc hc=>⟨no2 z fz.1 D.i2z.symm c hc,no2 TO fTO.1 D.TOi2 c hc,no2 i1 fi1.1 D.i12 c hc⟩;have fin:∀(h':Heap)(tk:Nat)(e:Addr),(∀c o,c≠z->c≠TO->c≠i1->c≠i2->s.heap.get? c=some o->h'.get? c=some o)->Inv X pins σ H { s with heap:=h',toks:=tk }:=λh' tk e hk=>I.turnedL (t':=tk) hf λb o hb q=>by
   have hb':b≠z/\b≠TI/\b≠TO/\b≠i1/\b≠i2:=by simpa using hb
   exact hk b o hb'.1 hb'.2.2.1 hb'.2.2.2.1 hb'.2.2.2.2 q
  unfold pyNext;refine ae (wpAny_attempt (fy (name:=Str.ofString "__next__") hT F.slot_zip_next
   (eA F.slot_zip_next hT F.entry_zip_next ?_ (F.args_zip_next_1 _))))
  rcases hend with ⟨e1,_⟩ |⟨e1,e2⟩
  ·subst e1;refine Vq D Dr1.D (λc hc=>(f1 c hc).1) hz hTI hTO Dr1.st λh' e hk he=>?_;obtain ⟨o,ho,hc'⟩:=he;refine ae (wpAny_isInstance (T:="StopIteration") (b:=true) ⟨o,ho,hc'⟩ isSubtype_stop ?_);exact am ⟨rfl,fin h' s.toks e hk⟩
  ·refine Vr D Dr1.D Dr2.D f1 f2 hz hTI hTO Dr1.st Dr2.st e1 e2.symm λh' tk e hk he=>?_;obtain ⟨o,ho,hc'⟩:=he;refine ae (wpAny_isInstance (T:="StopIteration") (b:=true) ⟨o,ho,hc'⟩ isSubtype_stop ?_);exact am ⟨rfl,fin h' tk e hk⟩
 self:=λA i s Q E st h=>wpAny_pyIter_zip st.1 h
open Sem (wp)
open AutoSeq1 (wpAny_loadPart')
set_option maxHeartbeats 1000000 in
theorem Vt(l:Addr)(items:Array Value)(n:Nat)(dct:Option Addr)(sl:Array (Option Value)):
  Meets (Builtin.«enumerate.__new__» ⟨[.type "enumerate",.ref l],[]⟩) (λ_ R s=>s.heap.get? l=some { cls:=.type "tuple",dict:=dct,data:=.seq items n,slots:=sl }/\
   R (.ok (.ret (.ref (s.heap.push { cls:=.type "tuple_iterator",data:=.fields #[.ref l,.int 0 0] }).objs.size)))
    { s with heap:=(s.heap.push { cls:=.type "tuple_iterator",data:=.fields #[.ref l,.int 0 0] }).push { cls:=.type "enumerate",data:=.fields #[.none,.bool false,.ref s.heap.objs.size,rawInt 0,.none,.none] } }):=
 .of_wp λprog w A R s h=>by
  obtain ⟨hp,g,d,tk,os⟩:=s;obtain ⟨hl,h⟩:=h;have hsub:=sub_enumerate;have hL:Heap.IsTuple (Shared.heap ⟨hp,g,d,tk,os⟩) l items:=⟨_,hl,rfl,n,rfl⟩;wp_walk using wpAny_loadPart' hl
  refine wpAny_stack_any λst=>am ?_;split
  ·rename_i c _ _ _ _ _;cases (c==Value.type "enumerate")
   ·wp_walk using wpAny_loadPart' hl,wpAny_pyIter_tuple hL
    exact ⟨_,rfl,h⟩
   ·wp_walk using wpAny_loadPart' hl,wpAny_pyIter_tuple hL
    exact ⟨_,rfl,h⟩
  ·wp_walk using wpAny_loadPart' hl,wpAny_pyIter_tuple hL
   exact ⟨_,rfl,h⟩
abbrev pA(h:Heap)(k:SK):Heap:=h.push k.obj
abbrev pB(h:Heap)(k l:SK):Heap:=(pA h k).push l.obj
abbrev pC (h:Heap) (k l:SK):Heap:=(pB h k l).push { cls:=.type "tuple",data:=.seq #[.ref h.objs.size,.ref (pA h k).objs.size] }
abbrev pF (h:Heap) (k l:SK):Heap:=(pC h k l).push { cls:=.type "tuple",data:=.seq #[.none,.none] }
abbrev gG (h:Heap) (k l:SK):Heap:=(pF h k l).push { cls:=.type "zip",data:=.fields #[.none,.bool false,.bool false,.ref (pB h k l).objs.size,.ref (pC h k l).objs.size] }
theorem Vu(k l:SK)(xs ys:Array Value):
  Meets (Builtin.«zip.__new__» ⟨[.type "zip",k.val,l.val],[]⟩) (λ_ R s=>k.On xs s.heap/\l.On ys s.heap/\R (.ok (.ret (.ref (pF s.heap k l).objs.size))) { s with heap:=gG s.heap k l }):=
 .of_wp λprog w A R s h=>by
  obtain ⟨hp,g,d,tk,os⟩:=s;obtain ⟨h1,h2,h⟩:=h;have hsub:=sub_zip;have h1':k.On xs (Shared.heap ⟨hp,g,d,tk,os⟩):=h1;have h2':l.On ys (Shared.heap ⟨hp.push k.obj,g,d,tk,os⟩):=SK.On.keeps h2 λb o _ e=>ah _ e;wp_walk using SK.iter h1',SK.iter h2'
  exact ⟨_,rfl,h⟩
section
variable {prog:Program} {w:World} {A:Around} {E:Value->Shared->Prop} {s:Shared}
theorem Vv{k l:SK}{xs ys:Array Value}{Q:Value->Shared->Prop}(h1:k.On xs s.heap)(h2:l.On ys s.heap)
  (h:∀h',IsZip h' (s.heap.objs.size+4) (s.heap.objs.size+2) (s.heap.objs.size+3) .none->IsPair h' (s.heap.objs.size+2) (.ref s.heap.objs.size) (.ref (s.heap.objs.size+1))->
   IsPair h' (s.heap.objs.size+3) .none .none->k.pos s.heap.objs.size 0 h'->l.pos (s.heap.objs.size+1) 0 h'->h'.objs.size=s.heap.objs.size+5->
   (∀c o,s.heap.get? c=some o->h'.get? c=some o)->Q (.ref (s.heap.objs.size+4)) { s with heap:=h' }):
  wpAny (model prog w) A (call (.type "zip") [k.val,l.val]) Q E s:=by
 refine callType_new F.called_zip (by decide) (F.typeCall_zip_2 _ _) (F.newCall_zip_2 _ _) (λobj=>F.args_object_init_3 obj _ _) F.entry_zip_new
  (Vu k l xs ys) ⟨h1,h2,?_⟩
 have z1:(pA s.heap k).objs.size=s.heap.objs.size+1:=cb ..;have z2:(pB s.heap k l).objs.size=s.heap.objs.size+2:=by rw[cb,z1]
 have z3:(pC s.heap k l).objs.size=s.heap.objs.size+3:=by rw[cb,z2]
 have z4:(pF s.heap k l).objs.size=s.heap.objs.size+4:=by rw[cb,z3]
 have z5:(gG s.heap k l).objs.size=s.heap.objs.size+5:=by rw[cb,z4]
 have g5:(gG s.heap k l).get? (pF s.heap k l).objs.size=some _:=aI _ rfl;have g4:(gG s.heap k l).get? (pC s.heap k l).objs.size=some _:=ah _ (aI _ rfl);have g3:(gG s.heap k l).get? (pB s.heap k l).objs.size=some _:=ah _ (ah _ (aI _ rfl));have g2:(gG s.heap k l).get? (pA s.heap k).objs.size=some _:=ah _ (ah _ (ah _ (aI _ rfl)));have g1:(gG s.heap k l).get? s.heap.objs.size=some _:=ah _ (ah _ (ah _ (ah _ (aI _ rfl))));show _/\_;rw[z2,z3,z4]at g5;rw[z1,z2]at g3;rw[z3]at g4;rw[z1]at g2;rw[z4];exact ⟨⟨_,g5,rfl⟩,h _ g5 g3 g4 ⟨_,g1,rfl,rfl⟩ ⟨_,g2,rfl,rfl⟩ z5 λc o x=>
  ah _ (ah _ (ah _ (ah _ (ah _ x))))⟩
theorem Vw{l:Addr}{items:Array Value}{Q:Value->Shared->Prop}(hL:s.heap.IsTuple l items)
  (h:∀h',IsEnum h' (s.heap.objs.size+1) s.heap.objs.size 0 .none->h'.IsTupleIter s.heap.objs.size l 0->h'.objs.size=s.heap.objs.size+2->
   (∀b o,s.heap.get? b=some o->h'.get? b=some o)->Q (.ref (s.heap.objs.size+1)) { s with heap:=h' }):
  wpAny (model prog w) A (call (.type "enumerate") [.ref l]) Q E s:=by
 obtain ⟨⟨c,dct,dt,sl⟩,hl,hc,n,hd⟩:=hL;replace hc:c=.type "tuple":=hc;replace hd:dt=.seq items n:=hd;subst hc hd;refine callType_new F.called_enumerate (by decide) (F.typeCall_enumerate_1 _) (F.newCall_enumerate_1 _) (λobj=>F.args_object_init_2 obj _) F.entry_enumerate_new
  (Vt l items n dct sl) ⟨hl,?_⟩
 have hz:(s.heap.push { cls:=.type "tuple_iterator",data:=.fields #[.ref l,.int 0 0] }).objs.size=s.heap.objs.size+1:=cb ..;show _/\_;rw[hz];have he:IsEnum ((s.heap.push { cls:=.type "tuple_iterator",data:=.fields #[.ref l,.int 0 0] }).push
   { cls:=.type "enumerate",data:=.fields #[.none,.bool false,.ref s.heap.objs.size,rawInt 0,.none,.none] }) (s.heap.objs.size+1) s.heap.objs.size 0 .none:=by
  have:=aI (s.heap.push { cls:=.type "tuple_iterator",data:=.fields #[.ref l,.int 0 0] })
   (o:={ cls:=.type "enumerate",data:=.fields #[.none,.bool false,.ref s.heap.objs.size,rawInt 0,.none,.none] }) rfl
  rw[hz]at this;exact this
 refine ⟨⟨_,he,rfl⟩,h _ he ⟨_,ah _ (aI _ rfl),rfl,rfl⟩ (by rw[cb,hz]) λb o x=>ah _ (ah _ x)⟩
theorem Vx{k:SK}{xs:Array Value}{Q:Value->Shared->Prop}(h1:k.On xs s.heap)
  (h:∀h',IsEnum h' (s.heap.objs.size+1) s.heap.objs.size 0 .none->k.pos s.heap.objs.size 0 h'->h'.objs.size=s.heap.objs.size+2->
   (∀b o,s.heap.get? b=some o->h'.get? b=some o)->Q (.ref (s.heap.objs.size+1)) { s with heap:=h' }):
  wpAny (model prog w) A (call (.type "enumerate") [k.val]) Q E s:=by
 cases k with
 |lst a=>exact call_enumerate_list h1 h
 |tup a=>exact Vw h1 h
 |str x t=>exact call_enumerate_str h
end
structure OT where
 ms:List (String×String×String×Nat):=[]
 ks:List (String×Nat):=[]
 fl:List (String×String):=[]
 xk:List (String×String):=[]
structure CT where
 N:List Str
 kd:List (Str×NameKind)
 fn:Bool
 fs:List (String×Nat)
 bt:List String
 cn:List (String×D)
 xs:List (String×Bool):=[]
 ot:OT:={}
def gH:Option NameKind->Bool
 |some .local=>true
 |some .cell=>true
 |some .free=>true
 |_=>false
def CT.sto(c:CT)(x:Str):Bool:=c.kd.lookup x==some .local||(c.fn&&c.kd.lookup x==some .cell)
def okN (x:Str):Bool:=!(x==("__debug__":Str))&&!(x==("__classdict__":Str))&&!(x==("__name__":Str))
def CT.glo(c:CT)(x:Str):Bool:=c.kd.lookup x==some .globalImplicit&&okN x
noncomputable def sEq:D->D->Bool
 |.non,.non=>true
 |.bl a,.bl b=>a==b
 |.int a,.int b=>a==b
 |.str a,.str b=>a==b
 |_,_=>false
noncomputable def iT(d:D)(k:Const):Bool:=
 match d,k with
 |.non,.none=>true
 |.bl a,.bool b=>a==b
 |.int a,.int b=>a==b
 |.str a,.str b=>a==b.cps.toList&&decide (a.length<=sz)
 |_,_=>false
noncomputable def Bf.name:Bf->String
 |.len=>"len"
 |.all=>"all"
 |.int=>"int"
 |.tuple=>"tuple"
 |.sum=>"sum"
 |.min=>"min"
 |.max=>"max"
 |.abs=>"abs"
 |.min2=>"min"
 |.str=>"str"
noncomputable def uo:Bf->Bool
 |.sum=>false
 |.min=>false
 |.max=>false
 |.abs=>false
 |.min2=>false
 |.str=>true
 |_=>true
def uq:Lf->Bool
 |.sorted=>false
 |_=>true
def Lf.name:Lf->String
 |.list=>"list"
 |.sorted=>"sorted"
noncomputable def Mf.name:Mf->String
 |.join=>"join"
 |.find=>"find"
 |.split=>"split"
 |.append=>"append"
 |.extend=>"extend"
 |.insert=>"insert"
 |.pop=>"pop"
 |.count=>"count"
 |.index=>"index"
def pG:Expr->Bool
 |.Name _ _=>true
 |.Subscript _ _ _=>true
 |_=>false
theorem Vy{v:Expr}(h:pG v=true)(name:Str)(env:Env):attributeBase v name env (eval v env)=eval v env:=by cases v <;> first |rfl |cases h
def pH:Expr->Bool
 |.Call (.Name _ _) [] [] _=>true
 |_=>false
def cA:Expr->Bool
 |.ListComp ..=>true
 |.SetComp ..=>true
 |.DictComp ..=>true
 |_=>false
noncomputable def gJ:Expr->Bool
 |.UnaryOp .Not _ _=>false
 |.BoolOp ..=>false
 |.IfExp ..=>false
 |.Compare ..=>false
 |_=>true
noncomputable def fZ(N:List Str)(scope:Scope):List Str->List (Option Nat)->Bool
 |[],[]=>true
 |_::N',none::cap=>fZ N scope N' cap
 |x::N',some j::cap=>(N[j]?==some x)&&(scope.names.lookup x==some NameKind.free)&&fZ N scope N' cap
 |_,_=>false
noncomputable def iU(c:CT)(scope:Scope):Bool:=
 scope.names.all (λy=>y.2 != NameKind.cell)&&scope.names.all (λy=>y.2 != NameKind.local||scope.names.lookup y.1==some NameKind.local) &&
 scope.names.all (λy=>y.2 != NameKind.free||(c.kd.lookup y.1==some NameKind.cell||c.kd.lookup y.1==some NameKind.free))&&decide (scope.kind=.function)&&decide (c.kd=c.kd)
def CT.comp(c:CT)(N:List Str)(scope:Scope):CT:={ N:=N,kd:=scope.names,fn:=false,fs:=c.fs,bt:=c.bt,cn:=c.cn,ot:=c.ot }
def dD:List Str->Bool
 |[]=>true
 |x::r=>!r.contains x&&dD r
noncomputable def asName(e:Expr):Option { t:Str×Pos // e=.Name t.1 t.2 }:=match e with
 |.Name a0 a1=>some ⟨(a0,a1),rfl⟩
 |_=>none
noncomputable def zQ(e:Expr):Option { t:Expr×Pos // e=.Starred t.1 t.2 }:=match e with
 |.Starred a0 a1=>some ⟨(a0,a1),rfl⟩
 |_=>none
noncomputable def iV(e:Expr):Option { t:Const×Nat×Pos // e=.Constant t.1 t.2.1 t.2.2 }:=match e with
 |.Constant a0 a1 a2=>some ⟨(a0,a1,a2),rfl⟩
 |_=>none
noncomputable def zR(e:Expr):Option { t:Expr×Operator×Expr×Pos // e=.BinOp t.1 t.2.1 t.2.2.1 t.2.2.2 }:=match e with
 |.BinOp a0 a1 a2 a3=>some ⟨(a0,a1,a2,a3),rfl⟩
 |_=>none
noncomputable def zT(e:Expr):Option { t:UnaryOp×Expr×Pos // e=.UnaryOp t.1 t.2.1 t.2.2 }:=match e with
 |.UnaryOp a0 a1 a2=>some ⟨(a0,a1,a2),rfl⟩
 |_=>none
noncomputable def jK(e:Expr):Option { t:Expr×List CmpOp×List Expr×Pos // e=.Compare t.1 t.2.1 t.2.2.1 t.2.2.2 }:=match e with
 |.Compare a0 a1 a2 a3=>some ⟨(a0,a1,a2,a3),rfl⟩
 |_=>none
noncomputable def pI(e:Expr):Option { t:BoolOp×List Expr×Pos // e=.BoolOp t.1 t.2.1 t.2.2 }:=match e with
 |.BoolOp a0 a1 a2=>some ⟨(a0,a1,a2),rfl⟩
 |_=>none
noncomputable def abg(e:Expr):Option { t:Expr×Expr×Expr×Pos // e=.IfExp t.1 t.2.1 t.2.2.1 t.2.2.2 }:=match e with
 |.IfExp a0 a1 a2 a3=>some ⟨(a0,a1,a2,a3),rfl⟩
 |_=>none
noncomputable def c7(e:Expr):Option { t:List Expr×Nat×Pos // e=.Tuple t.1 t.2.1 t.2.2 }:=match e with
 |.Tuple a0 a1 a2=>some ⟨(a0,a1,a2),rfl⟩
 |_=>none
noncomputable def asList(e:Expr):Option { t:List Expr×Pos // e=.List t.1 t.2 }:=match e with
 |.List a0 a1=>some ⟨(a0,a1),rfl⟩
 |_=>none
noncomputable def iW(e:Expr):Option { t:Expr×Expr×Pos // e=.Subscript t.1 t.2.1 t.2.2 }:=match e with
 |.Subscript a0 a1 a2=>some ⟨(a0,a1,a2),rfl⟩
 |_=>none
noncomputable def zU(e:Expr):Option { t:Option Expr×Option Expr×Option Expr×Pos // e=.Slice t.1 t.2.1 t.2.2.1 t.2.2.2 }:=match e with
 |.Slice a0 a1 a2 a3=>some ⟨(a0,a1,a2,a3),rfl⟩
 |_=>none
noncomputable def pJ(e:Expr):Option { t:Expr×List Expr×List Keyword×Pos // e=.Call t.1 t.2.1 t.2.2.1 t.2.2.2 }:=match e with
 |.Call a0 a1 a2 a3=>some ⟨(a0,a1,a2,a3),rfl⟩
 |_=>none
noncomputable def pK(e:Expr):Option { t:Expr×Str×Pos // e=.Attribute t.1 t.2.1 t.2.2 }:=match e with
 |.Attribute a0 a1 a2=>some ⟨(a0,a1,a2),rfl⟩
 |_=>none
noncomputable def zV(e:Expr):Option { t:Expr×List Comprehension×Scope×Pos // e=.ListComp t.1 t.2.1 t.2.2.1 t.2.2.2 }:=match e with
 |.ListComp a0 a1 a2 a3=>some ⟨(a0,a1,a2,a3),rfl⟩
 |_=>none
noncomputable def jL(e:Stmt):Option { t:Expr×Pos // e=.Expr t.1 t.2 }:=match e with
 |.Expr a0 a1=>some ⟨(a0,a1),rfl⟩
 |_=>none
noncomputable def gK(e:Stmt):Option { t:List Expr×Expr×Pos // e=.Assign t.1 t.2.1 t.2.2 }:=match e with
 |.Assign a0 a1 a2=>some ⟨(a0,a1,a2),rfl⟩
 |_=>none
noncomputable def abh(e:Stmt):Option { t:Expr×Operator×Expr×Pos // e=.AugAssign t.1 t.2.1 t.2.2.1 t.2.2.2 }:=match e with
 |.AugAssign a0 a1 a2 a3=>some ⟨(a0,a1,a2,a3),rfl⟩
 |_=>none
noncomputable def abi(e:Stmt):Option { t:Option Expr×Option Expr×Pos // e=.Raise t.1 t.2.1 t.2.2 }:=match e with
 |.Raise a0 a1 a2=>some ⟨(a0,a1,a2),rfl⟩
 |_=>none
noncomputable def abj(e:Stmt):Option { t:List Stmt×List ExceptHandler×List Stmt×List Stmt×Pos // e=.Try t.1 t.2.1 t.2.2.1 t.2.2.2.1 t.2.2.2.2 }:=match e with
 |.Try a0 a1 a2 a3 a4=>some ⟨(a0,a1,a2,a3,a4),rfl⟩
 |_=>none
noncomputable def abk(e:ExceptHandler):Option { t:Option Expr×Option Str×List Stmt×Pos // e=.ExceptHandler t.1 t.2.1 t.2.2.1 t.2.2.2 }:=match e with
 |.ExceptHandler a0 a1 a2 a3=>some ⟨(a0,a1,a2,a3),rfl⟩
noncomputable def ur(e:Expr):Option { t:Expr×Int×Option Expr×Pos // e=.FormattedValue t.1 t.2.1 t.2.2.1 t.2.2.2 }:=match e with
 |.FormattedValue a0 a1 a2 a3=>some ⟨(a0,a1,a2,a3),rfl⟩
 |_=>none
noncomputable def Vz(e:Expr):Option { t:List Expr×Pos // e=.JoinedStr t.1 t.2 }:=match e with
 |.JoinedStr a0 a1=>some ⟨(a0,a1),rfl⟩
 |_=>none
def VB(k:Const):Option { x:Str // k=.str x }:=match k with
 |.str x=>some ⟨x,rfl⟩
 |_=>none
def abl(b:Bool)(k:Const):Bool:=match k with
 |.bool c=>c==b
 |_=>false
noncomputable def pL(e:Stmt):Option { t:Option Expr×Pos // e=.Return t.1 t.2 }:=match e with
 |.Return a0 a1=>some ⟨(a0,a1),rfl⟩
 |_=>none
noncomputable def ut(e:Stmt):Option { t:Expr×List Stmt×List Stmt×Pos // e=.If t.1 t.2.1 t.2.2.1 t.2.2.2 }:=match e with
 |.If a0 a1 a2 a3=>some ⟨(a0,a1,a2,a3),rfl⟩
 |_=>none
noncomputable def zW(e:Stmt):Option { t:Expr×Expr×List Stmt×List Stmt×Pos // e=.For t.1 t.2.1 t.2.2.1 t.2.2.2.1 t.2.2.2.2 }:=match e with
 |.For a0 a1 a2 a3 a4=>some ⟨(a0,a1,a2,a3,a4),rfl⟩
 |_=>none
noncomputable def abm(e:Stmt):Option { t:Expr×List Stmt×List Stmt×Pos // e=.While t.1 t.2.1 t.2.2.1 t.2.2.2 }:=match e with
 |.While a0 a1 a2 a3=>some ⟨(a0,a1,a2,a3),rfl⟩
 |_=>none
def zX(e:Stmt):Option { t:Pos // e=.Pass t }:=match e with
 |.Pass a0=>some ⟨a0,rfl⟩
 |_=>none
def zY(e:Stmt):Option { t:Pos // e=.Break t }:=match e with
 |.Break a0=>some ⟨a0,rfl⟩
 |_=>none
def zZ(e:Stmt):Option { t:Pos // e=.Continue t }:=match e with
 |.Continue a0=>some ⟨a0,rfl⟩
 |_=>none
def one{α:Type}:List α->Option α
 |[a]=>some a
 |_=>none
def three{α:Type}:List α->Option (α×α×α)
 |[x,y,z]=>some (x,y,z)
 |_=>none
theorem abn{α:Type}{l:List α}{v:α×α×α}(h:three l=some v):l=[v.1,v.2.1,v.2.2]:=by
 unfold three at h;split at h
 ·cases h;rfl
 ·cases h
def two{α:Type}:List α->Option (α×α)
 |[a,b]=>some (a,b)
 |_=>none
def hdT{α:Type}:List α->Option (α×List α)
 |a::r=>some (a,r)
 |[]=>none
theorem cG{α:Type}{l:List α}{a:α}(h:one l=some a):l=[a]:=by
 cases l with
 |nil=>cases h
 |cons x r=>cases r with
  |nil=>cases h;rfl
  |cons _ _=>cases h
theorem jM{α:Type}{l:List α}{a:α×α}(h:two l=some a):l=[a.1,a.2]:=by
 cases l with
 |nil=>cases h
 |cons x r=>cases r with
  |nil=>cases h
  |cons y r=>cases r with
   |nil=>cases h;rfl
   |cons _ _=>cases h
theorem z6{α:Type}{l:List α}{a:α×List α}(h:hdT l=some a):l=a.1::a.2:=by
 cases l with
 |nil=>cases h
 |cons x r=>cases h;rfl
theorem aO{α:Type}{o:Option α}{p:α->Bool}(h:o.any p=true):∃t,o=some t/\p t=true:=by
 cases o with
 |none=>cases h
 |some t=>exact ⟨t,rfl,h⟩
def VD:UnaryOp->Bool
 |.USub=>true
 |_=>false
def uv:UnaryOp->Bool
 |.Not=>true
 |_=>false
theorem abo{o:UnaryOp}(h:VD o=true):o=.USub:=by cases o <;> first |rfl |cases h
theorem VF{o:UnaryOp}(h:uv o=true):o=.Not:=by cases o <;> first |rfl |cases h
noncomputable def bu(e:Expr):Option (Str×Pos×List Expr×Pos):=(pJ e).bind λt=>(asName t.1.1).bind λn=>match t.1.2.2.1 with |[]=>some (n.1.1,n.1.2,t.1.2.1,t.1.2.2.2) |_::_=>none
noncomputable def au{α:Type}{q:α->Prop}(o:Option { t:α // q t })(P:α->Bool):Bool:=match o with |some t=>P t.1 |none=>false
theorem aM{α:Type}{q:α->Prop}{o:Option { t:α // q t }}{P:α->Bool}(h:au o P=true):∃t,q t/\P t=true:=by
 cases o with
 |none=>cases h
 |some t=>exact ⟨t.1,t.2,h⟩
theorem iY{α β:Type}{o:Option α}{f:α->Option β}{b:β}(h:o.bind f=some b):∃t,o=some t/\f t=some b:=by
 cases o with
 |none=>cases h
 |some t=>exact ⟨t,rfl,h⟩
theorem dF{e:Expr}{t:Str×Pos×List Expr×Pos}(h:bu e=some t):e=.Call (.Name t.1 t.2.1) t.2.2.1 [] t.2.2.2:=by
 obtain ⟨⟨⟨f,as,ks,p⟩,hu⟩,_,h⟩:=iY h;obtain ⟨⟨⟨x,p'⟩,hn⟩,_,h⟩:=iY h;dsimp only at h hn hu;cases ks with
 |nil=>cases h;rw[hu,hn]
 |cons _ _=>cases h
noncomputable def uw (e:Expr):Option (Str×Pos×Expr×Expr×Pos×Pos):=(pJ e).bind λt=>(asName t.1.1).bind λn=>(one t.1.2.1).bind λv=>(one t.1.2.2.1).bind λkw=>if kw.arg=some (Str.ofString "start") then some (n.1.1,n.1.2,v,kw.value,kw.pos,t.1.2.2.2) else none
theorem VG {e:Expr} {t:Str×Pos×Expr×Expr×Pos×Pos} (h:uw e=some t):e=.Call (.Name t.1 t.2.1) [t.2.2.1] [⟨some (Str.ofString "start"),t.2.2.2.1,t.2.2.2.2.1⟩] t.2.2.2.2.2:=by
 obtain ⟨⟨⟨f,as,ks,p⟩,hu⟩,_,h⟩:=iY h;obtain ⟨⟨⟨x,p'⟩,hn⟩,_,h⟩:=iY h;dsimp only at h hn hu;obtain ⟨v,hv,h⟩:=iY h;obtain ⟨⟨ka,kv,kp⟩,hk,h⟩:=iY h;dsimp only at h;split at h
 ·rename_i he;cases h;rw[hu,hn,cG hv,cG hk,he]
 ·cases h
def jN(e:Expr):Bool:=(jK e).isSome
def z7:Ex->Bool
 |.frz _=>false
 |_=>true
def ux:Tx->Bool
 |.yes=>true
 |_=>false
mutual
noncomputable def bM(c:CT):Tg->Expr->Bool
 |.nm i,e=>au (asName e) λt=>(c.N[i]?==some t.1)&&c.sto t.1
 |.tp ts,e=>au (c7 e) λt=>b7 c ts t.1
noncomputable def b7(c:CT):Tgs->List Expr->Bool
 |.nil,es=>es.isEmpty
 |.cons t r,es=>match es with
  |e::es=>bM c t e&&b7 c r es
  |[]=>false
end
def z8(e:Expr):Bool:=au (iV e) λt=>au (VB t.1) λx=>decide (x.length<=1000)
def unF(e:Expr):Expr:=match ur e with |some t=>t.1.1 |none=>e
def VH:Ex->Bool
 |.cst (.str _)=>true
 |_=>false
noncomputable def VJ:Exs->List Expr->Bool
 |.cons x xs,p::ps=>(match ur p with |some t=>decide (t.1.2.1=-1)&&t.1.2.2.1.isNone |none=>VH x)&&VJ xs ps
 |.nil,ps=>ps.isEmpty
 |_,[]=>false
mutual
noncomputable def aa(c:CT):Ex->Expr->Bool
 |.var i,e=>au (asName e) λt=>(c.N[i]?==some t.1)&&gH (c.kd.lookup t.1)&&okN t.1
 |.cst d,e=>au (iV e) λt=>iT d t.1
 |.glb _ _,_=>false
 |.bin op _ a b,e=>au (zR e) λt=>t.2.1==op&&aa c a t.1&&aa c b t.2.2.1
 |.neg _,_=>false
 |.cmp op a b,e=>au (jK e) λt=>(one t.2.1).any λo=>(one t.2.2.1).any λr=>o==op&&aa c a t.1&&aa c b r
 |.chn op op' a b d,e=>au (jK e) λt=>(two t.2.1).any λo=>(two t.2.2.1).any λr=>o.1==op&&o.2==op'&&aa c a t.1&&aa c b r.1&&aa c d r.2
 |.not _,_=>false
 |.boo isAnd x es,e=>au (pI e) λt=>(hdT t.2.1).any λv=>t.1==(if isAnd then .And else .Or)&&aa c x v.1&&aG c es v.2
 |.ife _ _ _,_=>false
 |.tup es,e=>au (c7 e) λt=>aG c es t.1
 |.lst _ es,e=>au (asList e) λt=>aG c es t.1
 |.idx a i,e=>au (iW e) λt=>aa c a t.1&&aa c i t.2.1
 |.slc _ a lo hi,e=>au (iW e) λt=>au (zU t.2.1) λs=>s.2.2.1.isNone&&(aa c a t.1&&fu c lo s.1&&fu c hi s.2.1)
 |.rvs _ _ _,_=>false
 |.call f es,e=>(bu e).any λt=>t.1==Str.ofString f&&c.glo t.1&&(c.fs.any λp=>p.1==f&&p.2==t.2.2.1.length)&&!t.2.2.1.isEmpty&&aG c es t.2.2.1
 |.bcl f es,e=>(bu e).any λt=>t.1==Str.ofString f.name&&uo f&&c.glo t.1&&c.bt.contains f.name&&!t.2.2.1.isEmpty&&aG c es t.2.2.1
 |.lcl _ f es,e=>(bu e).any λt=>t.1==Str.ofString f.name&&uq f&&c.glo t.1&&c.bt.contains f.name&&!t.2.2.1.isEmpty&&aG c es t.2.2.1
 |.isi a t,e=>(bu e).any λu=>(two u.2.2.1).any λv=>au (asName v.2) λy=>u.1==Str.ofString "isinstance"&&c.glo u.1&&c.bt.contains "isinstance"&&aa c a v.1&&y.1==Str.ofString t&&c.glo y.1&&c.bt.contains t&&eX t
 |.isx _ _ _,_=>false
 |.fst _,_=>false
 |.rgl _ _,_=>false
 |.srs _ a,e=>(bu e).any λt=>(one t.2.2.1).any λe1=>(bu e1).any λu=>(one u.2.2.1).any λe2=>t.1==Str.ofString "sorted"&&c.glo t.1&&c.bt.contains "sorted"&&u.1==Str.ofString "set"&&c.glo u.1&&c.bt.contains "set"&&aa c a e2
 |.rgt _,_=>false
 |.rpl _ _ _ _,_=>false
 |.fld _ _ _,_=>false
 |.mcl _ _ _ _ _,_=>false
 |.mkx C a,e=>(bu e).any λt=>(one t.2.2.1).any λv=>t.1==Str.ofString C&&c.glo t.1&&c.xs.contains (C,true)&&aa c a v
 |.mki C f a,e=>(bu e).any λt=>(one t.2.2.1).any λv=>t.1==Str.ofString C&&c.glo t.1&&c.ot.xk.contains (C,f)&&aa c a v
 |.xat C f a,e=>au (pK e) λt=>pG t.1&&(t.2.1==Str.ofString f&&c.ot.xk.contains (C,f)&&aa c a t.1)
 |.mko _ _,_=>false
 |.pp0 _,_=>false
 |.mth m o es,e=>au (pJ e) λt=>au (pK t.1) λv=>t.2.2.1.isEmpty&&(v.2.1==Str.ofString m.name&&aa c o v.1&&!pH v.1&&(v.2.2.endLine==t.2.2.2.line)&&decide (t.2.1.length < 29)&&!t.2.1.isEmpty&&aG c es t.2.1)
 |.comp _ elt tg it cond N cap,e=>au (zV e) λt=>(one t.2.1).any λg=>decide (g.is_async=0)&&bw c it g.target g.iter&&fZ c.N t.2.2.1 (N.map Str.ofString) cap&&iU c t.2.2.1&&dD (N.map Str.ofString) &&
    bM (c.comp (N.map Str.ofString) t.2.2.1) tg g.target&&((ux cond&&g.ifs.isEmpty)||(one g.ifs).any λf=>bG (c.comp (N.map Str.ofString) t.2.2.1) cond f)&&aa (c.comp (N.map Str.ofString) t.2.2.1) elt t.1
 |.cm3 _ _ _ _ _ _ _ _ _,_=>false
 |.frz a,e=>aa c a e
noncomputable def bG(c:CT):Tx->Expr->Bool
 |.val x,e=>(gJ e||jN e)&&aa c x e&&z7 x
 |.not t,e=>au (zT e) λu=>uv u.1&&bG c t u.2.1
 |.boo isAnd t ts,e=>au (pI e) λu=>(hdT u.2.1).any λv=>u.1==(if isAnd then .And else .Or)&&bG c t v.1&&gM c ts v.2
 |.yes,_=>false
noncomputable def gM(c:CT):Txs->List Expr->Bool
 |.nil,es=>es.isEmpty
 |.cons t r,es=>match es with
  |e::es=>bG c t e&&gM c r es
  |[]=>false
noncomputable def aG(c:CT):Exs->List Expr->Bool
 |.nil,es=>es.isEmpty
 |.cons t r,es=>match es with
  |e::es=>aa c t e&&aG c r es
  |[]=>false
noncomputable def fu(c:CT):Ox->Option Expr->Bool
 |.no,e=>e.isNone
 |.ob x,e=>match e with
  |some e=>aa c x e
  |none=>false
noncomputable def bw(c:CT):It'->Expr->Expr->Bool
 |.seq x,_,e=>aa c x e
 |.rng a,_,e=>(bu e).any λt=>(one t.2.2.1).any λv=>t.1==Str.ofString "range"&&c.glo t.1&&c.bt.contains "range"&&aa c a v
 |.rng2 _ _,_,_=>false
 |.rev _,_,_=>false
 |.dwn _ _ _,_,_=>false
 |.enm a,tg,e=>au (c7 tg) λ_=>(bu e).any λt=>(one t.2.2.1).any λv=>t.1==Str.ofString "enumerate"&&c.glo t.1&&c.bt.contains "enumerate"&&aa c a v
 |.en1 a,tg,e=>au (c7 tg) λ_=>(uw e).any λt=>t.1==Str.ofString "enumerate"&&c.glo t.1&&c.bt.contains "enumerate"&&aa c a t.2.2.1&&(au (iV t.2.2.2.1) λu=>iT (.int 1) u.1)
 |.zip a b,tg,e=>au (c7 tg) λ_=>(bu e).any λt=>(two t.2.2.1).any λv=>t.1==Str.ofString "zip"&&c.glo t.1&&c.bt.contains "zip"&&aa c a v.1&&aa c b v.2
end
def jO(c:CT)(cond:Tx)(ifs:List Expr):Bool:=(ux cond&&ifs.isEmpty)||(one ifs).any λf=>bG c cond f
def z9:Ex->Bool
 |.comp ..=>true
 |.cm3 ..=>true
 |_=>false
def jP:Expr->Bool
 |.Tuple ..=>true
 |_=>false
def uy(g:Tg)(x:Ex)(e:Expr):Bool:=match g with |.nm _=>!cA e||z9 x |.tp _=>!jP e&&!cA e
noncomputable def uz(c:CT):Exs->List Expr->Bool
 |es,[]=>(match es with |.nil=>true |_=>false)
 |es,p::ps=>match z8 p with
  |true=>uz c es ps
  |false=>(match es with |.cons x r=>(au (ur p) λt=>decide (t.2.1=-1)&&t.2.2.1.isNone&&aa c x t.1)&&uz c r ps |.nil=>false)
noncomputable def abp(c:CT)(es:Exs)(e:Expr):Bool:=(match es with |.nil=>z8 e |_=>false)||au (Vz e) λt=>decide (2<=t.1.length)&&decide (t.1.length<=50)&&uz c es t.1
noncomputable def Aa(c:CT):Tb->List Stmt->Bool
 |.call f es,sts=>(one sts).any λs0=>au (jL s0) λe0=>(bu e0.1).any λu=>(u.1==Str.ofString f&&c.glo u.1&&(c.fs.any λp=>p.1==f&&p.2==u.2.2.1.length)&&!u.2.2.1.isEmpty&&aG c es u.2.2.1)
 |.pick _ _ _ _,_=>false
 |.asg i f es,sts=>(one sts).any λs0=>au (gK s0) λa=>(one a.1).any λtg=>au (asName tg) λy=>(bu a.2.1).any λu=>(c.N[i]?==some y.1&&c.sto y.1&&okN y.1)&&(u.1==Str.ofString f&&c.glo u.1&&(c.fs.any λp=>p.1==f&&p.2==u.2.2.1.length)&&!u.2.2.1.isEmpty&&aG c es u.2.2.1)
 |.ite t a b,sts=>(one sts).any λs0=>au (ut s0) λu=>bG c t u.1&&Aa c a u.2.1&&Aa c b u.2.2.1
 |.mcl f C m o es,sts=>(one sts).any λs0=>au (jL s0) λe0=>aa c (.mcl f C m o es) e0.1
 |.mko C es,sts=>(one sts).any λs0=>au (jL s0) λe0=>aa c (.mko C es) e0.1
def VL(b:Bool):Const->Bool
 |.bool x=>x==b
 |_=>false
noncomputable def abq(c:CT)(h:Hd)(nm:Option Str)(y:Str)(e:Expr):Bool:=(match h with
 |.flag i b=>nm.isNone&&(c.N[i]?==some y)&&au (iV e) λk=>VL b k.1
 |.bind n i=>nm.any λx=>(c.N[i]?==some y)&&(c.N[n]?==some x)&&(c.kd.lookup x==some .local)&&okN x&&au (asName e) λz=>z.1==x)&&c.sto y&&okN y
mutual
noncomputable def aZ(c:CT):Sx->Stmt->Bool
 |.exp x,st=>au (jL st) λt=>!cA t.1&&aa c x t.1
 |.star i j x,st=>au (gK st) λt=>(one t.1).any λtg=>au (c7 tg) λu=>(two u.1).any λv=>au (zQ v.1) λw=>au (asName w.1) λy=>au (asName v.2) λz=>(c.N[i]?==some y.1)&&c.sto y.1&&(c.N[j]?==some z.1)&&c.sto z.1&&aa c x t.2.1&&!jP t.2.1&&!cA t.2.1
 |.asg g x,st=>au (gK st) λt=>(one t.1).any λtg=>bM c g tg&&aa c x t.2.1&&uy g x t.2.1
 |.set o i x,st=>au (gK st) λt=>(one t.1).any λtg=>au (iW tg) λu=>aa c o u.1&&aa c i u.2.1&&aa c x t.2.1&&!cA t.2.1
 |.aug _ _ _,_=>false
 |.augs _ _ _ _,_=>false
 |.ret x,st=>au (pL st) λt=>t.1.any λe=>aa c x e
 |.rtn,st=>au (pL st) λt=>t.1.isNone
 |.ite t a b,st=>au (ut st) λu=>bG c t u.1&&aL c a u.2.1&&aL c b u.2.2.1
 |.for_ g it b,st=>au (zW st) λt=>t.2.2.2.1.isEmpty&&(bM c g t.1&&bw c it t.1 t.2.1&&aL c b t.2.2.1)
 |.whl _ _,_=>false
 |.pas,st=>(zX st).isSome
 |.brk,st=>(zY st).isSome
 |.cnt,st=>(zZ st).isSome
 |.nev,_=>true
 |.rse _ _,_=>false
 |.tryc _ _ _ _ _,_=>false
 |.tryx _ _ _ _,_=>false
noncomputable def aL(c:CT):Sxs->List Stmt->Bool
 |.nil,es=>es.isEmpty
 |.cons t r,es=>match es with
  |e::es=>aZ c t e&&aL c r es
  |[]=>false
end
theorem uA{c:CT}{i:Nat}{e:Expr}(h:bM c (.nm i) e=true):∃x p,e=.Name x p/\((c.N[i]?==some x)&&c.sto x)=true:=by have h:(au (asName e) λt=>(c.N[i]?==some t.1)&&c.sto t.1)=true:=h;obtain ⟨t,ht,h⟩:=aM h;exact ⟨_,_,ht,h⟩
theorem uB{c:CT}{ts:Tgs}{e:Expr}(h:bM c (.tp ts) e=true):∃es k p,e=.Tuple es k p/\(b7 c ts es)=true:=by have h:(au (c7 e) λt=>b7 c ts t.1)=true:=h;obtain ⟨t,ht,h⟩:=aM h;exact ⟨_,_,_,ht,h⟩
theorem Ab{c:CT}{i:Nat}{e:Expr}(h:aa c (.var i) e=true):∃x p,e=.Name x p/\((c.N[i]?==some x)&&gH (c.kd.lookup x)&&okN x)=true:=by have h:(au (asName e) λt=>(c.N[i]?==some t.1)&&gH (c.kd.lookup t.1)&&okN t.1)=true:=h;obtain ⟨t,ht,h⟩:=aM h;exact ⟨_,_,ht,h⟩
theorem Ac{c:CT}{d:D}{e:Expr}(h:aa c (.cst d) e=true):∃k n p,e=.Constant k n p/\(iT d k)=true:=by have h:(au (iV e) λt=>iT d t.1)=true:=h;obtain ⟨t,ht,h⟩:=aM h;exact ⟨_,_,_,ht,h⟩
theorem Ad{c:CT}{op:Operator}{fz:Bool}{a b:Ex}{e:Expr}(h:aa c (.bin op fz a b) e=true):∃l o r p,e=.BinOp l o r p/\(o==op&&aa c a l&&aa c b r)=true:=by have h:(au (zR e) λt=>t.2.1==op&&aa c a t.1&&aa c b t.2.2.1)=true:=h;obtain ⟨t,ht,h⟩:=aM h;exact ⟨_,_,_,_,ht,h⟩
theorem Ae{c:CT}{op:CmpOp}{a b:Ex}{e:Expr}(h:aa c (.cmp op a b) e=true):∃l o r p,e=.Compare l [o] [r] p/\(o==op&&aa c a l&&aa c b r)=true:=by have h:(au (jK e) λt=>(one t.2.1).any λo=>(one t.2.2.1).any λr=>o==op&&aa c a t.1&&aa c b r)=true:=h;obtain ⟨t,ht,h⟩:=aM h;obtain ⟨o,ho,h⟩:=aO h;obtain ⟨r,hr,h⟩:=aO h;exact ⟨_,_,_,_,by rw[ht,cG ho,cG hr],h⟩
theorem Af{c:CT}{op op':CmpOp}{a b d:Ex}{e:Expr}(h:aa c (.chn op op' a b d) e=true):∃l o o' m r p,e=.Compare l [o,o'] [m,r] p/\(o==op&&o'==op'&&aa c a l&&aa c b m&&aa c d r)=true:=by have h:(au (jK e) λt=>(two t.2.1).any λo=>(two t.2.2.1).any λr=>o.1==op&&o.2==op'&&aa c a t.1&&aa c b r.1&&aa c d r.2)=true:=h;obtain ⟨t,ht,h⟩:=aM h;obtain ⟨o,ho,h⟩:=aO h;obtain ⟨r,hr,h⟩:=aO h;exact ⟨_,_,_,_,_,_,by rw[ht,jM ho,jM hr],h⟩
theorem Ag{c:CT}{isAnd:Bool}{x:Ex}{es:Exs}{e:Expr}(h:aa c (.boo isAnd x es) e=true):∃op v vs p,e=.BoolOp op (v::vs) p/\(op==(if isAnd then .And else .Or)&&aa c x v&&aG c es vs)=true:=by have h:(au (pI e) λt=>(hdT t.2.1).any λv=>t.1==(if isAnd then .And else .Or)&&aa c x v.1&&aG c es v.2)=true:=h;obtain ⟨t,ht,h⟩:=aM h;obtain ⟨v,hv,h⟩:=aO h;exact ⟨_,_,_,_,by rw[ht,z6 hv],h⟩
theorem Ah{c:CT}{es:Exs}{e:Expr}(h:aa c (.tup es) e=true):∃vs k p,e=.Tuple vs k p/\(aG c es vs)=true:=by have h:(au (c7 e) λt=>aG c es t.1)=true:=h;obtain ⟨t,ht,h⟩:=aM h;exact ⟨_,_,_,ht,h⟩
theorem Ai{c:CT}{fz:Bool}{es:Exs}{e:Expr}(h:aa c (.lst fz es) e=true):∃vs p,e=.List vs p/\(aG c es vs)=true:=by have h:(au (asList e) λt=>aG c es t.1)=true:=h;obtain ⟨t,ht,h⟩:=aM h;exact ⟨_,_,ht,h⟩
theorem Aj{c:CT}{a i:Ex}{e:Expr}(h:aa c (.idx a i) e=true):∃v s p,e=.Subscript v s p/\(aa c a v&&aa c i s)=true:=by have h:(au (iW e) λt=>aa c a t.1&&aa c i t.2.1)=true:=h;obtain ⟨t,ht,h⟩:=aM h;exact ⟨_,_,_,ht,h⟩
theorem Ak{c:CT}{fz:Bool}{a:Ex}{lo hi:Ox}{e:Expr}(h:aa c (.slc fz a lo hi) e=true):∃v l u p' p,e=.Subscript v (.Slice l u none p') p/\(aa c a v&&fu c lo l&&fu c hi u)=true:=by have h:(au (iW e) λt=>au (zU t.2.1) λs=>s.2.2.1.isNone&&(aa c a t.1&&fu c lo s.1&&fu c hi s.2.1))=true:=h;obtain ⟨t,ht,h⟩:=aM h;obtain ⟨s,hs,h⟩:=aM h;rw[af,Option.isNone_iff_eq_none]at h;exact ⟨_,_,_,_,_,by rw[ht,hs,h.1],h.2⟩
theorem Al{c:CT}{f:String}{es:Exs}{e:Expr}(h:aa c (.call f es) e=true):∃x p args pos,e=.Call (.Name x p) args [] pos/\(x==Str.ofString f&&c.glo x&&(c.fs.any λp=>p.1==f&&p.2==args.length)&&!args.isEmpty&&aG c es args)=true:=by have h:((bu e).any λt=>t.1==Str.ofString f&&c.glo t.1&&(c.fs.any λp=>p.1==f&&p.2==t.2.2.1.length)&&!t.2.2.1.isEmpty&&aG c es t.2.2.1)=true:=h;obtain ⟨t,ht,h⟩:=aO h;exact ⟨_,_,_,_,dF ht,h⟩
theorem Am{c:CT}{f:Bf}{es:Exs}{e:Expr}(h:aa c (.bcl f es) e=true):∃x p args pos,e=.Call (.Name x p) args [] pos/\(x==Str.ofString f.name&&uo f&&c.glo x&&c.bt.contains f.name&&!args.isEmpty&&aG c es args)=true:=by have h:((bu e).any λt=>t.1==Str.ofString f.name&&uo f&&c.glo t.1&&c.bt.contains f.name&&!t.2.2.1.isEmpty&&aG c es t.2.2.1)=true:=h;obtain ⟨t,ht,h⟩:=aO h;exact ⟨_,_,_,_,dF ht,h⟩
theorem An{c:CT}{fz:Bool}{f:Lf}{es:Exs}{e:Expr}(h:aa c (.lcl fz f es) e=true):∃x p args pos,e=.Call (.Name x p) args [] pos/\(x==Str.ofString f.name&&uq f&&c.glo x&&c.bt.contains f.name&&!args.isEmpty&&aG c es args)=true:=by have h:((bu e).any λt=>t.1==Str.ofString f.name&&uq f&&c.glo t.1&&c.bt.contains f.name&&!t.2.2.1.isEmpty&&aG c es t.2.2.1)=true:=h;obtain ⟨t,ht,h⟩:=aO h;exact ⟨_,_,_,_,dF ht,h⟩
theorem Ao {c:CT} {a:Ex} {t:String} {e:Expr} (h:aa c (.isi a t) e=true):∃x p v y p' pos,e=.Call (.Name x p) [v,.Name y p'] [] pos/\(x==Str.ofString "isinstance"&&c.glo x&&c.bt.contains "isinstance"&&aa c a v&&y==Str.ofString t&&c.glo y&&c.bt.contains t&&eX t)=true:=by have h:((bu e).any λu=>(two u.2.2.1).any λv=>au (asName v.2) λy=>u.1==Str.ofString "isinstance"&&c.glo u.1&&c.bt.contains "isinstance"&&aa c a v.1&&y.1==Str.ofString t&&c.glo y.1&&c.bt.contains t&&eX t)=true:=h;obtain ⟨u,hu,h⟩:=aO h;obtain ⟨v,hv,h⟩:=aO h;obtain ⟨y,hy,h⟩:=aM h;exact ⟨_,_,_,_,_,_,by rw[dF hu,jM hv,hy],h⟩
theorem Aq {c:CT} {fz:Bool} {a:Ex} {e:Expr} (h:aa c (.srs fz a) e=true):∃x p x' p' e2 pos' pos,e=.Call (.Name x p) [.Call (.Name x' p') [e2] [] pos'] [] pos/\(x==Str.ofString "sorted"&&c.glo x&&c.bt.contains "sorted"&&x'==Str.ofString "set"&&c.glo x'&&c.bt.contains "set"&&aa c a e2)=true:=by have h:((bu e).any λt=>(one t.2.2.1).any λe1=>(bu e1).any λu=>(one u.2.2.1).any λe2=>t.1==Str.ofString "sorted"&&c.glo t.1&&c.bt.contains "sorted"&&u.1==Str.ofString "set"&&c.glo u.1&&c.bt.contains "set"&&aa c a e2)=true:=h;obtain ⟨t,ht,h⟩:=aO h;obtain ⟨e1,he1,h⟩:=aO h;obtain ⟨u,hu,h⟩:=aO h;obtain ⟨e2,he2,h⟩:=aO h;exact ⟨_,_,_,_,_,_,_,by rw[dF ht,cG he1,dF hu,cG he2],h⟩
theorem Ar{c:CT}{C:String}{a:Ex}{e:Expr}(h:aa c (.mkx C a) e=true):∃x p v pos,e=.Call (.Name x p) [v] [] pos/\(x==Str.ofString C&&c.glo x&&c.xs.contains (C,true)&&aa c a v)=true:=by have h:((bu e).any λt=>(one t.2.2.1).any λv=>t.1==Str.ofString C&&c.glo t.1&&c.xs.contains (C,true)&&aa c a v)=true:=h;obtain ⟨t,ht,h⟩:=aO h;obtain ⟨v,hv,h⟩:=aO h;exact ⟨_,_,_,_,by rw[dF ht,cG hv],h⟩
theorem Av{c:CT}{C f:String}{a:Ex}{e:Expr}(h:aa c (.mki C f a) e=true):∃x p v pos,e=.Call (.Name x p) [v] [] pos/\(x==Str.ofString C&&c.glo x&&c.ot.xk.contains (C,f)&&aa c a v)=true:=by have h:((bu e).any λt=>(one t.2.2.1).any λv=>t.1==Str.ofString C&&c.glo t.1&&c.ot.xk.contains (C,f)&&aa c a v)=true:=h;obtain ⟨t,ht,h⟩:=aO h;obtain ⟨v,hv,h⟩:=aO h;exact ⟨_,_,_,_,by rw[dF ht,cG hv],h⟩
theorem Aw{c:CT}{C f:String}{a:Ex}{e:Expr}(h:aa c (.xat C f a) e=true):∃v n pos,e=.Attribute v n pos/\pG v=true/\(n==Str.ofString f&&c.ot.xk.contains (C,f)&&aa c a v)=true:=by have h:(au (pK e) λt=>pG t.1&&(t.2.1==Str.ofString f&&c.ot.xk.contains (C,f)&&aa c a t.1))=true:=h;obtain ⟨t,ht,h⟩:=aM h;rw[af]at h;exact ⟨_,_,_,ht,h.1,h.2⟩
theorem Ax{c:CT}{m:Mf}{o:Ex}{es:Exs}{e:Expr}(h:aa c (.mth m o es) e=true):∃v x apos args cpos,e=.Call (.Attribute v x apos) args [] cpos/\(x==Str.ofString m.name&&aa c o v&&!pH v&&(apos.endLine==cpos.line)&&decide (args.length < 29)&&!args.isEmpty&&aG c es args)=true:=by have h:(au (pJ e) λt=>au (pK t.1) λv=>t.2.2.1.isEmpty&&(v.2.1==Str.ofString m.name&&aa c o v.1&&!pH v.1&&(v.2.2.endLine==t.2.2.2.line)&&decide (t.2.1.length < 29)&&!t.2.1.isEmpty&&aG c es t.2.1))=true:=h;obtain ⟨t,ht,h⟩:=aM h;obtain ⟨v,hv,h⟩:=aM h;rw[af,List.isEmpty_iff]at h;exact ⟨_,_,_,_,_,by rw[ht,hv,h.1],h.2⟩
theorem Ay{c:CT}{fz:Bool}{elt:Ex}{tg:Tg}{it:It'}{cond:Tx}{N:List String}{cap:List (Option Nat)}{e:Expr}(h:aa c (.comp fz elt tg it cond N cap) e=true):∃elt' tg' iter ifs as scope pos,e=.ListComp elt' [⟨tg',iter,ifs,as⟩] scope pos/\(decide (as=0)&&bw c it tg' iter&&fZ c.N scope (N.map Str.ofString) cap&&iU c scope&&dD (N.map Str.ofString)&&bM (c.comp (N.map Str.ofString) scope) tg tg'&&jO (c.comp (N.map Str.ofString) scope) cond ifs&&aa (c.comp (N.map Str.ofString) scope) elt elt')=true:=by have h:(au (zV e) λt=>(one t.2.1).any λg=>decide (g.is_async=0)&&bw c it g.target g.iter&&fZ c.N t.2.2.1 (N.map Str.ofString) cap&&iU c t.2.2.1&&dD (N.map Str.ofString)&&bM (c.comp (N.map Str.ofString) t.2.2.1) tg g.target&&((ux cond&&g.ifs.isEmpty)||(one g.ifs).any λf=>bG (c.comp (N.map Str.ofString) t.2.2.1) cond f)&&aa (c.comp (N.map Str.ofString) t.2.2.1) elt t.1)=true:=h;obtain ⟨t,ht,h⟩:=aM h;obtain ⟨⟨tg',iter,ifs,as⟩,hg,h⟩:=aO h;exact ⟨t.1,tg',iter,ifs,as,t.2.2.1,t.2.2.2,(ht).trans (by rw[cG hg]),h⟩
theorem VM{c:CT}{t:Tx}{e:Expr}(h:bG c (.not t) e=true):∃x p,e=.UnaryOp .Not x p/\(bG c t x)=true:=by have h:(au (zT e) λu=>uv u.1&&bG c t u.2.1)=true:=h;obtain ⟨u,ht,h⟩:=aM h;rw[af]at h;exact ⟨_,_,by rw[ht,VF h.1],h.2⟩
theorem VN{c:CT}{isAnd:Bool}{x:Tx}{es:Txs}{e:Expr}(h:bG c (.boo isAnd x es) e=true):∃op v vs p,e=.BoolOp op (v::vs) p/\(op==(if isAnd then .And else .Or)&&bG c x v&&gM c es vs)=true:=by have h:(au (pI e) λu=>(hdT u.2.1).any λv=>u.1==(if isAnd then .And else .Or)&&bG c x v.1&&gM c es v.2)=true:=h;obtain ⟨t,ht,h⟩:=aM h;obtain ⟨v,hv,h⟩:=aO h;exact ⟨_,_,_,_,by rw[ht,z6 hv],h⟩
theorem Az {c:CT} {a:Ex} {tg e:Expr} (h:bw c (.rng a) tg e=true):∃x p v pos,e=.Call (.Name x p) [v] [] pos/\(x==Str.ofString "range"&&c.glo x&&c.bt.contains "range"&&aa c a v)=true:=by have h:((bu e).any λt=>(one t.2.2.1).any λv=>t.1==Str.ofString "range"&&c.glo t.1&&c.bt.contains "range"&&aa c a v)=true:=h;obtain ⟨t,ht,h⟩:=aO h;obtain ⟨v,hv,h⟩:=aO h;exact ⟨_,_,_,_,by rw[dF ht,cG hv],h⟩
theorem Ba {c:CT} {a:Ex} {tg e:Expr} (h:bw c (.enm a) tg e=true):∃ts k p0 x p v pos,tg=.Tuple ts k p0/\e=.Call (.Name x p) [v] [] pos/\(x==Str.ofString "enumerate"&&c.glo x&&c.bt.contains "enumerate"&&aa c a v)=true:=by have h:(au (c7 tg) λ_=>(bu e).any λt=>(one t.2.2.1).any λv=>t.1==Str.ofString "enumerate"&&c.glo t.1&&c.bt.contains "enumerate"&&aa c a v)=true:=h;obtain ⟨g,hg,h⟩:=aM h;obtain ⟨t,ht,h⟩:=aO h;obtain ⟨v,hv,h⟩:=aO h;exact ⟨_,_,_,_,_,_,_,hg,by rw[dF ht,cG hv],h⟩
theorem Bb {c:CT} {a:Ex} {tg e:Expr} (h:bw c (.en1 a) tg e=true):∃ts k p0 x p v w kp pos,tg=.Tuple ts k p0/\e=.Call (.Name x p) [v] [⟨some (Str.ofString "start"),w,kp⟩] pos/\(x==Str.ofString "enumerate"&&c.glo x&&c.bt.contains "enumerate"&&aa c a v&&aa c (.cst (.int 1)) w)=true:=by have h:(au (c7 tg) λ_=>(uw e).any λt=>t.1==Str.ofString "enumerate"&&c.glo t.1&&c.bt.contains "enumerate"&&aa c a t.2.2.1&&(au (iV t.2.2.2.1) λu=>iT (.int 1) u.1))=true:=h;obtain ⟨g,hg,h⟩:=aM h;obtain ⟨t,ht,h⟩:=aO h;exact ⟨_,_,_,_,_,_,_,_,_,hg,VG ht,h⟩
theorem Bc {c:CT} {a b:Ex} {tg e:Expr} (h:bw c (.zip a b) tg e=true):∃ts k p0 x p v v' pos,tg=.Tuple ts k p0/\e=.Call (.Name x p) [v,v'] [] pos/\(x==Str.ofString "zip"&&c.glo x&&c.bt.contains "zip"&&aa c a v&&aa c b v')=true:=by have h:(au (c7 tg) λ_=>(bu e).any λt=>(two t.2.2.1).any λv=>t.1==Str.ofString "zip"&&c.glo t.1&&c.bt.contains "zip"&&aa c a v.1&&aa c b v.2)=true:=h;obtain ⟨g,hg,h⟩:=aM h;obtain ⟨t,ht,h⟩:=aO h;obtain ⟨v,hv,h⟩:=aO h;exact ⟨_,_,_,_,_,_,_,_,hg,by rw[dF ht,jM hv],h⟩
theorem VP{c:CT}{x:Ex}{st:Stmt}(h:aZ c (.exp x) st=true):∃e pos,st=.Expr e pos/\(!cA e&&aa c x e)=true:=by have h:(au (jL st) λt=>!cA t.1&&aa c x t.1)=true:=h;obtain ⟨t,ht,h⟩:=aM h;exact ⟨_,_,ht,h⟩
theorem VR{c:CT}{i j:Nat}{x:Ex}{st:Stmt}(h:aZ c (.star i j x) st=true):∃y py sp z pz k p e pos,st=.Assign [.Tuple [.Starred (.Name y py) sp,.Name z pz] k p] e pos/\((c.N[i]?==some y)&&c.sto y&&(c.N[j]?==some z)&&c.sto z&&aa c x e&&!jP e&&!cA e)=true:=by have h:(au (gK st) λt=>(one t.1).any λtg=>au (c7 tg) λu=>(two u.1).any λv=>au (zQ v.1) λw=>au (asName w.1) λy=>au (asName v.2) λz=>(c.N[i]?==some y.1)&&c.sto y.1&&(c.N[j]?==some z.1)&&c.sto z.1&&aa c x t.2.1&&!jP t.2.1&&!cA t.2.1)=true:=h;obtain ⟨t,ht,h⟩:=aM h;obtain ⟨tg,hg,h⟩:=aO h;obtain ⟨u,hu,h⟩:=aM h;obtain ⟨v,hv,h⟩:=aO h;obtain ⟨w,hw,h⟩:=aM h;obtain ⟨y,hy,h⟩:=aM h;obtain ⟨z,hz,h⟩:=aM h;exact ⟨_,_,_,_,_,_,_,_,_,by rw[ht,cG hg,hu,jM hv,hw,hy,hz],h⟩
theorem Bd{c:CT}{g:Tg}{x:Ex}{st:Stmt}(h:aZ c (.asg g x) st=true):∃tg e pos,st=.Assign [tg] e pos/\(bM c g tg&&aa c x e&&uy g x e)=true:=by have h:(au (gK st) λt=>(one t.1).any λtg=>bM c g tg&&aa c x t.2.1&&uy g x t.2.1)=true:=h;obtain ⟨t,ht,h⟩:=aM h;obtain ⟨g,hg,h⟩:=aO h;exact ⟨_,_,_,by rw[ht,cG hg],h⟩
theorem VV{c:CT}{o i x:Ex}{st:Stmt}(h:aZ c (.set o i x) st=true):∃o' i' tpos e pos,st=.Assign [.Subscript o' i' tpos] e pos/\(aa c o o'&&aa c i i'&&aa c x e&&!cA e)=true:=by have h:(au (gK st) λt=>(one t.1).any λtg=>au (iW tg) λu=>aa c o u.1&&aa c i u.2.1&&aa c x t.2.1&&!cA t.2.1)=true:=h;obtain ⟨t,ht,h⟩:=aM h;obtain ⟨g,hg,h⟩:=aO h;obtain ⟨u,hu,h⟩:=aM h;exact ⟨_,_,_,_,_,by rw[ht,cG hg,hu],h⟩
theorem V0{c:CT}{x:Ex}{st:Stmt}(h:aZ c (.ret x) st=true):∃e pos,st=.Return (some e) pos/\(aa c x e)=true:=by have h:(au (pL st) λt=>t.1.any λe=>aa c x e)=true:=h;obtain ⟨t,ht,h⟩:=aM h;obtain ⟨e,he,h⟩:=aO h;exact ⟨_,_,by rw[ht,he],h⟩
theorem V1{c:CT}{st:Stmt}(h:aZ c .rtn st=true):∃pos,st=.Return none pos/\(true)=true:=by have h:(au (pL st) λt=>t.1.isNone)=true:=h;obtain ⟨t,ht,h⟩:=aM h;rw[Option.isNone_iff_eq_none]at h;exact ⟨_,by rw[ht,h],rfl⟩
theorem V2{c:CT}{t:Tx}{a b:Sxs}{st:Stmt}(h:aZ c (.ite t a b) st=true):∃t' a' b' pos,st=.If t' a' b' pos/\(bG c t t'&&aL c a a'&&aL c b b')=true:=by have h:(au (ut st) λu=>bG c t u.1&&aL c a u.2.1&&aL c b u.2.2.1)=true:=h;obtain ⟨u,ht,h⟩:=aM h;exact ⟨_,_,_,_,ht,h⟩
theorem V3{c:CT}{g:Tg}{it:It'}{b:Sxs}{st:Stmt}(h:aZ c (.for_ g it b) st=true):∃tg iter body pos,st=.For tg iter body [] pos/\(bM c g tg&&bw c it tg iter&&aL c b body)=true:=by have h:(au (zW st) λt=>t.2.2.2.1.isEmpty&&(bM c g t.1&&bw c it t.1 t.2.1&&aL c b t.2.2.1))=true:=h;obtain ⟨t,ht,h⟩:=aM h;rw[af,List.isEmpty_iff]at h;exact ⟨_,_,_,_,by rw[ht,h.1],h.2⟩
theorem V4{c:CT}{st:Stmt}(h:aZ c .pas st=true):∃pos,st=.Pass pos/\(true)=true:=by obtain ⟨⟨t,ht⟩,_⟩:=c8.mp (show (zX st).isSome=true from h);exact ⟨t,ht,rfl⟩
theorem V5{c:CT}{st:Stmt}(h:aZ c .brk st=true):∃pos,st=.Break pos/\(true)=true:=by obtain ⟨⟨t,ht⟩,_⟩:=c8.mp (show (zY st).isSome=true from h);exact ⟨t,ht,rfl⟩
theorem V6{c:CT}{st:Stmt}(h:aZ c .cnt st=true):∃pos,st=.Continue pos/\(true)=true:=by obtain ⟨⟨t,ht⟩,_⟩:=c8.mp (show (zZ st).isSome=true from h);exact ⟨t,ht,rfl⟩
def jQ:Expr->Bool
 |.Starred ..=>false
 |.Set ..=>false
 |.Slice ..=>false
 |_=>true
theorem bC{c:CT}:∀(x:Ex){e:Expr},aa c x e=true->jQ e=true
 |.frz a,e,h=>bC a (show aa c a e=true from h)
 |.var _,e,h=>by obtain ⟨_,_,rfl,_⟩:=Ab h;rfl
 |.cst _,e,h=>by obtain ⟨_,_,_,rfl,_⟩:=Ac h;rfl
 |.glb _ _,_,h=>nomatch (show false=true from h)
 |.bin _ _ _ _,e,h=>by obtain ⟨_,_,_,_,rfl,_⟩:=Ad h;rfl
 |.neg _,_,h=>nomatch (show false=true from h)
 |.cmp _ _ _,e,h=>by obtain ⟨_,_,_,_,rfl,_⟩:=Ae h;rfl
 |.chn _ _ _ _ _,e,h=>by obtain ⟨_,_,_,_,_,_,rfl,_⟩:=Af h;rfl
 |.not _,_,h=>nomatch (show false=true from h)
 |.boo _ _ _,e,h=>by obtain ⟨_,_,_,_,rfl,_⟩:=Ag h;rfl
 |.ife _ _ _,_,h=>nomatch (show false=true from h)
 |.tup _,e,h=>by obtain ⟨_,_,_,rfl,_⟩:=Ah h;rfl
 |.lst _ _,e,h=>by obtain ⟨_,_,rfl,_⟩:=Ai h;rfl
 |.idx _ _,e,h=>by obtain ⟨_,_,_,rfl,_⟩:=Aj h;rfl
 |.slc _ _ _ _,e,h=>by obtain ⟨_,_,_,_,_,rfl,_⟩:=Ak h;rfl
 |.rvs _ _ _,_,h=>nomatch (show false=true from h)
 |.call _ _,e,h=>by obtain ⟨_,_,_,_,rfl,_⟩:=Al h;rfl
 |.bcl _ _,e,h=>by obtain ⟨_,_,_,_,rfl,_⟩:=Am h;rfl
 |.lcl _ _ _,e,h=>by obtain ⟨_,_,_,_,rfl,_⟩:=An h;rfl
 |.isi _ _,e,h=>by obtain ⟨_,_,_,_,_,_,rfl,_⟩:=Ao h;rfl
 |.rgl _ _,_,h=>nomatch (show false=true from h)
 |.srs _ _,e,h=>by obtain ⟨_,_,_,_,_,_,_,rfl,_⟩:=Aq h;rfl
 |.rgt _,_,h=>nomatch (show false=true from h)
 |.fst _,_,h=>nomatch (show false=true from h)
 |.isx _ _ _,_,h=>nomatch (show false=true from h)
 |.rpl _ _ _ _,_,h=>nomatch (show false=true from h)
 |.fld _ _ _,_,h=>nomatch (show false=true from h)
 |.mcl _ _ _ _ _,_,h=>nomatch (show false=true from h)
 |.mko _ _,_,h=>nomatch (show false=true from h)
 |.mkx _ _,e,h=>by obtain ⟨_,_,_,_,rfl,_⟩:=Ar h;rfl
 |.mki _ _ _,e,h=>by obtain ⟨_,_,_,_,rfl,_⟩:=Av h;rfl
 |.xat _ _ _,e,h=>by obtain ⟨_,_,_,rfl,_⟩:=Aw h;rfl
 |.pp0 _,_,h=>nomatch (show false=true from h)
 |.mth _ _ _,e,h=>by obtain ⟨_,_,_,_,_,rfl,_⟩:=Ax h;rfl
 |.comp _ _ _ _ _ _ _,e,h=>by obtain ⟨_,_,_,_,_,_,_,rfl,_⟩:=Ay h;rfl
 |.cm3 _ _ _ _ _ _ _ _ _,_,h=>nomatch (show false=true from h)
theorem cB{e:Expr}(h:jQ e=true):noStar e=true:=by cases e <;> first |rfl |exact nomatch (show false=true from h)
theorem Be{e:Expr}(h:jQ e=true)(op:CmpOp):behindInMarks op e=false:=by cases e <;> first |rfl |exact nomatch (show false=true from h)
theorem V7{e:Expr}(h:jQ e=true)(env:Env)(x:Value):foldedSetIterable e env x=pure x:=by cases e <;> first |rfl |exact nomatch (show false=true from h)
theorem V8{e:Expr}(h:jQ e=true):wM e:=by intro o i;cases e <;> first |rfl |exact nomatch (show false=true from h)
theorem V9{e:Expr}(h:gJ e=true)(env:Env)(whole:Sem Value):isTrue e env whole=(do let v <-whole;standAt e.pos;holding [v] (truthy v)):=by
 cases e with
 |UnaryOp op x p=>cases op <;> first |rfl |exact nomatch (show false=true from h)
 |_=>first |rfl |exact nomatch (show false=true from h)
def XV(K:PF)(H:Hp)(F:FZ)(x:Xn)(cv:Value)(od:Option Addr):Prop:=
 ∃C,cv=.ref C/\PySem.W.nsIn K mainGlobals (Str.ofString x.cls)=some (some (.ref C))/\
  match x.fld with
  |.non=>True
  |d=>∃a f v,od=some a/\H a=some (.xd [(f,v)])/\Rep K H F d v
def XR(K:PF)(H:Hp)(F:FZ)(x:Xn)(EX:XK):Prop:=∀cv od,XV K H F x cv od->EX cv od H
def PX(K:PF)(H:Hp)(F:FZ)(EX:XK):EK:=λx G'=>∀H' F',Ext H F H' F'->R K H' F' G'->XR K H' F' x EX
theorem el{α β γ:Type}{p q r s:α->β->γ->Prop}{C:Prop}(h:∃x y z,p x y z/\q x y z/\r x y z/\s x y z)(k:∀x y z,p x y z->q x y z->r x y z->s x y z->C):C:=by obtain ⟨x,y,z,h1,h2,h3,h4⟩:=h;exact k x y z h1 h2 h3 h4
def lift(K:PF)(n:Nat)(S:RF.Spec):Sp:=λvs H Q EX=>vs.length=n/\∃F G ds,R K H F G/\Reps K H F ds vs/\S.t ds G (PV K H F Q) (PX K H F EX)
def CV(K:PF)(mg:Str->Option Value)(C':String)(cv:V):Prop:=
 (∃a,cv=.ref a/\mg (Str.ofString C')=some (.ref a)/\xK K a=true)\/(C'="ValueError"/\cv=.ty "ValueError"/\mg (Str.ofString C')=none)
def XI(K:PF)(C C':String)(cv:V):Prop:=
 ∃c,PySem.W.nsIn K mainGlobals (Str.ofString C)=some (some (.ref c))/\ik K c=true/\PySem.W.mroIn K c (valOf cv)=some (dW C C')/\(dW C C'=false->(Value.ref c==valOf cv)=false)
structure Bs where
 H:Hp
 F:FZ
def Bg(K:PF)(C f:String):Prop:=∃c,PySem.W.nsIn K mainGlobals (Str.ofString C)=some (some (.ref c))/\Cls K c/\Ov K c (Str.ofString f)
def MthOk(Φ:ao)(P:Program)(w:World)(K:PF)(mg:Str->Option Value)(base:Heap)(CX:CXT)(k:Nat)(f C m:String)(n:Nat):Prop:=
 ∃c fa fd ps,PySem.W.nsIn K mainGlobals (Str.ofString C)=some (some (.ref c))/\Cls K c/\Meth K c (Str.ofString m) fa/\Binds K fd ps []/\FnOk P w K mg base CX k fa fd ps (lift K n (Φ f))
def MkoOk(Φ:ao)(P:Program)(w:World)(K:PF)(mg:Str->Option Value)(base:Heap)(CX:CXT)(k:Nat)(C:String)(n:Nat):Prop:=
 ∃c fa fd ps sp j,j+1<=k/\mg (Str.ofString C)=some (.ref c)/\Mk K c fa/\Binds K fd ps []/\FnOk P w K mg base CX j fa fd ps sp/\
  ∀vs H Q E,lift K n (Φ C) vs H Q E->∀x dx,H x=none->H dx=none->dx≠x->sp (.ref x::vs) (upd (upd H dx (.own x)) x (.ins c dx [])) (λv H2=>v=.non/\Q (.ref x) H2) E
def Wa(K:PF)(c:Addr)(f:String):Sp:=λvs H Q _=>∃a b l d F G,vs=[.ref a,b]/\H a=some (.ext (fO a c l none))/\¬F a/\R K H F G/\Rep K H F d b/\okA d/\
 ∀H2 F2 dx od ob l',Ext H F H2 F2->R K H2 F2 G->H2 a=some (.ext (fO a c l' none))->H2 dx=none->dx≠a->ob.cls=.ref c->ob.dict=some dx->PySem.W.notCls ob=true->Q .non (upd (upd H2 a (.frz ob (.own a))) dx (.frz od (.xd [(Str.ofString f,b)])))
def Wb(P:Program)(w:World)(K:PF)(mg:Str->Option Value)(base:Heap)(CX:CXT)(k:Nat)(C f:String):Prop:=
 ∃c fa fd ps j,j+1<=k/\mg (Str.ofString C)=some (.ref c)/\PySem.W.nsIn K mainGlobals (Str.ofString C)=some (some (.ref c))/\jr K c fa=true/\PySem.W.typeIn K (.ref fa)=some (.type "function")/\PySem.W.keepIn K (.ref c)=true/\
  (ik K c=true/\PySem.W.hasDictIn K c=true/\PySem.W.findIn K (.ref c) (Str.ofString f)=some none)/\Binds K fd ps []/\FnOk P w K mg base CX j fa fd ps (Wa K c f)
def XkoX(P:Program)(w:World)(K:PF)(mg:Str->Option Value)(base:Heap)(CX:CXT)(k:Nat)(xs:List (String×Bool))(C f:String):Prop:=
 Wb P w K mg base CX k C f/\∀C' cv,xs.contains (C',false)=true->CV K mg C' cv->XI K C C' cv
structure Stat(Φ:ao)(CX:CXT)(k:Nat)(c:CT)(E:EK)(B:Bs)(X:Cx):Prop where
 N:X.N=c.N
 nd:X.N.Nodup
 calm:X.calm=true
 own:PassesOwn (model X.prog X.w) X.A X.env X.xe
 kd:X.env.kindOf=λx=>X.env.scope.names.lookup x
 vis:∀x,gH (c.kd.lookup x)=true->Vis X.env.scope x
 cel:∀x,(c.kd.lookup x=some .cell\/c.kd.lookup x=some .free)->(X.env.kindOf x=some .cell\/X.env.kindOf x=some .free)
 glo:∀x,c.kd.lookup x=some .globalImplicit->Gl X x
 sto:∀x,c.sto x=true->Loc X.env.scope x/\(X.fn x=true\/X.env.scope.names.lookup x=some .local)
 room:Room k X.A
 call:∀f n,(f,n)∈c.fs->∃fa fd ps,FnOk X.prog X.w X.K X.mg X.base CX k fa fd ps (lift X.K n (Φ f))/\PySem.W.keepIn X.K (.ref fa)=true/\Binds X.K fd ps []/\X.mg (Str.ofString f)=some (.ref fa)
 blt:∀f,f∈c.bt->X.mg (Str.ofString f)=none
 con:∀x d,(x,d)∈c.cn->∃u v,X.mg (Str.ofString x)=some u/\RelV v u/\∀H F,Rep X.K H F d v
 exc:∃EX,gw CX X EX/\Throws X EX/\∀x G' H' F',E x G'->Ext B.H B.F H' F'->R X.K H' F' G'->XR X.K H' F' x EX
 nox:∀(Y:Cx),gw CX Y λ_ _ _=>False
 xcl:∀C,c.xs.contains (C,true)=true->∃a,X.mg (Str.ofString C)=some (.ref a)/\eN X.K a=true/\PySem.W.nsIn X.K mainGlobals (Str.ofString C)=some (some (.ref a))
 loc:∀x,c.kd.lookup x=some .local->X.env.scope.names.lookup x=some .local
 xis:∀C',c.xs.contains (C',false)=true->∃cv,CV X.K X.mg C' cv/\∀C,c.xs.contains (C,true)=true->XI X.K C C' cv
 mth:∀f C m n,(f,C,m,n)∈c.ot.ms->MthOk Φ X.prog X.w X.K X.mg X.base CX k f C m n
 mko:∀C n,(C,n)∈c.ot.ks->MkoOk Φ X.prog X.w X.K X.mg X.base CX k C n
 fld:∀C f,(C,f)∈c.ot.fl->Bg X.K C f
 xko:∀C f,(C,f)∈c.ot.xk->XkoX X.prog X.w X.K X.mg X.base CX k c.xs C f
 trc:c.xs≠[]->CX=CX1 X.prog X.w/\X.stack=X.env::X.outer/\X.ex=[]
def tE(K:PF)(B:Bs)(w:aj->DH->(D->DH->Prop)->Prop):TE:=λσ H Q=>∃ρ F G,Ext B.H B.F H F/\EnvR K H F ρ σ/\R K H F G/\w ρ G (PV K H F Q)
def tB'(K:PF)(B:Bs)(w:aj->DH->(Bool->DH->Prop)->Prop):TT:=λσ H Q=>∃ρ F G,Ext B.H B.F H F/\EnvR K H F ρ σ/\R K H F G/\w ρ G (PB K H F Q)
def tL(K:PF)(B:Bs)(w:aj->DH->(List D->DH->Prop)->Prop):TA:=λσ H Q=>∃ρ F G,Ext B.H B.F H F/\EnvR K H F ρ σ/\R K H F G/\w ρ G (PLs K H F Q)
noncomputable def POp(K:PF)(H:Hp)(F:FZ)(Q:Option Int->Hp->Prop):Option Int->DH->Prop:=λb G'=>∀H' F',Ext H F H' F'->R K H' F' G'->Q b H'
def Bh(K:PF)(B:Bs)(w:aj->DH->(Option Int->DH->Prop)->Prop):TO:=λσ H Q=>∃ρ F G,Ext B.H B.F H F/\EnvR K H F ρ σ/\R K H F G/\w ρ G (POp K H F Q)
theorem peI{X:Cx}{e:Expr}{t t':TE}(h:PE X e t)(i:∀σ H Q,t' σ H Q->t σ H Q):PE X e t':=λpins s σ H Q I q=>h pins s σ H Q I (i σ H Q q)
theorem ptI{X:Cx}{e:Expr}{t t':TT}(h:PT X e t)(i:∀σ H Q,t' σ H Q->t σ H Q):PT X e t':=λpins s σ H Q I q=>h pins s σ H Q I (i σ H Q q)
theorem pwI{X:Cx}{e:Expr}{t t':TT}(h:PW X e t)(i:∀σ H Q,t' σ H Q->t σ H Q):PW X e t':=λwh pins s σ H Q I q=>h wh pins s σ H Q I (i σ H Q q)
theorem paI{X:Cx}{e:List Expr}{t t':TA}(h:PA X e t)(i:∀σ H Q,t' σ H Q->t σ H Q):PA X e t':=λpos pins s σ H Q I q=>h pos pins s σ H Q I (i σ H Q q)
section
variable {Φ:ao} {CX:CXT} {k:Nat} {c:CT} {E:EK} {B:Bs} {X:Cx}
theorem aJ{K:PF}{x:Ex}{σ:L2.St}{H:Hp}{F:FZ}{G:DH}{ρ:aj}{W:D->DH->Prop}{Q:VK}(e0:Ext B.H B.F H F)(he:EnvR K H F ρ σ)(r:R K H F G)(hw:wpE Φ x E ρ G W)
  (h:∀d G1 H1 F1 v,W d G1->Ext B.H B.F H1 F1->Ext H F H1 F1->EnvR K H1 F1 ρ σ->R K H1 F1 G1->Rep K H1 F1 d v->Q v H1):tE K B (wpE Φ x E) σ H Q:=
 ⟨ρ,F,G,e0,he,r,aA x (λd G1 q H1 F1 v x1 r1 rv=>h d G1 H1 F1 v q (e0.trans x1) x1 (he.ext x1) r1 rv) hw⟩
theorem bR{K:PF}{x:Exs}{σ:L2.St}{H:Hp}{F:FZ}{G:DH}{ρ:aj}{W:List D->DH->Prop}{Q:List V->Hp->Prop}(e0:Ext B.H B.F H F)(he:EnvR K H F ρ σ)(r:R K H F G)(hw:aH Φ x E ρ G W)
  (h:∀d G1 H1 F1 v,W d G1->Ext B.H B.F H1 F1->Ext H F H1 F1->EnvR K H1 F1 ρ σ->R K H1 F1 G1->Reps K H1 F1 d v->Q v H1):tL K B (aH Φ x E) σ H Q:=
 ⟨ρ,F,G,e0,he,r,bZ x (λd G1 q H1 F1 v x1 r1 rv=>h d G1 H1 F1 v q (e0.trans x1) x1 (he.ext x1) r1 rv) hw⟩
theorem jR{K:PF}{x:Tx}{σ:L2.St}{H:Hp}{F:FZ}{G:DH}{ρ:aj}{W:Bool->DH->Prop}{Q:Bool->Hp->Prop}(e0:Ext B.H B.F H F)(he:EnvR K H F ρ σ)(r:R K H F G)(hw:wpT Φ x E ρ G W)
  (h:∀d G1 H1 F1,W d G1->Ext B.H B.F H1 F1->Ext H F H1 F1->EnvR K H1 F1 ρ σ->R K H1 F1 G1->Q d H1):tB' K B (wpT Φ x E) σ H Q:=
 ⟨ρ,F,G,e0,he,r,cN x (λd G1 q H1 F1 x1 r1=>h d G1 H1 F1 q (e0.trans x1) x1 (he.ext x1) r1) hw⟩
theorem Bj{K:PF}{x:Ox}{σ:L2.St}{H:Hp}{F:FZ}{G:DH}{ρ:aj}{W:Option Int->DH->Prop}{Q:Option Int->Hp->Prop}(e0:Ext B.H B.F H F)(he:EnvR K H F ρ σ)(r:R K H F G)(hw:wpO Φ x E ρ G W)
  (h:∀d G1 H1 F1,W d G1->Ext B.H B.F H1 F1->Ext H F H1 F1->EnvR K H1 F1 ρ σ->R K H1 F1 G1->Q d H1):Bh K B (wpO Φ x E) σ H Q:=
 ⟨ρ,F,G,e0,he,r,tZ x (λd G1 q H1 F1 x1 r1=>h d G1 H1 F1 q (e0.trans x1) x1 (he.ext x1) r1) hw⟩
theorem PV.later{K:PF}{H H1:Hp}{F F1:FZ}{Q:VK}{d:D}{G:DH}(h:PV K H F Q d G)(x:Ext H F H1 F1):PV K H1 F1 Q d G:=λH' F' v x1=>h H' F' v (x.trans x1)
theorem PB.later{K:PF}{H H1:Hp}{F F1:FZ}{Q:Bool->Hp->Prop}{d:Bool}{G:DH}(h:PB K H F Q d G)(x:Ext H F H1 F1):PB K H1 F1 Q d G:=λH' F' x1=>h H' F' (x.trans x1)
theorem PB.now{K:PF}{H:Hp}{F:FZ}{Q:Bool->Hp->Prop}{d:Bool}{G:DH}(h:PB K H F Q d G)(r:R K H F G):Q d H:=h H F (Ext.refl H F) r
theorem iZ(S:Stat Φ CX k c E B X):X.A.units+100 < cLine:=by have:=S.room.un;omega
theorem b8 {x:Str} (h:okN x=true):(x==("__debug__":Str))=false:=by
 unfold okN at h;cases e:x==("__debug__":Str) with
 |false=>rfl
 |true=>rw[e]at h;simp at h
theorem Wc {x:Str} (h:okN x=true):(x==("__classdict__":Str))=false:=by
 unfold okN at h;cases e:x==("__classdict__":Str) with
 |false=>rfl
 |true=>rw[e]at h;simp at h
theorem cP {x:Str} (h:okN x=true):x≠"__name__":=by unfold okN at h;intro e;rw[aE.mpr e]at h;simp at h
theorem cQ{x:Str}(h:c.glo x=true):c.kd.lookup x=some .globalImplicit/\okN x=true:=by unfold CT.glo at h;rw[af,aE]at h;exact h
theorem Wd(S:Stat Φ CX k c E B X){i:Nat}{e:Expr}(h:aa c (.var i) e=true):PE X e (tE X.K B (wpE Φ (.var i) E)):=by
 replace h:=Ab h;obtain ⟨x,pos,rfl,h⟩:=h
 ·rw[af,af,aE]at h;refine peI (Ml (i:=i) (by rw[S.N];exact h.1.1) (S.vis x h.1.2) (b8 h.2) (Wc h.2)) λσ H Q q=>?_;obtain ⟨ρ,F,G,_,he,r,hw⟩:=q;rw[nG]at hw;split at hw
  ·rename_i d hd;obtain ⟨v,e1,rv⟩:=he.get hd;exact ⟨v,e1,hw.now r rv⟩
  ·exact hw.elim
theorem Bk(S:Stat Φ CX k c E B X){d:D}{e:Expr}(h:aa c (.cst d) e=true):PE X e (tE X.K B (wpE Φ (.cst d) E)):=by
 replace h:=Ac h;obtain ⟨kk,_,_,rfl,h⟩:=h
 ·unfold iT at h;split at h
  ·exact peI Mq λσ H Q hq=>el hq λρ F G _ he r hw=>by rw[fY]at hw;exact hw.now r rfl
  ·rw[aE]at h;subst h;exact peI Mp λσ H Q hq=>el hq λρ F G _ he r hw=>by rw[fY]at hw;exact hw.now r rfl
  ·rw[aE]at h;subst h;exact peI Mm λσ H Q hq=>el hq λρ F G _ he r hw=>by rw[fY]at hw;exact hw.now r rfl
  ·rename_i l b;rw[af,aE,ck]at h;refine peI Mr λσ H Q hq=>el hq λρ F G _ he r hw=>?_;rw[fY]at hw;refine hw.now r ⟨?_,h.2⟩;rw[h.1,<-qP]
  ·cases h
theorem We(S:Stat Φ CX k c E B X){x:String}{d:D}{e:Expr}(h:aa c (.glb x d) e=true):PE X e (tE X.K B (wpE Φ (.glb x d) E)):=nomatch (show false=true from h)
theorem Wf(S:Stat Φ CX k c E B X){op:Operator}{fz:Bool}{a b:Ex}(iha:∀{e},aa c a e=true->PE X e (tE X.K B (wpE Φ a E)))(ihb:∀{e},aa c b e=true->PE X e (tE X.K B (wpE Φ b E))){e:Expr}
  (h:aa c (.bin op fz a b) e=true):PE X e (tE X.K B (wpE Φ (.bin op fz a b) E)):=by
 replace h:=Ad h;obtain ⟨l,o,r,pos,rfl,h⟩:=h
 ·rw[af,af,aE]at h;obtain ⟨⟨e1,h1⟩,h2⟩:=h;subst e1;refine peI (N6 (T8 _ fz) (iha h1) (ihb h2)) λσ H Q hq=>el hq λρ F G e0 he r hw=>?_;rw[nH]at hw;refine aJ e0 he r hw λx G1 H1 F1 v q e1 x1 he1 r1 rv=>aJ e1 he1 r1 q λy G2 H2 F2 u q e2 x2 he2 r2 ru=>?_;exact ⟨F2,G2,x,y,r2,Rep.ext x2 rv,ru,yZ (λd G' z=>PV.later z (x1.trans x2)) q⟩
theorem Wg(S:Stat Φ CX k c E B X){a:Ex}(iha:∀{e},aa c a e=true->PE X e (tE X.K B (wpE Φ a E))){e:Expr}(h:aa c (.neg a) e=true):PE X e (tE X.K B (wpE Φ (.neg a) E)):=nomatch (show false=true from h)
theorem Bl(S:Stat Φ CX k c E B X){op:CmpOp}{a b:Ex}(iha:∀{e},aa c a e=true->PE X e (tE X.K B (wpE Φ a E)))(ihb:∀{e},aa c b e=true->PE X e (tE X.K B (wpE Φ b E))){e:Expr}
  (h:aa c (.cmp op a b) e=true):PE X e (tE X.K B (wpE Φ (.cmp op a b) E))/\PT X e (tB' X.K B (wpT Φ (.val (.cmp op a b)) E)):=by
 replace h:=Ae h;obtain ⟨l,o,r,pos,rfl,h⟩:=h
 ·rw[af,af,aE]at h;obtain ⟨⟨e1,h1⟩,h2⟩:=h;subst e1;have hm:=Be (bC b h2) o;refine ⟨peI (Og (iQ _ (iZ S)) (iha h1) (ihb h2) hm) λσ H Q hq=>el hq λρ F G e0 he r hw=>?_,ptI (Oh (iQ _ (iZ S)) (iha h1) (ihb h2) hm) λσ H Q hq=>el hq λρ F G e0 he r hw=>?_⟩
  ·rw[jD]at hw;refine aJ e0 he r hw λx G1 H1 F1 v q e1 x1 he1 r1 rv=>aJ e1 he1 r1 q λy G2 H2 F2 u q e2 x2 he2 r2 ru=>?_;exact ⟨F2,G2,x,y,r2,Rep.ext x2 rv,ru,gF (λd z=>PV.later z (x1.trans x2)) q⟩
  ·rw[iJ,jD]at hw;refine aJ e0 he r hw λx G1 H1 F1 v q e1 x1 he1 r1 rv=>aJ e1 he1 r1 q λy G2 H2 F2 u q e2 x2 he2 r2 ru=>?_;refine ⟨F2,G2,x,y,r2,Rep.ext x2 rv,ru,gF (λd z=>?_) q⟩;intro H' F' v' x' r' rv';have e3:v'=.bl d:=rv';exact ⟨d,e3,z H' F' ((x1.trans x2).trans x') r'⟩
theorem Bm(S:Stat Φ CX k c E B X){op op':CmpOp}{a b d:Ex}(iha:∀{e},aa c a e=true->PE X e (tE X.K B (wpE Φ a E)))(ihb:∀{e},aa c b e=true->PE X e (tE X.K B (wpE Φ b E)))(ihd:∀{e},aa c d e=true->PE X e (tE X.K B (wpE Φ d E))){e:Expr}
  (h:aa c (.chn op op' a b d) e=true):PE X e (tE X.K B (wpE Φ (.chn op op' a b d) E))/\PT X e (tB' X.K B (wpT Φ (.val (.chn op op' a b d)) E)):=by
 replace h:=Af h;obtain ⟨l,o,o',m,r,pos,rfl,h⟩:=h
 ·simp only[af,aE]at h;obtain ⟨⟨⟨⟨e1,e2⟩,h1⟩,h2⟩,h3⟩:=h;subst e1 e2;have hm:lastMarks [o,o'] [m,r]=false:=Be (bC d h3) o';have go:∀{σ H Q ρ F G}{W:Bool->DH->Prop},Ext B.H B.F H F->EnvR X.K H F ρ σ->R X.K H F G->
    wpE Φ a E ρ G (λx G1=>wpE Φ b E ρ G1 λy G2=>aU o (view G2 x) (view G2 y) λt=>match t with |true=>wpE Φ d E ρ G2 λz G3=>aU o' (view G3 y) (view G3 z) λt'=>W t' G3 |false=>W false G2)->
    (∀t G' H' F',W t G'->Ext H F H' F'->R X.K H' F' G'->Q (.bl t) H')->
    qI (rC2 X.K (aU o)) (rC2 X.K (aU o')) (tE X.K B (wpE Φ a E)) (tE X.K B (wpE Φ b E)) (tE X.K B (wpE Φ d E)) σ H Q:=by
   intro σ H Q ρ F G W e0 he r hw fin;refine aJ e0 he r hw λx G1 H1 F1 v q e1 x1 he1 r1 rv=>aJ e1 he1 r1 q λy G2 H2 F2 u q e2 x2 he2 r2 ru=>?_;refine ⟨F2,G2,x,y,r2,Rep.ext x2 rv,ru,gF (λt q=>?_) q⟩;intro H3 F3 v3 x3 r3 rv3;have e3:v3=.bl t:=rv3;refine ⟨t,e3,?_⟩;cases t with
   |true=>
    rw[if_pos rfl];refine aJ (e2.trans x3) (he2.ext x3) r3 q λz G4 H4 F4 v4 q e4 x4 he4 r4 rv4=>?_;refine ⟨F4,G4,y,z,r4,Rep.ext (x3.trans x4) ru,rv4,gF (λt' q=>?_) q⟩;intro H5 F5 v5 x5 r5 rv5;have e5:v5=.bl t':=rv5;subst e5;exact fin _ _ _ _ q ((((x1.trans x2).trans x3).trans x4).trans x5) r5
   |false=>
    rw[if_neg br];exact fin _ _ _ _ q ((x1.trans x2).trans x3) r3
  refine ⟨peI (Oi (iQ _ (iZ S)) (iQ _ (iZ S)) (iha h1) (ihb h2) (ihd h3) hm) λσ H Q hq=>el hq λρ F G e0 he r hw=>?_,ptI (Oj (iQ _ (iZ S)) (iQ _ (iZ S)) (iha h1) (ihb h2) (ihd h3) hm) λσ H Q hq=>el hq λρ F G e0 he r hw=>?_⟩
  ·rw[jE]at hw;exact go (W:=λt G'=>PV X.K H F Q (.bl t) G') e0 he r hw λt G' H' F' z x' r'=>z H' F' _ x' r' rfl
  ·rw[iJ,jE]at hw;refine go (W:=λt G'=>PB X.K H F Q t G') e0 he r hw λt G' H' F' z x' r'=>⟨t,rfl,z H' F' x' r'⟩
end
section
variable {Φ:ao} {CX:CXT} {k:Nat} {c:CT} {E:EK} {B:Bs} {X:Cx}
abbrev OkE(Φ:ao)(c:CT)(E:EK)(B:Bs)(X:Cx)(x:Ex):Prop:=∀{e:Expr},aa c x e=true->PE X e (tE X.K B (wpE Φ x E))
abbrev d7(Φ:ao)(c:CT)(E:EK)(B:Bs)(X:Cx)(x:Exs):Prop:=∀{es:List Expr},aG c x es=true->PA X es (tL X.K B (aH Φ x E))
abbrev OkT(Φ:ao)(c:CT)(E:EK)(B:Bs)(X:Cx)(x:Tx):Prop:=∀{e:Expr},bG c x e=true->PT X e (tB' X.K B (wpT Φ x E))
theorem Wh(S:Stat Φ CX k c E B X){a:Ex}(iha:OkE Φ c E B X a){e:Expr}(h:aa c (.not a) e=true):PE X e (tE X.K B (wpE Φ (.not a) E)):=nomatch (show false=true from h)
theorem pM{es:List Expr}(h:aG c .nil es=true):PA X es (tL X.K B (aH Φ .nil E)):=by
 unfold aG at h;cases es with
 |nil=>exact paI gr λσ H Q hq=>el hq λρ F G e0 he r hw=>by rw[fX]at hw;exact hw H F [] (Ext.refl _ _) r rfl
 |cons _ _=>cases h
theorem jT{x:Ex}{xs:Exs}(ih:OkE Φ c E B X x)(ihs:d7 Φ c E B X xs){es:List Expr}(h:aG c (.cons x xs) es=true):PA X es (tL X.K B (aH Φ (.cons x xs) E)):=by
 unfold aG at h;split at h
 ·rename_i e es;rw[af]at h;refine paI (fL (ih h.1) (ihs h.2) (bI e es X.env (cB (bC x h.1)))) λσ H Q hq=>el hq λρ F G e0 he r hw=>?_;rw[eZ]at hw;refine aJ e0 he r hw λd G1 H1 F1 v q e1 x1 he1 r1 rv=>bR e1 he1 r1 q λds G2 H2 F2 vs q e2 x2 he2 r2 rvs=>?_;exact q H2 F2 _ (x1.trans x2) r2 ⟨v,vs,rfl,Rep.ext x2 rv,rvs⟩
 ·cases h
theorem Wi(S:Stat Φ CX k c E B X){es:Exs}(ih:d7 Φ c E B X es){e:Expr}(h:aa c (.tup es) e=true):PE X e (tE X.K B (wpE Φ (.tup es) E)):=by
 replace h:=Ah h;obtain ⟨_,_,_,rfl,h⟩:=h
 ·refine peI (O5 (ih h)) λσ H Q hq=>el hq λρ F G e0 he r hw=>?_;rw[nM]at hw;refine bR e0 he r hw λds G1 H1 F1 vs q e1 x1 he1 r1 rvs=>⟨by rw[<-rvs.length];exact cz q.1,jF (PV.later q.2 x1) r1 rvs⟩
theorem Wj(S:Stat Φ CX k c E B X){fz:Bool}{es:Exs}(ih:d7 Φ c E B X es){e:Expr}(h:aa c (.lst fz es) e=true):PE X e (tE X.K B (wpE Φ (.lst fz es) E)):=by
 replace h:=Ai h;obtain ⟨_,_,rfl,h⟩:=h
 ·refine peI (O6 (ih h)) λσ H Q hq=>el hq λρ F G e0 he r hw=>?_;rw[nO]at hw;refine bR e0 he r hw λds G1 H1 F1 vs q e1 x1 he1 r1 rvs=>⟨by rw[<-rvs.length];exact cz q.1,cZ (cu (λd G' z=>PV.later z x1) q.2) r1 rvs⟩
theorem Wl(S:Stat Φ CX k c E B X){a i:Ex}(iha:OkE Φ c E B X a)(ihi:OkE Φ c E B X i){e:Expr}(h:aa c (.idx a i) e=true):PE X e (tE X.K B (wpE Φ (.idx a i) E)):=by
 replace h:=Aj h;obtain ⟨_,_,_,rfl,h⟩:=h
 ·rw[af]at h;refine peI (PN Ug (iha h.1) (ihi h.2) (V8 (bC i h.2))) λσ H Q hq=>el hq λρ F G e0 he r hw=>?_;rw[nP]at hw;refine aJ e0 he r hw λx G1 H1 F1 v q e1 x1 he1 r1 rv=>aJ e1 he1 r1 q λy G2 H2 F2 u q e2 x2 he2 r2 ru=>?_;exact ⟨F2,G2,x,y,r2,Rep.ext x2 rv,ru,oU (λd z=>PV.later z (x1.trans x2)) q⟩
theorem Bo{lo:Ox}(ih:∀x,lo=.ob x->OkE Φ c E B X x){l:Option Expr}(h:fu c lo l=true):PO X l (Bh X.K B (wpO Φ lo E)):=by
 cases lo with
 |no=>
  unfold fu at h;cases l with
  |none=>
   intro pins s σ H Q I q;refine Pu pins s σ H Q I ?_;obtain ⟨ρ,F,G,e0,he,r,hw⟩:=q;rw[m8]at hw;exact hw H F (Ext.refl _ _) r
  |some _=>cases h
 |ob x=>
  unfold fu at h;split at h
  ·intro pins s σ H Q I q;refine Px (ih x rfl h) pins s σ H Q I ?_;obtain ⟨ρ,F,G,e0,he,r,hw⟩:=q;rw[m9]at hw;refine aJ e0 he r hw λd G1 H1 F1 v q e1 x1 he1 r1 rv=>?_;split at q
   ·have e2:v=.int _:=rv;exact ⟨_,e2,q H1 F1 x1 r1⟩
   ·exact q.elim
  ·cases h
theorem Wm(S:Stat Φ CX k c E B X){fz:Bool}{a:Ex}{lo hi:Ox}(iha:OkE Φ c E B X a)(ihl:∀x,lo=.ob x->OkE Φ c E B X x)(ihh:∀x,hi=.ob x->OkE Φ c E B X x){e:Expr}(h:aa c (.slc fz a lo hi) e=true):
  PE X e (tE X.K B (wpE Φ (.slc fz a lo hi) E)):=by
 replace h:=Ak h;obtain ⟨_,_,_,_,_,rfl,h⟩:=h
 ·rw[af,af]at h;refine peI (Py (Um fz) (iha h.1.1) (Bo ihl h.1.2) (Bo ihh h.2)) λσ H Q hq=>el hq λρ F G e0 he r hw=>?_;rw[nQ]at hw;refine aJ e0 he r hw λx G1 H1 F1 v q e1 x1 he1 r1 rv=>Bj e1 he1 r1 q λl G2 H2 F2 q e2 x2 he2 r2=>Bj e2 he2 r2 q λu G3 H3 F3 q e3 x3 he3 r3=>?_;exact ⟨F3,G3,x,r3,Rep.ext (x2.trans x3) rv,zb (λd G' z=>PV.later z ((x1.trans x2).trans x3)) q⟩
theorem Wn(S:Stat Φ CX k c E B X){fz:Bool}{a s:Ex}(iha:OkE Φ c E B X a)(ihs:OkE Φ c E B X s){e:Expr}(h:aa c (.rvs fz a s) e=true):PE X e (tE X.K B (wpE Φ (.rvs fz a s) E)):=nomatch (show false=true from h)
theorem Wo(S:Stat Φ CX k c E B X){a:Ex}(iha:OkE Φ c E B X a){e:Expr}(h:aa c (.frz a) e=true):PE X e (tE X.K B (wpE Φ (.frz a) E)):=by
 have h:aa c a e=true:=h;refine peI (iha h) λσ H Q hq=>el hq λρ F G e0 he r hw=>?_;rw[oh]at hw;refine aJ e0 he r hw λx G1 H1 F1 v q e1 x1 he1 r1 rv=>?_;split at q
 ·rename_i p;have e2:v=.ref p:=rv;subst e2;split at q
  ·rename_i ds hg;exact q _ _ _ (x1.trans rA) (r1.frz hg) (TF r1 hg)
  ·exact q.elim
 ·exact q _ _ _ x1 r1 rv
theorem pN{es:List Expr}{xs:Exs}(h:aG c xs es=true)(env:Env)(pos:Pos):(backTo pos (starEach es env)).any (·.1)=false:=by
 induction es generalizing xs with
 |nil=>rfl
 |cons e es ih=>
  cases xs with
  |nil=>unfold aG at h;cases h
  |cons x xs=>
   unfold aG at h;rw[af]at h;rw[bI e es env (cB (bC x h.1))];show (false||(backTo pos (starEach es env)).any (·.1))=false;rw[ih h.2];rfl
theorem jU{e:Expr}{es:List Expr}{xs:Exs}(h:aG c xs (e::es)=true):∃x xs',xs=.cons x xs'/\aa c x e=true/\aG c xs' es=true:=by
 cases xs with
 |nil=>unfold aG at h;cases h
 |cons x xs'=>
  unfold aG at h;rw[af]at h;exact ⟨x,xs',rfl,h.1,h.2⟩
theorem Bp{ρ:aj}:∀(xs:Exs){es:List Expr}{G:DH}{Q:List D->DH->Prop},aG c xs es=true->aH Φ xs E ρ G Q->aH Φ xs E ρ G (λds G'=>ds.length=es.length/\Q ds G')
 |.nil,es,G,Q,h,q=>by
  unfold aG at h;rw[fX]at q ⊢;cases es with
  |nil=>exact ⟨rfl,q⟩
  |cons _ _=>cases h
 |.cons x xs,es,G,Q,h,q=>by
  unfold aG at h;split at h
  ·rename_i e es;rw[af]at h;rw[eZ]at q ⊢;refine aA x (λd G1 q=>bZ xs (λds G2 z=>?_) (Bp xs h.2 q)) q;exact ⟨by simp[z.1],z.2⟩
  ·cases h
theorem Wq(S:Stat Φ CX k c E B X){f:String}{xs:Exs}(ih:d7 Φ c E B X xs){e:Expr}(h:aa c (.call f xs) e=true):PE X e (tE X.K B (wpE Φ (.call f xs) E)):=by
 replace h:=Al h;obtain ⟨x,p,args,pos,rfl,h⟩:=h
 ·simp only[af,aE,List.any_eq_true]at h;obtain ⟨⟨⟨⟨e1,h1⟩,⟨f',n⟩,hm,e2,e3⟩,h2⟩,h3⟩:=h;simp only at e2 e3;subst e1 e2 e3;obtain ⟨g1,g2⟩:=cQ h1;obtain ⟨fa,fd,ps,F0,hk,hb,hmg⟩:=S.call _ _ hm;obtain ⟨EX,hpass,_,hEX⟩:=S.exc;cases args with
  |nil=>cases h2
  |cons e es=>
   obtain ⟨x0,xs',rfl,c1,c2⟩:=jU h3;refine peI (O9 F0 S.room (S.glo _ g1) hmg hk hb .nil hpass (ih h3) (b8 g2) (bI e es X.env (cB (bC x0 c1))) (pN c2 X.env pos)) λσ H Q hq=>el hq λρ F G e0 he r hw=>?_;rw[nR]at hw;refine bR e0 he r (Bp _ h3 hw) λds G1 H1 F1 vs q e1 x1 he1 r1 rvs=>?_;rw[g6];refine ⟨by rw[<-rvs.length];exact q.1,F1,G1,ds,r1,rvs,Spec.mono q.2 (λd G' z=>PV.later z x1) λx G' z H' F' x' r'=>?_⟩;exact hEX x G' H' F' z (e1.trans x') r'
theorem Wr(S:Stat Φ CX k c E B X){f:Bf}{xs:Exs}(ih:d7 Φ c E B X xs){e:Expr}(h:aa c (.bcl f xs) e=true):PE X e (tE X.K B (wpE Φ (.bcl f xs) E)):=by
 replace h:=Am h;obtain ⟨x,p,args,pos,rfl,h⟩:=h
 ·simp only[af,aE]at h;obtain ⟨⟨⟨⟨⟨e1,hok⟩,h1⟩,hm⟩,h2⟩,h3⟩:=h;subst e1;obtain ⟨g1,g2⟩:=cQ h1;have hmg:=S.blt _ (bq.mp hm);cases args with
  |nil=>cases h2
  |cons e es=>
   obtain ⟨x0,xs',rfl,c1,c2⟩:=jU h3;have hs:=bI e es X.env (cB (bC x0 c1));have ha:=pN c2 X.env pos;have go:∀σ H Q,tE X.K B (wpE Φ (.bcl f (.cons x0 xs')) E) σ H Q->tCB (iR X.K f) (tL X.K B (aH Φ (.cons x0 xs') E)) σ H Q:=λσ H Q hq=>el hq λρ F G e0 he r hw=>by
    rw[nT]at hw;refine bR e0 he r hw λds G1 H1 F1 vs q e1 x1 he1 r1 rvs=>?_;exact ⟨F1,G1,ds,r1,rvs,zc (λd z=>PV.later z x1) q⟩
   cases f with
   |len=>exact peI (lX Up (S.glo _ g1) hmg PySem.boot_len (ih h3) (cP g2) (b8 g2) hs ha) go
   |all=>exact peI (lX (Uq S.calm) (S.glo _ g1) hmg QL (ih h3) (cP g2) (b8 g2) hs ha) go
   |int=>exact peI (jk Ur (S.glo _ g1) hmg xm (ih h3) (cP g2) (b8 g2) hs ha) go
   |tuple=>exact peI (jk Us (S.glo _ g1) hmg (by ac_rfl) (ih h3) (cP g2) (b8 g2) hs ha) go
   |sum=>cases hok
   |min=>cases hok
   |max=>cases hok
   |abs=>cases hok
   |min2=>cases hok
   |str=>exact peI (jk UT (S.glo _ g1) hmg xq (ih h3) (cP g2) (b8 g2) hs ha) go
theorem Ws(S:Stat Φ CX k c E B X){fz:Bool}{f:Lf}{xs:Exs}(ih:d7 Φ c E B X xs){e:Expr}(h:aa c (.lcl fz f xs) e=true):PE X e (tE X.K B (wpE Φ (.lcl fz f xs) E)):=by
 replace h:=An h;obtain ⟨x,p,args,pos,rfl,h⟩:=h
 ·simp only[af,aE]at h;obtain ⟨⟨⟨⟨⟨e1,hok⟩,h1⟩,hm⟩,h2⟩,h3⟩:=h;subst e1;obtain ⟨g1,g2⟩:=cQ h1;have hmg:=S.blt _ (bq.mp hm);cases args with
  |nil=>cases h2
  |cons e es=>
   obtain ⟨x0,xs',rfl,c1,c2⟩:=jU h3;have hs:=bI e es X.env (cB (bC x0 c1));have ha:=pN c2 X.env pos;have go:∀σ H Q,tE X.K B (wpE Φ (.lcl fz f (.cons x0 xs')) E) σ H Q->tCB (zF X.K fz f) (tL X.K B (aH Φ (.cons x0 xs') E)) σ H Q:=λσ H Q hq=>el hq λρ F G e0 he r hw=>by
    rw[nU]at hw;refine bR e0 he r hw λds G1 H1 F1 vs q e1 x1 he1 r1 rvs=>?_;exact ⟨F1,G1,ds,r1,rvs,zf (λd z=>cu (λd G' z=>PV.later z x1) z) q⟩
   cases f with
   |list=>exact peI (jk (Uv S.calm fz) (S.glo _ g1) hmg xr (ih h3) (cP g2) (b8 g2) hs ha) go
   |sorted=>cases hok
theorem Wt:bootBuiltins "set"=some (.type "set"):=by ac_rfl
theorem Wu(S:Stat Φ CX k c E B X){fz:Bool}{a:Ex}(iha:OkE Φ c E B X a){e:Expr}(h:aa c (.srs fz a) e=true):PE X e (tE X.K B (wpE Φ (.srs fz a) E)):=by
 obtain ⟨x,p,x',p',e2,pos',pos,rfl,h'⟩:=Aq h;simp only[af,aE]at h';obtain ⟨⟨⟨⟨⟨⟨e1,h1⟩,hm⟩,e3⟩,h2⟩,hr⟩,h3⟩:=h';subst e1 e3;obtain ⟨g1,g2⟩:=cQ h1;obtain ⟨g1',g2'⟩:=cQ h2;have hmg:=S.blt _ (bq.mp hm);have hmr:=S.blt _ (bq.mp hr);have hs:=bI e2 [] X.env (cB (bC a h3));refine peI (lX (UL S.calm) (S.glo _ g1) hmg Uw (fL (jk (UG S.calm) (S.glo _ g1') hmr Wt (fL (iha h3) gr hs) (cP g2') (b8 g2') hs rfl) gr rfl) (cP g2) (b8 g2) rfl rfl) λσ H Q hq=>el hq λρ F G e0 he r hw=>?_;rw[nY]at hw;refine aJ e0 he r hw λd G1 H1 F1 v q e1 x1 he1 r1 rv=>?_;unfold fW at q;split at q
 ·rename_i ds ev;obtain ⟨p,vs,e,sq,t'⟩:=Rep.list r1 rv ev;subst e;split at q
  ·rename_i ls hb;have e2:=uh hb t';have hsz:=zL hb t';subst e2;obtain ⟨⟨hz,h64⟩,q⟩:=q;refine ⟨p,ls,rfl,sq,hz,λl hl=>⟨l,bF ls,rfl,cg,h64,λls' pm l2 hl2=>?_⟩⟩;have xn:=cC (o:=jJ X l (bF ls)) r1 hl;refine cZ (cu (λd G' z=>PV.later z (x1.trans xn)) (q ls' pm)) (r1.new hl) (zK λy hy=>?_) l2 hl2;exact hsz y (um _ (pm.mem_iff.mp hy))
  ·exact q.elim
 ·exact q.elim
theorem Wv(S:Stat Φ CX k c E B X){fz:Bool}{a:Ex}(iha:OkE Φ c E B X a){e:Expr}(h:aa c (.rgl fz a) e=true):PE X e (tE X.K B (wpE Φ (.rgl fz a) E)):=nomatch (show false=true from h)
theorem Ww(S:Stat Φ CX k c E B X){a:Ex}(iha:OkE Φ c E B X a){e:Expr}(h:aa c (.rgt a) e=true):PE X e (tE X.K B (wpE Φ (.rgt a) E)):=nomatch (show false=true from h)
theorem Wx{t:String}(h:eX t=true):bootBuiltins (Str.ofString t)=some (.type t):=by
 simp only[eX,df,aE]at h;rcases h with (((rfl |rfl) |rfl) |rfl) |rfl
 ·exact QF
 ·exact xm
 ·exact xq
 ·ac_rfl
 ·exact xr
theorem Wy(S:Stat Φ CX k c E B X){a:Ex}{t:String}(iha:OkE Φ c E B X a){e:Expr}(h:aa c (.isi a t) e=true):PE X e (tE X.K B (wpE Φ (.isi a t) E)):=by
 replace h:=Ao h;obtain ⟨x,p,v,y,p2,pos,rfl,h⟩:=h
 ·simp only[af,aE]at h;obtain ⟨⟨⟨⟨⟨⟨⟨e1,h1⟩,hm1⟩,h2⟩,e2⟩,h3⟩,hm2⟩,h4⟩:=h;subst e1 e2;obtain ⟨g1,g2⟩:=cQ h1;obtain ⟨g3,g4⟩:=cQ h3;have hmg:=S.blt _ (bq.mp hm1);have hmt:=S.blt _ (bq.mp hm2);have hty:PE X (.Name (Str.ofString t) p2) (tC (.ty t)):=QH (S.glo _ g3) hmt (Wx h4) (cP g4) (b8 g4);have sv:=cB (bC a h2);refine peI (lX QD (S.glo _ g1) hmg QG (fL (iha h2) (fL hty gr (bI _ _ _ rfl)) (bI _ _ _ sv)) (cP g2) (b8 g2) (bI _ _ _ sv) rfl) λσ H Q hq=>el hq λρ F G e0 he r hw=>?_;rw[nW]at hw;refine aJ e0 he r hw λd G1 H1 F1 v q e1 x1 he1 r1 rv=>?_;split at q
  ·rename_i b hb;obtain ⟨T,hk,hT,hb'⟩:=U3 hb;refine ⟨v,t,.type T,b,rfl,UV r1 rv hk,?_,q _ _ _ x1 r1 rfl⟩;rw[U0 T t hT h4,hb' h4]
  ·exact q.elim
theorem Wz(S:Stat Φ CX k c E B X){a:Ex}{C:String}{xs:List String}(iha:OkE Φ c E B X a){e:Expr}(h:aa c (.isx a C xs) e=true):PE X e (tE X.K B (wpE Φ (.isx a C xs) E)):=nomatch (show false=true from h)
theorem WD{v:Expr}(h:(!pH v)=true)(name:Str)(env:Env):attributeBase v name env (eval v env)=eval v env:=by
 cases v with
 |Call f args kw pos=>
  cases f with
  |Name id p=>
   cases args with
   |nil=>
    cases kw with
    |nil=>cases h
    |cons _ _=>rfl
   |cons _ _=>rfl
  |_=>rfl
 |_=>rfl
theorem all_plain{es:List Expr}{xs:Exs}(h:aG c xs es=true)(env:Env)(pos:Pos):(backTo pos (starEach es env)).all (λx=>!x.1)=true:=by
 induction es generalizing xs with
 |nil=>rfl
 |cons e es ih=>
  obtain ⟨x0,xs',rfl,c1,c2⟩:=jU h;rw[bI e es env (cB (bC x0 c1))];show (!false&&(backTo pos (starEach es env)).all (λx=>!x.1))=true;rw[ih c2];rfl
theorem WF(S:Stat Φ CX k c E B X){f:String}{a b ix:Ex}(iha:OkE Φ c E B X a)(ihb:OkE Φ c E B X b)(ihx:OkE Φ c E B X ix){e:Expr}(h:aa c (.rpl f a b ix) e=true):PE X e (tE X.K B (wpE Φ (.rpl f a b ix) E)):=nomatch (show false=true from h)
theorem WK(S:Stat Φ CX k c E B X){C f:String}{o:Ex}(iho:OkE Φ c E B X o){e:Expr}(h:aa c (.fld C f o) e=true):PE X e (tE X.K B (wpE Φ (.fld C f o) E)):=nomatch (show false=true from h)
theorem WL(S:Stat Φ CX k c E B X){f C m:String}{o:Ex}{xs:Exs}(iho:OkE Φ c E B X o)(ih:d7 Φ c E B X xs){e:Expr}(h:aa c (.mcl f C m o xs) e=true):PE X e (tE X.K B (wpE Φ (.mcl f C m o xs) E)):=nomatch (show false=true from h)
theorem WM(S:Stat Φ CX k c E B X){C:String}{xs:Exs}(ih:d7 Φ c E B X xs){e:Expr}(h:aa c (.mko C xs) e=true):PE X e (tE X.K B (wpE Φ (.mko C xs) E)):=nomatch (show false=true from h)
theorem WN{K:PF}{C:Addr}(b:eN K C=true):PySem.W.keepIn K (.ref C)=true:=by
 unfold eN at b;split at b
 ·rename_i ty dd cd k0 k1 k2 k3 k k5 e;simp only[af]at b;have e1:ty=.type "type":=by
   have b1:=b.1.1.1.1;unfold jo at b1;split at b1
   ·rw[aE]at b1;rw[b1]
   ·cases b1
  subst e1;unfold PySem.W.keepIn;simp only[e];have e2:PySem.W.typeIn K (.ref C)=some (.type "type"):=by show (K.lookup C).map (·.cls)=_;rw[e];rfl
  have e3:PySem.W.findIn K (.type "type") "__call__"=some (some (.builtin "type.__call__")):=(by ac_rfl:PySem.W.findIn [] (.type "type") "__call__"=some (some (.builtin "type.__call__")));unfold PySem.W.specialIn;rw[e2];simp only[Option.bind_some,e3,BEq.rfl]
 ·cases b
theorem one_le:1<=sizeLine:=by rw[dS];decide
theorem WP(S:Stat Φ CX k c E B X){C:String}{a:Ex}(iha:OkE Φ c E B X a){e:Expr}(h:aa c (.mkx C a) e=true):PE X e (tE X.K B (wpE Φ (.mkx C a) E)):=by obtain ⟨x,p,v,pos,rfl,hh⟩:=Ar h;simp only[af,aE]at hh;obtain ⟨⟨⟨ex,hg⟩,hx⟩,ha⟩:=hh;subst ex;obtain ⟨g1,g2⟩:=cQ hg;obtain ⟨c0,hm,hb,hn⟩:=S.xcl C hx;have hex:=(S.trc (by intro z;rw[z]at hx;cases hx)).2.2;have sv:=cB (bC a ha);refine peI (RV hex (S.glo _ g1) hm hb (WN hb) (fL (iha ha) gr (bI _ _ _ sv)) (b8 g2) (bI _ _ _ sv) rfl) λσ H Q hq=>el hq λρ F G e0 he r hw=>?_;rw[nZ]at hw;refine aJ e0 he r hw λd G1 H1 F1 v q e1 x1 he1 r1 rv=>⟨one_le,λa o hn0 hc=>?_⟩;exact q _ F1 _ (x1.trans (cC r1 hn0)) (r1.new hn0) ⟨a,c0,rfl,⟨o,a,cg,hc⟩,hn⟩
theorem WQ(S:Stat Φ CX k c E B X){C f:String}{a:Ex}(iha:OkE Φ c E B X a){e:Expr}(h:aa c (.mki C f a) e=true):PE X e (tE X.K B (wpE Φ (.mki C f a) E)):=by
 obtain ⟨x,p,v,pos,rfl,hh⟩:=Av h;simp only[af,aE]at hh;obtain ⟨⟨⟨ex,hg⟩,hx⟩,ha⟩:=hh;subst ex;obtain ⟨g1,g2⟩:=cQ hg;obtain ⟨⟨c0,fa,fd,ps,j,hj,hm,hn,hcl,hfn,hk,hxi,hb,F0⟩,_⟩:=S.xko C f (bq.mp hx);have sv:=cB (bC a ha);refine peI (R9 hcl hfn hk F0 (S.room.mono hj) (S.glo _ g1) hm hb (S.nox X) (fL (iha ha) gr (bI _ _ _ sv)) (b8 g2) (bI _ _ _ sv) rfl) λσ H Q hq=>el hq λρ F G e0 he r hw=>?_;rw[n6]at hw;refine aJ e0 he r hw λd G1 H1 F1 v q e1 x1 he1 r1 rv=>⟨one_le,λa l hn0=>?_⟩;obtain ⟨qa,q⟩:=q;have x2:=cC (o:=.ext (fO a c0 l none)) r1 hn0;have r2:=r1.new (o:=.ext (fO a c0 l none)) hn0;refine ⟨a,v,l,d,F1,G1,rfl,cg,r1.notF hn0,r2,rv.ext x2,qa,λH2 F2 dx od ob l' x3 r3 h2 hdx hne hc hd hnc=>⟨rfl,?_⟩⟩;have x23:=x2.trans x3;have hdx':(upd H2 a (.frz ob (.own a))) dx=none:=by rw[aB hne];exact hdx
 have r4:=r3.setX (ho:=.frz ob (.own a)) h2;have r5:=r4.new (o:=.frz od (.xd [(Str.ofString f,v)])) hdx';have x5:Ext H1 F1 (upd (upd H2 a (.frz ob (.own a))) dx (.frz od (.xd [(Str.ofString f,v)]))) F2:=by
  refine ⟨λb hb=>x23.sub b hb,λb hb=>?_,λb ys hb=>?_,λb o u hb=>?_⟩
  ·rw[aB λe=>?_,aB λe=>?_]
   ·exact x23.keep b hb
   ·subst e;exact r1.notF hn0 hb
   ·subst e;have z:=x23.keep b hb;rw[hdx]at z;exact r1.notF z.symm hb
  ·have z:=x23.tups b ys hb;rw[aB (aV z hdx),aB (dN z h2 (by intro w;cases w))];exact z
  ·have z:=x23.frzs b o u hb;rw[aB (aV z hdx),aB (dN z h2 (by intro w;cases w))];exact z
 exact q _ F2 _ (x1.trans x5) r5 ⟨a,c0,dx,ob,od,a,v,rfl,⟨by rw[aB (Ne.symm hne),cg],hc,hd,hnc⟩,cg,(((rv.ext x2).ext x3).setX h2).ext (cC r4 hdx'),hn⟩
theorem WR(S:Stat Φ CX k c E B X){C f:String}{a:Ex}(iha:OkE Φ c E B X a){e:Expr}(h:aa c (.xat C f a) e=true):PE X e (tE X.K B (wpE Φ (.xat C f a) E)):=by
 obtain ⟨v,n,pos,rfl,hns,hh⟩:=Aw h;simp only[af,aE]at hh;obtain ⟨⟨en,hx⟩,ha⟩:=hh;subst en;obtain ⟨⟨c0,fa,fd,ps,j,hj,hm,hn,hcl,hfn,hk,⟨hx1,hx2,hx3⟩,hb,F0⟩,_⟩:=S.xko C f (bq.mp hx);refine peI (Sd (iha ha) (Vy hns _ _)) λσ H Q hq=>el hq λρ F G e0 he r hw=>?_;rw[n8]at hw;refine aJ e0 he r hw λd G1 H1 F1 v q e1 x1 he1 r1 rv=>?_;unfold iI at q;split at q
 ·rename_i C1 g1 d1;obtain ⟨rfl,rfl,q⟩:=q;obtain ⟨a,c1,dx,ob,od,y,u,e2,⟨q1,q2,q3,q4⟩,qd,ru,hn1⟩:=rv;have ec:c1=c0:=by rw[hn]at hn1;cases hn1;rfl
  subst ec;exact ⟨a,c1,dx,ob,od,.own y,u,e2,q1,q2,q3,q4,qd,hx1,hx2,hx3,q _ _ _ x1 r1 ru⟩
 ·exact q.elim
theorem WT(S:Stat Φ CX k c E B X){o:Ex}(iho:OkE Φ c E B X o){e:Expr}(h:aa c (.pp0 o) e=true):PE X e (tE X.K B (wpE Φ (.pp0 o) E)):=nomatch (show false=true from h)
theorem WX(S:Stat Φ CX k c E B X){m:Mf}{o:Ex}{xs:Exs}(iho:OkE Φ c E B X o)(ih:d7 Φ c E B X xs){e:Expr}(h:aa c (.mth m o xs) e=true):PE X e (tE X.K B (wpE Φ (.mth m o xs) E)):=by
 replace h:=Ax h;obtain ⟨v,x,apos,args,cpos,rfl,h⟩:=h
 ·simp only[af,aE,ck]at h;obtain ⟨⟨⟨⟨⟨⟨e1,h1⟩,hb⟩,hl⟩,hn⟩,h2⟩,h3⟩:=h;subst e1;cases args with
  |nil=>cases h2
  |cons e es=>
   obtain ⟨x0,xs',rfl,c1,c2⟩:=jU h3;have hs:=bI e es X.env (cB (bC x0 c1));have ha:=pN c2 X.env cpos;have hbase:=WD hb (Str.ofString m.name) X.env;have hfew:((backTo cpos (starEach (e::es) X.env)).all (λx=>!x.1)&&(backToKw cpos (keywordEach [] X.env)).all (λx=>x.1.isSome)
    &&decide ((e::es).length+([]:List Keyword).length+(if ([]:List Keyword).isEmpty then 0 else 1) < 30))=true:=by
    rw[all_plain h3 X.env cpos];have:(e::es).length+([]:List Keyword).length+(if ([]:List Keyword).isEmpty then 0 else 1) < 30:=by have e0:(if ([]:List Keyword).isEmpty=true then 0 else 1)=0:=rfl;rw[e0];show (e::es).length+0+0 < 30;omega
    rw[fe this];rfl
   have hline:(apos.endLine==cpos.line)=true:=by rw[aE];exact hl
   have lst:∀{d:D} {u:V} {G1:DH} {H1:Hp} {F1:FZ},(match d with |.ref p=>(match G1 p with |some (.lst _)=>True |none=>False) |_=>False)->R X.K H1 F1 G1->Rep X.K H1 F1 d u->tyV X.K "list" u H1:=λ{d u G1 H1 F1} q r1 ru=>by
    split at q
    ·rename_i p;split at q
     ·rename_i ds hg;obtain ⟨vs,hv,_⟩:=r1.lst hg;have e2:u=.ref p:=ru;subst e2;exact .inl ⟨rfl,vs,SqL.of hv⟩
     ·exact q.elim
    ·exact q.elim
   have lstV:∀{d:D} {u:V} {G1:DH} {H1:Hp} {F1:FZ},rN (view G1 d)->R X.K H1 F1 G1->Rep X.K H1 F1 d u->tyV X.K "list" u H1:=λ{d u G1 H1 F1} q r1 ru=>by
    generalize hv:view G1 d=w at q;cases w with
    |lst ds=>
     obtain ⟨a,vs,rfl,sq,_⟩:=Rep.list r1 ru hv;exact .inl ⟨rfl,vs,sq⟩
    |_=>exact (show False from q).elim
   cases m with
   |join=>
    refine peI (eH PySem.F.plainAttrs_str PySem.F.slot_str_join PySem.F.type_str_join U4 (iho h1) (ih h3) hbase hfew hline hs ha) λσ H Q hq=>el hq λρ F G e0 he r hw=>?_;rw[cY]at hw;refine aJ e0 he r hw λd G1 H1 F1 u q e1 x1 he1 r1 ru=>⟨?_,bR e1 he1 r1 q.2 λds G2 H2 F2 vs q e2 x2 he2 r2 rvs=>?_⟩
    ·have q1:=q.1;cases d with
     |str l=>obtain ⟨e2,_⟩:=ru;subst e2;exact rfl
     |_=>exact (show False from q1).elim
    ·exact ⟨F2,G2,d,ds,r2,Rep.ext x2 ru,rvs,dY (λd G' z=>PV.later z (x1.trans x2)) q⟩
   |find=>
    refine peI (eH PySem.F.plainAttrs_str PySem.F.slot_str_find PySem.F.type_str_find m_find (iho h1) (ih h3) hbase hfew hline hs ha) λσ H Q hq=>el hq λρ F G e0 he r hw=>?_;rw[cY]at hw;refine aJ e0 he r hw λd G1 H1 F1 u q e1 x1 he1 r1 ru=>⟨?_,bR e1 he1 r1 q.2 λds G2 H2 F2 vs q e2 x2 he2 r2 rvs=>?_⟩
    ·have q1:=q.1;cases d with
     |str l=>obtain ⟨e2,_⟩:=ru;subst e2;exact rfl
     |_=>exact (show False from q1).elim
    ·exact ⟨F2,G2,d,ds,r2,Rep.ext x2 ru,rvs,dY (λd G' z=>PV.later z (x1.trans x2)) q⟩
   |split=>
    refine peI (eH PySem.F.plainAttrs_str PySem.F.slot_str_split PySem.F.type_str_split m_split (iho h1) (ih h3) hbase hfew hline hs ha) λσ H Q hq=>el hq λρ F G e0 he r hw=>?_;rw[cY]at hw;refine aJ e0 he r hw λd G1 H1 F1 u q e1 x1 he1 r1 ru=>⟨?_,bR e1 he1 r1 q.2 λds G2 H2 F2 vs q e2 x2 he2 r2 rvs=>?_⟩
    ·have q1:=q.1;cases d with
     |str l=>obtain ⟨e2,_⟩:=ru;subst e2;exact rfl
     |_=>exact (show False from q1).elim
    ·exact ⟨F2,G2,d,ds,r2,Rep.ext x2 ru,rvs,dY (λd G' z=>PV.later z (x1.trans x2)) q⟩
   |append=>
    refine peI (eH fh PySem.F.slot_list_append PySem.F.type_list_append U6 (iho h1) (ih h3) hbase hfew hline hs ha) λσ H Q hq=>el hq λρ F G e0 he r hw=>?_;rw[cY]at hw;refine aJ e0 he r hw λd G1 H1 F1 u q e1 x1 he1 r1 ru=>⟨?_,bR e1 he1 r1 q.2 λds G2 H2 F2 vs q e2 x2 he2 r2 rvs=>?_⟩
    ·refine lst (d:=d) (G1:=G1) ?_ r1 ru;have q1:=q.1;cases d <;> first |exact q1 |exact (show False from q1).elim
    ·exact ⟨F2,G2,d,ds,r2,Rep.ext x2 ru,rvs,dY (λd G' z=>PV.later z (x1.trans x2)) q⟩
   |extend=>
    refine peI (eH fh PySem.F.slot_list_extend PySem.F.type_list_extend Vg (iho h1) (ih h3) hbase hfew hline hs ha) λσ H Q hq=>el hq λρ F G e0 he r hw=>?_;rw[cY]at hw;refine aJ e0 he r hw λd G1 H1 F1 u q e1 x1 he1 r1 ru=>⟨?_,bR e1 he1 r1 q.2 λds G2 H2 F2 vs q e2 x2 he2 r2 rvs=>?_⟩
    ·refine lst (d:=d) (G1:=G1) ?_ r1 ru;have q1:=q.1;cases d <;> first |exact q1 |exact (show False from q1).elim
    ·exact ⟨F2,G2,d,ds,r2,Rep.ext x2 ru,rvs,dY (λd G' z=>PV.later z (x1.trans x2)) q⟩
   |insert=>
    refine peI (eH fh PySem.F.slot_list_insert PySem.F.type_list_insert Vd (iho h1) (ih h3) hbase hfew hline hs ha) λσ H Q hq=>el hq λρ F G e0 he r hw=>?_;rw[cY]at hw;refine aJ e0 he r hw λd G1 H1 F1 u q e1 x1 he1 r1 ru=>⟨?_,bR e1 he1 r1 q.2 λds G2 H2 F2 vs q e2 x2 he2 r2 rvs=>?_⟩
    ·refine lst (d:=d) (G1:=G1) ?_ r1 ru;have q1:=q.1;cases d <;> first |exact q1 |exact (show False from q1).elim
    ·exact ⟨F2,G2,d,ds,r2,Rep.ext x2 ru,rvs,dY (λd G' z=>PV.later z (x1.trans x2)) q⟩
   |pop=>
    refine peI (eH fh PySem.F.slot_list_pop PySem.F.type_list_pop Ve (iho h1) (ih h3) hbase hfew hline hs ha) λσ H Q hq=>el hq λρ F G e0 he r hw=>?_;rw[cY]at hw;refine aJ e0 he r hw λd G1 H1 F1 u q e1 x1 he1 r1 ru=>⟨?_,bR e1 he1 r1 q.2 λds G2 H2 F2 vs q e2 x2 he2 r2 rvs=>?_⟩
    ·refine lst (d:=d) (G1:=G1) ?_ r1 ru;have q1:=q.1;cases d <;> first |exact q1 |exact (show False from q1).elim
    ·exact ⟨F2,G2,d,ds,r2,Rep.ext x2 ru,rvs,dY (λd G' z=>PV.later z (x1.trans x2)) q⟩
   |count=>
    refine peI (eH fh PySem.F.slot_list_count PySem.F.type_list_count U7 (iho h1) (ih h3) hbase hfew hline hs ha) λσ H Q hq=>el hq λρ F G e0 he r hw=>?_;rw[cY]at hw;refine aJ e0 he r hw λd G1 H1 F1 u q e1 x1 he1 r1 ru=>⟨lstV q.1 r1 ru,bR e1 he1 r1 q.2 λds G2 H2 F2 vs q e2 x2 he2 r2 rvs=>?_⟩;exact ⟨F2,G2,d,ds,r2,Rep.ext x2 ru,rvs,dY (λd G' z=>PV.later z (x1.trans x2)) q⟩
   |index=>
    refine peI (eH fh PySem.F.slot_list_index PySem.F.type_list_index U8 (iho h1) (ih h3) hbase hfew hline hs ha) λσ H Q hq=>el hq λρ F G e0 he r hw=>?_;rw[cY]at hw;refine aJ e0 he r hw λd G1 H1 F1 u q e1 x1 he1 r1 ru=>⟨lstV q.1 r1 ru,bR e1 he1 r1 q.2 λds G2 H2 F2 vs q e2 x2 he2 r2 rvs=>?_⟩;exact ⟨F2,G2,d,ds,r2,Rep.ext x2 ru,rvs,dY (λd G' z=>PV.later z (x1.trans x2)) q⟩
end
section
variable {Φ:ao} {CX:CXT} {k:Nat} {c:CT} {E:EK} {B:Bs} {X:Cx}
def EachE(Φ:ao)(c:CT)(E:EK)(B:Bs)(X:Cx):Exs->Prop
 |.nil=>True
 |.cons e es=>OkE Φ c E B X e/\EachE Φ c E B X es
def pO(Φ:ao)(c:CT)(E:EK)(B:Bs)(X:Cx):Txs->Prop
 |.nil=>True
 |.cons e es=>OkT Φ c E B X e/\pO Φ c E B X es
theorem WY(S:Stat Φ CX k c E B X){es:Exs}(ih:EachE Φ c E B X es){e:Expr}(h:aa c (.fst es) e=true):PE X e (tE X.K B (wpE Φ (.fst es) E)):=nomatch (show false=true from h)
theorem EachE.oks:∀{xs:Exs},EachE Φ c E B X xs->d7 Φ c E B X xs
 |.nil,_=>by intro h;exact pM h
 |.cons x xs,hh=>by intro h;exact jT hh.1 (EachE.oks hh.2) h
def pP(Φ:ao)(E:EK)(isAnd:Bool)(x:Ex)(xs:Exs):aj->DH->(D->DH->Prop)->Prop:=λρ G kk=>wpE Φ x E ρ G λd G1=>match d with |.bl b=>wpB Φ xs isAnd b E ρ G1 (λc G2=>kk (.bl c) G2) |_=>False
theorem Bq{isAnd:Bool}{pos:Pos}:∀(xs:Exs){x:Ex},OkE Φ c E B X x->EachE Φ c E B X xs->∀{v:Expr}{vs:List Expr},aa c x v=true->aG c xs vs=true->
  PE X (.BoolOp (if isAnd then .And else .Or) (v::vs) pos) (tE X.K B (pP Φ E isAnd x xs))
 |.nil,x,ih,_,v,vs,h1,h2=>by
  unfold aG at h2;cases vs with
  |nil=>
   refine peI (MK (ih h1)) λσ H Q hq=>el hq λρ F G e0 he r hw=>?_;unfold pP at hw;refine aJ e0 he r hw λd G1 H1 F1 u q e1 x1 he1 r1 ru=>?_;split at q
   ·rw[m5]at q;exact q _ _ _ x1 r1 ru
   ·exact q.elim
  |cons _ _=>cases h2
 |.cons y ys,x,ih,hh,v,vs,h1,h2=>by
  unfold aG at h2;split at h2
  ·rename_i w ws;rw[af]at h2;have rest:=Bq (isAnd:=isAnd) (pos:=pos) ys hh.1 hh.2 h2.1 h2.2;cases isAnd with
   |true=>
    refine peI (MN (ih h1) rest) λσ H Q hq=>el hq λρ F G e0 he r hw=>?_;unfold pP at hw;refine aJ e0 he r hw λd G1 H1 F1 u q e1 x1 he1 r1 ru=>?_;split at q
    ·rename_i b;refine ⟨b,ru,?_⟩;rw[jA]at q;cases b with
     |true=>
      rw[if_pos rfl];exact ⟨ρ,F1,G1,e1,he1,r1,aA y (λd G' z=>by
       cases d <;> first |exact (show False from z).elim |exact oX ys (λc G2 z=>PV.later z x1) z) q⟩
     |false=>
      rw[if_neg br];exact q _ _ _ x1 r1 rfl
    ·exact q.elim
   |false=>
    refine peI (MP (ih h1) rest) λσ H Q hq=>el hq λρ F G e0 he r hw=>?_;unfold pP at hw;refine aJ e0 he r hw λd G1 H1 F1 u q e1 x1 he1 r1 ru=>?_;split at q
    ·rename_i b;refine ⟨b,ru,?_⟩;rw[jA]at q;cases b with
     |false=>
      rw[if_neg br];exact ⟨ρ,F1,G1,e1,he1,r1,aA y (λd G' z=>by
       cases d <;> first |exact (show False from z).elim |exact oX ys (λc G2 z=>PV.later z x1) z) q⟩
     |true=>
      rw[if_pos rfl];exact q _ _ _ x1 r1 rfl
    ·exact q.elim
  ·cases h2
theorem W0{isAnd:Bool}{x:Ex}{xs:Exs}(ih:OkE Φ c E B X x)(hh:EachE Φ c E B X xs){e:Expr}(h:aa c (.boo isAnd x xs) e=true):PE X e (tE X.K B (wpE Φ (.boo isAnd x xs) E)):=by
 replace h:=Ag h;obtain ⟨_,_,_,_,rfl,h⟩:=h
 ·simp only[af,aE]at h;obtain ⟨⟨e1,h1⟩,h2⟩:=h;subst e1;refine peI (Bq xs ih hh h1 h2) λσ H Q hq=>el hq λρ F G e0 he r hw=>⟨ρ,F,G,e0,he,r,?_⟩;rw[nJ]at hw;exact hw
theorem W2{t:Tx}{a b:Ex}(iht:OkT Φ c E B X t)(iha:OkE Φ c E B X a)(ihb:OkE Φ c E B X b){e:Expr}(h:aa c (.ife t a b) e=true):PE X e (tE X.K B (wpE Φ (.ife t a b) E)):=nomatch (show false=true from h)
theorem W3{x:Ex}(ih:OkE Φ c E B X x){e:Expr}(hp:gJ e=true)(h:aa c x e=true):PT X e (tB' X.K B (wpT Φ (.val x) E)):=by
 refine ptI (Oo (ih h) (V9 hp X.env)) λσ H Q hq=>el hq λρ F G e0 he r hw=>?_;rw[iJ]at hw;refine aJ e0 he r hw λd G1 H1 F1 u q e1 x1 he1 r1 ru=>?_;split at q
 ·rename_i b hb;exact ⟨b,Uo r1 ru hb,q _ _ x1 r1⟩
 ·exact q.elim
theorem W4{t:Tx}(ih:OkT Φ c E B X t){e:Expr}(h:bG c (.not t) e=true):PT X e (tB' X.K B (wpT Φ (.not t) E)):=by
 replace h:=VM h;obtain ⟨_,_,rfl,h⟩:=h
 ·refine ptI (Mz (ih h)) λσ H Q hq=>el hq λρ F G e0 he r hw=>?_;rw[mX]at hw;exact jR e0 he r hw λb G1 H1 F1 q e1 x1 he1 r1=>q _ _ x1 r1
def jV(Φ:ao)(E:EK)(isAnd:Bool)(x:Tx)(xs:Txs):aj->DH->(Bool->DH->Prop)->Prop:=λρ G kk=>wpT Φ x E ρ G λb G1=>eY Φ xs isAnd b E ρ G1 kk
theorem Br{isAnd:Bool}{pos:Pos}:∀(xs:Txs){x:Tx},OkT Φ c E B X x->pO Φ c E B X xs->∀{v:Expr}{vs:List Expr},bG c x v=true->gM c xs vs=true->
  PW X (.BoolOp (if isAnd then .And else .Or) (v::vs) pos) (tB' X.K B (jV Φ E isAnd x xs))
 |.nil,x,ih,_,v,vs,h1,h2=>by
  unfold gM at h2;cases vs with
  |nil=>
   have go:∀σ H Q,tB' X.K B (jV Φ E isAnd x .nil) σ H Q->tB' X.K B (wpT Φ x E) σ H Q:=λσ H Q hq=>el hq λρ F G e0 he r hw=>by
    unfold jV at hw;refine ⟨ρ,F,G,e0,he,r,cN x (λb G1 q=>?_) hw⟩;rw[m7]at q;exact q
   cases isAnd with
   |true=>exact pwI (Mv (ih h1)) go
   |false=>exact pwI (Mw (ih h1)) go
  |cons _ _=>cases h2
 |.cons y ys,x,ih,hh,v,vs,h1,h2=>by
  unfold gM at h2;split at h2
  ·rename_i w ws;rw[af]at h2;have rest:=Br (isAnd:=isAnd) (pos:=pos) ys hh.1 hh.2 h2.1 h2.2;cases isAnd with
   |true=>
    refine pwI (Mx (ih h1) rest) λσ H Q hq=>el hq λρ F G e0 he r hw=>?_;unfold jV at hw;refine jR e0 he r hw λb G1 H1 F1 q e1 x1 he1 r1=>?_;rw[jB]at q;cases b with
    |true=>
     rw[if_pos rfl];exact ⟨ρ,F1,G1,e1,he1,r1,cN y (λb' G' z=>oY ys (λc G2 z=>PB.later z x1) z) q⟩
    |false=>
     rw[if_neg br];exact q _ _ x1 r1
   |false=>
    refine pwI (My (ih h1) rest) λσ H Q hq=>el hq λρ F G e0 he r hw=>?_;unfold jV at hw;refine jR e0 he r hw λb G1 H1 F1 q e1 x1 he1 r1=>?_;rw[jB]at q;cases b with
    |false=>
     rw[if_neg br];exact ⟨ρ,F1,G1,e1,he1,r1,cN y (λb' G' z=>oY ys (λc G2 z=>PB.later z x1) z) q⟩
    |true=>
     rw[if_pos rfl];exact q _ _ x1 r1
  ·cases h2
theorem W5{isAnd:Bool}{x:Tx}{xs:Txs}(ih:OkT Φ c E B X x)(hh:pO Φ c E B X xs){e:Expr}(h:bG c (.boo isAnd x xs) e=true):PT X e (tB' X.K B (wpT Φ (.boo isAnd x xs) E)):=by
 replace h:=VN h;obtain ⟨_,_,_,_,rfl,h⟩:=h
 ·simp only[af,aE]at h;obtain ⟨⟨e1,h1⟩,h2⟩:=h;subst e1;refine ptI (PW.pt (Br xs ih hh h1 h2)) λσ H Q hq=>el hq λρ F G e0 he r hw=>⟨ρ,F,G,e0,he,r,?_⟩;rw[mY]at hw;exact hw
def tG(K:PF)(B:Bs)(t:Tg):TG:=λv σ H Q=>∃ρ F G d,Ext B.H B.F H F/\EnvR K H F ρ σ/\R K H F G/\Rep K H F d v/\aK t d ρ G (λρ'=>∀σ',EnvR K H F ρ' σ'->Q σ' H)
def tGs(K:PF)(B:Bs)(t:Tgs):TGs:=λvs σ H Q=>∃ρ F G ds,Ext B.H B.F H F/\EnvR K H F ρ σ/\R K H F G/\Reps K H F ds vs/\bz t ds ρ G (λρ'=>∀σ',EnvR K H F ρ' σ'->Q σ' H)
theorem pQ:∀{ts:Tgs}{es:List Expr}{env:Env},b7 c ts es=true->(assignEach es env).length=es.length/\(assignEach es env).findIdx? (·.1)=none/\(assignEach es env).map (·.2)=es.map λe=>assign e env
 |.nil,[],env,_=>⟨rfl,rfl,rfl⟩
 |.nil,_::_,env,h=>by unfold b7 at h;cases h
 |.cons t r,[],env,h=>by unfold b7 at h;cases h
 |.cons t r,e::es,env,h=>by
  unfold b7 at h;rw[af]at h;obtain ⟨h1,h2,h3⟩:=pQ (env:=env) h.2;have hs:assignEach (e::es) env=(false,assign e env)::assignEach es env:=by
   cases t with
   |nm i=>
    have h':=h.1;obtain ⟨_,_,rfl,_⟩:=uA h';rfl
   |tp ts=>
    have h':=h.1;obtain ⟨_,_,_,rfl,_⟩:=uB h';rfl
  rw[hs];refine ⟨by simp[h1],?_,by simp[h3]⟩;rw[List.findIdx?_cons];simp[h2]
section
variable {prog:Program} {w:World} {A:Around} {E:Value->Shared->Prop} {s:Shared}
theorem Bt{it t:Addr}{items:Array Value}(hne:t≠it):∀(n i:Nat)(s:Shared)(Q:List Value->Shared->Prop),s.heap.IsListIter it t i->s.heap.IsList t items->i+n<=items.size->
  (∀h',h'.IsListIter it t (i+n)->Heap.SameBut it s.heap h'->Q ((items.toList.drop i).take n) { s with heap:=h' })->wpAny (model prog w) A (draw (.ref it) n) Q E s
 |0,i,s,Q,hit,_,_,hQ=>by
  show wpAny _ _ (pure []) Q E s;exact am (by simpa using hQ s.heap hit (Heap.SameBut.refl ..))
 |n+1,i,s,Q,hit,ht,hle,hQ=>by
  have hlt:i < items.size:=by omega
  show wpAny _ _ (pyNext (.ref it) >>= _) Q E s;refine ae (wpAny_pyNext_list_item hit ht (x:=items[i]) (by simp[hlt]) λh₁ hit₁ hs₁=>?_);refine ae (cq (Bt hne n (i+1) _ _ hit₁ (ht.extBut hs₁.extBut hne) (by omega) λh₂ hit₂ hs₂=>am ?_));have hd:items.toList.drop i=items[i]::items.toList.drop (i+1):=by simp[cm,hlt]
  have:=hQ h₂ (by rw[show i+(n+1)=i+1+n by omega];exact hit₂) (hs₁.trans hs₂);rw[hd,List.take_succ_cons]at this;exact this
theorem W6{t:Addr}{items:Array Value}{Q:List Value->Shared->Prop}(hh:A.handled=none)(ht:s.heap.IsList t items)
  (hQ:∀h',Heap.ExtBut s.heap.objs.size s.heap h'->Q items.toList { s with heap:=h' }):wpAny (model prog w) A (unpackItems (.ref t) items.size none) Q E s:=by
 have hlt:t≠s.heap.objs.size:=by obtain ⟨o,ho,_⟩:=ht;exact b6 (ay ho)
 unfold unpackItems;refine ae ?_;unfold notIterableAtAll;refine ae (wpAny_specialOf ht.typeIs PySem.F.slot_list_iter.lookup ?_);refine am ?_;simp only[gs,if_false];refine ae (cq (wpAny_pyIter_list ht ?_));refine ae (cq (Bt hlt items.size 0 _ _ ⟨_,aI _ rfl,rfl,rfl⟩ (ht.push _) (by omega) λh₁ hit₁ hs₁=>?_));have hall:List.take items.size (List.drop 0 items.toList)=items.toList:=by rw[List.drop_zero];exact eI (by simp)
 rw[hall];rw[if_neg (by simp)];have ht₁:h₁.IsList t items:=(ht.push _).extBut hs₁.extBut hlt;refine ae (cq (wpAny_pyNext_list_end hh hit₁ ht₁ (by simp) λh₂ he₂=>?_));simp only[Option.isSome_none,gs,if_false];refine am (hQ h₂ λb o hb e=>he₂ b o hb (hs₁.extBut b o hb (ah _ e)))
theorem W7{env:Env}{elts:List Expr}{x1}{pos:Pos}{t:Addr}{items:Array Value}{Q:Unit->Shared->Prop}(hh:A.handled=none)(ht:s.heap.IsList t items)
  (hn:(assignEach elts env).length=items.size) (hstar:(assignEach elts env).findIdx? (·.1)=none)
  (h:∀h',Heap.ExtBut s.heap.objs.size s.heap h'->wpAny (model prog w) A (assignInOrder ((assignEach elts env).map (·.2)) items.toList) Q E { s with heap:=h' }):
  wpAny (model prog w) A (assign (.Tuple elts x1 pos) env (.ref t)) Q E s:=by
 rw[assign_Tuple];refine ae (hV ?_);unfold unpack;rw[hn,hstar];exact ae (cq (W6 hh ht h))
end
section
variable {X:Cx} {pos:Pos}
def W8(K:PF)(n:Nat)(t:TGs):TG:=λv σ H Q=>∃a xs,v=.ref a/\SqL K H a xs/\xs.length=n/\t xs σ H Q
theorem W9{es:List Expr}{k:Nat}{t:TGs}{n:Nat}(hc:X.calm=true)(h:PGs X es t)
  (hn:(assignEach es X.env).length=n:=by rfl) (hst:(assignEach es X.env).findIdx? (·.1)=none:=by rfl):PG X (.Tuple es k pos) (W8 X.K n t):=by
 intro pins s σ H v u Q I r hw;obtain ⟨a,xs,e1,hq,hl,hw⟩:=hw;subst e1;cases r;obtain ⟨its,rv,pl,hz⟩:=I.list hq;refine W7 (I.ok.hd hc) pl.isList (by simp[hn,<-hl,rv.length]) hst λh' hx=>?_;have I1:Inv X pins σ H { s with heap:=h' }:=I.kept (t':=s.toks) λb o e=>hx b o (b6 (ay e)) e;exact h pins _ σ H xs _ Q I1 (by simpa using rv) hw
end
section
variable {X:Cx} {pos:Pos}
theorem Bu:∀{xs:List V}{z:V}{us:List Value},Vals (xs++[z]) us->∃vs u,us=vs++[u]/\Vals xs vs/\RelV z u
 |[],_,_,.cons r .nil=>⟨[],_,rfl,.nil,r⟩
 |x::xs,z,_,.cons r rr=>by
  obtain ⟨vs,u,e,h1,h2⟩:=Bu (xs:=xs) rr;subst e;exact ⟨_::vs,u,rfl,.cons r h1,h2⟩
def Xa(K:PF)(t:TGs):TG:=λv σ H Q=>∃a xs z,v=.ref a/\SqL K H a (xs++[z])/\∀l,H l=none->t [.ref l,z] σ (upd H l (.lst xs)) Q
theorem Xb{x y:Str}{px py sp:Pos}{k:Nat}{t:TGs}(hc:X.calm=true)(h:PGs X [.Name x px,.Name y py] t):PG X (.Tuple [.Starred (.Name x px) sp,.Name y py] k pos) (Xa X.K t):=by
 intro pins s σ H v u Q I r hw;obtain ⟨a,xs,z,e1,hq,hw⟩:=hw;subst e1;cases r;obtain ⟨its,rv,pl,hz⟩:=I.list hq;obtain ⟨vs,w,e,h1,h2⟩:=Bu rv;subst e;have hn:(vs++[w]).toArray.size=vs.length+1:=by simp
 have hz':(vs++[w]).toArray.size<=sizeLine:=by rw[hn,<-h1.length];simpa using hz
 refine RD (I.ok.hd hc) pl.isList hz' (by rw[hn];omega) rfl rfl λh' tk kp=>?_;have e2:(vs++[w]).toArray.toList.take ((vs++[w]).toArray.size - 1)=vs:=by rw[hn];simp
 have e3:(vs++[w]).toArray.toList.drop ((vs++[w]).toArray.size - 1)=[w]:=by rw[hn];simp
 rw[e2,e3];have I1:Inv X pins σ H { s with heap:=h',toks:=tk }:=I.kept (t':=tk) kp;have hl:xs.length<=sizeLine:=by rw[hn]at hz';rw[h1.length];omega
 have I2:Inv X pins σ (upd H h'.objs.size (.lst xs)) { s with heap:=h'.push { cls:=.type "list",data:=.seq vs.toArray },toks:=tk }:=
  I1.laid (t':=tk) (λb o e=>ah _ e) (av _) (show ObjOk X.prog X.w _ _ _ (.lst _) from ⟨hl,vs,0,h1,aI _ rfl⟩)
 have hv2:Vals [V.ref h'.objs.size,z] [Value.ref h'.objs.size,w]:=.cons (show RelV (.ref h'.objs.size) (.ref h'.objs.size) from rfl) (.cons h2 .nil);exact h pins _ σ _ _ _ Q I2 hv2 (hw _ (I1.hok.fresh (av _)))
end
mutual
theorem gO(S:Stat Φ CX k c E B X):∀(t:Tg){e:Expr},bM c t e=true->PG X e (tG X.K B t)
 |.nm i,e,h=>by
  replace h:=uA h;obtain ⟨x,pos,rfl,h⟩:=h
  ·skip;rw[af,aE]at h;obtain ⟨l,f⟩:=S.sto x h.2;intro pins s σ H v u Q I rv q;refine qC (i:=i) S.nd (by rw[S.N];exact h.1) l f pins s σ H v u Q I rv ?_;obtain ⟨ρ,F,G,d,e0,he,r,rd,hw⟩:=q;unfold aK at hw;exact hw _ (he.set rd i)
 |.tp ts,e,h=>by
  replace h:=uB h;obtain ⟨es,kk,pos,rfl,h⟩:=h
  ·skip;obtain ⟨h1,h2,h3⟩:=pQ (env:=X.env) h;intro pins s σ H v u Q I rv q;obtain ⟨ρ,F,G,d,e0,he,r,rd,hw⟩:=q;unfold aK at hw;split at hw
   ·rename_i ds;refine Nx (n:=es.length) S.calm (uC S ts h) h1 h2 pins s σ H v u Q I rv ?_;obtain ⟨a,vs,e1,q,t⟩:=rd;refine ⟨a,vs,e1,q.sq,?_,ρ,F,G,ds,e0,he,r,t,hw⟩;rw[<-t.length];exact uD ts h hw
   ·rename_i ds;refine W9 (n:=es.length) S.calm (uC S ts h) h1 h2 pins s σ H v u Q I rv ?_;obtain ⟨a,vs,e1,q,t⟩:=rd;refine ⟨a,vs,e1,q.sq,?_,ρ,F,G,ds,e0,he,r,t,hw⟩;rw[<-t.length];exact uD ts h hw
   ·exact hw.elim
theorem uC(S:Stat Φ CX k c E B X):∀(ts:Tgs){es:List Expr},b7 c ts es=true->PGs X es (tGs X.K B ts)
 |.nil,es,h=>by
  unfold b7 at h;cases es with
  |nil=>
   intro pins s σ H vs us Q I rv q;refine vY pins s σ H vs us Q I rv ?_;obtain ⟨ρ,F,G,ds,e0,he,r,rd,hw⟩:=q;unfold bz at hw;split at hw
   ·exact ⟨rd,hw _ he⟩
   ·exact hw.elim
  |cons _ _=>cases h
 |.cons t r,es,h=>by
  unfold b7 at h;split at h
  ·rename_i e es;rw[af]at h;intro pins s σ H vs us Q I rv q;have hs:(assignEach (e::es) X.env).map (·.2)=assign e X.env::(assignEach es X.env).map (·.2):=by
    have hh:b7 c (.cons t r) (e::es)=true:=by unfold b7;show (bM c t e&&b7 c r es)=true;rw[h.1,h.2];rfl
    rw[(pQ (env:=X.env) hh).2.2,(pQ (env:=X.env) h.2).2.2];rfl
   refine qD (gO S t h.1) (uC S r h.2) hs pins s σ H vs us Q I rv ?_;obtain ⟨ρ,F,G,ds,e0,he,rr,rd,hw⟩:=q;unfold bz at hw;split at hw
   ·rename_i d ds;obtain ⟨v,vs',e1,rd1,rds⟩:=rd;refine ⟨v,vs',e1,ρ,F,G,d,e0,he,rr,rd1,cM (λρ' z σ' he'=>?_) t hw⟩;exact ⟨ρ',F,G,ds,e0,he',rr,rds,z⟩
   ·exact hw.elim
  ·cases h
theorem uD{G:DH}:∀(ts:Tgs){es:List Expr}{ds:List D}{ρ:aj}{Q:aj->Prop},b7 c ts es=true->bz ts ds ρ G Q->ds.length=es.length
 |.nil,es,ds,ρ,Q,h,q=>by
  unfold b7 at h;unfold bz at q;split at q
  ·cases es with
   |nil=>rfl
   |cons _ _=>cases h
  ·exact q.elim
 |.cons t r,es,ds,ρ,Q,h,q=>by
  unfold b7 at h;split at h
  ·rw[af]at h;unfold bz at q;split at q
   ·rename_i d ds;have:∃ρ',bz r ds ρ' G Q:=Bv t q;obtain ⟨ρ',q'⟩:=this;have:=uD r h.2 q';simp[this]
   ·exact q.elim
  ·cases h
theorem Bv{G:DH}:∀(t:Tg){d:D}{ρ:aj}{Q:aj->Prop},aK t d ρ G Q->∃ρ',Q ρ'
 |.nm i,d,ρ,Q,q=>⟨_,q⟩
 |.tp ts,d,ρ,Q,q=>by
  unfold aK at q;split at q
  ·exact uE ts q
  ·exact uE ts q
  ·exact q.elim
theorem uE{G:DH}:∀(ts:Tgs){ds:List D}{ρ:aj}{Q:aj->Prop},bz ts ds ρ G Q->∃ρ',Q ρ'
 |.nil,ds,ρ,Q,q=>by
  unfold bz at q;split at q
  ·exact ⟨_,q⟩
  ·exact q.elim
 |.cons t r,ds,ρ,Q,q=>by
  unfold bz at q;split at q
  ·obtain ⟨ρ',q'⟩:=Bv t q;exact uE r q'
  ·exact q.elim
end
end
structure WalkJ(K:PF)(H:Hp)(F:FZ)(items:List D)(g:Hld)(J:It):Prop where
 go:∀H' F' G i,Ext H F H' F'->R K H' F' G->held g G->i < items.length->J.go i H'
 stop:∀H' F' G,Ext H F H' F'->R K H' F' G->held g G->J.stop items.length H'
 yld:∀H' F' i x H'' d G,Ext H F H' F'->R K H' F' G->held g G->items[i]?=some d->J.yld i H' x H''->Ext H' F' H'' F'/\R K H'' F' G/\Rep K H'' F' d x
section
variable {K:PF} {H:Hp} {F:FZ}
structure Src(K:PF)(H:Hp)(F:FZ)(u:Value)(ds:List D)(g:Hld)(k:SK):Prop where
 val:k.val=u
 sat:∀H' F' G,Ext H F H' F'->R K H' F' G->held g G->∃vs,k.Sat H' vs/\Reps K H' F' ds vs
theorem jW{d:D}{v:V}{u:Value}{G:DH}{ds:List D×Hld}(h:Rep K H F d v)(r:RelV v u)(e:itemsOf G d=some ds):∃k,Src K H F u ds.1 ds.2 k:=by
 cases d with
 |lst xs=>
  simp only[itemsOf,ba]at e;subst e;obtain ⟨a,vs,e1,q,t⟩:=h;subst e1;have hu:u=Value.ref a:=r;subst hu;exact ⟨.lst a,rfl,λH' F' G' x _ _=>⟨vs,(FzL.ext x q).2,Reps.ext x t⟩⟩
 |tup xs=>
  simp only[itemsOf,ba]at e;subst e;obtain ⟨a,vs,e1,q,t⟩:=h;subst e1;have hu:u=Value.ref a:=r;subst hu;exact ⟨.tup a,rfl,λH' F' G' x _ _=>⟨vs,(TpT.ext (K:=K) x q).it,Reps.ext x t⟩⟩
 |str l=>
  simp only[itemsOf,ba]at e;subst e;obtain ⟨e1,hl⟩:=h;subst e1;obtain ⟨t,hu⟩:∃t,u=Value.str (tx l) t:=r;subst hu;exact ⟨.str (tx l) t,rfl,λH' F' G' x _ _=>⟨_,rfl,by simpa using ug l⟩⟩
 |ref p=>
  simp only[itemsOf]at e;split at e
  ·rename_i xs hg;simp only[ba]at e;subst e;have e1:v=.ref p:=h;subst e1;have hu:u=Value.ref p:=r;subst hu;exact ⟨.lst p,rfl,λH' F' G' x r' hh=>r'.lst hh.1⟩
  ·cases e
 |_=>cases e
theorem pR{G:DH}{d:D}{ds:List D×Hld}(e:itemsOf G d=some ds):held ds.2 G:=by
 cases d with
 |ref p=>
  simp only[itemsOf]at e;split at e
  ·rename_i xs hg;simp only[ba]at e;subst e;exact ⟨hg,trivial⟩
  ·cases e
 |_=>simp only[itemsOf]at e;first | (cases e;done) | (simp only[ba]at e;subst e;exact trivial)
theorem Xc{u:Value}{ds:List D}{g:Hld}{k:SK}(s:Src K H F u ds g k):WalkJ K H F ds g (Jk k) where
 go:=λH' F' G i x r hh hi=>by
  obtain ⟨vs,h1,h2⟩:=s.sat H' F' G x r hh;exact ⟨vs,h1,by rw[<-h2.length];exact hi⟩
 stop:=λH' F' G x r hh=>by
  obtain ⟨vs,h1,h2⟩:=s.sat H' F' G x r hh;exact ⟨vs,h1,h2.length.symm⟩
 yld:=λH' F' i v H'' d G x r hh hd y=>by
  obtain ⟨e,hv⟩:=y;subst e;obtain ⟨vs,h1,h2⟩:=s.sat _ F' G x r hh;obtain ⟨w,e1,rw'⟩:=h2.get hd;have e2:=hv vs h1;rw[e1]at e2;cases e2;exact ⟨Ext.refl _ _,r,rw'⟩
theorem gP:∀(n:Nat)(ds:List D),(bW n ds).length=ds.length
 |_,[]=>rfl
 |n,d::ds=>by simp[bW,gP (n+1) ds]
theorem jX:∀(n:Nat)(ds:List D)(i:Nat),(bW n ds)[i]?=(ds[i]?).map λd=>.tup [.int ((n+i:Nat):Int),d]
 |_,[],_=>by simp[bW]
 |n,d::ds,0=>by simp[bW]
 |n,d::ds,i+1=>by
  simp only[bW,List.getElem?_cons_succ];rw[jX (n+1) ds i];congr 1;funext d;rw[show n+1+i=n+(i+1) by omega]
theorem pU:∀(as bs:List D),(bA as bs).length=min as.length bs.length
 |[],bs=>by simp[bA]
 |a::as,[]=>by simp[bA]
 |a::as,b::bs=>by simp[bA,pU as bs]
theorem uF:∀(as bs:List D)(i:Nat)(d:D),(bA as bs)[i]?=some d->∃a b,as[i]?=some a/\bs[i]?=some b/\d=.tup [a,b]
 |[],bs,i,d,h=>by simp[bA]at h
 |a::as,[],i,d,h=>by simp[bA]at h
 |a::as,b::bs,0,d,h=>by simp[bA]at h;exact ⟨a,b,rfl,rfl,h.symm⟩
 |a::as,b::bs,i+1,d,h=>by
  simp only[bA,List.getElem?_cons_succ]at h;obtain ⟨x,y,h1,h2,h3⟩:=uF as bs i d h;exact ⟨x,y,by simpa using h1,by simpa using h2,h3⟩
theorem Xd{u:Value}{ds:List D}{g:Hld}{k:SK}(s:Src K H F u ds g k):WalkJ K H F (bW 0 ds) g (Je k) where
 go:=λH' F' G i x r hh hi=>by
  obtain ⟨vs,h1,h2⟩:=s.sat H' F' G x r hh;exact ⟨vs,h1,by rw[<-h2.length,<-gP 0];exact hi⟩
 stop:=λH' F' G x r hh=>by
  obtain ⟨vs,h1,h2⟩:=s.sat H' F' G x r hh;exact ⟨vs,h1,by rw[gP];exact h2.length.symm⟩
 yld:=λH' F' i v H'' d G x r hh hd y=>by
  obtain ⟨vs,h1,h2⟩:=s.sat H' F' G x r hh;obtain ⟨T,y,hT,e1,e2,hv⟩:=y;subst e1 e2;rw[jX]at hd;obtain ⟨d',hd',e3⟩:=bS.mp hd;subst e3;obtain ⟨w,e1,rw'⟩:=h2.get hd';have e2:=hv vs h1;rw[e1]at e2;cases e2;refine ⟨cC r hT,r.new hT,?_⟩;rw[Nat.zero_add];exact mD r hT (Reps.cons rfl (Reps.cons rw' Reps.nil))
theorem Xe{u:Value}{ds:List D}{g:Hld}{k:SK}(s:Src K H F u ds g k):WalkJ K H F (bW 1 ds) g (Je1 k) where
 go:=λH' F' G i x r hh hi=>by
  obtain ⟨vs,h1,h2⟩:=s.sat H' F' G x r hh;exact ⟨vs,h1,by rw[<-h2.length,<-gP 1];exact hi⟩
 stop:=λH' F' G x r hh=>by
  obtain ⟨vs,h1,h2⟩:=s.sat H' F' G x r hh;exact ⟨vs,h1,by rw[gP];exact h2.length.symm⟩
 yld:=λH' F' i v H'' d G x r hh hd y=>by
  obtain ⟨vs,h1,h2⟩:=s.sat H' F' G x r hh;obtain ⟨T,y,hT,e1,e2,hv⟩:=y;subst e1 e2;rw[jX]at hd;obtain ⟨d',hd',e3⟩:=bS.mp hd;subst e3;obtain ⟨w,e1,rw'⟩:=h2.get hd';have e2:=hv vs h1;rw[e1]at e2;cases e2;refine ⟨cC r hT,r.new hT,?_⟩;rw[Nat.add_comm 1];exact mD r hT (Reps.cons rfl (Reps.cons rw' Reps.nil))
theorem jb{g g':Hld}{G:DH}:held (g++g') G->held g G/\held g' G:=by
 induction g with
 |nil=>exact λh=>⟨trivial,h⟩
 |cons p r ih=>
  intro h;obtain ⟨h1,h2⟩:=ih h.2;exact ⟨⟨h.1,h1⟩,h2⟩
theorem Xf{u u':Value}{ds es:List D}{g g':Hld}{k l:SK}(s:Src K H F u ds g k)(s':Src K H F u' es g' l):WalkJ K H F (bA ds es) (g++g') (Jz k l) where
 go:=λH' F' G i x r hh hi=>by
  obtain ⟨vs,h1,h2⟩:=s.sat H' F' G x r (jb hh).1;obtain ⟨ws,h3,h4⟩:=s'.sat H' F' G x r (jb hh).2;rw[pU]at hi;exact ⟨vs,ws,h1,h3,by rw[<-h2.length];omega,by rw[<-h4.length];omega⟩
 stop:=λH' F' G x r hh=>by
  obtain ⟨vs,h1,h2⟩:=s.sat H' F' G x r (jb hh).1;obtain ⟨ws,h3,h4⟩:=s'.sat H' F' G x r (jb hh).2;exact ⟨vs,ws,h1,h3,by rw[pU,<-h2.length,<-h4.length];omega⟩
 yld:=λH' F' i v H'' d G x r hh hd y=>by
  obtain ⟨T,y,z,hT,e1,e2,hv,hz⟩:=y;subst e1 e2;obtain ⟨a,b,ha,hb,e3⟩:=uF _ _ _ _ hd;subst e3;obtain ⟨vs,h1,h2⟩:=s.sat H' F' G x r (jb hh).1;obtain ⟨ws,h3,h4⟩:=s'.sat H' F' G x r (jb hh).2;obtain ⟨w,e1,rw'⟩:=h2.get ha;obtain ⟨w2,e3,rw2⟩:=h4.get hb;have e2:=hv vs h1;have e4:=hz ws h3;rw[e1]at e2;cases e2;rw[e3]at e4;cases e4;exact ⟨cC r hT,r.new hT,mD r hT (Reps.cons rw' (Reps.cons rw2 Reps.nil))⟩
theorem Xg(lo:Int)(n:Nat):WalkJ K H F (bY lo n) [] (Itr lo n) where
 go:=λH' F' G i x _ _ hi=>by show i < n;simpa [bY] using hi
 stop:=λH' F' G x _ _=>by show n<=(bY lo n).length;simp[bY]
 yld:=λH' F' i v H'' d G x r _ hd y=>by
  obtain ⟨e1,e2⟩:=y;subst e1 e2;refine ⟨Ext.refl _ _,r,?_⟩;unfold bY at hd;rw[ce]at hd;obtain ⟨j,hj,e3⟩:=bS.mp hd;have:j=i:=by have:=a7.mp hj;obtain ⟨h1,h2⟩:=this;simpa using h2.symm
  subst this;subst e3;rfl
end
def tI(K:PF)(B:Bs)(w:aj->DH->(List D->Hld->DH->Prop)->Prop):TI:=λσ H Rr=>∃ρ F G,Ext B.H B.F H F/\EnvR K H F ρ σ/\R K H F G/\
 w ρ G (λitems g G'=>∀H' F' J,Ext H F H' F'->R K H' F' G'->WalkJ K H' F' items g J->Rr J H')
section
variable {Φ:ao} {CX:CXT} {k:Nat} {c:CT} {E:EK} {B:Bs} {X:Cx}
theorem jY{pins:List (Addr×Obj)}{σ:L2.St}{H:Hp}{s:Shared}(I:Inv X pins σ H s){kk:SK}{vs:List V}(h:kk.Sat H vs):∃its:Array Value,kk.On its s.heap:=by
 cases kk with
 |lst a=>obtain ⟨its,_,pl,_⟩:=I.list (SqL.of (show H a=some _ from h));exact ⟨its.toArray,pl.isList⟩
 |tup a=>obtain ⟨its,_,pl,_⟩:=I.tuple (SqT.of (show H a=some _ from h));exact ⟨its.toArray,pl⟩
 |str x t=>exact ⟨#[],trivial⟩
theorem Xh{x:Ex}(ih:OkE Φ c E B X x){tg e:Expr}(h:aa c x e=true):PI X tg e (tI X.K B (wpI Φ (.seq x) E)):=by
 intro pins s σ H Rr I q;obtain ⟨ρ,F,G,e0,he,r,hw⟩:=q;rw[nq]at hw;have q':tE X.K B (wpE Φ x E) σ H (λv H1=>∃F1 G1 d items,R X.K H1 F1 G1/\Rep X.K H1 F1 d v/\itemsOf G1 d=some items/\∀J,WalkJ X.K H1 F1 items.1 items.2 J->Rr J H1):=
  aJ e0 he r hw λd G1 H1 F1 u q e1 x1 he1 r1 ru=>by
   split at q
   ·rename_i ds hd;exact ⟨F1,G1,d,ds,r1,ru,hd,λJ w=>q H1 F1 J x1 r1 w⟩
   ·exact q.elim
 refine thn (ih h pins s σ H _ I q') λu s1 ⟨v,H1,I1,rv,F1,G1,d,items,r1,rd,hd,q1⟩=>?_;obtain ⟨kk,src⟩:=jW rd rv hd;obtain ⟨vs,sat,_⟩:=src.sat H1 F1 G1 (Ext.refl _ _) r1 (pR hd);obtain ⟨its,on⟩:=jY I1 sat;rw[<-src.val];refine SK.iter on ?_;refine ⟨s1.heap.objs.size,[s1.heap.objs.size],_,_,H1,rfl,I1.kept (t':=s1.toks) λb o e=>ah _ e,Vo kk _,SK.pos0,λb hb=>?_,q1 _ (Xc src)⟩;have e:b=s1.heap.objs.size:=by simpa using hb
 subst e;exact I1.fpOk (av _) (I1.hok.fresh (av _))
theorem Xi(S:Stat Φ CX k c E B X){a:Ex}(ih:OkE Φ c E B X a){tg e:Expr}(h:bw c (.rng a) tg e=true):PI X tg e (tI X.K B (wpI Φ (.rng a) E)):=by
 replace h:=Az h;obtain ⟨_,_,_,_,rfl,h⟩:=h
 ·simp only[af,aE]at h;obtain ⟨⟨⟨e1,h1⟩,hm⟩,h2⟩:=h;subst e1;obtain ⟨g1,g2⟩:=cQ h1;have hmg:=S.blt _ (bq.mp hm);have hs:=bI _ [] X.env (cB (bC a h2));intro pins s σ H Rr I q;refine NQ (S.glo _ g1) hmg (fL (ih h2) gr hs) hs pins s σ H Rr I ?_;obtain ⟨ρ,F,G,e0,he,r,hw⟩:=q;rw[nu]at hw;refine aJ e0 he r hw λd G1 H1 F1 u q e1 x1 he1 r1 ru=>?_;split at q
  ·rename_i n;have e2:u=.int n:=ru;subst e2;exact ⟨n,rfl,q.1.1,q.1.2,q.2 H1 F1 _ x1 r1 (Xg 0 n.toNat)⟩
  ·exact q.elim
theorem Xj(S:Stat Φ CX k c E B X){a:Ex}(ih:OkE Φ c E B X a){tg e:Expr}(h:bw c (.rev a) tg e=true):PI X tg e (tI X.K B (wpI Φ (.rev a) E)):=nomatch (show false=true from h)
theorem Xk(S:Stat Φ CX k c E B X){a b d:Ex}(iha:OkE Φ c E B X a)(ihb:OkE Φ c E B X b)(ihd:OkE Φ c E B X d){tg e:Expr}(h:bw c (.dwn a b d) tg e=true):PI X tg e (tI X.K B (wpI Φ (.dwn a b d) E)):=nomatch (show false=true from h)
theorem Xl(S:Stat Φ CX k c E B X){a b:Ex}(iha:OkE Φ c E B X a)(ihb:OkE Φ c E B X b){tg e:Expr}(h:bw c (.rng2 a b) tg e=true):PI X tg e (tI X.K B (wpI Φ (.rng2 a b) E)):=nomatch (show false=true from h)
theorem Xm(S:Stat Φ CX k c E B X){a:Ex}(ih:OkE Φ c E B X a){tg e:Expr}(h:bw c (.enm a) tg e=true):PI X tg e (tI X.K B (wpI Φ (.enm a) E)):=by
 replace h:=Ba h;obtain ⟨_,_,_,_,_,_,_,rfl,rfl,h⟩:=h
 ·skip
  ·simp only[af,aE]at h;obtain ⟨⟨⟨e1,h1⟩,hm⟩,h2⟩:=h;subst e1;obtain ⟨g1,g2⟩:=cQ h1;have hmg:=S.blt _ (bq.mp hm);have hs:=bI _ [] X.env (cB (bC a h2));intro pins s σ H Rr I q;obtain ⟨ρ,F,G,e0,he,r,hw⟩:=q;rw[nA]at hw;have q':tL X.K B (aH Φ (.cons a .nil) E) σ H (λvs H1=>∃v F1 G1 d items,vs=[v]/\R X.K H1 F1 G1/\Rep X.K H1 F1 d v/\itemsOf G1 d=some items/\∀J,WalkJ X.K H1 F1 (bW 0 items.1) items.2 J->Rr J H1):=by
    refine bR (W:=λds G1=>∃d items,ds=[d]/\itemsOf G1 d=some items/\∀H' F' J,Ext H F H' F'->R X.K H' F' G1->WalkJ X.K H' F' (bW 0 items.1) items.2 J->Rr J H') e0 he r ?_ λds G1 H1 F1 vs q e1 x1 he1 r1 rvs=>?_
    ·rw[eZ];refine aA a (λd G1 q=>?_) hw;rw[fX];split at q
     ·rename_i items hd;exact ⟨d,items,rfl,hd,q⟩
     ·exact q.elim
    ·obtain ⟨d,items,e2,hd,q⟩:=q;subst e2;obtain ⟨v,e3,rv⟩:=bj rvs;exact ⟨v,F1,G1,d,items,e3,r1,rv,hd,λJ w=>q H1 F1 J x1 r1 w⟩
   refine Call_ (gn I (S.glo _ g1) hmg (u:=.type "enumerate") boot_enumerate (gy (thn (jT ih (λh=>pM h) (c:=c) (es:=[_]) (by unfold aG;show (aa c a _&&true)=true;rw[h2];rfl) _ pins s σ H _ I q') λus s1 ⟨vs,H1,I1,r1v,q1⟩=>?_) hs rfl) (cP g2) (b8 g2));obtain ⟨v,F1,G1,d,items,e1,r1,rd,hd,q1⟩:=q1;subst e1;obtain ⟨u,rfl,ru⟩:=vals1 r1v;obtain ⟨kk,src⟩:=jW rd ru hd;obtain ⟨vs,sat,_⟩:=src.sat H1 F1 G1 (Ext.refl _ _) r1 (pR hd);obtain ⟨its,on⟩:=jY I1 sat;rw[<-src.val];refine Vx on λh' hen hit hsz hk=>?_;refine wpAny_pyIter_enum hen ?_;have n1:H1 s1.heap.objs.size=none:=I1.hok.fresh (av _);have n2:H1 (s1.heap.objs.size+1)=none:=I1.hok.fresh (eh _);refine ⟨s1.heap.objs.size+1,[s1.heap.objs.size+1,s1.heap.objs.size],_,_,H1,rfl,I1.kept (t':=s1.toks) hk,Vl kk _ _ (Nat.succ_ne_self _),⟨⟨_,hen⟩,hit⟩,λb hb=>?_,q1 _ (Xd src)⟩;have hb':b=s1.heap.objs.size+1\/b=s1.heap.objs.size:=by simpa using hb
   rcases hb' with rfl |rfl
   ·exact I1.fpOk (eh _) n2
   ·exact I1.fpOk (av _) n1
theorem Xo{M:Model}{A:Around}{E:Value->Shared->Prop}{s:Shared}{env:Env}{pos:Pos}{T:String}{e w:Expr}{kn:Str}{kp:Pos}{Q:Value->Shared->Prop}
  (h:wpAny M A (spliced (backTo pos (starEach [e] env))) (λvs s1=>wpAny M A (eval w env) (λu s2=>wpAny M A (call (.type T) vs [(kn,u)]) Q E s2) E s1) E s)
  (he:starEach [e] env=[(false,eval e env)]):
  wpAny M A (callWith pos (.type T) [] (backTo pos (starEach [e] env)) (backToKw pos (keywordEach [⟨some kn,w,kp⟩] env))) Q E s:=by
 rw[he]at h ⊢;have hb:backTo pos [(false,eval e env)]=[(false,eval e env)]:=rfl;rw[hb]at h ⊢;unfold callWith;have hz:wpAny M A (evalArgs (.type T) true [(false,eval e env)] (backToKw pos (keywordEach [⟨some kn,w,kp⟩] env))) (λa s1=>wpAny M A (call (.type T) a.pos a.kw) Q E s1) E s:=
  evalArgs_kwB rfl (cr h (λvs s1 h1=>kws_cons (cr h1 (λu s2 h2=>kws_nil h2) λ_ _ x=>x)) λ_ _ x=>x)
 refine ae (cq (cr hz (λa s1 h1=>ae (hV ?_)) λ_ _ x=>x));refine ae (am ?_);exact ae (cr h1 (λr s2 hr=>ae (cq (wpAny_point (am hr)))) λ_ _ x=>x)
theorem Xp(S:Stat Φ CX k c E B X){a:Ex}(ih:OkE Φ c E B X a)(ih1:OkE Φ c E B X (.cst (.int 1))){tg e:Expr}(h:bw c (.en1 a) tg e=true):PI X tg e (tI X.K B (wpI Φ (.en1 a) E)):=by
 replace h:=Bb h;obtain ⟨_,_,_,nm,np,v0,w0,kp,pos0,rfl,rfl,h⟩:=h;simp only[af,aE]at h;obtain ⟨⟨⟨⟨e1,h1⟩,hm⟩,h2⟩,h3⟩:=h;subst e1;obtain ⟨g1,g2⟩:=cQ h1;have hmg:=S.blt _ (bq.mp hm);have hs:=bI _ [] X.env (cB (bC a h2));intro pins s σ H Rr I q;obtain ⟨ρ,F,G,e0,he,r,hw⟩:=q;rw[oE]at hw;have q':tL X.K B (aH Φ (.cons a .nil) E) σ H (λvs H1=>∃v F1 G1 ds,vs=[v]/\Ext B.H B.F H1 F1/\EnvR X.K H1 F1 ρ σ/\R X.K H1 F1 G1/\Rep X.K H1 F1 (.lst ds) v/\∀H2 F2 J,Ext H1 F1 H2 F2->R X.K H2 F2 G1->WalkJ X.K H2 F2 (bW 1 ds) [] J->Rr J H2):=by
  refine bR (W:=λds G1=>∃xs,ds=[.lst xs]/\∀H' F' J,Ext H F H' F'->R X.K H' F' G1->WalkJ X.K H' F' (bW 1 xs) [] J->Rr J H') e0 he r ?_ λds G1 H1 F1 vs q e1 x1 he1 r1 rvs=>?_
  ·rw[eZ];refine aA a (λd G1 q=>?_) hw;rw[fX];split at q
   ·exact ⟨_,rfl,q⟩
   ·exact q.elim
  ·obtain ⟨xs,e2,q⟩:=q;subst e2;obtain ⟨v,e3,rv⟩:=bj rvs;exact ⟨v,F1,G1,xs,e3,e1,he1,r1,rv,λH2 F2 J x2 r2 w=>q H2 F2 J (x1.trans x2) r2 w⟩
 have hce:eval (.Call (.Name (Str.ofString "enumerate") np) [v0] [⟨some (Str.ofString "start"),w0,kp⟩] pos0) X.env=(do callWith pos0 (<-eval (.Name (Str.ofString "enumerate") np) X.env) [] (backTo pos0 (starEach [v0] X.env)) (backToKw pos0 (keywordEach [⟨some (Str.ofString "start"),w0,kp⟩] X.env))):=rfl;rw[hce];refine ae (gn I (S.glo _ g1) hmg (u:=.type "enumerate") boot_enumerate (Xo (thn (jT ih (λh=>pM h) (c:=c) (es:=[_]) (by unfold aG;show (aa c a _&&true)=true;rw[h2];rfl) _ pins s σ H _ I q') λus s1 ⟨vs,H1,I1,r1v,q1⟩=>?_) hs) (cP g2) (b8 g2));obtain ⟨v,F1,G1,xs,e1,eB,he1,r1,rd,q1⟩:=q1;subst e1;obtain ⟨u,rfl,ru⟩:=vals1 r1v;refine thn (ih1 h3 pins s1 σ H1 (λv2 H2=>∃F2,v2=.int 1/\Ext H1 F1 H2 F2/\R X.K H2 F2 G1) I1 ⟨ρ,F1,G1,eB,he1,r1,by rw[fY];exact λH2 F2 v2 x2 r2 rv2=>⟨F2,rv2,x2,r2⟩⟩) λw2 s2 ⟨v2,H2,I2,rw2,q2⟩=>?_;obtain ⟨F2,e2,x2,r2⟩:=q2;subst e2;obtain ⟨tk,rfl⟩:=rw2;obtain ⟨kk,src⟩:=jW (G:=G1) (rd.ext x2) ru (rfl:itemsOf G1 (.lst xs)=some (xs,[]));obtain ⟨a0,vs0,ev,fz,rr⟩:=rd.ext x2;subst ev;have hu:u=Value.ref a0:=ru;subst hu;have sat:(SK.lst a0).Sat H2 vs0:=fz.2;obtain ⟨its,on⟩:=jY I2 sat;have src':Src X.K H2 F2 (Value.ref a0) xs [] (.lst a0):=⟨rfl,λH' F' G' x _ _=>⟨vs0,(FzL.ext x fz).2,Reps.ext x rr⟩⟩;refine RN on λh' hen hit hsz hk=>?_;refine wpAny_pyIter_enum hen ?_;have n1:H2 s2.heap.objs.size=none:=I2.hok.fresh (av _);have n2:H2 (s2.heap.objs.size+1)=none:=I2.hok.fresh (eh _);refine ⟨s2.heap.objs.size+1,[s2.heap.objs.size+1,s2.heap.objs.size],_,_,H2,rfl,I2.kept (t':=s2.toks) hk,Vn (.lst a0) _ _ (Nat.succ_ne_self _),⟨⟨_,hen⟩,hit⟩,λb hb=>?_,q1 H2 F2 _ x2 r2 (Xe src')⟩;have hb':b=s2.heap.objs.size+1\/b=s2.heap.objs.size:=by simpa using hb
 rcases hb' with rfl |rfl
 ·exact I2.fpOk (eh _) n2
 ·exact I2.fpOk (av _) n1
theorem zap(n:Nat):ZApart (n+4) (n+2) (n+3) n (n+1):=
 ⟨(by omega:(n+2:Nat)≠n+4),(by omega:(n+3:Nat)≠n+4),(by omega:(n:Nat)≠n+4),(by omega:(n+1:Nat)≠n+4),(by omega:(n+2:Nat)≠n+3),(by omega:(n+2:Nat)≠n),(by omega:(n+2:Nat)≠n+1),(by omega:(n+3:Nat)≠n),(by omega:(n+3:Nat)≠n+1),(by omega:(n:Nat)≠n+1)⟩
theorem Xq(S:Stat Φ CX k c E B X){a b:Ex}(iha:OkE Φ c E B X a)(ihb:OkE Φ c E B X b){tg e:Expr}(h:bw c (.zip a b) tg e=true):PI X tg e (tI X.K B (wpI Φ (.zip a b) E)):=by
 replace h:=Bc h;obtain ⟨_,_,_,_,_,v,v',pos,rfl,rfl,h⟩:=h
 ·skip
  ·simp only[af,aE]at h;obtain ⟨⟨⟨⟨e1,h1⟩,hm⟩,h2⟩,h3⟩:=h;subst e1;obtain ⟨g1,g2⟩:=cQ h1;have hmg:=S.blt _ (bq.mp hm);have hs2:=bI v' [] X.env (cB (bC b h3));have hs:=bI v [v'] X.env (cB (bC a h2));intro pins s σ H Rr I q;obtain ⟨ρ,F,G,e0,he,r,hw⟩:=q;rw[nF]at hw;have hA:aG c (.cons a (.cons b .nil)) [v,v']=true:=by
    unfold aG aG aG;show (aa c a v&&(aa c b v'&&true))=true;rw[h2,h3];rfl
   have q':tL X.K B (aH Φ (.cons a (.cons b .nil)) E) σ H (λvs H1=>∃v v' F1 G1 d d' items items',vs=[v,v']/\R X.K H1 F1 G1/\Rep X.K H1 F1 d v/\Rep X.K H1 F1 d' v'/\itemsOf G1 d=some items/\itemsOf G1 d'=some items'/\∀J,WalkJ X.K H1 F1 (bA items.1 items'.1) (items.2++items'.2) J->Rr J H1):=by
    refine bR (W:=λds G1=>∃d d' items items',ds=[d,d']/\itemsOf G1 d=some items/\itemsOf G1 d'=some items'/\∀H' F' J,Ext H F H' F'->R X.K H' F' G1->WalkJ X.K H' F' (bA items.1 items'.1) (items.2++items'.2) J->Rr J H') e0 he r ?_ λds G1 H1 F1 vs q e1 x1 he1 r1 rvs=>?_
    ·rw[eZ];refine aA a (λd G1 q=>?_) hw;rw[eZ];refine aA b (λd' G2 q=>?_) q;rw[fX];split at q
     ·rename_i items items' hd hd';exact ⟨d,d',items,items',rfl,hd,hd',q⟩
     ·exact q.elim
    ·obtain ⟨d,d',items,items',e2,hd,hd',q⟩:=q;subst e2;obtain ⟨w1,r2,e3,rw1,t2⟩:=rvs;obtain ⟨w2,e4,rw2⟩:=bj t2;subst e4;exact ⟨w1,w2,F1,G1,d,d',items,items',e3,r1,rw1,rw2,hd,hd',λJ w=>q H1 F1 J x1 r1 w⟩
   refine Call_ (gn I (S.glo _ g1) hmg (u:=.type "zip") QM (gy (thn (jT iha (λh=>jT ihb (λh=>pM h) h) (c:=c) (es:=[v,v']) hA _ pins s σ H _ I q') λus s1 ⟨vs,H1,I1,r1v,q1⟩=>?_) hs (by rw[hs2];rfl)) (cP g2) (b8 g2));obtain ⟨w1,w2,F1,G1,d,d',items,items',e1,r1,rd,rd',hd,hd',q1⟩:=q1;subst e1;obtain ⟨u,u',rfl,ru,ru'⟩:=vals2 r1v;obtain ⟨kk,src⟩:=jW rd ru hd;obtain ⟨ll,src'⟩:=jW rd' ru' hd';obtain ⟨vs,sat,_⟩:=src.sat H1 F1 G1 (Ext.refl _ _) r1 (pR hd);obtain ⟨ws,sat',_⟩:=src'.sat H1 F1 G1 (Ext.refl _ _) r1 (pR hd');obtain ⟨its,on⟩:=jY I1 sat;obtain ⟨its',on'⟩:=jY I1 sat';rw[<-src.val,<-src'.val];refine Vv on on' λh' hz hTI hTO p1 p2 hsz hk=>?_;refine wpAny_pyIter_zip hz ?_;have fr:∀j,H1 (s1.heap.objs.size+j)=none:=λj=>I1.hok.fresh (er _ _);refine ⟨s1.heap.objs.size+4,[s1.heap.objs.size+4,s1.heap.objs.size+2,s1.heap.objs.size+3,s1.heap.objs.size,s1.heap.objs.size+1],_,_,H1,rfl,I1.kept (t':=s1.toks) hk,
    Vs kk ll (s1.heap.objs.size+4) (s1.heap.objs.size+2) (s1.heap.objs.size+3) s1.heap.objs.size (s1.heap.objs.size+1) (zap s1.heap.objs.size),⟨hz,hTI,⟨_,_,hTO⟩,p1,p2⟩,λb hb=>?_,q1 _ (Xf src src')⟩
   have hb':b=s1.heap.objs.size+4\/b=s1.heap.objs.size+2\/b=s1.heap.objs.size+3\/b=s1.heap.objs.size\/b=s1.heap.objs.size+1:=by simpa using hb
   rcases hb' with rfl |rfl |rfl |rfl |rfl
   ·exact I1.fpOk (er _ _) (fr 4)
   ·exact I1.fpOk (er _ _) (fr 2)
   ·exact I1.fpOk (er _ _) (fr 3)
   ·exact I1.fpOk (av _) (fr 0)
   ·exact I1.fpOk (er _ _) (fr 1)
end
section
variable {Φ:ao} {CX:CXT} {k:Nat} {c:CT} {E:EK} {B:Bs} {X:Cx}
theorem uG:∀{l:List Str},dD l=true->l.Nodup
 |[],_=>List.nodup_nil
 |x::r,h=>by
  unfold dD at h;rw[af]at h;refine eS.mpr ⟨λhm=>?_,uG h.2⟩;have:=h.1;rw[bq.mpr hm]at this;cases this
theorem pW{N:List Str}{scope:Scope}:∀{N':List Str}{cap:List (Option Nat)},X.N=N->fZ N scope N' cap=true->Caps X scope N' cap
 |[],[],_,_=>trivial
 |_::N',none::cap,e,h=>pW (N':=N') (cap:=cap) e h
 |x::N',some j::cap,e,h=>by
  unfold fZ at h;simp only[af,aE]at h;exact ⟨⟨by rw[e];exact h.1.1,h.1.2⟩,pW (N':=N') (cap:=cap) e h.2⟩
 |[],_::_,_,h=>by cases h
 |_::_,[],_,h=>by cases h
theorem jZ{scope:Scope}{env:Env}(x:Str):(relabel scope env).names.lookup x=(scope.names.lookup x).map λkk=>if (kk==NameKind.free&&env.scope.kind==.function&&env.kindOf x==some .cell)=true then NameKind.cell else kk:=qN
theorem Stat.comp(S:Stat Φ CX k c E B X){N':List Str}{scope:Scope}(hn:dD N'=true)(cl:List (Str×Addr))(C:Addr)(s₁:Shared)(H₁:Hp)(fp:List Addr)(pn:List (Addr×Obj)):
  Stat Φ CX k (c.comp N' scope) noE B (X.comp N' scope cl C s₁ H₁ fp pn) where
 N:=rfl
 nd:=uG hn
 calm:=S.calm
 own:=PassesOwn.never
 kd:=rfl
 vis:=λx h=>by
  have h:gH (scope.names.lookup x)=true:=h;show (relabel scope X.env).names.lookup x=_\/(relabel scope X.env).names.lookup x=_\/(relabel scope X.env).names.lookup x=_;rw[jZ];cases e:scope.names.lookup x with
  |none=>rw[e]at h;cases h
  |some kk=>
   rw[e]at h;cases kk with
   | «local»=>exact .inl (by simp[show (NameKind.«local»==NameKind.free)=false by decide])
   |cell=>exact .inr (.inl (by simp[show (NameKind.cell==NameKind.free)=false by decide]))
   |free=>
    by_cases q:(NameKind.free==NameKind.free&&X.env.scope.kind==ScopeKind.function&&X.env.kindOf x==some NameKind.cell)=true
    ·exact .inr (.inl (by simp only[Option.map_some,if_pos q]))
    ·exact .inr (.inr (by simp only[Option.map_some,if_neg q]))
   |globalExplicit=>cases h
   |globalImplicit=>cases h
 cel:=λx h=>by
  have h:scope.names.lookup x=some .cell\/scope.names.lookup x=some .free:=h;show (relabel scope X.env).names.lookup x=_\/(relabel scope X.env).names.lookup x=_;rw[jZ];rcases h with h |h
  ·exact .inl (by rw[h];simp[show (NameKind.cell==NameKind.free)=false by decide])
  ·rw[h];by_cases q:(NameKind.free==NameKind.free&&X.env.scope.kind==ScopeKind.function&&X.env.kindOf x==some NameKind.cell)=true
   ·exact .inl (by simp only[Option.map_some,if_pos q])
   ·exact .inr (by simp only[Option.map_some,if_neg q])
 glo:=λx h=>by
  have h:scope.names.lookup x=some .globalImplicit:=h;show (relabel scope X.env).names.lookup x=_;rw[jZ,h];simp[show (NameKind.globalImplicit==NameKind.free)=false by decide]
 sto:=λx h=>by
  have h:(scope.names.lookup x==some .local||(false&&scope.names.lookup x==some .cell))=true:=h;rw[Bool.false_and,Bool.or_false,aE]at h;have e:(relabel scope X.env).names.lookup x=some .local:=by rw[jZ,h];simp[show (NameKind.«local»==NameKind.free)=false by decide]
  exact ⟨.inl e,.inr e⟩
 room:=S.room
 call:=S.call
 blt:=S.blt
 con:=S.con
 exc:=⟨_,S.nox _,λ_ _ _ _ _ _ _ _ _ _ q=>q.elim,λx G' H' F' h=>h.elim⟩
 nox:=S.nox
 xcl:=λC h=>nomatch (show false=true from h)
 loc:=λx h=>by show (relabel scope X.env).names.lookup x=_;rw[jZ,show scope.names.lookup x=some .local from h];simp[show (NameKind.«local»==NameKind.free)=false by decide]
 xis:=λC h=>nomatch (show false=true from h)
 mth:=S.mth
 mko:=S.mko
 fld:=S.fld
 xko:=λC f h=>⟨(S.xko C f h).1,λ_ _ z=>nomatch (show false=true from z)⟩
 trc:=λh=>absurd rfl h
theorem Xr(S:Stat Φ CX k c E B X){t:Tx}(ih:OkT Φ c E B X t){ifs:List Expr}(h:jO c t ifs=true):PIf X ifs (tB' X.K B (wpT Φ t E)):=by
 unfold jO at h;rw[df]at h;rcases h with h |h
 ·rw[af,List.isEmpty_iff]at h;obtain ⟨hy,rfl⟩:=h;cases t with
  |yes=>
   intro pins s σ H Q I q;refine Qy pins s σ H Q I ?_;obtain ⟨ρ,F,G,e0,he,r,hw⟩:=q;rw[mZ]at hw;exact hw.now r
  |_=>cases hy
 ·obtain ⟨e,he,h⟩:=aO h;rw[cG he];exact Qz (ih h)
theorem Bw(S:Stat Φ CX k c E B X){fz:Bool}{elt:Ex}{tg:Tg}{it:It'}{cond:Tx}{N':List Str}{cap:List (Option Nat)}{scope:Scope}{elt' tg':Expr}{ifs:List Expr}(hn:dD N'=true)
  (ihe:∀{X':Cx},Stat Φ CX k (c.comp N' scope) noE B X'->OkE Φ (c.comp N' scope) noE B X' elt) (iht:∀{X':Cx},Stat Φ CX k (c.comp N' scope) noE B X'->OkT Φ (c.comp N' scope) noE B X' cond)
  (hg:bM (c.comp N' scope) tg tg'=true) (hi:jO (c.comp N' scope) cond ifs=true) (he:aa (c.comp N' scope) elt elt'=true)
  {σ:L2.St} {H:Hp} {Q:VK} {ρ:aj} {F:FZ} {G:DH} (e0:Ext B.H B.F H F) (henv:EnvR X.K H F ρ σ) (r:R X.K H F G)
  (hw:wpI Φ it E ρ G λitems g G1=>
   compLoop (λd ρ' G' k'=>aK tg d ρ' G' λρ1=>wpT Φ cond noE ρ1 G' λb G2=>match b with |true=>wpE Φ elt noE ρ1 G2 λy G3=>k' (some y) ρ1 G3 |false=>k' none ρ1 G2)
    g items [] (cap.map λo=>match o with |none=>none |some j=>(ρ[j]?).join) G1 λds G2=>mk fz ds G2 (PV X.K H F Q)):
  tI X.K B (wpI Φ it E) σ H (λJ H1=>qW true X N' scope tg' (emT ifs elt') J (cV cap σ) H1 Q):=by
 refine ⟨ρ,F,G,e0,henv,r,dZ it (λitems g G1 q H1 F1 J x1 r1 W=>?_) hw⟩;let step:D->aj->DH->(Option D->aj->DH->Prop)->Prop:=λd ρ' G' k'=>aK tg d ρ' G' λρ1=>wpT Φ cond noE ρ1 G' λb G2=>match b with |true=>wpE Φ elt noE ρ1 G2 λy G3=>k' (some y) ρ1 G3 |false=>k' none ρ1 G2
 let fin:List D->DH->Prop:=λds G2=>mk fz ds G2 (PV X.K H F Q)
 refine ⟨λi m ys σ' H'=>m=items.length - i/\i<=items.length/\∃ρ' F' G' acc,Ext B.H B.F H' F'/\Ext H1 F1 H' F'/\EnvR X.K H' F' ρ' σ'/\R X.K H' F' G'/\Reps X.K H' F' acc ys/\compLoop step g (items.drop i) acc ρ' G' fin,
  ⟨items.length,by simp,fS _,_,F1,G1,[],e0.trans x1,Ext.refl _ _,(henv.ext x1).cap cap,r1,rfl,q⟩,?_⟩
 rintro i m ys σ' H' ⟨rfl,hle,ρ',F',G',acc,eB,e1,he',r',ra,hl⟩;by_cases hlt:i < items.length
 ·have hd:items.drop i=items[i]::items.drop (i+1):=cm hlt;rw[hd]at hl;obtain ⟨hh,hz,hl⟩:=hl;refine .inr ⟨W.go H' F' G' i e1 r' hh hlt,λ_=>by rw[<-ra.length];exact bp hz szl,λcl C s₁ H₁ fp pn=>?_⟩;have S':=S.comp (scope:=scope) hn cl C s₁ H₁ fp pn;refine ⟨_,tmT _ _,gO S' tg hg,λa ha=>Rw rfl ha (Xr S' (iht S') hi) (ihe S' he),λx H2 hy=>?_⟩;obtain ⟨xy,ry,rx⟩:=W.yld H' F' i x H2 items[i] G' e1 r' hh (by simp[hlt]) hy;refine ⟨ρ',F',G',items[i],eB.trans xy,he'.ext xy,ry,rx,cM (λρ1 z σ1 hσ1=>?_) tg hl⟩;unfold tmT;refine jR (eB.trans xy) hσ1 ry z λb G2 H3 F3 z e3 x3 he3 r3=>?_;cases b with
  |true=>
   rw[if_pos rfl];refine aJ e3 he3 r3 z λy G4 H4 F4 v z e4 x4 he4 r4 rv=>?_;exact ⟨items.length - (i+1),by omega,rfl,hlt,ρ1,F4,G4,acc++[y],e4,e1.trans (xy.trans (x3.trans x4)),he4,r4,(Reps.ext (xy.trans (x3.trans x4)) ra).append (Reps.cons rv Reps.nil),z⟩
  |false=>
   rw[if_neg br];exact ⟨items.length - (i+1),by omega,rfl,hlt,ρ1,F3,G2,acc,e3,e1.trans (xy.trans x3),he3,r3,Reps.ext (xy.trans x3) ra,z⟩
 ·have hi':i=items.length:=by omega
  subst hi';rw[ii]at hl;obtain ⟨hh,hz,hl⟩:=hl;refine .inl ⟨W.stop H' F' G' e1 r' hh,by rw[<-ra.length];exact cz hz,λp hp=>?_⟩;exact cZ (cu (λd G' z=>PV.later z (x1.trans e1)) hl) r' ra p hp
structure CompC(c:CT)(elt:Ex)(tg:Tg)(it:It')(cond:Tx)(N':List Str)(cap:List (Option Nat))(elt' tg' iter:Expr)(ifs:List Expr)(scope:Scope):Prop where
 it:bw c it tg' iter=true
 cap:fZ c.N scope N' cap=true
 sc:iU c scope=true
 nd:dD N'=true
 tg:bM (c.comp N' scope) tg tg'=true
 cd:jO (c.comp N' scope) cond ifs=true
 el:aa (c.comp N' scope) elt elt'=true
theorem Bx(S:Stat Φ CX k c E B X){scope:Scope}(h:iU c scope=true):scope.names.all (λy=>y.2 != NameKind.cell)=true/\scope.names.all (λy=>y.2 != NameKind.local||scope.names.lookup y.1==some NameKind.local)=true/\
  scope.names.all (λy=>y.2 != NameKind.free||(X.env.kindOf y.1==some NameKind.cell||X.env.kindOf y.1==some NameKind.free))=true/\scope.kind=.function:=by
 unfold iU at h;simp only[af,ck]at h;obtain ⟨⟨⟨⟨h1,h2⟩,h3⟩,h4⟩,_⟩:=h;refine ⟨h1,h2,?_,h4⟩;rw[ci]at h3 ⊢;intro y hy;have:=h3 y hy;rw[df,df,aE,aE]at this;rw[df,df,aE,aE];rcases this with q |q
 ·exact .inl q
 ·exact .inr (S.cel y.1 q)
theorem By{fz:Bool}{elt:Ex}{tg:Tg}{it:It'}{cond:Tx}{N:List String}{cap:List (Option Nat)}{e:Expr}(h:aa c (.comp fz elt tg it cond N cap) e=true):
  ∃elt' tg' iter ifs scope pos,e=.ListComp elt' [⟨tg',iter,ifs,0⟩] scope pos/\CompC c elt tg it cond (N.map Str.ofString) cap elt' tg' iter ifs scope:=by
 replace h:=Ay h;obtain ⟨_,_,_,_,_,_,_,rfl,h⟩:=h;simp only[af,ck]at h;obtain ⟨⟨⟨⟨⟨⟨⟨h1,h2⟩,h3⟩,h4⟩,h5⟩,h6⟩,h7⟩,h8⟩:=h;subst h1;exact ⟨_,_,_,_,_,_,rfl,h2,h3,h4,h5,h6,h7,h8⟩
theorem uH{it:It'}{tg' iter:Expr}(h:bw c it tg' iter=true)(env:Env)(x:Value):foldedSetIterable iter env x=pure x:=by
 cases it with
 |seq y=>exact V7 (bC y (show aa c y iter=true from h)) env x
 |rng a=>obtain ⟨_,_,_,_,rfl,_⟩:=Az h;rfl
 |rng2 _ _=>exact nomatch (show false=true from h)
 |rev _=>exact nomatch (show false=true from h)
 |dwn _ _ _=>exact nomatch (show false=true from h)
 |enm a=>obtain ⟨_,_,_,_,_,_,_,_,rfl,_⟩:=Ba h;rfl
 |en1 a=>obtain ⟨_,_,_,_,_,_,_,_,_,_,rfl,_⟩:=Bb h;rfl
 |zip a b=>obtain ⟨_,_,_,_,_,_,_,_,_,rfl,_⟩:=Bc h;rfl
theorem Xu(S:Stat Φ CX k c E B X){fz:Bool}{elt:Ex}{tg:Tg}{it:It'}{cond:Tx}{N:List String}{cap:List (Option Nat)}
  (ihe:∀{c':CT}{X':Cx},Stat Φ CX k c' noE B X'->OkE Φ c' noE B X' elt) (iht:∀{c':CT}{X':Cx},Stat Φ CX k c' noE B X'->OkT Φ c' noE B X' cond)
  (ihi:∀{tg' iter:Expr},bw c it tg' iter=true->PI X tg' iter (tI X.K B (wpI Φ it E))) {e:Expr} (h:aa c (.comp fz elt tg it cond N cap) e=true):
  PE X e (tE X.K B (wpE Φ (.comp fz elt tg it cond N cap) E)):=by
 obtain ⟨elt',tg',iter,ifs,scope,pos,rfl,C⟩:=By h;obtain ⟨s1,s2,s3,s4⟩:=Bx S C.sc;refine peI (Rx (lim:=true) (N.map Str.ofString) cap S.calm (ihi C.it) (pW S.N C.cap) s1 s2 s3 s4 (uH C.it X.env) (xQ _ _ _ _ _ _)) λσ H Q hq=>el hq λρ F G e0 he r hw=>?_;rw[tV]at hw;exact Bw S C.nd (λS'=>ihe S') (λS'=>iht S') C.tg C.cd C.el e0 he r hw
def RelM(K:PF)(B:Bs)(eD:List D->aj->DH->(List D->aj->DH->Prop)->Prop)(tm:TM):Prop:=
 ∀(σ:L2.St)(H:Hp)(ρ:aj)(F:FZ)(G:DH)(acc:List D)(ys:List V)(W:List D->aj->DH->Prop)(Q:List V->L2.St->Hp->Prop),Ext B.H B.F H F->EnvR K H F ρ σ->R K H F G->Reps K H F acc ys->eD acc ρ G W->
  (∀acc' ρ' G' H' F' σ' ys',W acc' ρ' G'->Ext H F H' F'->EnvR K H' F' ρ' σ'->R K H' F' G'->Reps K H' F' acc' ys'->Q ys' σ' H')->tm ys σ H Q
theorem Xv{K:PF}{elt:Ex}:RelM K B (λacc ρ G k=>acc.length < sz/\wpE Φ elt noE ρ G λy G'=>k (acc++[y]) ρ G') (tmE (tE K B (wpE Φ elt noE))):=by intro σ H ρ F G acc ys W Q e0 he r ra hw hk;refine ⟨by rw[<-ra.length];exact bp hw.1 szl,aJ e0 he r hw.2 λy G1 H1 F1 v q e1 x1 he1 r1 rv=>?_⟩;exact hk _ _ _ H1 F1 _ _ q x1 he1 r1 ((Reps.ext x1 ra).append (Reps.cons rv Reps.nil))
theorem BJ{K:PF}{t:Tg}{eD:List D->aj->DH->(List D->aj->DH->Prop)->Prop}{tm:TM}(hr:RelM K B eD tm){items:List D}{g:Hld}{ρ:aj}{G:DH}{acc:List D}{ys:List V}{σ:L2.St}{H:Hp}{F:FZ}{J:It}{W:List D->aj->DH->Prop}{Q:List V->L2.St->Hp->Prop}
  (e0:Ext B.H B.F H F) (he:EnvR K H F ρ σ) (r:R K H F G) (ra:Reps K H F acc ys) (Wk:WalkJ K H F items g J) (hw:cX (λd acc ρ' G' k=>aK t d ρ' G' λρ1=>eD acc ρ1 G' k) g items acc ρ G W)
  (hk:∀acc' ρ' G' H' F' σ' ys',W acc' ρ' G'->Ext H F H' F'->EnvR K H' F' ρ' σ'->R K H' F' G'->Reps K H' F' acc' ys'->Q ys' σ' H'):xR J (tG K B t) tm ys σ H Q:=by
 refine ⟨λi m ys σ' H'=>m=items.length - i/\i<=items.length/\∃ρ' F' G' acc,Ext B.H B.F H' F'/\Ext H F H' F'/\EnvR K H' F' ρ' σ'/\R K H' F' G'/\Reps K H' F' acc ys/\cX (λd acc ρ' G' k=>aK t d ρ' G' λρ1=>eD acc ρ1 G' k) g (items.drop i) acc ρ' G' W,
  ⟨items.length,by simp,fS _,ρ,F,G,acc,e0,Ext.refl _ _,he,r,ra,hw⟩,?_⟩
 rintro i m ys σ' H' ⟨rfl,hle,ρ',F',G',acc,eB,e1,he',r',ra,hl⟩;by_cases hlt:i < items.length
 ·have hd:items.drop i=items[i]::items.drop (i+1):=cm hlt;rw[hd]at hl;obtain ⟨hh,hl⟩:=hl;refine .inr ⟨Wk.go H' F' G' i e1 r' hh hlt,λx H2 hy=>?_⟩;obtain ⟨xy,ry,rx⟩:=Wk.yld H' F' i x H2 items[i] G' e1 r' hh (by simp[hlt]) hy;refine ⟨ρ',F',G',items[i],eB.trans xy,he'.ext xy,ry,rx,cM (λρ1 z σ1 hσ1=>?_) t hl⟩;refine hr _ _ _ _ _ _ _ _ _ (eB.trans xy) hσ1 ry (Reps.ext xy ra) z λacc' ρ2 G2 H3 F3 σ3 ys3 q x3 he3 r3 ra3=>?_;exact ⟨items.length - (i+1),by omega,rfl,hlt,ρ2,F3,G2,acc',(eB.trans xy).trans x3,e1.trans (xy.trans x3),he3,r3,ra3,q⟩
 ·have hi':i=items.length:=by omega
  subst hi';rw[ii]at hl;exact .inl ⟨Wk.stop H' F' G' e1 r' hl.1,hk _ _ _ _ _ _ _ hl.2 e1 he' r' ra⟩
theorem BK{K:PF}{t:Tg}{it:It'}{eD:List D->aj->DH->(List D->aj->DH->Prop)->Prop}{tm:TM}(hr:RelM K B eD tm):
  RelM K B (λacc ρ G k=>wpI Φ it noE ρ G λitems g G1=>cX (λd acc ρ' G' k=>aK t d ρ' G' λρ1=>eD acc ρ1 G' k) g items acc ρ G1 k) (tmG (tI K B (wpI Φ it noE)) (tG K B t) tm):=by
 intro σ H ρ F G acc ys W Q e0 he r ra hw hk;refine ⟨ρ,F,G,e0,he,r,dZ it (λitems g G1 q H1 F1 J x1 r1 Wk=>?_) hw⟩;exact BJ hr (e0.trans x1) (he.ext x1) r1 (Reps.ext x1 ra) Wk q λacc' ρ' G' H' F' σ' ys' z x2 he2 r2 ra2=>hk _ _ _ _ _ _ _ z (x1.trans x2) he2 r2 ra2
theorem abr(S:Stat Φ CX k c E B X){elt:Ex}{t1 t2 t3:Tg}{i1 i2 i3:It'}{N':List Str}{cap:List (Option Nat)}{scope:Scope}{elt' a1 b1 a2 b2 a3 b3:Expr}{pos:Pos}(hn:dD N'=true)
  (ihe:∀{X':Cx},Stat Φ CX k (c.comp N' scope) noE B X'->OkE Φ (c.comp N' scope) noE B X' elt)
  (ih2:∀{X':Cx},Stat Φ CX k (c.comp N' scope) noE B X'->PI X' a2 b2 (tI X'.K B (wpI Φ i2 noE))) (ih3:∀{X':Cx},Stat Φ CX k (c.comp N' scope) noE B X'->PI X' a3 b3 (tI X'.K B (wpI Φ i3 noE)))
  (f2:∀env x,foldedSetIterable b2 env x=pure x) (f3:∀env x,foldedSetIterable b3 env x=pure x)
  (hg1:bM (c.comp N' scope) t1 a1=true) (hg2:bM (c.comp N' scope) t2 a2=true) (hg3:bM (c.comp N' scope) t3 a3=true) (he:aa (c.comp N' scope) elt elt'=true)
  {σ:L2.St} {H:Hp} {Q:VK} {ρ:aj} {F:FZ} {G:DH} (e0:Ext B.H B.F H F) (henv:EnvR X.K H F ρ σ) (r:R X.K H F G)
  (hw:wpE Φ (.cm3 elt t1 i1 t2 i2 t3 i3 N0 cap) E ρ G (PV X.K H F Q)):
  tI X.K B (wpI Φ i1 E) σ H (λJ H1=>qW false X N' scope a1 (emG (.ListComp elt' [⟨a1,b1,[],0⟩,⟨a2,b2,[],0⟩,⟨a3,b3,[],0⟩] scope pos) 1 b2) J (cV cap σ) H1 Q):=by
 rw[yV]at hw;refine ⟨ρ,F,G,e0,henv,r,dZ i1 (λitems g G1 q H1 F1 J x1 r1 W=>?_) hw⟩;have rel:=BK (Φ:=Φ) (K:=X.K) (B:=B) (t:=t2) (it:=i2) (BK (Φ:=Φ) (t:=t3) (it:=i3) (Xv (Φ:=Φ) (elt:=elt)));obtain ⟨WW,⟨m0,w0⟩,turn⟩:=BJ (t:=t1) (Q:=λys _ H'=>ys.length<=sizeLine/\∀D,H' D=none->Q (.ref D) (upd H' D (.lst ys))) rel (e0.trans x1) ((henv.ext x1).cap cap) r1 (Reps.nil) W q λacc' ρ' G' H' F' σ' ys' z x2 he2 r2 ra2=>
  ⟨by rw[<-ra2.length];exact cz z.1,λp hp=>cZ (cu (λd G' z=>PV.later z (x1.trans x2)) z.2) r2 ra2 p hp⟩
 refine ⟨WW,⟨m0,w0⟩,λi m ys σ' H' w=>?_⟩;rcases turn i m ys σ' H' w with ⟨st,z1,z2⟩ |⟨go,step⟩
 ·exact .inl ⟨st,z1,z2⟩
 ·refine .inr ⟨go,(λz=>nomatch z),λcl C s₁ H₁ fp pn=>?_⟩;have S':=S.comp (scope:=scope) hn cl C s₁ H₁ fp pn;exact ⟨_,_,gO S' t1 hg1,λa ha=>xT rfl S'.calm rfl (Ru _ _ _ _ _ _ _ _ _) (ih2 S') (gO S' t2 hg2) (f2 _) (xT rfl S'.calm rfl (Rt _ _ _ _ _ _ _ _ _) (ih3 S') (gO S' t3 hg3) (f3 _) (xP rfl ha (ihe S' he))),step⟩
theorem Xw(S:Stat Φ CX k c E B X){elt:Ex}{t1 t2 t3:Tg}{i1 i2 i3:It'}{N:List String}{cap:List (Option Nat)}
  (ihe:∀{c':CT}{X':Cx},Stat Φ CX k c' noE B X'->OkE Φ c' noE B X' elt) (ih1:∀{tg' iter:Expr},bw c i1 tg' iter=true->PI X tg' iter (tI X.K B (wpI Φ i1 E)))
  (ih2:∀{c':CT}{X':Cx},Stat Φ CX k c' noE B X'->∀{tg' iter:Expr},bw c' i2 tg' iter=true->PI X' tg' iter (tI X'.K B (wpI Φ i2 noE)))
  (ih3:∀{c':CT}{X':Cx},Stat Φ CX k c' noE B X'->∀{tg' iter:Expr},bw c' i3 tg' iter=true->PI X' tg' iter (tI X'.K B (wpI Φ i3 noE))) {e:Expr} (h:aa c (.cm3 elt t1 i1 t2 i2 t3 i3 N cap) e=true):
  PE X e (tE X.K B (wpE Φ (.cm3 elt t1 i1 t2 i2 t3 i3 N cap) E)):=nomatch (show false=true from h)
theorem aQ{x:Ex}(ih:OkE Φ c E B X x)(hn:∀l os rs pos,aa c x (.Compare l os rs pos)=true->False){e:Expr}(h:bG c (.val x) e=true):PT X e (tB' X.K B (wpT Φ (.val x) E)):=by
 have h:((gJ e||jN e)&&aa c x e&&z7 x)=true:=h;simp only[af,df]at h;obtain ⟨⟨h1,h2⟩,h3⟩:=h;rcases h1 with h1 |h1
 ·exact W3 ih h1 h2
 ·obtain ⟨⟨t,ht⟩,_⟩:=c8.mp h1;rw[ht]at h2;exact (hn _ _ _ _ h2).elim
end
mutual
theorem aq{Φ:ao}{CX:CXT}{k:Nat}{B:Bs}:∀(x:Ex){c:CT}{E:EK}{X:Cx},Stat Φ CX k c E B X->OkE Φ c E B X x
 |.var i,c,E,X,S=>by intro h;exact Wd S h
 |.cst d,c,E,X,S=>by intro h;exact Bk S h
 |.glb x d,c,E,X,S=>by intro h;exact We S h
 |.bin op fz a b,c,E,X,S=>by intro h;exact Wf S (aq a S) (aq b S) h
 |.neg a,c,E,X,S=>by intro h;exact Wg S (aq a S) h
 |.cmp op a b,c,E,X,S=>by intro h;exact (Bl S (aq a S) (aq b S) h).1
 |.chn op op' a b d,c,E,X,S=>by intro h;exact (Bm S (aq a S) (aq b S) (aq d S) h).1
 |.not a,c,E,X,S=>by intro h;exact Wh S (aq a S) h
 |.boo isAnd e es,c,E,X,S=>by intro h;exact W0 (aq e S) (dG es S) h
 |.ife t a b,c,E,X,S=>by intro h;exact W2 (gQ t S) (aq a S) (aq b S) h
 |.tup es,c,E,X,S=>by intro h;exact Wi S (EachE.oks (dG es S)) h
 |.lst fz es,c,E,X,S=>by intro h;exact Wj S (EachE.oks (dG es S)) h
 |.idx a i,c,E,X,S=>by intro h;exact Wl S (aq a S) (aq i S) h
 |.slc fz a lo hi,c,E,X,S=>by intro h;exact Wm S (aq a S) (BP lo S) (BP hi S) h
 |.rvs fz a s,c,E,X,S=>by intro h;exact Wn S (aq a S) (aq s S) h
 |.call f es,c,E,X,S=>by intro h;exact Wq S (EachE.oks (dG es S)) h
 |.bcl f es,c,E,X,S=>by intro h;exact Wr S (EachE.oks (dG es S)) h
 |.lcl fz f es,c,E,X,S=>by intro h;exact Ws S (EachE.oks (dG es S)) h
 |.isi a t,c,E,X,S=>by intro h;exact Wy S (aq a S) h
 |.isx a C xs,c,E,X,S=>by intro h;exact Wz S (aq a S) h
 |.fst es,c,E,X,S=>by intro h;exact WY S (dG es S) h
 |.rgl fz a,c,E,X,S=>by intro h;exact Wv S (aq a S) h
 |.srs fz a,c,E,X,S=>by intro h;exact Wu S (aq a S) h
 |.rgt a,c,E,X,S=>by intro h;exact Ww S (aq a S) h
 |.fld C f o,c,E,X,S=>by intro h;exact WK S (aq o S) h
 |.mcl f C m o es,c,E,X,S=>by intro h;exact WL S (aq o S) (EachE.oks (dG es S)) h
 |.mko C es,c,E,X,S=>by intro h;exact WM S (EachE.oks (dG es S)) h
 |.mkx C a,c,E,X,S=>by intro h;exact WP S (aq a S) h
 |.mki C f a,c,E,X,S=>by intro h;exact WQ S (aq a S) h
 |.xat C f a,c,E,X,S=>by intro h;exact WR S (aq a S) h
 |.pp0 o,c,E,X,S=>by intro h;exact WT S (aq o S) h
 |.rpl f a b ix,c,E,X,S=>by intro h;exact WF S (aq a S) (aq b S) (aq ix S) h
 |.mth m o es,c,E,X,S=>by intro h;exact WX S (aq o S) (EachE.oks (dG es S)) h
 |.comp fz elt tg it cond N cap,c,E,X,S=>by intro h;exact Xu S (λS'=>aq elt S') (λS'=>gQ cond S') (jc it S) h
 |.cm3 elt t1 i1 t2 i2 t3 i3 N cap,c,E,X,S=>by intro h;exact Xw S (λS'=>aq elt S') (jc i1 S) (λS'=>jc i2 S') (λS'=>jc i3 S') h
 |.frz a,c,E,X,S=>by intro h;exact Wo S (aq a S) h
theorem dG{Φ:ao}{CX:CXT}{k:Nat}{B:Bs}:∀(x:Exs){c:CT}{E:EK}{X:Cx},Stat Φ CX k c E B X->EachE Φ c E B X x
 |.nil,_,_,_,_=>trivial
 |.cons e es,c,E,X,S=>⟨aq e S,dG es S⟩
theorem gQ{Φ:ao}{CX:CXT}{k:Nat}{B:Bs}:∀(x:Tx){c:CT}{E:EK}{X:Cx},Stat Φ CX k c E B X->OkT Φ c E B X x
 |.not t,c,E,X,S=>by intro h;exact W4 (gQ t S) h
 |.boo isAnd t ts,c,E,X,S=>by intro h;exact W5 (gQ t S) (BL ts S) h
 |.yes,c,E,X,S=>by intro h;exact nomatch (show false=true from h)
 |.val (.cmp op a b),c,E,X,S=>by
  intro h;have h:((gJ _||jN _)&&aa c (.cmp op a b) _&&true)=true:=h;simp only[af]at h;exact (Bl S (aq a S) (aq b S) h.1.2).2
 |.val (.chn op op' a b d),c,E,X,S=>by
  intro h;have h:((gJ _||jN _)&&aa c (.chn op op' a b d) _&&true)=true:=h;simp only[af]at h;exact (Bm S (aq a S) (aq b S) (aq d S) h.1.2).2
 |.val (.frz a),c,E,X,S=>by
  intro h;have h:((gJ _||jN _)&&aa c (.frz a) _&&false)=true:=h;rw[hX]at h;cases h
 |.val (.var i),c,E,X,S=>by intro h;exact aQ (aq (.var i) S) (λ_ _ _ _ h=>nomatch (show false=true from h)) h
 |.val (.cst d),c,E,X,S=>by intro h;exact aQ (aq (.cst d) S) (λ_ _ _ _ h=>nomatch (show false=true from h)) h
 |.val (.glb x d),c,E,X,S=>by intro h;exact aQ (aq (.glb x d) S) (λ_ _ _ _ h=>nomatch (show false=true from h)) h
 |.val (.bin op fz a b),c,E,X,S=>by intro h;exact aQ (aq (.bin op fz a b) S) (λ_ _ _ _ h=>nomatch (show false=true from h)) h
 |.val (.neg a),c,E,X,S=>by intro h;exact aQ (aq (.neg a) S) (λ_ _ _ _ h=>nomatch (show false=true from h)) h
 |.val (.not a),c,E,X,S=>by intro h;exact aQ (aq (.not a) S) (λ_ _ _ _ h=>nomatch (show false=true from h)) h
 |.val (.boo isAnd e es),c,E,X,S=>by intro h;exact aQ (aq (.boo isAnd e es) S) (λ_ _ _ _ h=>nomatch (show false=true from h)) h
 |.val (.ife t a b),c,E,X,S=>by intro h;exact aQ (aq (.ife t a b) S) (λ_ _ _ _ h=>nomatch (show false=true from h)) h
 |.val (.tup es),c,E,X,S=>by intro h;exact aQ (aq (.tup es) S) (λ_ _ _ _ h=>nomatch (show false=true from h)) h
 |.val (.lst fz es),c,E,X,S=>by intro h;exact aQ (aq (.lst fz es) S) (λ_ _ _ _ h=>nomatch (show false=true from h)) h
 |.val (.idx a i),c,E,X,S=>by intro h;exact aQ (aq (.idx a i) S) (λ_ _ _ _ h=>nomatch (show false=true from h)) h
 |.val (.slc fz a lo hi),c,E,X,S=>by intro h;exact aQ (aq (.slc fz a lo hi) S) (λ_ _ _ _ h=>nomatch (show false=true from h)) h
 |.val (.rvs fz a s),c,E,X,S=>by intro h;exact aQ (aq (.rvs fz a s) S) (λ_ _ _ _ h=>nomatch (show false=true from h)) h
 |.val (.call f es),c,E,X,S=>by intro h;exact aQ (aq (.call f es) S) (λ_ _ _ _ h=>nomatch (show false=true from h)) h
 |.val (.bcl f es),c,E,X,S=>by intro h;exact aQ (aq (.bcl f es) S) (λ_ _ _ _ h=>nomatch (show false=true from h)) h
 |.val (.lcl fz f es),c,E,X,S=>by intro h;exact aQ (aq (.lcl fz f es) S) (λ_ _ _ _ h=>nomatch (show false=true from h)) h
 |.val (.isx a C xs),c,E,X,S=>by intro h;exact aQ (aq (.isx a C xs) S) (λ_ _ _ _ h=>nomatch (show false=true from h)) h
 |.val (.rgl fz a),c,E,X,S=>by intro h;exact aQ (aq (.rgl fz a) S) (λ_ _ _ _ h=>nomatch (show false=true from h)) h
 |.val (.srs fz a),c,E,X,S=>by intro h;exact aQ (aq (.srs fz a) S) (λ_ _ _ _ h=>nomatch (show false=true from h)) h
 |.val (.rpl f a b ix),c,E,X,S=>by intro h;exact aQ (aq (.rpl f a b ix) S) (λ_ _ _ _ h=>nomatch (show false=true from h)) h
 |.val (.fld C f o),c,E,X,S=>by intro h;exact aQ (aq (.fld C f o) S) (λ_ _ _ _ h=>nomatch (show false=true from h)) h
 |.val (.mcl f C m o es),c,E,X,S=>by intro h;exact aQ (aq (.mcl f C m o es) S) (λ_ _ _ _ h=>nomatch (show false=true from h)) h
 |.val (.mkx C a),c,E,X,S=>by intro h;exact aQ (aq (.mkx C a) S) (λ_ _ _ _ h=>nomatch (show false=true from h)) h
 |.val (.mki C f a),c,E,X,S=>by intro h;exact aQ (aq (.mki C f a) S) (λ_ _ _ _ h=>nomatch (show false=true from h)) h
 |.val (.xat C f a),c,E,X,S=>by intro h;exact aQ (aq (.xat C f a) S) (λ_ _ _ _ h=>nomatch (show false=true from h)) h
 |.val (.mko C es),c,E,X,S=>by intro h;exact aQ (aq (.mko C es) S) (λ_ _ _ _ h=>nomatch (show false=true from h)) h
 |.val (.pp0 o),c,E,X,S=>by intro h;exact aQ (aq (.pp0 o) S) (λ_ _ _ _ h=>nomatch (show false=true from h)) h
 |.val (.rgt a),c,E,X,S=>by intro h;exact aQ (aq (.rgt a) S) (λ_ _ _ _ h=>nomatch (show false=true from h)) h
 |.val (.fst es),c,E,X,S=>by intro h;exact aQ (aq (.fst es) S) (λ_ _ _ _ h=>nomatch (show false=true from h)) h
 |.val (.isi a t),c,E,X,S=>by intro h;exact aQ (aq (.isi a t) S) (λ_ _ _ _ h=>nomatch (show false=true from h)) h
 |.val (.mth m o es),c,E,X,S=>by intro h;exact aQ (aq (.mth m o es) S) (λ_ _ _ _ h=>nomatch (show false=true from h)) h
 |.val (.comp fz elt tg it cond N cap),c,E,X,S=>by intro h;exact aQ (aq (.comp fz elt tg it cond N cap) S) (λ_ _ _ _ h=>nomatch (show false=true from h)) h
 |.val (.cm3 elt t1 i1 t2 i2 t3 i3 N cap),c,E,X,S=>by intro h;exact aQ (aq (.cm3 elt t1 i1 t2 i2 t3 i3 N cap) S) (λ_ _ _ _ h=>nomatch (show false=true from h)) h
theorem BL{Φ:ao}{CX:CXT}{k:Nat}{B:Bs}:∀(x:Txs){c:CT}{E:EK}{X:Cx},Stat Φ CX k c E B X->pO Φ c E B X x
 |.nil,_,_,_,_=>trivial
 |.cons e es,c,E,X,S=>⟨gQ e S,BL es S⟩
theorem BP{Φ:ao}{CX:CXT}{k:Nat}{B:Bs}:∀(x:Ox){c:CT}{E:EK}{X:Cx},Stat Φ CX k c E B X->∀y,x=.ob y->OkE Φ c E B X y
 |.no,c,E,X,S,y,e=>by cases e
 |.ob z,c,E,X,S,y,e=>by injection e with e;subst e;exact aq z S
theorem jc{Φ:ao}{CX:CXT}{k:Nat}{B:Bs}:∀(x:It'){c:CT}{E:EK}{X:Cx},Stat Φ CX k c E B X->∀{tg e:Expr},bw c x tg e=true->PI X tg e (tI X.K B (wpI Φ x E))
 |.seq y,c,E,X,S,tg,e,h=>Xh (aq y S) (show aa c y e=true from h)
 |.rng a,c,E,X,S,tg,e,h=>Xi S (aq a S) h
 |.rng2 a b,c,E,X,S,tg,e,h=>Xl S (aq a S) (aq b S) h
 |.rev a,c,E,X,S,tg,e,h=>Xj S (aq a S) h
 |.dwn a b d,c,E,X,S,tg,e,h=>Xk S (aq a S) (aq b S) (aq d S) h
 |.enm a,c,E,X,S,tg,e,h=>Xm S (aq a S) h
 |.en1 a,c,E,X,S,tg,e,h=>Xp S (aq a S) (λh=>Bk S h) h
 |.zip a b,c,E,X,S,tg,e,h=>Xq S (aq a S) (aq b S) h
end
def EnD(K:PF)(H:Hp)(F:FZ)(D:Ends):En where
 nx:=λρ G'=>∀H' F' σ',Ext H F H' F'->EnvR K H' F' ρ σ'->R K H' F' G'->D.nx σ' H'
 rt:=PV K H F D.rt
 bk:=λρ G'=>∀H' F' σ',Ext H F H' F'->EnvR K H' F' ρ σ'->R K H' F' G'->D.bk σ' H'
 ct:=λρ G'=>∀H' F' σ',Ext H F H' F'->EnvR K H' F' ρ σ'->R K H' F' G'->D.ct σ' H'
theorem EnD.later{K:PF}{H H1:Hp}{F F1:FZ}{D:Ends}(x:Ext H F H1 F1):(EnD K H F D).Le (EnD K H1 F1 D):=
 ⟨λ_ _ h H' F' σ' x1=>h H' F' σ' (x.trans x1),λ_ _ h=>PV.later h x,λ_ _ h H' F' σ' x1=>h H' F' σ' (x.trans x1),λ_ _ h H' F' σ' x1=>h H' F' σ' (x.trans x1)⟩
def tS(K:PF)(B:Bs)(w:aj->DH->En->Prop):TS:=λD σ H=>∃ρ F G,Ext B.H B.F H F/\EnvR K H F ρ σ/\R K H F G/\w ρ G (EnD K H F D)
theorem psI{X:Cx}{st:Stmt}{t t':TS}(h:PS X st t)(i:∀D σ H,t' D σ H->t D σ H):PS X st t':=λpins s σ H D I q=>h pins s σ H D I (i D σ H q)
theorem BR{X:Cx}{st:List Stmt}{t t':TS}(h:PSs X st t)(i:∀D σ H,t' D σ H->t D σ H):PSs X st t':=λpins s σ H D I q=>h pins s σ H D I (i D σ H q)
theorem uI{e:Expr}(h:cA e=false)(t:Option Expr)(n:Nat)(env:Env):swapsWith e t n env=pure false:=by cases e <;> first |rfl |exact nomatch (show true=false from h)
theorem uJ{e:Expr}(h:cA e=false)(t:Expr)(n:Nat)(env:Env):swapsWithSole [t] e n env=pure false:=uI h _ _ _
section
variable {Φ:ao} {CX:CXT} {k:Nat} {c:CT} {E:EK} {B:Bs} {X:Cx}
abbrev OkS(Φ:ao)(c:CT)(E:EK)(B:Bs)(X:Cx)(x:Sx):Prop:=∀{st:Stmt},aZ c x st=true->PS X st (tS X.K B (wpS Φ x E))
abbrev jd(Φ:ao)(c:CT)(E:EK)(B:Bs)(X:Cx)(x:Sxs):Prop:=∀{st:List Stmt},aL c x st=true->PSs X st (tS X.K B (aC Φ x E))
theorem Xx(S:Stat Φ CX k c E B X){x:Ex}{st:Stmt}(h:aZ c (.exp x) st=true):PS X st (tS X.K B (wpS Φ (.exp x) E)):=by
 replace h:=VP h;obtain ⟨_,_,rfl,h⟩:=h
 ·rw[af]at h;refine psI (Ng (aq x S h.2) (uI (by simpa using h.1) _ _ _)) λD σ H hq=>el hq λρ F G e0 he r hw=>?_;rw[ou]at hw;exact aJ e0 he r hw λd G1 H1 F1 v q e1 x1 he1 r1 rv=>q _ _ _ x1 he1 r1
theorem Xy(S:Stat Φ CX k c E B X){i:Nat}{x:Ex}{st:Stmt}(h:aZ c (.asg (.nm i) x) st=true):PS X st (tS X.K B (wpS Φ (.asg (.nm i) x) E)):=by
 replace h:=Bd h;obtain ⟨tg,e,pos,rfl,h⟩:=h
 ·simp only[af]at h;obtain ⟨⟨h1,h2⟩,h3⟩:=h;have h3:(!cA e||z9 x)=true:=h3;replace h1:=uA h1;obtain ⟨y,py,rfl,h1⟩:=h1
  ·rw[af,aE]at h1;obtain ⟨l,f⟩:=S.sto y h1.2;have hi:X.N[i]?=some y:=by rw[S.N];exact h1.1
   have go:∀(D:Ends)(σ:L2.St)(H:Hp),tS X.K B (wpS Φ (.asg (.nm i) x) E) D σ H->lU (tE X.K B (wpE Φ x E)) (lR i) D σ H:=λD σ H hq=>el hq λρ F G e0 he r hw=>by
    rw[iM]at hw;refine aJ e0 he r hw λd G1 H1 F1 v q e1 x1 he1 r1 rv=>?_;unfold aK at q;exact q _ _ _ x1 (he1.set rv i) r1
   cases hc:cA e with
   |false=>exact psI (vZ S.nd hi l (aq x S h2) (uI hc _ _ _) f) go
   |true=>
    rw[hc,Bool.not_true,Bool.false_or]at h3;cases x with
    |comp fz elt tg it cond N cap=>
     obtain ⟨elt',tg',iter,ifs,scope,pos',rfl,C⟩:=By h2;obtain ⟨s1,s2,s3,s4⟩:=Bx S C.sc;have hb:∃b:Bool,swapsWith (.ListComp elt' [⟨tg',iter,ifs,0⟩] scope pos') (some (.Name y py)) pos.line X.env=pure b:=⟨_,rfl⟩;obtain ⟨b,hb⟩:=hb;cases b with
     |false=>exact psI (vZ S.nd hi l (aq _ S h2) hb f) go
     |true=>
      refine psI (Ry (lim:=true) (xQ _ _ _ _ _ _) S.nd hi l (N.map Str.ofString) cap S.calm (jc it S C.it) (pW S.N C.cap) s1 s2 s3 s4 (uH C.it X.env) hb f) λD σ H hq=>el hq λρ F G e0 he r hw=>?_;rw[iM]at hw;rw[tV]at hw;refine Bw (fz:=fz) (Q:=λv H1=>D.nx (σ.set i (some v)) H1) S C.nd (λS'=>aq elt S') (λS'=>gQ cond S') C.tg C.cd C.el e0 he r (dZ it (λitems g G1 q=>?_) hw);refine oV (λd ρ' G' k1 k2 hk z=>cM (λρ1 z=>cN cond (λb G2 z=>by
       cases b with
       |true=>exact aA elt (λy G3 z=>hk _ _ _ z) z
       |false=>exact hk _ _ _ z) z) tg z) ?_ _ _ _ _ q
      ·intro ds G2 q;refine cu (λd G3 q=>?_) q;intro H1 F1 v x1 r1 rv;unfold aK at q;exact q _ _ _ x1 ((he.ext x1).set rv i) r1
    |cm3 _ _ _ _ _ _ _ _ _=>exact nomatch (show false=true from h2)
    |_=>cases h3
theorem Xz(S:Stat Φ CX k c E B X){ts:Tgs}{x:Ex}{st:Stmt}(h:aZ c (.asg (.tp ts) x) st=true):PS X st (tS X.K B (wpS Φ (.asg (.tp ts) x) E)):=by
 replace h:=Bd h;obtain ⟨tg,e,pos,rfl,h⟩:=h
 ·rw[af,af]at h;have h34:(!jP e&&!cA e)=true:=h.2;obtain ⟨h1,h2⟩:=h.1;rw[af,gE,gE]at h34;obtain ⟨h3,h4⟩:=h34;have hg:=gO S (.tp ts) h1;replace h1:=uB h1;obtain ⟨_,_,_,rfl,h1⟩:=h1
  ·refine psI (qF (aq x S h2) hg (uJ h4 _ _ _) ?_ rfl) λD σ H hq=>el hq λρ F G e0 he r hw=>?_
   ·cases e <;> first |rfl |exact nomatch (show true=false from h3)
   ·rw[iM]at hw;refine aJ e0 he r hw λd G1 H1 F1 v q e1 x1 he1 r1 rv=>?_;exact ⟨ρ,F1,G1,d,e1,he1,r1,rv,cM (λρ' z σ' hσ=>z H1 F1 σ' x1 hσ r1) (.tp ts) q⟩
theorem XC(S:Stat Φ CX k c E B X){i j:Nat}{x:Ex}{st:Stmt}(h:aZ c (.star i j x) st=true):PS X st (tS X.K B (wpS Φ (.star i j x) E)):=by
 replace h:=VR h;obtain ⟨y,py,sp,z,pz,kk,p,e,pos,rfl,h⟩:=h;simp only[af,aE,gE]at h;obtain ⟨⟨⟨⟨⟨⟨h1,h2⟩,h3⟩,h4⟩,h5⟩,h6⟩,h7⟩:=h;obtain ⟨l1,f1⟩:=S.sto y h2;obtain ⟨l2,f2⟩:=S.sto z h4;have hg:=Xb (sp:=sp) (k:=kk) (pos:=p) S.calm (qD (qC (pos:=py) (i:=i) S.nd (by rw[S.N];exact h1) l1 f1) (qD (qC (pos:=pz) (i:=j) S.nd (by rw[S.N];exact h3) l2 f2) vY rfl) rfl);refine psI (qF (aq x S h5) hg (uJ h7 _ _ _) ?_ rfl) λD σ H hq=>el hq λρ F G e0 he r hw=>?_
 ·cases e <;> first |rfl |exact nomatch (show true=false from h6)
 ·rw[oA]at hw;refine aJ e0 he r hw λd G1 H1 F1 v q e1 x1 he1 r1 rv=>?_;unfold jz at q;split at q
  ·rename_i ds;obtain ⟨hne,q⟩:=q;obtain ⟨a,vs,rfl,fz,t⟩:=rv;have hd:ds=ds.dropLast++[ds.getLast hne]:=(fo hne).symm;obtain ⟨us,u,ev,t1,t2⟩:=yK (hd ▸ t);subst ev;refine ⟨a,us,u,rfl,fz.sq,λl hl=>?_⟩;have xx:=mC (vs:=us) r1 hl;have rl:=yJ r1 hl t1;have q1:=q _ _ hd _ _ ((σ.set i (some (.ref l))).set j (some u)) (x1.trans xx) (((he1.ext xx).set rl i).set (t2.ext xx) j) (r1.newF hl);exact ⟨_,_,rfl,_,_,rfl,rfl,q1⟩
  ·exact q.elim
theorem XD(S:Stat Φ CX k c E B X){o i x:Ex}{st:Stmt}(h:aZ c (.set o i x) st=true):PS X st (tS X.K B (wpS Φ (.set o i x) E)):=by
 replace h:=VV h;obtain ⟨o',i',tpos,e,pos,rfl,h⟩:=h
 ·simp only[af,gE]at h;obtain ⟨⟨⟨h1,h2⟩,h3⟩,h4⟩:=h;have hi:=bC i h2;refine psI (qF (aq x S h3) (Nz (aq o S h1) (aq i S h2) Vh ?_) (uJ h4 _ _ _) ?_ rfl) λD σ H hq=>el hq λρ F G e0 he r hw=>?_
  ·intro v;cases i' <;> first |rfl |exact nomatch (show false=true from hi)
  ·cases e <;> rfl
  ·rw[oF]at hw;refine aJ e0 he r hw λd G1 H1 F1 v q e1 x1 he1 r1 rv=>?_;refine aJ e1 he1 r1 q λa G2 H2 F2 w q e2 x2 he2 r2 rw'=>?_;refine aJ e2 he2 r2 q λy G3 H3 F3 u q e3 x3 he3 r3 ru=>?_;refine ⟨F3,G3,a,y,d,r3,rw'.ext x3,ru,rv.ext (x2.trans x3),tW (λG4 q=>?_) q⟩;intro H4 F4 x4 r4;exact q _ _ _ (x1.trans (x2.trans (x3.trans x4))) (he3.ext x4) r4
theorem XF(S:Stat Φ CX k c E B X){i:Nat}{op:Operator}{x:Ex}{st:Stmt}(h:aZ c (.aug i op x) st=true):PS X st (tS X.K B (wpS Φ (.aug i op x) E)):=nomatch (show false=true from h)
theorem XH(S:Stat Φ CX k c E B X){o i:Ex}{op:Operator}{x:Ex}{st:Stmt}(h:aZ c (.augs o i op x) st=true):PS X st (tS X.K B (wpS Φ (.augs o i op x) E)):=nomatch (show false=true from h)
theorem XJ(S:Stat Φ CX k c E B X){x:Ex}{st:Stmt}(h:aZ c (.ret x) st=true):PS X st (tS X.K B (wpS Φ (.ret x) E)):=by
 replace h:=V0 h;obtain ⟨_,_,rfl,h⟩:=h
 ·refine psI (Ni (aq x S h)) λD σ H hq=>el hq λρ F G e0 he r hw=>?_;rw[oG]at hw;exact ⟨ρ,F,G,e0,he,r,hw⟩
theorem XM{st:Stmt}(h:aZ c .rtn st=true):PS X st (tS X.K B (wpS Φ .rtn E)):=by
 replace h:=V1 h;obtain ⟨_,rfl,h⟩:=h
 ·refine psI Nk λD σ H hq=>el hq λρ F G e0 he r hw=>?_;rw[oH]at hw;exact hw.now r rfl
theorem XN(S:Stat Φ CX k c E B X){t:Tx}{a b:Sxs}(iha:jd Φ c E B X a)(ihb:jd Φ c E B X b){st:Stmt}(h:aZ c (.ite t a b) st=true):PS X st (tS X.K B (wpS Φ (.ite t a b) E)):=by
 replace h:=V2 h;obtain ⟨_,_,_,_,rfl,h⟩:=h
 ·simp only[af]at h;obtain ⟨⟨h1,h2⟩,h3⟩:=h;refine psI (Np (gQ t S h1) (iha h2) (ihb h3)) λD σ H hq=>el hq λρ F G e0 he r hw=>?_;rw[oJ]at hw;refine jR e0 he r hw λb' G1 H1 F1 q e1 x1 he1 r1=>?_;cases b' with
  |true=>
   rw[if_pos rfl];exact ⟨ρ,F1,G1,e1,he1,r1,dC a (EnD.later x1) q⟩
  |false=>
   rw[if_neg br];exact ⟨ρ,F1,G1,e1,he1,r1,dC b (EnD.later x1) q⟩
theorem XQ(S:Stat Φ CX k c E B X){t:Tg}{it:It'}{b:Sxs}(ihb:jd Φ c E B X b){st:Stmt}(h:aZ c (.for_ t it b) st=true):PS X st (tS X.K B (wpS Φ (.for_ t it b) E)):=by
 replace h:=V3 h;obtain ⟨tg,iter,body,pos,rfl,h⟩:=h
 ·simp only[af]at h;obtain ⟨⟨h1,h2⟩,h3⟩:=h;refine psI (NZ S.own S.calm (jc it S h2) (gO S t h1) (ihb h3) (uH h2 X.env)) λD σ H hq=>el hq λρ F G e0 he r hw=>?_;rw[yW]at hw;refine ⟨ρ,F,G,e0,he,r,dZ it (λitems g G1 q H1 F1 J x1 r1 W=>?_) hw⟩;let step:RF.D->aj->DH->(aj->DH->Prop)->Prop:=λd ρ' G' k=>aK t d ρ' G' λρ1=>aC Φ b E ρ1 G' { EnD X.K H F D with nx:=k,ct:=k,bk:=(EnD X.K H F D).nx }
  let P:Nat->L2.St->Hp->Prop:=λi σ' H'=>∃ρ' F' G',Ext B.H B.F H' F'/\Ext H1 F1 H' F'/\EnvR X.K H' F' ρ' σ'/\R X.K H' F' G'/\forLoop step g (items.drop i) ρ' G' (EnD X.K H F D).nx
  refine ⟨λi m σ' H'=>m=items.length - i/\i<=items.length/\P i σ' H',⟨items.length,by simp,fS _,ρ,F1,G1,e0.trans x1,Ext.refl _ _,he.ext x1,r1,q⟩,?_⟩;rintro i m σ' H' ⟨rfl,hle,ρ',F',G',eB,e1,he',r',hl⟩;by_cases hlt:i < items.length
  ·have hd:items.drop i=items[i]::items.drop (i+1):=cm hlt;rw[hd]at hl;obtain ⟨hh,hl⟩:=hl;refine .inr ⟨W.go H' F' G' i e1 r' hh hlt,P (i+1),λσ2 H2 p=>⟨items.length - (i+1),by omega,rfl,hlt,p⟩,λx H2 hy=>?_⟩;obtain ⟨xy,ry,rx⟩:=W.yld H' F' i x H2 items[i] G' e1 r' hh (by simp[hlt]) hy;refine ⟨ρ',F',G',items[i],eB.trans xy,he'.ext xy,ry,rx,cM (λρ1 z σ1 hσ1=>?_) t hl⟩;refine ⟨ρ1,F',G',eB.trans xy,hσ1,ry,dC b (D:={ EnD X.K H F D with nx:=λρ' G'=>forLoop step g (items.drop (i+1)) ρ' G' (EnD X.K H F D).nx,ct:=λρ' G'=>forLoop step g (items.drop (i+1)) ρ' G' (EnD X.K H F D).nx,bk:=(EnD X.K H F D).nx }) ⟨λρ2 G2 z H3 F3 σ3 x3 he3 r3=>?_,λd G2 z=>PV.later z (x1.trans (e1.trans xy)),λρ2 G2 z H3 F3 σ3 x3=>z H3 F3 σ3 (x1.trans (e1.trans (xy.trans x3))),λρ2 G2 z H3 F3 σ3 x3 he3 r3=>?_⟩ z⟩
   ·exact ⟨ρ2,F3,G2,eB.trans (xy.trans x3),e1.trans (xy.trans x3),he3,r3,z⟩
   ·exact ⟨ρ2,F3,G2,eB.trans (xy.trans x3),e1.trans (xy.trans x3),he3,r3,z⟩
  ·have hi':i=items.length:=by omega
   subst hi';rw[ii]at hl;exact .inl ⟨W.stop H' F' G' e1 r' hl.1,hl.2 _ _ _ (x1.trans e1) he' r'⟩
theorem XS(S:Stat Φ CX k c E B X){t:Tx}{b:Sxs}(ihb:jd Φ c E B X b){st:Stmt}(h:aZ c (.whl t b) st=true):PS X st (tS X.K B (wpS Φ (.whl t b) E)):=nomatch (show false=true from h)
theorem XX(S:Stat Φ CX k c E B X){C:String}{es:Exs}{st:Stmt}(h:aZ c (.rse C es) st=true):PS X st (tS X.K B (wpS Φ (.rse C es) E)):=nomatch (show false=true from h)
theorem X3(S:Stat Φ CX k c E B X){f:String}{es:Exs}{C:String}{i:Nat}{b:Bool}{st:Stmt}(h:aZ c (.tryc f es C i b) st=true):PS X st (tS X.K B (wpS Φ (.tryc f es C i b) E)):=nomatch (show false=true from h)
theorem X4(S:Stat Φ CX k c E B X){b:Tb}{C:String}{hd:Hd}{xs:List String}{st:Stmt}(h:aZ c (.tryx b C hd xs) st=true):PS X st (tS X.K B (wpS Φ (.tryx b C hd xs) E)):=nomatch (show false=true from h)
theorem X5{st:List Stmt}(h:aL c .nil st=true):PSs X st (tS X.K B (aC Φ .nil E)):=by
 unfold aL at h;cases st with
 |nil=>exact BR M4 λD σ H hq=>el hq λρ F G e0 he r hw=>by rw[jC]at hw;exact hw _ _ _ (Ext.refl _ _) he r
 |cons _ _=>cases h
theorem X6{x:Sx}{xs:Sxs}(ih:OkS Φ c E B X x)(ihs:jd Φ c E B X xs){st:List Stmt}(h:aL c (.cons x xs) st=true):PSs X st (tS X.K B (aC Φ (.cons x xs) E)):=by
 unfold aL at h;split at h
 ·rw[af]at h;refine BR (M5 (ih h.1) (ihs h.2)) λD σ H hq=>el hq λρ F G e0 he r hw=>?_;rw[iK]at hw;refine ⟨ρ,F,G,e0,he,r,wpS_mono x (D:={ EnD X.K H F D with nx:=λρ' G'=>aC Φ xs E ρ' G' (EnD X.K H F D) }) ⟨λρ1 G1 q H1 F1 σ1 x1 he1 r1=>?_,λ_ _ z=>z,λ_ _ z=>z,λ_ _ z=>z⟩ hw⟩;exact ⟨ρ1,F1,G1,e0.trans x1,he1,r1,dC xs (EnD.later x1) q⟩
 ·cases h
end
mutual
theorem X7{Φ:ao}{CX:CXT}{k:Nat}{B:Bs}{c:CT}{E:EK}{X:Cx}(S:Stat Φ CX k c E B X):∀(x:Sx),OkS Φ c E B X x
 |.exp e=>by intro h;exact Xx S h
 |.star i j e=>by intro h;exact XC S h
 |.asg (.nm i) e=>by intro h;exact Xy S h
 |.asg (.tp ts) e=>by intro h;exact Xz S h
 |.set o i e=>by intro h;exact XD S h
 |.aug i op e=>by intro h;exact XF S h
 |.augs o i op e=>by intro h;exact XH S h
 |.ret e=>by intro h;exact XJ S h
 |.rtn=>by intro h;exact XM h
 |.ite t a b=>by intro h;exact XN S (je S a) (je S b) h
 |.for_ t it b=>by intro h;exact XQ S (je S b) h
 |.whl t b=>by intro h;exact XS S (je S b) h
 |.pas=>by
  intro h;obtain ⟨_,rfl,_⟩:=V4 h;exact psI M8 λD σ H hq=>el hq λρ F G e0 he r hw=>by rw[oK]at hw;exact hw _ _ _ (Ext.refl _ _) he r
 |.brk=>by
  intro h;obtain ⟨_,rfl,_⟩:=V5 h;exact psI M9 λD σ H hq=>el hq λρ F G e0 he r hw=>by rw[oM]at hw;exact hw _ _ _ (Ext.refl _ _) he r
 |.cnt=>by
  intro h;obtain ⟨_,rfl,_⟩:=V6 h;exact psI Nb λD σ H hq=>el hq λρ F G e0 he r hw=>by rw[oN]at hw;exact hw _ _ _ (Ext.refl _ _) he r
 |.rse C es=>by intro h;exact XX S h
 |.tryc f es C i b=>by intro h;exact X3 S h
 |.tryx b C h xs=>by intro hh;exact X4 S hh
 |.nev=>by
  intro h;exact psI Nr λD σ H hq=>el hq λρ F G e0 he r hw=>by rw[oO]at hw;exact hw.elim
theorem je{Φ:ao}{CX:CXT}{k:Nat}{B:Bs}{c:CT}{E:EK}{X:Cx}(S:Stat Φ CX k c E B X):∀(x:Sxs),jd Φ c E B X x
 |.nil=>by intro h;exact X5 h
 |.cons s r=>by intro h;exact X6 (X7 S s) (je S r) h
end
end RF
namespace L2
open PySem PySem.Spec PyProof.Rows
theorem Fun.okX{P:Program}{w:World}{K:PF}{mg:Str->Option Value}{base:Heap}{CX:CXT}{x qual:Str}{st:Stmt}{f:Addr}{fd:FuncData}{N ps:List Str}{k:Nat}{sp:Sp}(F:Fun K x qual st f fd)(S:FnScope N ps (aD st))(len:∀vs H Q E,sp vs H Q E->vs.length=ps.length)
  (hbody:∀(cdv:Value)(A:Around)(outer:List Env)(s:Shared)(H:Hp)(vs:List V)(Q:VK)(E:XK),Room k (A.deeper (envOfC qual (aD st) s.heap.objs.size f cdv))->sp vs H Q E->
   ∃t,PSs (fM CX P w K mg base N qual (aD st) f cdv A outer s H E) (aY st) t/\t { nx:=λ_ H'=>Q .non H',rt:=Q } (start N vs) H):FnOk P w K mg base CX (k+1) f fd ps sp:=by
 obtain ⟨oc,od,kV,doc,pm,an,cdv,ct,osl,rfl,lk,hcd⟩:=F.ex;exact Pb lk hcd S len λA outer s H vs Q E hr hsp=>hbody cdv A outer s H vs Q E hr hsp
end L2
namespace RF
open PySem PySem.Spec PyProof.Rows L2
noncomputable def fnB(N ps:List Str)(sc:Scope):Bool:=
 decide (sc.kind=.function)&&!sc.isCoroutine&&!sc.isGenerator&&dD N&&(N.take ps.length==ps)&&ps.all (λx=>sc.names.lookup x==some .local||sc.names.lookup x==some .cell)&&sc.names.all (λy=>y.2 != .free)
theorem BV{N ps:List Str}{sc:Scope}(h:fnB N ps sc=true):FnScope N ps sc:=by unfold fnB at h;simp only[af,gE,ck,aE,ci,df,bne_iff_ne]at h;obtain ⟨⟨⟨⟨⟨⟨h1,h2⟩,h3⟩,h4⟩,h5⟩,h6⟩,h7⟩:=h;exact ⟨h1,h2,h3,uG h4,h5,h6,λy hy=>h7 y hy⟩
structure Bse(Φ:ao)(P:Program)(w:World)(K:PF)(mg:Str->Option Value)(base:Heap)(CX:CXT)(k:Nat)(fs:List (String×Nat))(bt:List String)(cn:List (String×D))(xs:List (String×Bool))(ot:OT):Prop where
 call:∀f n,(f,n)∈fs->∃fa fd ps,FnOk P w K mg base CX k fa fd ps (lift K n (Φ f))/\PySem.W.keepIn K (.ref fa)=true/\Binds K fd ps []/\mg (Str.ofString f)=some (.ref fa)
 blt:∀f,f∈bt->mg (Str.ofString f)=none
 con:∀x d,(x,d)∈cn->∃u v,mg (Str.ofString x)=some u/\RelV v u/\∀H F,Rep K H F d v
 xcl:∀C,xs.contains (C,true)=true->∃a,mg (Str.ofString C)=some (.ref a)/\eN K a=true/\PySem.W.nsIn K mainGlobals (Str.ofString C)=some (some (.ref a))
 xis:∀C',xs.contains (C',false)=true->∃cv,CV K mg C' cv/\∀C,xs.contains (C,true)=true->XI K C C' cv
 mth:∀f C m n,(f,C,m,n)∈ot.ms->MthOk Φ P w K mg base CX k f C m n
 mko:∀C n,(C,n)∈ot.ks->MkoOk Φ P w K mg base CX k C n
 fld:∀C f,(C,f)∈ot.fl->Bg K C f
 xko:∀C f,(C,f)∈ot.xk->XkoX P w K mg base CX k xs C f
def bx(N:List Str)(sc:Scope)(fs:List (String×Nat))(bt:List String)(cn:List (String×D))(xs:List (String×Bool))(ot:OT):CT:={ N:=N,kd:=sc.names,fn:=true,fs:=fs,bt:=bt,cn:=cn,xs:=xs,ot:=ot }
section
variable {Φ:ao} {P:Program} {w:World} {K:PF} {mg:Str->Option Value} {base:Heap} {k:Nat} {fs:List (String×Nat)} {bt:List String} {cn:List (String×D)} {xs:List (String×Bool)} {ot:OT}
theorem X8{N ps:List Str}{sc:Scope}{qual:Str}{f:Addr}{cdv:Value}{A:Around}{outer:List Env}{s:Shared}{H:Hp}{EX:XK}{B:Bs}(T:Bse Φ P w K mg base (CX1 P w) k fs bt cn xs ot)(hs:fnB N ps sc=true)
  (hr:Room k (A.deeper (envOfC qual sc s.heap.objs.size f cdv))):Stat Φ (CX1 P w) k (bx N sc fs bt cn xs ot) noE B (fM (CX1 P w) P w K mg base N qual sc f cdv A outer s H EX).nox where
 N:=rfl
 nd:=(BV hs).nd
 calm:=rfl
 own:=PassesOwn.never
 kd:=rfl
 vis:=λx h=>by
  have h:gH (sc.names.lookup x)=true:=h;show sc.names.lookup x=_\/sc.names.lookup x=_\/sc.names.lookup x=_;unfold gH at h;split at h <;> first | (cases h;done) |simp_all
 cel:=λx h=>h
 glo:=λx h=>h
 sto:=λx h=>by
  have h:(sc.names.lookup x==some .local||(true&&sc.names.lookup x==some .cell))=true:=h;rw[Bool.true_and,df,aE,aE]at h;exact ⟨h,.inl rfl⟩
 room:=hr
 call:=T.call
 blt:=T.blt
 con:=T.con
 exc:=⟨_,xF _,λ_ _ _ _ _ _ _ _ _ _ q=>q.elim,λ_ _ _ _ h=>h.elim⟩
 nox:=λY=>xF Y
 xcl:=T.xcl
 loc:=λx h=>h
 xis:=T.xis
 mth:=T.mth
 mko:=T.mko
 fld:=T.fld
 xko:=T.xko
 trc:=λ_=>⟨rfl,rfl,rfl⟩
theorem Yb{outer:List Env}{H:Hp}{s s':Shared}{e:Value}(h:CX1 P w outer H s (λ_ _ _=>False) e s'):False:=by obtain ⟨_,_,_,_,_,_,_,_,_,q⟩:=h;exact q
def ends(Q:D->DH->Prop):En:={ nx:=λ_ G=>Q .non G,rt:=Q,bk:=λ_ _=>False,ct:=λ_ _=>False }
def env0(ds:List D)(n:Nat):aj:=ds.map some++List.replicate n none
theorem uK{x qual:Str}{st:Stmt}{f:Addr}{fd:FuncData}(Fu:Fun K x qual st f fd)(T:Bse Φ P w K mg base (CX1 P w) k fs bt cn xs ot){N ps:List Str}{body:Sxs}(S:RF.Spec)(n m:Nat)(hs:fnB N ps (aD st)=true)
  (hc:aL (bx N (aD st) fs bt cn xs ot) body (aY st)=true) (hn:ps.length=n) (hm:N.length=n+m)
  (hw:∀ds G a,ds.length=n->S.pre ds G a->aC Φ body noE (env0 ds m) G (ends (S.post a))):FnOk P w K mg base (CX1 P w) (k+1) f fd ps (lift K n S):=by
 refine Fu.okX (BV hs) (λvs H Q E h=>by rw[hn];exact h.1) λcdv A outer s H vs Q EX hr hsp=>?_;obtain ⟨hl,F,G,ds,r,rs,a,h1,h2,h3⟩:=hsp;have St:Stat Φ (CX1 P w) k (bx N (aD st) fs bt cn xs ot) noE ⟨H,F⟩ (fM (CX1 P w) P w K mg base N qual (aD st) f cdv A outer s H EX).nox:=X8 T hs hr;refine ⟨_,(je St body hc).nox,?_⟩;refine ⟨env0 ds m,F,G,Ext.refl _ _,?_,r,dC body (D:=ends (S.post a)) ⟨λρ G' q=>?_,λd G' q=>h2 d G' q,λ_ _ q=>False.elim q,λ_ _ q=>False.elim q⟩ (hw ds G a (by rw[rs.length];exact hl) h1)⟩
 ·unfold L2.start;rw[show N.length - vs.length=m by omega];exact EnvR.start m rs
 ·intro H' F' σ' x1 _ r1;exact h2 .non G' q H' F' .non x1 r1 rfl
end
def bN(pre:List D->DH->Prop)(post:List D->DH->D->DH->Prop):RF.Spec where
 A:=List D×DH
 pre:=λds G a=>a=(ds,G)/\pre ds G
 post:=λa d G'=>post a.1 a.2 d G'
 exc:=λ_ _ _=>False
theorem cI{pre:List D->DH->Prop}{post:List D->DH->D->DH->Prop}{ds:List D}{G:DH}{k:D->DH->Prop}{E:EK}(h:pre ds G)(hk:∀d G',post ds G d G'->k d G'):(bN pre post).t ds G k E:=
 ⟨(ds,G),⟨rfl,h⟩,hk,λ_ _ z=>z.elim⟩
theorem cR{Φ:ao}{body:Sxs}{m n:Nat}{pre:List D->DH->Prop}{post:List D->DH->D->DH->Prop}(h:∀ds G,pre ds G->aC Φ body noE (env0 ds m) G (ends (post ds G))):
  ∀ds G a,ds.length=n->(bN pre post).pre ds G a->aC Φ body noE (env0 ds m) G (ends ((bN pre post).post a)):=by
 rintro ds G a _ ⟨rfl,h1⟩;exact h ds G h1
def bT(f:List D->Option D):RF.Spec:=bN (λds _=>(f ds).isSome=true) (λds G d G'=>G'=G/\f ds=some d)
theorem pX{f:List D->Option D}{ds:List D}{d:D}{G:DH}{k:D->DH->Prop}{E:EK}(h:f ds=some d)(hk:k d G):(bT f).t ds G k E:=
 cI (by rw[h];rfl) λd' G' ⟨e1,e2⟩=>by rw[h]at e2;cases e2;rw[e1];exact hk
theorem pY{Φ:ao}{body:Sxs}{m n:Nat}{f:List D->Option D}(h:∀ds G d,f ds=some d->aC Φ body noE (env0 ds m) G (ends λd' G'=>G'=G/\d'=d)):
  ∀ds G a,ds.length=n->(bT f).pre ds G a->aC Φ body noE (env0 ds m) G (ends ((bT f).post a)):=by
 refine cR λds G hf=>?_;obtain ⟨d,e⟩:=c8.mp hf;refine dC body (D:=ends λd' G'=>G'=G/\d'=d) ⟨λρ G' q=>?_,λd' G' q=>?_,λ_ _ q=>q,λ_ _ q=>q⟩ (h ds G d e)
 ·exact ⟨q.1,by rw[e];exact d6 some q.2.symm⟩
 ·exact ⟨q.1,by rw[e];exact d6 some q.2.symm⟩
theorem Yc{step:D->aj->DH->(aj->DH->Prop)->Prop}{g:Hld}{items:List D}{ρ:aj}{G:DH}{k:aj->DH->Prop}(P:Nat->aj->DH->Prop)(h0:P 0 ρ G)(hh:∀i ρ G,P i ρ G->held g G)
  (hs:∀i d ρ G,items[i]?=some d->P i ρ G->∀kk:aj->DH->Prop,(∀ρ' G',P (i+1) ρ' G'->kk ρ' G')->step d ρ G kk) (he:∀ρ G,P items.length ρ G->k ρ G):forLoop step g items ρ G k:=by
 have go:∀(l:List D)(i:Nat)(ρ:aj)(G:DH),items.drop i=l->i<=items.length->P i ρ G->forLoop step g l ρ G k:=by
  intro l;induction l with
  |nil=>
   intro i ρ G e hi p;have:i=items.length:=by have:=d6 List.length e;rw[dA]at this;simp at this;omega
   subst this;exact ⟨hh _ _ _ p,he _ _ p⟩
  |cons d l ih=>
   intro i ρ G e hi p;have hl:i < items.length:=by
    by_cases h:i < items.length
    ·exact h
    ·rw[eM (by omega)]at e;cases e
   rw[cm hl]at e;injection e with e1 e2;refine ⟨hh _ _ _ p,hs i d ρ G (by rw[a9 hl,e1]) p _ λρ' G' p'=>ih (i+1) ρ' G' e2 hl p'⟩
 exact go _ 0 ρ G (by simp) (fS _) h0
theorem BW{step:D->aj->DH->(Option D->aj->DH->Prop)->Prop}{g:Hld}{items acc:List D}{ρ:aj}{G:DH}{k:List D->DH->Prop}(P:Nat->List D->aj->DH->Prop)(h0:P 0 acc ρ G)(hh:∀i acc ρ G,P i acc ρ G->held g G)
  (hl:acc.length+items.length<=sz)
  (hs:∀i d acc ρ G,items[i]?=some d->P i acc ρ G->∀kk:Option D->aj->DH->Prop,(∀o ρ' G',P (i+1) (acc++o.toList) ρ' G'->kk o ρ' G')->step d ρ G kk) (he:∀acc ρ G,P items.length acc ρ G->k acc G):compLoop step g items acc ρ G k:=by
 have go:∀(l:List D)(i:Nat)(acc:List D)(ρ:aj)(G:DH),items.drop i=l->i<=items.length->acc.length+l.length<=sz->P i acc ρ G->compLoop step g l acc ρ G k:=by
  intro l;induction l with
  |nil=>
   intro i acc ρ G e hi ha p;have:i=items.length:=by have:=d6 List.length e;rw[dA]at this;simp at this;omega
   subst this;exact ⟨hh _ _ _ _ p,by simpa using ha,he _ _ _ p⟩
  |cons d l ih=>
   intro i acc ρ G e hi ha p;have hl:i < items.length:=by
    by_cases h:i < items.length
    ·exact h
    ·rw[eM (by omega)]at e;cases e
   rw[cm hl]at e;injection e with e1 e2;have ha':acc.length+(l.length+1)<=sz:=ha;refine ⟨hh _ _ _ _ p,by omega,hs i d acc ρ G (by rw[a9 hl,e1]) p _ λo ρ' G' p'=>?_⟩;cases o with
   |some y=>exact ih (i+1) (acc++[y]) ρ' G' e2 hl (by rw[bd];simp;omega) p'
   |none=>exact ih (i+1) acc ρ' G' e2 hl (by omega) (by simpa using p')
 exact go _ 0 acc ρ G (by simp) (fS _) hl h0
theorem Yd{step:D->aj->DH->(Option D->aj->DH->Prop)->Prop}{items:List D}{ρ:aj}{G:DH}{k:List D->DH->Prop}(g:Hld)(f:D->Option D)(I:aj->Prop)(h0:I ρ)(hg:held g G)(hl:items.length<=sz)
  (hs:∀d ρ,d∈items->I ρ->∀kk:Option D->aj->DH->Prop,(∀ρ',I ρ'->kk (f d) ρ' G)->step d ρ G kk) (he:k (items.filterMap f) G):compLoop step g items [] ρ G k:=by
 refine BW (λi acc ρ' G'=>I ρ'/\G'=G/\acc=(items.take i).filterMap f) ⟨h0,rfl,rfl⟩ (λi acc ρ' G' p=>by rw[p.2.1];exact hg) (by simpa using hl) ?_ ?_
 ·rintro i d acc ρ' G' hd ⟨p1,rfl,rfl⟩ kk hk;refine hs d ρ' (bv hd) p1 kk λρ2 i2=>hk _ _ _ ⟨i2,rfl,?_⟩;rw[fm,hd,List.filterMap_append];congr 1
 ·rintro acc ρ' G' ⟨_,rfl,rfl⟩;rw[gI];exact he
theorem Ye{step:D->aj->DH->(Option D->aj->DH->Prop)->Prop}{items:List D}{ρ:aj}{G:DH}{k:List D->DH->Prop}(g:Hld)(f:D->D)(I:aj->Prop)(h0:I ρ)(hg:held g G)(hl:items.length<=sz)
  (hs:∀d ρ,d∈items->I ρ->∀kk:Option D->aj->DH->Prop,(∀ρ',I ρ'->kk (some (f d)) ρ' G)->step d ρ G kk) (he:k (items.map f) G):compLoop step g items [] ρ G k:=
 Yd g (λd=>some (f d)) I h0 hg hl hs (by rw[<-List.filterMap_eq_map]at he;exact he)
theorem BX{α:Type}(f:α->Bool):∀l:List α,bools (l.map λx=>D.bl (f x))=some (l.map f)
 |[]=>rfl
 |x::l=>by simp[bools,BX f l]
theorem strs_map{α:Type}(f:α->List Nat):∀l:List α,aW (l.map λx=>D.str (f x))=some (l.map f)
 |[]=>rfl
 |x::l=>by simp[aW,strs_map f l]
theorem BZ:∀l:List (List Nat),dz [] l=l.flatten
 |[]=>rfl
 |[x]=>by simp[dz]
 |x::y::r=>by simp[dz,BZ (y::r)]
def Sa(G G':DH):Prop:=∀b o,G b=some o->G' b=some o
def Sb(p:Addr)(G G':DH):Prop:=∀b o,G b=some o->b≠p->G' b=some o
theorem Sa.refl(G:DH):Sa G G:=λ_ _ h=>h
theorem Sb.refl(p:Addr)(G:DH):Sb p G G:=λ_ _ h _=>h
theorem Sa.trans{G G1 G2:DH}(a:Sa G G1)(b:Sa G1 G2):Sa G G2:=λc o h=>b c o (a c o h)
theorem Sb.trans{p:Addr}{G G1 G2:DH}(a:Sb p G G1)(b:Sb p G1 G2):Sb p G G2:=λc o h n=>b c o (a c o h n) n
theorem Sa.new{G:DH}{p:Addr}{o:DO}(h:G p=none):Sa G (bf G p o):=λb u e=>by rw[gC (Tw e h)];exact e
theorem Sb.upd{G:DH}{p:Addr}{o:DO}:Sb p G (bf G p o):=λb u e n=>by rw[gC n];exact e
theorem Ca{α:Type}{a:α}{l:List α}:atI (a::l) 0=some a:=cU (j:=0) rfl
theorem Cd{α:Type}{a b:α}{l:List α}:atI (a::b::l) 1=some b:=cU (j:=1) rfl
theorem Ce{α:Type}{a b c:α}{l:List α}:atI (a::b::c::l) 2=some c:=cU (j:=2) rfl
theorem Cg{α:Type}{a b c d:α}{l:List α}:atI (a::b::c::d::l) 3=some d:=cU (j:=3) rfl
theorem Yg{n j:Nat}(h:j < n):ixN n (j:Int)=some j:=by unfold ixN;rw[if_pos (by omega),if_pos (by omega)];simp
theorem Ci{n:Nat}:ixN (n+1) 0=some 0:=by unfold ixN;rw[if_pos (by omega),if_pos (by omega)];rfl
theorem Cj{n:Nat}:ixN (n+2) 1=some 1:=by unfold ixN;rw[if_pos (by omega),if_pos (by omega)];rfl
theorem Ck{n:Nat}:ixN (n+3) 2=some 2:=by unfold ixN;rw[if_pos (by omega),if_pos (by omega)];rfl
theorem Cm{α:Type}(xs:List α)(lo hi:Option Int):(cut xs lo hi).length<=xs.length:=by unfold cut;rw[c9,dA];omega
theorem Yh{l:List D}:bL l []=l.isEmpty:=by cases l <;> rfl
theorem uL{α:Type}(l:List α)(n:Nat):cut l none (some (n:Int))=l.take n:=by
 unfold cut;rw[show HT.sIx l.length 0 none=0 from rfl,HT.wF,List.drop_zero,Nat.sub_zero];by_cases h:n<=l.length
 ·rw[Nat.min_eq_left h]
 ·rw[Nat.min_eq_right (by omega),eI (av _),eI (by omega)]
theorem Yi{α:Type}(l:List α)(n:Nat):cut l (some (n:Int)) none=l.drop n:=by
 unfold cut;rw[show HT.sIx l.length l.length none=l.length from rfl,HT.wF];by_cases h:n<=l.length
 ·rw[Nat.min_eq_left h,eI (by rw[dA];exact av _)]
 ·rw[Nat.min_eq_right (by omega),Nat.sub_self,List.take_zero,eM (by omega)]
theorem uM{α:Type}(l:List α)(n:Nat):cut l (some ((n:Int)+1)) none=l.drop (n+1):=Yi l (n+1)
theorem Cp{α:Type}{motive:List α->Prop}(l:List α)(nil:motive [])(snoc:∀(l:List α)(a:α),motive l->motive (l++[a])):motive l:=by
 have go:∀(n:Nat)(l:List α),l.length=n->motive l:=by
  intro n;induction n with
  |zero=>intro l h;rw[cK.mp h];exact nil
  |succ n ih=>
   intro l h;have hne:l≠[]:=by rintro rfl;simp at h
   rw[<-fo hne];exact snoc _ _ (ih _ (by rw[List.length_dropLast];omega))
 exact go _ l rfl
section
variable {G:DH} {k:D->DH->Prop} {fz:Bool} {kb:Bool->Prop} {kd:D->Prop} {p:Addr}
theorem Cq{i j:Int}:bU .Add fz (.int i) (.int j) G k=k (.int (i+j)) G:=rfl
theorem Cr{x y:List Nat}:bU .Add fz (.str x) (.str y) G k=(x.length+y.length<=sz/\k (.str (x++y)) G):=rfl
theorem Cu{x y:List D}:bU .Add fz (.lst x) (.lst y) G k=(x.length+y.length<=sz/\mk fz (x++y) G k):=rfl
theorem Cv{x y:List D}:bU .Add fz (.tup x) (.tup y) G k=(x.length+y.length<=sz/\k (.tup (x++y)) G):=rfl
theorem Cw{i j:Int}:bU .Sub fz (.int i) (.int j) G k=k (.int (i - j)) G:=rfl
theorem Cy{i j:Int}:bU .Mult fz (.int i) (.int j) G k=(CMul i j/\k (.int (i * j)) G):=rfl
theorem Cz{x:List D}{n:Int}:bU .Mult fz (.tup x) (.int n) G k=(2<=n/\n<=1000/\x≠[]/\x.length * n.toNat<=sz/\k (.tup (reps x n.toNat)) G):=rfl
theorem CG{x:List D}{n:Int}:bU .Mult fz (.lst x) (.int n) G k=(0<=n/\n<=1000/\x.length * n.toNat<=sz/\mk fz (reps x n.toNat) G k):=rfl
theorem CJ{x:List Nat}{n:Int}:bU .Mult fz (.str x) (.int n) G k=(0<=n/\n<=1000/\x.length * n.toNat<=sz/\k (.str (reps x n.toNat)) G):=rfl
theorem CK{i j:Int}:bU .FloorDiv fz (.int i) (.int j) G k=((0 < j/\j < 1152921504606846976)/\k (.int (i / j)) G):=rfl
theorem CN{i j:Int}:bU .Mod fz (.int i) (.int j) G k=(0 < j/\k (.int (i % j)) G):=rfl
theorem CP{i j:Int}:bU .Pow fz (.int i) (.int j) G k=(lW i j/\k (.int (i ^ j.toNat)) G):=rfl
def fB:D->Bool
 |.non=>true
 |_=>false
theorem CQ{a b:D}:aU .Eq a b kb=((nr a=true/\nr b=true/\min (dpt a) (dpt b)<=60)/\kb (deq a b)):=rfl
theorem CW{a b:D}:aU .NotEq a b kb=((nr a=true/\nr b=true/\min (dpt a) (dpt b)<=60)/\kb (!deq a b)):=rfl
theorem CZ{i j:Int}:aU .Lt (.int i) (.int j) kb=kb (decide (i < j)):=rfl
theorem Dc{i j:Int}:aU .LtE (.int i) (.int j) kb=kb (decide (i<=j)):=rfl
theorem Dd{i j:Int}:aU .Gt (.int i) (.int j) kb=kb (decide (j < i)):=rfl
theorem De{i j:Int}:aU .GtE (.int i) (.int j) kb=kb (decide (j<=i)):=rfl
theorem Df{i j:List Nat}:aU .Lt (.str i) (.str j) kb=kb (decide (i < j)):=rfl
theorem Dg{i j:List Nat}:aU .LtE (.str i) (.str j) kb=kb (!decide (j < i)):=rfl
theorem Dh{a:D}:aU .Is a .non kb=kb (fB a):=by cases a <;> rfl
theorem Di{a:D}:aU .IsNot a .non kb=kb (!fB a):=by cases a <;> rfl
theorem Dj{a b:Bool}:aU .Is (.bl a) (.bl b) kb=kb (a==b):=rfl
theorem Dk{a b:Bool}:aU .IsNot (.bl a) (.bl b) kb=kb (a != b):=rfl
theorem Dl{c:Nat}{l:List Nat}:aU .In (.str [c]) (.str l) kb=kb (l.contains c):=rfl
theorem Dm{c:Nat}{l:List Nat}:aU .NotIn (.str [c]) (.str l) kb=kb (!l.contains c):=rfl
theorem Dn{a:D}{l:List D}:aU .In a (.lst l) kb=((nr a=true/\nrs l=true/\aR l<=60)/\kb (isIn a l)):=rfl
theorem Do{a:D}{l:List D}:aU .In a (.tup l) kb=((nr a=true/\nrs l=true/\aR l<=60)/\kb (isIn a l)):=rfl
theorem Dp{a:D}{l:List D}:aU .NotIn a (.lst l) kb=((nr a=true/\nrs l=true/\aR l<=60)/\kb (!isIn a l)):=rfl
theorem Dq{a:D}{l:List D}:aU .NotIn a (.tup l) kb=((nr a=true/\nrs l=true/\aR l<=60)/\kb (!isIn a l)):=rfl
theorem Ds{i:Int}:fB (.int i)=false:=rfl
theorem Dt{i:Bool}:fB (.bl i)=false:=rfl
theorem Du{i:List Nat}:fB (.str i)=false:=rfl
theorem Dv{i:List D}:fB (.tup i)=false:=rfl
theorem Dw{i:List D}:fB (.lst i)=false:=rfl
theorem Dy{i:Addr}:fB (.ref i)=false:=rfl
theorem Dz:fB .non=true:=rfl
def aX{α:Type}(o:Option α)(k:α->Prop):Prop:=match o with |some a=>k a |none=>False
theorem DG{α:Type}{a:α}{k:α->Prop}:aX (some a) k=k a:=rfl
theorem dH{α:Type}{o:Option α}{a:α}{k:α->Prop}(e:o=some a)(h:k a):aX o k:=by rw[e];exact h
theorem DK{ds:List D}{i:Int}:bV (.lst ds) (.int i) kd=aX (atI ds i) kd:=by unfold bV aX;(try dsimp only) <;> (cases atI ds i <;> rfl)
theorem DN{ds:List D}{i:Int}:bV (.tup ds) (.int i) kd=aX (atI ds i) kd:=by unfold bV aX;(try dsimp only) <;> (cases atI ds i <;> rfl)
theorem DP{l:List Nat}{i:Int}:bV (.str l) (.int i) kd=aX (atI l i) (λc=>kd (.str [c])):=by unfold bV aX;(try dsimp only) <;> (cases atI l i <;> rfl)
theorem DQ{ds:List D}{lo hi:Option Int}:dw fz (.lst ds) lo hi G k=mk fz (cut ds lo hi) G k:=rfl
theorem DR{ds:List D}{y:D}:iH fz (.lst ds) y G k=(y=.int (-1)/\mk fz ds.reverse G k):=rfl
theorem DW{ds:List Int}{lo hi:Option Int}:dw fz (.scr ds) lo hi G k=mk fz ((cut ds lo hi).map .int) G k:=rfl
theorem DX{ds:List D}{lo hi:Option Int}:dw fz (.tup ds) lo hi G k=k (.tup (cut ds lo hi)) G:=rfl
theorem DY{ds:List Nat}{lo hi:Option Int}:dw fz (.str ds) lo hi G k=k (.str (cut ds lo hi)) G:=rfl
theorem Ea{ds:List D}:opB .len [.lst ds] kd=kd (.int ds.length):=rfl
theorem Eb{ds:List D}:opB .len [.tup ds] kd=kd (.int ds.length):=rfl
theorem Ec{ds:List Nat}:opB .len [.str ds] kd=kd (.int ds.length):=rfl
theorem Ed{ds:List D}:opB .all [.lst ds] kd=aX (bools ds) (λbs=>kd (.bl (bs.all id))):=by unfold opB mG aX;(try dsimp only) <;> (cases bools ds <;> rfl)
theorem Ef{b:Bool}:opB .int [.bl b] kd=kd (.int (if b then 1 else 0)):=rfl
theorem Eg{b:Int}:opB .int [.int b] kd=kd (.int b):=rfl
theorem Eh{l:List Nat}:opB .int [.str l] kd=aX (PySem.intText? (tx l)) (λn=>l.length<=640/\kd (.int n)):=by unfold opB mH aX;(try dsimp only) <;> (cases PySem.intText? (tx l) <;> rfl)
theorem Ei{ds:List D}:opB .sum [.lst ds] kd=aX (dU ds) (λns=>kd (.int ns.sum)):=by unfold opB rF aX;(try dsimp only) <;> (cases dU ds <;> rfl)
theorem Ej{a:Int}:opB .str [.int a] kd=((0<=a/\a < 100)/\kd (.str (fV a.toNat))):=rfl
theorem Ek{a:Int}:opB .abs [.int a] kd=kd (.int (if a < 0 then -a else a)):=rfl
theorem El{a b:Int}:opB .min2 [.int a,.int b] kd=kd (.int (if b < a then b else a)):=rfl
theorem Em{a b:Int}:opB .max [.int a,.int b] kd=kd (.int (if b > a then b else a)):=rfl
theorem Eo{ds:List D}{kl:List D->Prop}:cF .sorted [.tup ds] kl=aX (dU ds) (λns=>ns.length < 64/\∀ns':List Int,ns'.Perm ns->ns'.Pairwise (·<=·)->kl (ns'.map D.int)):=by unfold cF mJ aX;(try dsimp only) <;> (cases dU ds <;> rfl)
theorem Ep{ds:List D}{kl:List D->Prop}:fW (.lst ds) kl=aX (aW ds) (λls=>(ls.length<=1000/\(bF ls).length<=64)/\∀ls':List (List Nat),ls'.Perm (bF ls)->kl (ls'.map D.str)):=by unfold fW aX;(try dsimp only) <;> (cases aW ds <;> rfl)
theorem Er{ds:List D}{kl:List D->Prop}:cF .sorted [.lst ds] kl=aX (aW ds) (λls=>ls.length < 64/\∀ls':List (List Nat),ls'.Perm ls->PyProof.Rows.sortedS (ls'.map tx)=true->kl (ls'.map D.str)):=by unfold cF mJ aX;(try dsimp only) <;> (cases aW ds <;> rfl)
theorem Es{ds:List D}:opB .tuple [.lst ds] kd=kd (.tup ds):=rfl
theorem Et{ds:List D}:opB .tuple [.tup ds] kd=kd (.tup ds):=rfl
theorem Eu{ds:List D}{kl:List D->Prop}:cF .list [.lst ds] kl=kl ds:=rfl
theorem Ew{ds:List D}{kl:List D->Prop}:cF .list [.tup ds] kl=kl ds:=rfl
theorem Ey{l:List Nat}{kl:List D->Prop}:cF .list [.str l] kl=kl (l.map λc=>.str [c]):=rfl
theorem Ez{s:List Nat}{ds:List D}:opM .join (.str s) [.lst ds] G k=aX (aW ds) (λls=>((ls.map (·.length)).sum+ls.length * s.length<=sz)/\k (.str (dz s ls)) G):=by unfold opM mK aX;(simp only[dy,gL,view]) <;> (cases aW ds <;> rfl)
def trk(G:DH)(p:Addr)(k:List D->Prop):Prop:=match G p with |some (.lst ds)=>k ds |none=>False
theorem fG{ds:List D}{k:List D->Prop}(e:G p=some (.lst ds)):trk G p k=k ds:=by unfold trk;rw[e]
theorem EY{x:D}:opM .append (.ref p) [x] G k=trk G p (λds=>ds.length < sz/\k .non (bf G p (.lst (ds++[x])))):=by unfold opM mL trk;(try dsimp only) <;> (cases G p <;> first |rfl | (rename_i o;cases o;rfl))
theorem Fb{x:D}{i:Int}:opM .insert (.ref p) [.int i,x] G k=trk G p (λds=>ds.length < sz/\0<=i/\i<=1000000/\k .non (bf G p (.lst (ds.take i.toNat++x::ds.drop i.toNat)))):=by unfold opM mQ trk;(try dsimp only) <;> (cases G p <;> first |rfl | (rename_i o;cases o;rfl))
theorem Fd:recv .insert (.ref p) G=trk G p (λ_=>True):=by unfold recv trk;(try dsimp only) <;> (cases G p <;> first |rfl | (rename_i o;cases o;rfl))
theorem Fe{xs:List D}:opM .extend (.ref p) [.lst xs] G k=trk G p (λds=>ds.length+xs.length < sz/\k .non (bf G p (.lst (ds++xs)))):=by unfold opM mO trk;(simp only[dy,gL,view]) <;> (cases G p <;> first |rfl | (rename_i o;cases o;rfl))
theorem Ff{ds:List D}:opM .count (.lst ds) [.bl true] G k=aX (bools ds) (λbs=>k (.int (bs.count true:Nat)) G):=by unfold opM mR aX;(try dsimp only[view]) <;> (cases bools ds <;> rfl)
theorem Fg{ds:List D}:opM .index (.lst ds) [.bl true] G k=aX (bools ds) (λbs=>true∈bs/\k (.int (bs.idxOf true:Nat)) G):=by unfold opM mU aX;(try dsimp only[view]) <;> (cases bools ds <;> rfl)
theorem Fi{ds:List D}:recv .count (.lst ds) G=True:=rfl
theorem Fj{ds:List D}:recv .index (.lst ds) G=True:=rfl
theorem Fl{l:List Nat}{c:Nat}:opM .split (.str l) [.str [c]] G k=((c < 256/\l.length+2<=sz)/\k (.lst ((bh c l).map .str)) G):=rfl
theorem Fp{s:List Nat}:recv .split (.str s) G=True:=rfl
theorem Fq{i j:Nat}{ds:List D}{ρ:aj}{kk:aj->DH->Prop}:jz i j (.lst ds) ρ G kk=(ds≠[]/\∀xs y,ds=xs++[y]->kk ((ρ.set i (some (.lst xs))).set j (some y)) G):=rfl
theorem Ft{C c:String}{xs:List String}{kk:Bool->Prop}:jy C xs (.exn c) kk=(xs.contains c=true/\kk (dW c C)):=rfl
theorem Fv{C c f:String}{d:D}{xs:List String}{kk:Bool->Prop}:jy C xs (.exa c f d) kk=(xs.contains c=true/\kk (dW c C)):=rfl
theorem x_at{C f:String}{v:D}{kk:D->Prop}:iI C f (.exa C f v) kk=kk v:=by simp[iI]
theorem Fw{b f:String}{d:D}:view G (.exa b f d)=.exa b f d:=rfl
theorem Fx{s:List Nat}:recv .join (.str s) G=True:=rfl
theorem Fy:recv .append (.ref p) G=trk G p (λ_=>True):=by unfold recv trk;(try dsimp only) <;> (cases G p <;> first |rfl | (rename_i o;cases o;rfl))
theorem Fz:recv .extend (.ref p) G=trk G p (λ_=>True):=by unfold recv trk;(try dsimp only) <;> (cases G p <;> first |rfl | (rename_i o;cases o;rfl))
theorem FJ{i:Int}{x:D}{kg:DH->Prop}:dB (.ref p) (.int i) x G kg=trk G p (λds=>aX (ixN ds.length i) (λj=>kg (bf G p (.lst (ds.set j x))))):=by
 unfold dB trk aX
 (try dsimp only) <;> (cases G p <;> first |rfl | (rename_i o;cases o;(try dsimp only) <;> (rename_i ds;cases ixN ds.length i <;> rfl)))
theorem FN{i j:Int}:dX .Add (.int i) (.int j) kd=kd (.int (i+j)):=rfl
theorem FP{x y:List Nat}:dX .Add (.str x) (.str y) kd=(x.length+y.length<=sz/\kd (.str (x++y))):=rfl
theorem FQ{i j:Int}:dX .Sub (.int i) (.int j) kd=kd (.int (i - j)):=rfl
theorem FT{xs:List D}:mk true xs G k=k (.lst xs) G:=rfl
theorem FW{xs:List D}:mk false xs G k=∀p,G p=none->k (.ref p) (bf G p (.lst xs)):=rfl
theorem Ga:view G .non=.non:=rfl
theorem Gb{b:Bool}:view G (.bl b)=.bl b:=rfl
theorem Gd{b:Int}:view G (.int b)=.int b:=rfl
theorem Ge{b:List Nat}:view G (.str b)=.str b:=rfl
theorem Gf{b:List D}:view G (.tup b)=.tup b:=rfl
theorem Gg{b:List D}:view G (.lst b)=.lst b:=rfl
theorem Gi{C f:String}{q:Addr}:view G (.obj C f q)=.obj C f q:=rfl
theorem Gj{b:String}:view G (.exn b)=.exn b:=rfl
theorem Gk{b:List Int}:view G (.scr b)=.scr b:=rfl
theorem cT{ds:List D}(e:G p=some (.lst ds)):view G (.ref p)=.lst ds:=by unfold view;dsimp only;rw[e]
theorem Gm:truth .non=some false:=rfl
theorem Gn{b:Bool}:truth (.bl b)=some b:=rfl
theorem Gp{i:Int}:truth (.int i)=some (i != 0):=rfl
theorem Gq{l:List Nat}:truth (.str l)=some (!l.isEmpty):=rfl
theorem Gr{l:List D}:truth (.tup l)=some (!l.isEmpty):=rfl
theorem Gs{l:List D}:truth (.lst l)=some (!l.isEmpty):=rfl
theorem Gu{l:List D}:itemsOf G (.lst l)=some (l,[]):=rfl
theorem Gv{l:List D}:itemsOf G (.tup l)=some (l,[]):=rfl
theorem Gw{l:List Nat}:itemsOf G (.str l)=some (l.map λc=>.str [c],[]):=rfl
theorem gb{ds:List D}(e:G p=some (.lst ds)):itemsOf G (.ref p)=some (ds,[(p,ds)]):=by unfold itemsOf;dsimp only;rw[e]
theorem Gx{t:String}:isT t .non=some false:=rfl
theorem Gy {t:String} {b:Bool}:isT t (.bl b)=some (t=="bool"||t=="int"):=rfl
theorem Gz {t:String} {b:Int}:isT t (.int b)=some (t=="int"):=rfl
theorem GC {t:String} {b:List Nat}:isT t (.str b)=some (t=="str"):=rfl
theorem is_tup {t:String} {b:List D}:isT t (.tup b)=some (t=="tuple"):=rfl
theorem GD {t:String} {b:List D}:isT t (.lst b)=some (t=="list"):=rfl
theorem GF{i:Nat}{d:D}{ρ:aj}{kr:aj->Prop}:aK (.nm i) d ρ G kr=kr (ρ.set i (some d)):=rfl
theorem GJ{ts:Tgs}{ds:List D}{ρ:aj}{kr:aj->Prop}:aK (.tp ts) (.lst ds) ρ G kr=bz ts ds ρ G kr:=rfl
theorem GK{ts:Tgs}{ds:List D}{ρ:aj}{kr:aj->Prop}:aK (.tp ts) (.tup ds) ρ G kr=bz ts ds ρ G kr:=rfl
theorem GP{ρ:aj}{kr:aj->Prop}:bz .nil [] ρ G kr=kr ρ:=rfl
theorem GQ{t:Tg}{r:Tgs}{d:D}{ds:List D}{ρ:aj}{kr:aj->Prop}:bz (.cons t r) (d::ds) ρ G kr=aK t d ρ G (λρ'=>bz r ds ρ' G kr):=rfl
theorem GR:deq .non .non=true:=rfl
theorem GX  {y:Bool}:deq .non (.bl y)=false:=rfl
theorem GZ  {y:Int}:deq .non (.int y)=false:=rfl
theorem Ha  {y:List Nat}:deq .non (.str y)=false:=rfl
theorem Hb  {y:List D}:deq .non (.tup y)=false:=rfl
theorem Hc  {y:List D}:deq .non (.lst y)=false:=rfl
theorem Hf{x:Bool} :deq (.bl x) .non=false:=rfl
theorem Hg{x:Bool}{y:Bool}:deq (.bl x) (.bl y)=(x==y):=by rw[deq]
theorem Hh{x:Bool}{y:List Nat}:deq (.bl x) (.str y)=false:=rfl
theorem Hi{x:Bool}{y:List D}:deq (.bl x) (.tup y)=false:=rfl
theorem Hj{x:Bool}{y:List D}:deq (.bl x) (.lst y)=false:=rfl
theorem Hk{x:Int} :deq (.int x) .non=false:=rfl
theorem Hl{x:Int}{y:Int}:deq (.int x) (.int y)=(x==y):=by rw[deq]
theorem Hm{x:Int}{y:List Nat}:deq (.int x) (.str y)=false:=rfl
theorem Hn{x:Int}{y:List D}:deq (.int x) (.tup y)=false:=rfl
theorem Ho{x:Int}{y:List D}:deq (.int x) (.lst y)=false:=rfl
theorem Hq{x:List Nat} :deq (.str x) .non=false:=rfl
theorem Hr{x:List Nat}{y:Bool}:deq (.str x) (.bl y)=false:=rfl
theorem Hs{x:List Nat}{y:Int}:deq (.str x) (.int y)=false:=rfl
theorem Ht{x:List Nat}{y:List Nat}:deq (.str x) (.str y)=(x==y):=by rw[deq]
theorem Hu{x:List Nat}{y:List D}:deq (.str x) (.tup y)=false:=rfl
theorem Hv{x:List Nat}{y:List D}:deq (.str x) (.lst y)=false:=rfl
theorem Hw{x:List D} :deq (.tup x) .non=false:=rfl
theorem Hx{x:List D}{y:Bool}:deq (.tup x) (.bl y)=false:=rfl
theorem Hy{x:List D}{y:Int}:deq (.tup x) (.int y)=false:=rfl
theorem Hz{x:List D}{y:List Nat}:deq (.tup x) (.str y)=false:=rfl
theorem HB{x:List D}{y:List D}:deq (.tup x) (.tup y)=bL x y:=by rw[deq]
theorem HF{x:List D}{y:List D}:deq (.tup x) (.lst y)=false:=rfl
theorem HH{x:List D} :deq (.lst x) .non=false:=rfl
theorem HJ{x:List D}{y:Bool}:deq (.lst x) (.bl y)=false:=rfl
theorem HN{x:List D}{y:Int}:deq (.lst x) (.int y)=false:=rfl
theorem HQ{x:List D}{y:List Nat}:deq (.lst x) (.str y)=false:=rfl
theorem HR{x:List D}{y:List D}:deq (.lst x) (.tup y)=false:=rfl
theorem HS{x:List D}{y:List D}:deq (.lst x) (.lst y)=bL x y:=by rw[deq]
theorem HW:bL [] []=true:=rfl
theorem HX{a b:D}{as bs:List D}:bL (a::as) (b::bs)=(deq a b&&bL as bs):=by rw[bL]
theorem HY{b:D}{bs:List D}:bL [] (b::bs)=false:=rfl
theorem H9{b:D}{bs:List D}:bL (b::bs) []=false:=rfl
theorem Ia :nr .non=true:=rfl
theorem Ib :dpt .non=0:=rfl
theorem Ie{x:Bool}:nr (.bl x)=true:=rfl
theorem Ig{x:Bool}:dpt (.bl x)=0:=rfl
theorem Ih{x:Int}:nr (.int x)=true:=rfl
theorem Ii{x:Int}:dpt (.int x)=0:=rfl
theorem Ij{x:List Nat}:nr (.str x)=true:=rfl
theorem Ik{x:List Nat}:dpt (.str x)=0:=rfl
theorem Il{x:List D}:nr (.tup x)=nrs x:=by rw[nr]
theorem Im{x:List D}:dpt (.tup x)=aR x+1:=by rw[dpt]
theorem Io{x:List D}:nr (.lst x)=nrs x:=by rw[nr]
theorem Ip{x:List D}:dpt (.lst x)=aR x+1:=by rw[dpt]
theorem Ir:nrs []=true:=rfl
theorem Iu{a:D}{l:List D}:nrs (a::l)=(nr a&&nrs l):=by rw[nrs]
theorem Iv:aR []=0:=rfl
theorem Iw{a:D}{l:List D}:aR (a::l)=max (dpt a) (aR l):=by rw[aR]
end
theorem seq{Φ:ao}{s:Sx}{r:Sxs}{E:EK}{ρ:aj}{G:DH}{D:En}(h:∀M:aj->DH->Prop,(∀ρ' G',aC Φ r E ρ' G' D->M ρ' G')->wpS Φ s E ρ G { D with nx:=M }):aC Φ (.cons s r) E ρ G D:=by rw[iK];exact h _ λ_ _ x=>x
theorem last{Φ:ao}{s:Sx}{E:EK}{ρ:aj}{G:DH}{D:En}(h:wpS Φ s E ρ G D):aC Φ (.cons s .nil) E ρ G D:=by rw[iK];exact wpS_mono s (D:=D) (D':={ D with nx:=λρ' G'=>aC Φ .nil E ρ' G' D }) ⟨λρ' G' q=>(show aC Φ .nil E ρ' G' D from by rw[jC];exact q),λ_ _ q=>q,λ_ _ q=>q,λ_ _ q=>q⟩ h
section
variable {Φ:ao} {E:EK} {ρ:aj} {G:DH}
def ForG(Φ:ao)(t:Tg)(body:Sxs)(E:EK)(D:En)(items:List RF.D)(g:Hld)(ρ:aj)(G:DH):Prop:=
 forLoop (λd ρ' G' k=>aK t d ρ' G' λρ1=>aC Φ body E ρ1 G' { D with nx:=k,ct:=k,bk:=D.nx }) g items ρ G D.nx
theorem Iz{t:Tg}{it:It'}{body:Sxs}{D:En}:wpS Φ (.for_ t it body) E ρ G D=wpI Φ it E ρ G λitems g G1=>ForG Φ t body E D items g ρ G1:=rfl
theorem ForG.inv{t:Tg}{body:Sxs}{D:En}{items:List RF.D}{g:Hld}(P:Nat->aj->DH->Prop)(h0:P 0 ρ G)(hh:∀i ρ G,P i ρ G->held g G)
  (hs:∀i d ρ G,items[i]?=some d->P i ρ G->∀kk:aj->DH->Prop,(∀ρ' G',P (i+1) ρ' G'->kk ρ' G')->aK t d ρ G λρ1=>aC Φ body E ρ1 G { D with nx:=kk,ct:=kk,bk:=D.nx })
  (he:∀ρ G,P items.length ρ G->D.nx ρ G):ForG Φ t body E D items g ρ G:=Yc P h0 hh hs he
def CompG(Φ:ao)(elt:Ex)(tg:Tg)(cond:Tx)(items:List D)(g:Hld)(ρ:aj)(G:DH)(k:List D->DH->Prop):Prop:=
 compLoop (λd ρ' G' k'=>aK tg d ρ' G' λρ1=>wpT Φ cond noE ρ1 G' λb G2=>match b with |true=>wpE Φ elt noE ρ1 G2 λy G3=>k' (some y) ρ1 G3 |false=>k' none ρ1 G2) g items [] ρ G k
def jf(cap:List (Option Nat))(ρ:aj):aj:=cap.map λo=>match o with |none=>none |some j=>(ρ[j]?).join
theorem IK{ρ:aj}:jf [] ρ=[]:=rfl
theorem IV{cap:List (Option Nat)}{ρ:aj}:jf (none::cap) ρ=none::jf cap ρ:=rfl
theorem IW{cap:List (Option Nat)}{ρ:aj}{j:Nat}:jf (some j::cap) ρ=(ρ[j]?).join::jf cap ρ:=rfl
theorem Ja{fz:Bool}{elt:Ex}{tg:Tg}{it:It'}{cond:Tx}{N:List String}{cap:List (Option Nat)}{k:D->DH->Prop}:
  wpE Φ (.comp fz elt tg it cond N cap) E ρ G k=wpI Φ it E ρ G λitems g G1=>CompG Φ elt tg cond items g (jf cap ρ) G1 λds G2=>mk fz ds G2 k:=rfl
theorem CompG.inv{elt:Ex}{tg:Tg}{cond:Tx}{items:List D}{g:Hld}{k:List D->DH->Prop}(P:Nat->List D->aj->DH->Prop)(h0:P 0 [] ρ G)(hh:∀i acc ρ G,P i acc ρ G->held g G)(hl:items.length<=sz)
  (hs:∀i d acc ρ G,items[i]?=some d->P i acc ρ G->∀kk:Option D->aj->DH->Prop,(∀o ρ' G',P (i+1) (acc++o.toList) ρ' G'->kk o ρ' G')->
   aK tg d ρ G λρ1=>wpT Φ cond noE ρ1 G λb G2=>match b with |true=>wpE Φ elt noE ρ1 G2 λy G3=>kk (some y) ρ1 G3 |false=>kk none ρ1 G2)
  (he:∀acc ρ G,P items.length acc ρ G->k acc G):CompG Φ elt tg cond items g ρ G k:=BW P h0 hh (by simpa using hl) hs he
theorem CompG.map{elt:Ex}{tg:Tg}{cond:Tx}{items:List D}{g:Hld}{k:List D->DH->Prop}(f:D->D)(I:aj->Prop)(h0:I ρ)(hg:held g G)(hl:items.length<=sz)
  (hs:∀d ρ,d∈items->I ρ->∀kk:Option D->aj->DH->Prop,(∀ρ',I ρ'->kk (some (f d)) ρ' G)->aK tg d ρ G λρ1=>wpT Φ cond noE ρ1 G λb G2=>match b with |true=>wpE Φ elt noE ρ1 G2 λy G3=>kk (some y) ρ1 G3 |false=>kk none ρ1 G2)
  (he:k (items.map f) G):CompG Φ elt tg cond items g ρ G k:=Ye g f I h0 hg hl hs he
def Yj(Φ:ao)(c:Tx)(body:Sxs)(E:EK)(D:En)(n:Nat)(ρ:aj)(G:DH):Prop:=
 whileLoop (λρ' G' k=>wpT Φ c E ρ' G' k) (λρ' G' k=>aC Φ body E ρ' G' { D with nx:=k,ct:=k,bk:=D.nx }) n ρ G D.nx
theorem Jb{c:Tx}{body:Sxs}{D:En}:wpS Φ (.whl c body) E ρ G D=∃n,Yj Φ c body E D n ρ G:=rfl
end
theorem len0{α:Type}{l:List α}(h:l.length=0):l=[]:=cK.mp h
theorem uN{α:Type}{n:Nat}{l:List α}(h:l.length=n+1):∃a r,l=a::r/\r.length=n:=by
 cases l with
 |nil=>cases h
 |cons a r=>exact ⟨a,r,rfl,Nat.succ.inj h⟩
theorem jg{α:Type}{l:List α}(h:l.length=1):∃a,l=[a]:=by obtain ⟨a,r,rfl,h2⟩:=uN h;cases len0 h2;exact ⟨a,rfl⟩
theorem dg{α:Type}{l:List α}(h:l.length=2):∃a b,l=[a,b]:=by obtain ⟨a,r,rfl,h2⟩:=uN h;obtain ⟨b,rfl⟩:=jg h2;exact ⟨a,b,rfl⟩
theorem uO{α:Type}{l:List α}(h:l.length=3):∃a b c,l=[a,b,c]:=by obtain ⟨a,r,rfl,h2⟩:=uN h;obtain ⟨b,c,rfl⟩:=dg h2;exact ⟨a,b,c,rfl⟩
structure Fo(Φ:ao)(P:Program)(w:World)(K:PF)(mg:Str->Option Value)(base:Heap)(k:Nat)(f:String)(n:Nat):Prop where
 ex:∃fa fd ps,FnOk P w K mg base (CX1 P w) k fa fd ps (lift K n (Φ f))/\PySem.W.keepIn K (.ref fa)=true/\Binds K fd ps []/\mg (Str.ofString f)=some (.ref fa)
section
variable {Φ:ao} {P:Program} {w:World} {K:PF} {mg:Str->Option Value} {base:Heap} {k:Nat} {xs:List (String×Bool)} {ot:OT}
noncomputable def AllF(Φ:ao)(P:Program)(w:World)(K:PF)(mg:Str->Option Value)(base:Heap)(k:Nat):List (String×Nat)->Prop
 |[]=>True
 | (f,n)::r=>Fo Φ P w K mg base k f n/\AllF Φ P w K mg base k r
noncomputable def AllB(mg:Str->Option Value):List String->Prop
 |[]=>True
 |f::r=>mg (Str.ofString f)=none/\AllB mg r
noncomputable def AllC(K:PF)(mg:Str->Option Value):List (String×D)->Prop
 |[]=>True
 | (x,d)::r=>(∃u v,mg (Str.ofString x)=some u/\RelV v u/\∀H F,Rep K H F d v)/\AllC K mg r
theorem AllF.get:∀{fs:List (String×Nat)}{f:String}{n:Nat},AllF Φ P w K mg base k fs->(f,n)∈fs->Fo Φ P w K mg base k f n
 | (f',n')::r,f,n,h,m=>by
  rcases bb.mp m with e |m
  ·cases e;exact h.1
  ·exact AllF.get h.2 m
theorem AllB.get:∀{fs:List String}{f:String},AllB mg fs->f∈fs->mg (Str.ofString f)=none
 |f'::r,f,h,m=>by
  rcases bb.mp m with e |m
  ·cases e;exact h.1
  ·exact AllB.get h.2 m
theorem AllC.get:∀{fs:List (String×D)}{x:String}{d:D},AllC K mg fs->(x,d)∈fs->∃u v,mg (Str.ofString x)=some u/\RelV v u/\∀H F,Rep K H F d v
 | (f',n')::r,f,n,h,m=>by
  rcases bb.mp m with e |m
  ·cases e;exact h.1
  ·exact AllC.get h.2 m
noncomputable def cvB(K:PF)(C':String):Option V:=match PySem.W.nsIn K mainGlobals (Str.ofString C') with
 |some (some (.ref a))=>if xK K a then some (.ref a) else none
 |some none=>if C'=="ValueError" then some (.ty "ValueError") else none
 |_=>none
noncomputable def xiB(K:PF)(C C':String)(cv:V):Bool:=match PySem.W.nsIn K mainGlobals (Str.ofString C) with
 |some (some (.ref c))=>ik K c&&PySem.W.mroIn K c (valOf cv)==some (dW C C')&&(dW C C'||!(Value.ref c==valOf cv))
 |_=>false
noncomputable def uP(K:PF)(C:String):Bool:=match PySem.W.nsIn K mainGlobals (Str.ofString C) with
 |some (some (.ref c))=>eN K c
 |_=>false
noncomputable def xsB(K:PF)(xs:List (String×Bool)):Bool:=xs.all λp=>match p.2 with
 |true=>uP K p.1
 |false=>(cvB K p.1).any λcv=>xs.all λq=>!q.2||xiB K q.1 p.1 cv
theorem Yk{h:Heap}(X:K.In h)(Gh:h.Ns mainGlobals mg){xs:List (String×Bool)}(e:xsB K xs=true)(C:String)(hC:xs.contains (C,true)=true):∃a,mg (Str.ofString C)=some (.ref a)/\eN K a=true/\PySem.W.nsIn K mainGlobals (Str.ofString C)=some (some (.ref a)):=by
 have e1:uP K C=true:=ci.mp e _ (bq.mp hC);unfold uP at e1;split at e1
 ·rename_i a hn;exact ⟨a,PySem.W.mg_of X Gh hn,e1,hn⟩
 ·cases e1
theorem Yl{h:Heap}(X:K.In h)(Gh:h.Ns mainGlobals mg){xs:List (String×Bool)}(e:xsB K xs=true)(C':String)(hC:xs.contains (C',false)=true):∃cv,CV K mg C' cv/\∀C,xs.contains (C,true)=true->XI K C C' cv:=by
 have e1:((cvB K C').any λcv=>xs.all λq=>!q.2||xiB K q.1 C' cv)=true:=ci.mp e _ (bq.mp hC);obtain ⟨cv,hcv,h2⟩:=aO e1;refine ⟨cv,?_,λC hC=>?_⟩
 ·unfold cvB at hcv;split at hcv
  ·rename_i a hn;split at hcv
   ·rename_i hb;cases hcv;exact .inl ⟨a,rfl,PySem.W.mg_of X Gh hn,hb⟩
   ·cases hcv
  ·rename_i hn;split at hcv
   ·rename_i hb;cases hcv;exact .inr ⟨aE.mp hb,rfl,PySem.W.mg_none_of X Gh hn⟩
   ·cases hcv
  ·cases hcv
 ·have e3:(!true||xiB K C C' cv)=true:=ci.mp h2 _ (bq.mp hC);have e3:xiB K C C' cv=true:=e3;unfold xiB at e3;split at e3
  ·rename_i c hn;rw[af,af,aE]at e3;refine ⟨c,hn,e3.1.1,e3.1.2,λhs=>?_⟩;have:=e3.2;rw[hs,Bool.false_or,gE]at this;exact this
  ·cases e3
theorem bse{h:Heap}{fs:List (String×Nat)}{bt:List String}{cn:List (String×D)}(h1:AllF Φ P w K mg base k fs)(h2:AllB mg bt)(h3:AllC K mg cn)(X:K.In h)(Gh:h.Ns mainGlobals mg)(e:xsB K xs=true):Bse Φ P w K mg base (CX1 P w) k fs bt cn xs {}:=
 ⟨λ_ _ m=>(h1.get m).ex,λ_ m=>h2.get m,λ_ _ m=>h3.get m,Yk X Gh e,Yl X Gh e,(λ_ _ _ _ h=>(nomatch h)),(λ_ _ h=>(nomatch h)),(λ_ _ h=>(nomatch h)),(λ_ _ h=>(nomatch h))⟩
theorem Ym{n:Nat}{S:RF.Spec}{fa:Addr}{fd:FuncData}{ps:List Str}(h:∀ds G a,¬S.pre ds G a):FnOk P w K mg base (CX1 P w) k fa fd ps (lift K n S):=
 ⟨λ_ _ _ _ ⟨_,_,_,_,_,_,a,hp,_⟩=>absurd hp (h _ _ a),λ_ _ _ _ _ _ _ _ _ _ _ _ _ ⟨_,_,_,_,_,_,a,hp,_⟩=>absurd hp (h _ _ a)⟩
end
section
variable {Φ:ao} {P:Program} {w:World} {K:PF} {mg:Str->Option Value} {base:Heap} {k j n:Nat} {fs:List (String×Nat)} {bt:List String} {cn:List (String×D)} {xs:List (String×Bool)} {ot:OT} {x:String} {S:RF.Spec} {fa:Addr} {fd:FuncData} {ps:List Str}
theorem MthOk.mono{f C m:String}(h:MthOk Φ P w K mg base (CX1 P w) k f C m n)(hk:k<=j):MthOk Φ P w K mg base (CX1 P w) j f C m n:=by obtain ⟨c,fa,fd,ps,h1,h2,h3,h4,h5⟩:=h;exact ⟨c,fa,fd,ps,h1,h2,h3,h4,h5.mono hk⟩
theorem MkoOk.mono{C:String}(h:MkoOk Φ P w K mg base (CX1 P w) k C n)(hk:k<=j):MkoOk Φ P w K mg base (CX1 P w) j C n:=by obtain ⟨c,fa,fd,ps,sp,i,h0,h⟩:=h;exact ⟨c,fa,fd,ps,sp,i,cw h0 hk,h⟩
theorem XkoX.mono{C f:String}(h:XkoX P w K mg base (CX1 P w) k xs C f)(hk:k<=j):XkoX P w K mg base (CX1 P w) j xs C f:=by obtain ⟨⟨c,fa,fd,ps,i,h0,h⟩,h2⟩:=h;exact ⟨⟨c,fa,fd,ps,i,cw h0 hk,h⟩,h2⟩
theorem Bse.add(B:Bse Φ P w K mg base (CX1 P w) k fs bt cn xs ot)(e:Φ x=S)(o:FnOk P w K mg base (CX1 P w) (k+j) fa fd ps (lift K n S))(h2:PySem.W.keepIn K (.ref fa)=true)(h3:Binds K fd ps [])(h4:mg (Str.ofString x)=some (.ref fa)):Bse Φ P w K mg base (CX1 P w) (k+j) ((x,n)::fs) bt cn xs ot:=by
 refine ⟨λf m hm=>?_,B.blt,B.con,B.xcl,B.xis,λf C m n h=>(B.mth f C m n h).mono (er _ _),λC n h=>(B.mko C n h).mono (er _ _),B.fld,λC f h=>(B.xko C f h).mono (er _ _)⟩;rcases bb.mp hm with e' |hm
 ·cases e';exact ⟨fa,fd,ps,by rw[e];exact o,h2,h3,h4⟩
 ·obtain ⟨fa,fd,ps,h1,h⟩:=B.call f m hm;exact ⟨fa,fd,ps,h1.mono (er _ _),h⟩
theorem Bse.step{qual:Str}{st:Stmt}{N:List Str}{body:Sxs}(B:Bse Φ P w K mg base (CX1 P w) k fs bt cn xs ot)(F:Fun K (Str.ofString x) qual st fa fd)(h3:Binds K fd ps [])(h4:mg (Str.ofString x)=some (.ref fa))(e:Φ x=S)(m:Nat)
  (hs:fnB N ps (aD st)=true) (hc:aL (bx N (aD st) fs bt cn xs ot) body (aY st)=true) (hn:ps.length=n) (hm:N.length=n+m)
  (hw:∀ds G a,ds.length=n->S.pre ds G a->aC Φ body noE (env0 ds m) G (ends (S.post a))):Bse Φ P w K mg base (CX1 P w) (k+1) ((x,n)::fs) bt cn xs ot:=
 B.add e (uK F B S n m hs hc hn hm hw) F.kp h3 h4
def pZ(Φ:ao)(x:String)(S:RF.Spec):ao:=λf=>if f=x then S else Φ f
theorem Bse.self(B:Bse Φ P w K mg base (CX1 P w) k fs bt cn xs {})(hx:(fs.map (·.1)).contains x=false)(o:FnOk P w K mg base (CX1 P w) (k+j) fa fd ps (lift K n S))(h2:PySem.W.keepIn K (.ref fa)=true)(h3:Binds K fd ps [])(h4:mg (Str.ofString x)=some (.ref fa)):Bse (pZ Φ x S) P w K mg base (CX1 P w) (k+j) ((x,n)::fs) bt cn xs {}:=by
 refine ⟨λf m hm=>?_,B.blt,B.con,B.xcl,B.xis,(λ_ _ _ _ h=>(nomatch h)),(λ_ _ h=>(nomatch h)),(λ_ _ h=>(nomatch h)),(λ_ _ h=>(nomatch h))⟩;rcases bb.mp hm with e' |hm'
 ·cases e';exact ⟨fa,fd,ps,by unfold pZ;rw[if_pos rfl];exact o,h2,h3,h4⟩
 ·obtain ⟨fa,fd,ps,h1,h⟩:=B.call f m hm';have hf:f≠x:=by
   rintro rfl;rw[<-Bool.not_eq_true,bq]at hx;exact hx (cy.mpr ⟨(f,m),hm',rfl⟩)
  exact ⟨fa,fd,ps,by unfold pZ;rw[if_neg hf];exact h1.mono (er _ _),h⟩
end
theorem Yn{S:RF.Spec}(hS:∀(ns:List Int)(G:DH),ns.length<=63->∃a,S.pre [.scr ns] G a/\(∀d G',S.post a d G'->d=.bl true)/\∀x G',¬S.exc a x G')(K:PF)(H:Hp)(a:Addr)(ns:List Int)(hl:ns.length<=63)(hO:Only H)(hs:SqL K H a (ns.map V.int)):
  lift K 1 S [.ref a] H (λv _=>v=.bl true) λ_ _ _=>False:=by
 obtain ⟨b,h1,h2,h3⟩:=hS ns (λ_=>none) hl;refine ⟨rfl,λ_=>False,λ_=>none,[.scr ns],⟨λ_ f=>f.elim,λ_ _ e=>by cases e⟩,⟨.ref a,[],rfl,⟨a,rfl,?_⟩,rfl⟩,b,h1,λd G' q H' F' v _ _ rv=>?_,λx G' q=>absurd q (h3 x G')⟩
 ·rcases hs with (h |h) |h
  ·exfalso;rcases hO a with z |⟨o,u,z⟩
   ·rw[z]at h;cases h
   ·rw[z]at h;cases h
  ·exact .inl h
  ·exact .inr h
 ·rw[h2 d G' q]at rv;exact rv
theorem Yo{pre:List D->DH->Prop}(h:∀(ns:List Int)(G:DH),ns.length<=63->pre [.scr ns] G):∀(ns:List Int)(G:DH),ns.length<=63->∃a,(bN pre (λ_ _ d _=>d=.bl true)).pre [.scr ns] G a/\(∀d G',(bN pre (λ_ _ d _=>d=.bl true)).post a d G'->d=.bl true)/\∀x G',¬(bN pre (λ_ _ d _=>d=.bl true)).exc a x G':=
 λns G hl=>⟨([.scr ns],G),⟨rfl,h ns G hl⟩,λ_ _ q=>q,λ_ _ z=>z⟩
def ghS{A:Type}(pre:A->List D->DH->Prop)(post:A->DH->D->DH->Prop):RF.Spec where
 A:=A×DH
 pre:=λds G a=>a.2=G/\pre a.1 ds G
 post:=λa d G'=>post a.1 a.2 d G'
 exc:=λ_ _ _=>False
theorem uQ{A:Type}{pre:A->List D->DH->Prop}{post:A->DH->D->DH->Prop}{ds:List D}{G:DH}{k:D->DH->Prop}{E:EK}(a:A)(h:pre a ds G)(hk:∀d G',post a G d G'->k d G'):(ghS pre post).t ds G k E:=
 ⟨(a,G),⟨rfl,h⟩,hk,λ_ _ z=>z.elim⟩
theorem uR{A:Type}{Φ:ao}{body:Sxs}{m n:Nat}{pre:A->List D->DH->Prop}{post:A->DH->D->DH->Prop}(h:∀a ds G,pre a ds G->aC Φ body noE (env0 ds m) G (ends (post a G))):
  ∀ds G a,ds.length=n->(ghS pre post).pre ds G a->aC Φ body noE (env0 ds m) G (ends ((ghS pre post).post a)):=by
 rintro ds G ⟨a,G0⟩ _ ⟨rfl,h1⟩;exact h a ds _ h1
def j4{A:Type}(args:A->List D)(ok:A->Prop)(val:A->D):RF.Spec:=ghS (λa ds _=>ds=args a/\ok a) (λa G d G'=>G'=G/\d=val a)
theorem Jc{A:Type}{args:A->List D}{ok:A->Prop}{val:A->D}{ds:List D}{G:DH}{k:D->DH->Prop}{E:EK}(a:A)(e:ds=args a)(h:ok a)(hk:k (val a) G):(j4 args ok val).t ds G k E:=
 uQ a ⟨e,h⟩ λd G' ⟨e1,e2⟩=>by subst e1 e2;exact hk
theorem Jd{A:Type}{Φ:ao}{body:Sxs}{m n:Nat}{args:A->List D}{ok:A->Prop}{val:A->D}(h:∀a G,ok a->aC Φ body noE (env0 (args a) m) G (ends λd G'=>G'=G/\d=val a)):
  ∀ds G a,ds.length=n->(j4 args ok val).pre ds G a->aC Φ body noE (env0 ds m) G (ends ((j4 args ok val).post a)):=
 uR λa ds G ⟨e,h1⟩=>by subst e;exact h a G h1
theorem ai{a b:Prop}(x:a)(y:b):a/\b:=⟨x,y⟩
def Jf:=ai @ou (ai @iM (ai @oF (ai @sX (ai @sY (ai @oG (ai @oH (ai @oJ (ai @oK (ai @oM (ai @oN (ai (ai @oO (ai @sZ (ai @tB (ai @tD (ai (ai @tQ (ai @tH (ai @tM @tO))) (ai @tR (ai @tU (ai (ai @sE (ai (ai (ai @sH (ai @sI (ai @sJ @sO))) (ai @nY (ai @sG @sS))) (ai @sU (ai @sV @sW)))) (ai @yS @yU))))))))) (ai @Iz (ai @Jb (ai (ai @nG (ai @mX (ai @mY (ai @mZ (ai @iJ (ai @fX (ai @eZ (ai @m5 (ai @jA (ai @m7 (ai @jB (ai @m8 (ai @m9 (ai @nq (ai @nu (ai @rT (ai @rU (ai @rW (ai @nA (ai @nF (ai @oE (ai @oA (ai @Fl (ai @Fp (ai @Fq (ai @nZ (ai @n6 (ai @n8 (ai @x_at (ai @Fw (ai @Ft @Fv))))))))))))))))))))))))))))))) (ai @fY (ai @rY (ai @nH (ai @rZ (ai @jD (ai @jE (ai @sr (ai @nJ (ai @su (ai @nM (ai @nO (ai @nP (ai (ai @nQ @sy) (ai @nR (ai @nT (ai @nU (ai @nW (ai @cY (ai @oh (ai @Ja (ai @Cq (ai @Cr (ai @Cu (ai @Cv (ai @Cw (ai @Cy (ai (ai @CJ (ai @CG @Cz)) (ai @CK (ai @CN (ai @CP (ai @CQ (ai @CW (ai @CZ (ai @Dc (ai @Dd (ai @De (ai @Df (ai @Dg (ai @Dh (ai @Di (ai @Dj (ai @Dk (ai @Dl (ai @Dm (ai @Dn (ai @Do (ai @Dp (ai @Dq (ai @Ds (ai @Dt (ai @Du (ai @Dv (ai @Dw (ai @Dy (ai @Dz (ai @DK (ai @DN (ai @DP (ai @DQ (ai (ai @DW @DR) (ai @DX (ai @DY (ai @Ea (ai @Eb (ai @Ec (ai @Ed (ai @Ef (ai @Eg (ai @Eh (ai @Ei (ai (ai @Ep (ai @Er @Eo)) (ai (ai @Es (ai (ai @Em (ai @Ek @El)) @Ej)) (ai @Et (ai @Eu (ai @Ew (ai @Ey (ai (ai @Ez (ai @Ff (ai @Fg (ai @Fi (ai @Fj (ai @Gj @Gi)))))) (ai @EY (ai (ai @Fe (ai @Fb @Fd)) (ai @Fx (ai @Fy (ai @Fz (ai @FJ (ai @FN (ai @FP (ai @FQ (ai @FT (ai @FW (ai @Ga (ai @Gb (ai @Gd (ai @Ge (ai @Gf (ai @Gg (ai @Gk (ai @Gm (ai @Gn (ai @Gp (ai @Gq (ai @Gr (ai @Gs (ai @Gu (ai @Gv (ai @Gw (ai @Gx (ai @Gy (ai @Gz (ai @GC (ai @is_tup (ai @GD (ai @GF (ai (ai @GK @GJ) (ai @GP (ai @GQ (@DG)))))))))))))))))))))))))))))))))))))))))))))))))))))))))))))))))))))))))))))))))))))))))))))))))))))))))))))))))))))))))))))))))
theorem Yp:type_of% (ag @jC @iK):=ag @jC @iK
theorem Jg:type_of% (ag @IK (ag @IV (ag @IW (ag @Option.join_some.{0} (ag @dy.{0,0} (ag @gL.{0,0} (ag @List.cons_append.{0} (ag @List.nil_append.{0} (ag @cp.{0} (ag @List.replicate_zero.{0} (ag @List.getElem?_cons_zero.{0} (ag @List.getElem?_cons_succ.{0} (ag @List.set_cons_zero.{0} (ag @List.set_cons_succ.{0} (ag @c6.{0} (ag @List.length_nil.{0} (ag @Ca (ag @Cd (ag @Ce (ag @Cg (ag @Ci (ag @Cj (ag @Ck (ag @true_and (ag @and_true (ag @Nat.min_self (ag @Nat.zero_min (ag @Nat.min_zero (ag @fS (ag @Bool.or_false (ag @Bool.or_true (ag @Bool.false_or (ag @Bool.true_or (ag @Bool.not_true (ag @Bool.not_false (ag @GR (ag @GX (ag @GZ (ag @Ha (ag @Hb (ag @Hc (ag @Hf (ag @Hg (ag @Hh (ag @Hi (ag @Hj (ag @Hk (ag @Hl (ag @Hm (ag @Hn (ag @Ho (ag @Hq (ag @Hr (ag @Hs (ag @Ht (ag @Hu (ag @Hv (ag @Hw (ag @Hx (ag @Hy (ag @Hz (ag @HB (ag @HF (ag @HH (ag @HJ (ag @HN (ag @HQ (ag @HR (ag @HS (ag @HW (ag @HX (ag @HY (ag @H9 (ag @Ia (ag @Ib (ag @Ie (ag @Ig (ag @Ih (ag @Ii (ag @Ij (ag @Ik (ag @Il (ag @Im (ag @Io (ag @Ip (ag @Ir (ag @Iu (ag @Iv (@Iw))))))))))))))))))))))))))))))))))))))))))))))))))))))))))))))))))))))))))))))))))))))))):=ag @IK (ag @IV (ag @IW (ag @Option.join_some.{0} (ag @dy.{0,0} (ag @gL.{0,0} (ag @List.cons_append.{0} (ag @List.nil_append.{0} (ag @cp.{0} (ag @List.replicate_zero.{0} (ag @List.getElem?_cons_zero.{0} (ag @List.getElem?_cons_succ.{0} (ag @List.set_cons_zero.{0} (ag @List.set_cons_succ.{0} (ag @c6.{0} (ag @List.length_nil.{0} (ag @Ca (ag @Cd (ag @Ce (ag @Cg (ag @Ci (ag @Cj (ag @Ck (ag @true_and (ag @and_true (ag @Nat.min_self (ag @Nat.zero_min (ag @Nat.min_zero (ag @fS (ag @Bool.or_false (ag @Bool.or_true (ag @Bool.false_or (ag @Bool.true_or (ag @Bool.not_true (ag @Bool.not_false (ag @GR (ag @GX (ag @GZ (ag @Ha (ag @Hb (ag @Hc (ag @Hf (ag @Hg (ag @Hh (ag @Hi (ag @Hj (ag @Hk (ag @Hl (ag @Hm (ag @Hn (ag @Ho (ag @Hq (ag @Hr (ag @Hs (ag @Ht (ag @Hu (ag @Hv (ag @Hw (ag @Hx (ag @Hy (ag @Hz (ag @HB (ag @HF (ag @HH (ag @HJ (ag @HN (ag @HQ (ag @HR (ag @HS (ag @HW (ag @HX (ag @HY (ag @H9 (ag @Ia (ag @Ib (ag @Ie (ag @Ig (ag @Ih (ag @Ii (ag @Ij (ag @Ik (ag @Il (ag @Im (ag @Io (ag @Ip (ag @Ir (ag @Iu (ag @Iv (@Iw))))))))))))))))))))))))))))))))))))))))))))))))))))))))))))))))))))))))))))))))))))))))
section
local macro_rules|`(#[])=>`(.nil)|`(#[$x])=>`(.cons $x .nil)|`(#[$x,$y,*])=>`(.cons $x #[$y,*])
local macro_rules|`(-$x)=>`(.var $x)
local macro_rules|`(¬$x)=>`(.cst (.int $x))
local macro_rules|`(!$x)=>`(.cst (.str $x))
local macro_rules|`($x<|$y)=>`(.call $x $y)
def uT:Sxs:=#[.set (-0) (¬2) (¬0),.ret (-0)]
noncomputable def uU:Sxs:=#[.asg (.nm 1) (.lcl false .list #[.slc true (-0) .no (.ob (¬12))]),.for_ (.tp #[.nm 2,.nm 3]) (.enm (.slc true (-0) (.ob (¬12)) (.ob (¬63)))) #[.set (-1) (.bin .Mod true (-2) (¬12)) (.bin .Add true (.idx (-1) (.bin .Mod true (-2) (¬12))) (-3))],.ret (.lst false #[.frz (-1),¬0,¬0])]
noncomputable def uV:Sxs:=#[.ite (.val (.cmp .GtE (-0) (.bin .Pow true (¬10) (¬18)))) #[.ret (-0)] #[],.asg (.nm 2) (.bin .Mod true (.bin .Add true (.bin .Add true (.bin .Mult true (.bin .Mod true (-0) (¬1000000007)) (¬69069)) (.bin .Mult true (-1) (¬40503))) (¬977)) (¬2147483629)),.asg (.nm 3) (.bin .Mod true (.bin .Add true (.bin .Add true (.bin .Mult true (-2) (-2)) (.bin .Mult true (-1) (¬7919))) (.bin .Mod true (-0) (¬65537))) (¬2147483587)),.asg (.nm 4) (.bin .Mod true (.bin .Add true (.bin .Add true (.bin .Mult true (-3) (-3)) (.bin .Mult true (-2) (¬31))) (¬5)) (¬2147483563)),.ret (.bin .Add true (.bin .Mult true (.bin .Add true (.bin .Mult true (-2) (¬2147483659)) (-3)) (¬2147483693)) (-4))]
noncomputable def uW:Sxs:=#[.ite (.val (.cmp .Lt (.idx (-0) (¬2)) (-1))) #[.asg (.nm 2) (.idx (-0) (¬1)),.asg (.nm 3) (¬0),.ite (.val (.cmp .Lt (-2) (.bcl .len #[.idx (-0) (¬0)]))) #[.asg (.nm 3) (.idx (.idx (-0) (¬0)) (-2))] #[.ite (.val (.cmp .Gt (.bcl .len #[.idx (-0) (¬0)]) (¬0))) #[.asg (.nm 3) (.bin .Mod true (.idx (.idx (-0) (¬0)) (.bin .Mod true (.bin .Add true (.bin .Mult true (-2) (¬5)) (¬3)) (.bcl .len #[.idx (-0) (¬0)]))) (.bin .Add true (.bin .Pow true (¬10) (¬17)) (-2)))] #[]],.set (-0) (¬1) (.bin .Add true (-2) (¬1)),.set (-0) (¬2) ("_law_spread"<|#[-3,-2])] #[],.asg (.nm 4) (.bin .Mod true (.idx (-0) (¬2)) (-1)),.set (-0) (¬2) (.bin .FloorDiv true (.idx (-0) (¬2)) (-1)),.ret (-4)]
noncomputable def uX:Sxs:=#[.ret (.mth .join (![]) #[.comp true (.idx (-1) ("_law_take"<|#[-2,.bcl .len #[-1]])) (.nm 0) (.rng (-1)) .yes ["at","signs","pen"] [none,some 2,some 0]])]
noncomputable def uY:Sxs:=#[.ret ("_law_signs"<|#[-0,-1,.idx (.lst true #[![48,49,42],![48,49,42,42],![48,49,42,42,42,42],![48,42],![48,49]]) ("_law_take"<|#[-0,¬5])])]
noncomputable def uZ:Sxs:=#[.asg (.nm 2) (![]),.for_ (.nm 3) (.seq (-1)) #[.ite (.val (.cmp .Eq ("_law_take"<|#[-0,¬3]) (¬0))) #[.asg (.nm 3) (![42])] #[],.asg (.nm 2) (.bin .Add true (-2) (-3))],.ret (-2)]
noncomputable def u5:Sxs:=#[.asg (.nm 2) (![]),.for_ (.nm 3) (.seq (-1)) #[.ite (.boo true (.val (.cmp .Eq (-3) (![42]))) #[.val (.cmp .Eq ("_law_take"<|#[-0,¬2]) (¬0))]) #[.asg (.nm 3) (.idx (![48,49]) ("_law_take"<|#[-0,¬2]))] #[],.asg (.nm 2) (.bin .Add true (-2) (-3))],.ret (-2)]
noncomputable def u6:Sxs:=#[.asg (.nm 3) ("_law_take"<|#[-0,¬7]),.ite (.boo false (.val (.cmp .Eq (-2) (.lst true #[]))) #[.val (.cmp .Lt (-3) (¬2))]) #[.ret ("_law_form"<|#[-0,-1])] #[],.asg (.nm 4) (.idx (-2) ("_law_take"<|#[-0,.bcl .len #[-2]])),.ite (.val (.cmp .Eq (-3) (¬2))) #[.ret (-4)] #[],.ite (.val (.cmp .Lt (-3) (¬5))) #[.asg (.nm 5) ("_law_take"<|#[-0,-1]),.ret (.bin .Add true (.bin .Add true (.slc true (-4) .no (.ob (-5))) (.idx (![48,49,42]) ("_law_take"<|#[-0,¬3]))) (.slc true (-4) (.ob (.bin .Add true (-5) (¬1))) .no))] #[],.ite (.val (.cmp .Eq (-3) (¬5))) #[.ret ("_law_within"<|#[-0,-4])] #[],.ret ("_law_wider"<|#[-0,-4])]
noncomputable def u9:Sxs:=#[.asg (.nm 2) (.bin .Add true (¬1) ("_law_take"<|#[-0,-1])),.asg (.nm 3) ("_law_form"<|#[-0,-2]),.ret (.tup #[-3,"_law_form_like"<|#[-0,-2,.lst true #[-3]]])]
noncomputable def vd:Sxs:=#[.asg (.nm 1) (![]),.for_ (.nm 2) (.rng (.bcl .len #[.idx (-0) (¬0)])) #[.asg (.nm 3) (.srs true (.comp true (.idx (-0) (-1)) (.nm 0) (.seq (-0)) .yes ["word","at"] [none,some 2])),.asg (.nm 1) (.bin .Add true (-1) (.idx (.lst true #[![42],.idx (-3) (¬0)]) (.bcl .int #[.cmp .Eq (.bcl .len #[-3]) (¬1)])))],.ret (-1)]
noncomputable def vf:Sxs:=#[.asg (.nm 1) (¬1),.for_ (.nm 2) (.seq (-0)) #[.asg (.nm 1) (.bin .Mult true (-1) (.bin .Add true (¬1) (.bcl .int #[.cmp .Eq (-2) (![42])])))],.ret (-1)]
noncomputable def dI:Sxs:=#[.ite (.val (.cmp .Is (-1) (.cst .non))) #[.ret (.cmp .Is (-0) (.cst .non))] #[],.ite (.boo false (.val (.isi (-1) "bool")) #[.val (.isi (-0) "bool")]) #[.ret (.boo true (.isi (-1) "bool") #[.isi (-0) "bool",.cmp .Eq (-0) (-1)])] #[],.ite (.val (.isi (-1) "int")) #[.ret (.boo true (.isi (-0) "int") #[.cmp .Eq (-0) (-1)])] #[],.ite (.val (.isi (-1) "str")) #[.ret (.boo true (.isi (-0) "str") #[.cmp .Eq (-0) (-1)])] #[],.ite (.boo false (.val (.cmp .NotEq (.isi (-1) "tuple") (.isi (-0) "tuple"))) #[.val (.cmp .NotEq (.isi (-1) "list") (.isi (-0) "list"))]) #[.ret (.cst (.bl false))] #[],.ite (.val (.cmp .NotEq (.bcl .len #[-0]) (.bcl .len #[-1]))) #[.ret (.cst (.bl false))] #[],.ret (.cmp .NotIn (.cst (.bl false)) (.comp true ("_law_same"<|#[-0,-1]) (.tp #[.nm 0,.nm 1]) (.zip (-0) (-1)) .yes ["one","other"] [none,none]))]
noncomputable def vg:Sxs:=#[.asg (.nm 1) (.lst true #[![]]),.for_ (.nm 2) (.seq (-0)) #[.asg (.nm 3) (.lst false #[]),.for_ (.nm 4) (.seq (-1)) #[.exp (.mth .extend (-3) #[.comp true (.bin .Add true (-1) (-0)) (.nm 0) (.seq (.idx (.lst true #[![48,49],-2]) (.bcl .int #[.cmp .NotEq (-2) (![42])]))) .yes ["one","text"] [none,some 4]])],.asg (.nm 1) (.frz (-3))],.ret (-1)]
noncomputable def j5:Sxs:=#[.ite (.val (.cmp .NotEq (.bcl .len #[-0]) (.bcl .len #[-1]))) #[.ret (.cst (.bl false))] #[],.ret (.bcl .all #[.comp true (.boo false (.cmp .Eq (-0) (![42])) #[.cmp .Eq (-0) (-1)]) (.tp #[.nm 0,.nm 1]) (.zip (-0) (-1)) .yes ["sign","given"] [none,none]])]
def j6:Sxs:=#[.ret ("fits"<|#[-1,-0])]
noncomputable def j7:Sxs:=#[.ret (.bin .Add true (.bin .Add true (.slc true (-0) .no (.ob (-1))) (-2)) (.slc true (-0) (.ob (.bin .Add true (-1) (¬1))) .no))]
noncomputable def j8:Sxs:=#[.ite (.val ("lies_in"<|#[-0,-1])) #[.ret (-1)] #[],.ite (.val ("lies_in"<|#[-1,-0])) #[.ret (-0)] #[],.asg (.nm 2) (.comp true (-0) (.tp #[.nm 0,.nm 1]) (.enm (-0)) (.val (.cmp .NotEq (-1) (.idx (-2) (-0)))) ["at","sign","other"] [none,none,some 1]),.ite (.val (.cmp .Eq (.bcl .len #[-2]) (¬1))) #[.ret ("with_sign"<|#[-0,.idx (-2) (¬0),![42]])] #[],.ret (.cst .non)]
noncomputable def vh:Sxs:=#[.asg (.nm 2) (.srs true (.bin .Add true ("_law_words"<|#[-0]) ("_law_words"<|#[-1]))),.asg (.nm 3) ("_law_form_of"<|#[-2]),.ite (.val (.cmp .Gt ("_law_many_words"<|#[-3]) (.bcl .len #[-2]))) #[.asg (.nm 3) (.cst .non)] #[],.ret ("_law_same"<|#["joined"<|#[-0,-1],-3])]
noncomputable def vm:Sxs:=#[.asg (.nm 1) ("_law_open"<|#[-0]),.for_ (.nm 2) (.rng (¬12)) #[.asg (.tp #[.nm 3,.nm 4]) ("_law_pair"<|#["_law_anew"<|#[-1],¬6]),.ite (.boo false (.not (.val ("_law_right"<|#[-3,-4]))) #[.not (.val ("_law_right"<|#[-4,-3])),.not (.val ("_law_right"<|#[-3,-3]))]) #[.ret (.cst (.bl false))] #[],.asg (.nm 5) ("_law_take"<|#[-1,.bcl .len #[-3]]),.asg (.nm 6) (.comp true (.bin .Add true (.bin .Add true (.slc true (-1) .no (.ob (-2))) (-0)) (.slc true (-1) (.ob (.bin .Add true (-2) (¬1))) .no)) (.nm 0) (.seq (![48,49])) .yes ["sign","form","at"] [none,some 3,some 5]),.ite (.boo false (.not (.val ("_law_right"<|#[.idx (-6) (¬0),.idx (-6) (¬1)]))) #[.not (.val ("_law_right"<|#[.idx (-6) (¬1),.idx (-6) (¬0)]))]) #[.ret (.cst (.bl false))] #[]],.ret (.cst (.bl true))]
end
end RF
local macro_rules | `(tactic| simp_arith [$l,*] $[$c:location]?) => `(tactic| simp -implicitDefEqProofs only [↓RF.Yp, ↓RF.Jf, RF.Jg, RF.env0, RF.ends, String.reduceBEq, $l,*] $[$c:location]?)
local macro_rules | `(tactic| simp_arith! [$l,*] $[$c:location]?) => `(tactic| simp -implicitDefEqProofs only [↓RF.Jf, RF.Jg, RF.env0, RF.ends, String.reduceBEq, $l,*] $[$c:location]?)
local macro_rules | `(tactic| simp_all_arith [$l,*]) => `(tactic| simp -implicitDefEqProofs only [RF.env0, RF.ends, List.map_cons, List.map_nil, List.cons_append, List.nil_append, List.replicate_succ, List.replicate_zero, $l,*])
namespace RF
open PySem L2
theorem fH{i j:Int}(h:-(2 ^ 64) < j/\j < 2 ^ 64):CMul i j:=.inr h
theorem Jh{i j:Int}(h:-(2 ^ 64) < i/\i < 2 ^ 64):CMul i j:=.inl h
theorem Ji{j:Int}(h:0<=j/\j<=1000):lW 10 j:=⟨h.1,by omega,by decide⟩
def p6:RF.Spec:=bN (λds _=>∃c k:Int,ds=[.int c,.int k]/\0<=k) (λ_ G d G'=>G'=G/\∃r:Int,d=.int r/\0<=r)
theorem Yq(Φ:ao)(ds:List D)(G:DH)(h:∃c k:Int,ds=[.int c,.int k]/\0<=k):aC Φ uV noE (env0 ds 3) G (ends λd G'=>G'=G/\∃r:Int,d=.int r/\0<=r):=by
 obtain ⟨c,k,rfl,hk⟩:=h;simp_arith[uV];refine ⟨Ji (by decide),?_⟩;cases hc:decide (10 ^ Int.toNat 18<=c) with
 |true=>
  refine ⟨c,rfl,?_⟩;have:=of_decide_eq_true hc;have h2:(0:Int)<=(10:Int) ^ (18:Int).toNat:=by decide
  exact Int.le_trans h2 this
 |false=>
  generalize hone:(c % 1000000007 * 69069+k * 40503+977) % 2147483629=one;have o1:0<=one:=by rw[<-hone];exact g9 _ (by decide)
  have o2:one < 2147483629:=by rw[<-hone];exact hJ _ (by decide)
  generalize htwo:(one * one+k * 7919+c % 65537) % 2147483587=two;have t1:0<=two:=by rw[<-htwo];exact g9 _ (by decide)
  have t2:two < 2147483587:=by rw[<-htwo];exact hJ _ (by decide)
  generalize hthree:(two * two+one * 31+5) % 2147483563=three;have h1:0<=three:=by rw[<-hthree];exact g9 _ (by decide)
  clear hone htwo hthree;refine ⟨by decide,fH (by decide),fH (by decide),by decide,Jh (by omega),fH (by decide),by decide,by decide,Jh (by omega),fH (by decide),by decide,fH (by decide),fH (by decide),_,rfl,?_⟩;omega
def Pen(G:DH)(p:Addr):Prop:=∃(ns:List Int)(k st:Int),G p=some (.lst [.lst (ns.map D.int),.int k,.int st])/\0<=k/\0<=st
theorem Pen.sa{G G':DH}{p:Addr}(h:Pen G p)(s:Sa G G'):Pen G' p:=by obtain ⟨ns,k,st,e,h1⟩:=h;exact ⟨ns,k,st,s _ _ e,h1⟩
def p7:RF.Spec:=bN (λds G=>∃p,ds=[.ref p]/\Pen G p) (λds G d G'=>∃p,ds=[.ref p]/\d=.ref p/\Pen G' p/\Sb p G G')
theorem Yr(Φ:ao)(ds:List D)(G:DH)(h:∃p,ds=[.ref p]/\Pen G p):aC Φ uT noE (env0 ds 0) G (ends λd G'=>∃p,ds=[.ref p]/\d=.ref p/\Pen G' p/\Sb p G G'):=by obtain ⟨p,rfl,ns,k,st,e,h1,h2⟩:=h;simp_arith[uT,fG e];exact ⟨p,rfl,rfl,⟨ns,k,0,cH,h1,by decide⟩,Sb.upd⟩
def d8:RF.Spec:=bN (λds G=>∃p,∃m:Int,ds=[.ref p,.int m]/\Pen G p/\0 < m/\m < 1152921504606846976) (λds G d G'=>∃p,∃m r:Int,ds=[.ref p,.int m]/\d=.int r/\0<=r/\r < m/\Pen G' p/\Sb p G G')
theorem Ys (Φ:ao) (hΦ:Φ "_law_spread"=p6) (ds:List D) (G:DH) (h:∃p,∃m:Int,ds=[.ref p,.int m]/\Pen G p/\0 < m/\m < 1152921504606846976):
  aC Φ uW noE (env0 ds 3) G (ends λd G'=>∃p,∃m r:Int,ds=[.ref p,.int m]/\d=.int r/\0<=r/\r < m/\Pen G' p/\Sb p G G'):=by
 obtain ⟨p,m,rfl,⟨ns,k,st,e,h1,h2⟩,h3,h4⟩:=h;simp_all_arith[uW];refine seq λM hM=>?_;have fin:∀(ρ2 ρ3 ρ4:Option D)(G1:DH)(k1 s1:Int),0<=k1->0<=s1->G1 p=some (.lst [.lst (ns.map D.int),.int k1,.int s1])->Sb p G G1->M [some (.ref p),some (.int m),ρ2,ρ3,ρ4] G1:=by intro ρ2 ρ3 ρ4 G1 k1 s1 q1 q2 e1 sb;refine hM _ _ ?_;simp_arith[cT e1,fG e1];refine ⟨h3,⟨h3,h4⟩,p,m,_,rfl,rfl,g9 _ (by omega),hJ _ h3,⟨ns,k1,_,cH,q1,?_⟩,sb.trans Sb.upd⟩;exact Int.ediv_nonneg q2 (by omega)
 simp_arith[cT e,fG e,hΦ];have draw:∀c:Int,p6.t [.int c,.int k] (bf G p (.lst [.lst (ns.map D.int),.int (k+1),.int st])) (λx G1=>trk G1 p λds=>aX (ixN ds.length 2) λj=>M [some (.ref p),some (.int m),some (.int k),some (.int c),none] (bf G1 p (.lst (ds.set j x)))) noE:=by intro c;refine cI ⟨c,k,rfl,h1⟩ λd G' hx=>?_;obtain ⟨e1,r,e2,hr⟩:=hx;subst e1 e2;simp_arith[fG cH];refine fin _ _ _ _ (k+1) r (by omega) hr cH (Sb.trans Sb.upd Sb.upd)
 cases hc:decide (st < m) with
 |false=>exact fin _ _ _ _ k st h1 h2 e (Sb.refl _ _)
 |true=>
  cases hk:decide (k < ((ns.map D.int).length:Int)) with
  |true=>
   have hk:=of_decide_eq_true hk;rw[ax]at hk;refine dH (a:=.int ns[k.toNat]) ?_ ?_
   ·obtain ⟨n,rfl⟩:=dr h1;exact cU (by simp at hk ⊢)
   ·exact draw _
  |false=>
   cases hz:decide (0 < ((ns.map D.int).length:Int)) with
   |false=>exact draw 0
   |true=>
    have hz:=of_decide_eq_true hz;have j1:0<=(k * 5+3) % ((ns.map D.int).length:Int):=g9 _ (by omega);have j2:(k * 5+3) % ((ns.map D.int).length:Int) < ((ns.map D.int).length:Int):=hJ _ hz;obtain ⟨j,hj⟩:=dr j1;rw[hj]at j2;have j3:j < ns.length:=by rw[ax]at j2;omega
    refine ⟨fH (by decide),hz,dH (a:=.int ns[j]) ?_ ⟨Ji (by decide),?_⟩⟩
    ·rw[hj];exact cU (by simp[j3])
    ·simp_arith[fG e];refine ⟨?_,draw _⟩;have:(0:Int) < 10 ^ Int.toNat 17:=by decide
     omega
def vo:RF.Spec:=bN (λds G=>∃p,∃n:Nat,∃cs:List Nat,ds=[.ref p,.int n,.str cs]/\Pen G p/\n<=1000/\cs≠[]/\cs.length<=1000)
 (λds G d G'=>∃p,∃n:Nat,∃cs l:List Nat,ds=[.ref p,.int n,.str cs]/\d=.str l/\l.length=n/\(∀c∈l,c∈cs)/\Pen G' p/\Sb p G G')
theorem Yt(l:List Nat):((l.map λc=>[c]).map (·.length)).sum=l.length:=by
 induction l with
 |nil=>rfl
 |cons a l ih=>simp at ih ⊢;omega
theorem Yu(l:List Nat):(l.map λc=>[c]).flatten=l:=by
 induction l with
 |nil=>rfl
 |cons a l ih=>simp at ih ⊢;exact ih
theorem Yv (Φ:ao) (hΦ:Φ "_law_take"=d8) (ds:List D) (G:DH) (h:∃p,∃n:Nat,∃cs:List Nat,ds=[.ref p,.int n,.str cs]/\Pen G p/\n<=1000/\cs≠[]/\cs.length<=1000):
  aC Φ uX noE (env0 ds 0) G (ends λd G'=>∃p,∃n:Nat,∃cs l:List Nat,ds=[.ref p,.int n,.str cs]/\d=.str l/\l.length=n/\(∀c∈l,c∈cs)/\Pen G' p/\Sb p G G'):=by
 obtain ⟨p,n,cs,rfl,hp,hn,hc,hl⟩:=h;have hc1:0 < cs.length:=List.length_pos_iff.mpr hc;simp_arith[uX,hΦ];refine ⟨by omega,CompG.inv (P:=λi acc ρ G'=>(∃o,ρ=[o,some (.str cs),some (.ref p)])/\Pen G' p/\Sb p G G'/\∃l:List Nat,acc=l.map (λc=>D.str [c])/\l.length=i/\∀c∈l,c∈cs) (h0:=⟨⟨_,rfl⟩,hp,Sb.refl _ _,[],rfl,rfl,by simp⟩) (hh:=λ_ _ _ _ _=>trivial) (hl:=by simp[bY];have hsz:sz=1000000:=rfl;omega) (hs:=?_) (he:=?_)⟩
 ·rintro i d acc ρ G' hd ⟨⟨o,rfl⟩,hp',sb,l,rfl,hl',hm⟩ kk hk;simp_arith[hΦ];refine cI ⟨p,_,rfl,hp',by omega,by omega⟩ λd' G2 hx=>?_;obtain ⟨p2,m2,r,e1,e2,r0,r1,pp2,sb2⟩:=hx;cases e1;subst e2;obtain ⟨j,rfl⟩:=dr r0;have hj:j < cs.length:=by omega
  simp_arith[ends];refine dH (a:=cs[j]) (cU (by simp[hj])) (hk _ _ _ ⟨⟨_,rfl⟩,pp2,sb.trans sb2,l++[cs[j]],by simp,by simp[hl'],?_⟩);intro c hc;rcases cf.mp hc with h |h
  ·exact hm c h
  ·rw[a8.mp h];exact List.getElem_mem _
 ·rintro acc ρ G' ⟨_,hp',sb,l,rfl,hl',hm⟩;simp_arith[strs_map];have hl2:l.length=n:=by rw[hl'];simp[bY]
  refine ⟨?_,p,n,cs,l,rfl,?_,hl2,hm,hp',sb⟩
  ·rw[Yt];simp;have hsz:sz=1000000:=rfl;omega
  ·rw[BZ,Yu]
def isF(c:Nat):Prop:=c=48\/c=49\/c=42
def j9:RF.Spec:=bN (λds G=>∃p,∃n:Nat,ds=[.ref p,.int n]/\Pen G p/\n<=1000) (λds G d G'=>∃p,∃n:Nat,∃l:List Nat,ds=[.ref p,.int n]/\d=.str l/\l.length=n/\(∀c∈l,isF c)/\Pen G' p/\Sb p G G')
theorem Yw (Φ:ao) (h1:Φ "_law_take"=d8) (h2:Φ "_law_signs"=vo) (ds:List D) (G:DH) (h:∃p,∃n:Nat,ds=[.ref p,.int n]/\Pen G p/\n<=1000):
  aC Φ uY noE (env0 ds 0) G (ends λd G'=>∃p,∃n:Nat,∃l:List Nat,ds=[.ref p,.int n]/\d=.str l/\l.length=n/\(∀c∈l,isF c)/\Pen G' p/\Sb p G G'):=by
 obtain ⟨p,n,rfl,hp,hn⟩:=h;simp_arith[uY,h1,h2];refine ⟨by decide,cI ⟨p,_,rfl,hp,by decide,by decide⟩ λd' G2 ⟨p2,m2,r,e1,e2,r0,r1,pp2,sb2⟩=>?_⟩;cases e1;subst e2;obtain ⟨j,rfl⟩:=dr r0;simp_arith[ends];have:∃cs:List Nat,atI [D.str [48,49,42],D.str [48,49,42,42],D.str [48,49,42,42,42,42],D.str [48,42],D.str [48,49]] ((j:Nat):Int)=some (.str cs)/\cs≠[]/\cs.length<=1000/\∀c∈cs,isF c:=by
  have hj:j=0\/j=1\/j=2\/j=3\/j=4:=by omega
  rcases hj with rfl |rfl |rfl |rfl |rfl <;> exact ⟨_,rfl,by decide,by decide,by simp[isF]⟩
 obtain ⟨cs,e,c1,c2,c3⟩:=this;refine dH e (cI ⟨p,n,cs,rfl,pp2,hn,c1,c2⟩ λd G3 ⟨p3,n3,cs3,l,e1,e2,q1,q2,q3,q4⟩=>?_);cases e1;exact ⟨p,n,l,rfl,e2,q1,λc hc=>c3 c (q2 c hc),q3,sb2.trans q4⟩
def vp:RF.Spec:=bN (λds _=>∃ns:List Int,ds=[.scr ns]/\ns.length<=63) (λ_ G d G'=>∃p,d=.ref p/\G p=none/\Pen G' p/\Sa G G')
theorem Yx(Φ:ao)(ds:List D)(G:DH)(h:∃ns:List Int,ds=[.scr ns]/\ns.length<=63):aC Φ uU noE (env0 ds 3) G (ends λd G'=>∃p,d=.ref p/\G p=none/\Pen G' p/\Sa G G'):=by
 obtain ⟨ns,rfl,hl⟩:=h;simp_all_arith[uU];refine seq λM hM=>?_;simp_arith[ends];intro c hc;refine hM _ _ ?_;refine seq λM hM=>?_;simp_arith[ends];refine ForG.inv (λi ρ G'=>∃(o2 o3:Option D)(xs:List Int),ρ=[some (.scr ns),some (.ref c),o2,o3]/\G'=bf G c (.lst (xs.map D.int))/\(12<=xs.length\/cut ns (some 12) (some 63)=[])) ⟨_,_,cut ns none (some 12),rfl,rfl,?_⟩ (λ_ _ _ _=>trivial) ?_ ?_
 ·by_cases h12:12<=ns.length
  ·left;simp[cut,HT.sIx];omega
  ·right;simp[cut,HT.sIx];omega
 ·rintro i d ρ G' hd ⟨o2,o3,xs,rfl,rfl,hx⟩ kk hk;rw[jX]at hd;obtain ⟨d',hd',e3⟩:=bS.mp hd;subst e3;rw[ce]at hd';obtain ⟨x,hx',e4⟩:=bS.mp hd';subst e4;have h12:12<=xs.length:=by
   rcases hx with h |h
   ·exact h
   ·rw[h]at hx';simp at hx'
  obtain ⟨j,hj⟩:=dr (g9 ((0+i:Nat):Int) (by decide:(12:Int)≠0));have hj12:j < 12:=by have:=hJ ((0+i:Nat):Int) (by decide:(0:Int) < 12);omega
  have hjx:j < xs.length:=by omega
  simp_arith[hj,cT cH,fG cH];refine ⟨by decide,dH (a:=.int xs[j]) (cU (by simp[hjx])) ?_⟩;simp_arith[hj,cT cH,fG cH,ax,Yg hjx];refine ⟨by decide,hk _ _ ⟨_,_,xs.set j (xs[j]+x),rfl,?_,by simp[h12]⟩⟩;rw[Tv,List.map_set]
 ·rintro ρ G' ⟨o2,o3,xs,rfl,rfl,hx⟩;refine hM _ _ ?_;simp_arith[cH];refine ⟨by have hsz:sz=1000000:=rfl;omega,λp hp=>⟨p,rfl,?_,⟨xs,0,0,cH,by decide,by decide⟩,?_⟩⟩
  ·rw[yI hc]at hp;exact hp
  ·rw[yI hc]at hp ⊢;exact Sa.new hp
def kh:RF.Spec:=bN (λds _=>∃ns:List Int,ds=[.scr ns]/\ns.length<=63) (λ_ _ d _=>d=.bl true)
mutual
/-- no list within that is too long -/
noncomputable def gR:D->Bool
 |.tup l=>decide (l.length<=100000)&&jh l
 |.lst l=>decide (l.length<=100000)&&jh l
 |_=>true
noncomputable def jh:List D->Bool
 |[]=>true
 |a::as=>gR a&&jh as
end
theorem Jj:∀{l:List D}{d:D},nrs l=true->d∈l->nr d=true
 |a::as,d,h,m=>by
  rw[nrs,af]at h;rcases bb.mp m with e |m
  ·rw[e];exact h.1
  ·exact Jj h.2 m
theorem Jl:∀{l:List D}{d:D},jh l=true->d∈l->gR d=true
 |a::as,d,h,m=>by
  rw[jh,af]at h;rcases bb.mp m with e |m
  ·rw[e];exact h.1
  ·exact Jl h.2 m
theorem Jm:∀{l:List D}{d:D},d∈l->dpt d<=aR l
 |a::as,d,m=>by
  rw[aR];rcases bb.mp m with e |m
  ·rw[e];exact Nat.le_max_left _ _
  ·exact cw (Jm m) (Nat.le_max_right _ _)
theorem kj{n:Nat}:isIn (.bl false) (List.replicate n (.bl true))=false:=by
 induction n with
 |zero=>rfl
 |succ n ih=>simp only[isIn,cp,List.any_cons,deq]at ih ⊢;rw[ih];rfl
theorem km{n:Nat}{b:Bool}:nrs (List.replicate n (.bl b))=true:=by
 induction n with
 |zero=>rfl
 |succ n ih=>rw[cp,nrs,ih];rfl
theorem kE{n:Nat}{b:Bool}:aR (List.replicate n (.bl b))=0:=by
 induction n with
 |zero=>rfl
 |succ n ih=>rw[cp,aR,ih];rfl
theorem Yy:∀(l:List D)(i:Nat)(d:D),(bA l l)[i]?=some d->∃a,a∈l/\d=.tup [a,a]
 |l,i,d,h=>by
  obtain ⟨a,b,h1,h2,rfl⟩:=uF l l i d h;rw[h1]at h2;cases h2;exact ⟨a,bv h1,rfl⟩
def Jo(n:Nat)(ds:List D)(G:DH):Prop:=∃x y v,ds=[x,y]/\view G x=v/\view G y=v/\nr v=true/\dpt v < n/\gR v=true
def dh(n:Nat):RF.Spec:=bN (Jo n) (λ_ G d G'=>G'=G/\d=.bl true)
theorem Yz{n:Nat}{x y v:D}{G:DH}{k:D->DH->Prop}{E:EK}(hx:view G x=v)(hy:view G y=v)(h1:nr v=true)(h2:dpt v < n)(h3:gR v=true)(hk:k (.bl true) G):(dh n).t [x,y] G k E:=
 cI ⟨x,y,v,rfl,hx,hy,h1,h2,h3⟩ λd G' ⟨e1,e2⟩=>by subst e1 e2;exact hk
theorem Jp{x:D}{G:DH}(h1:nr x=true):view G x=x:=by cases x <;> first |rfl | (simp[nr]at h1)
theorem Jq{n:Nat}{x:D}{G:DH}{k:D->DH->Prop}{E:EK}(h1:nr x=true)(h2:dpt x < n)(h3:gR x=true)(hk:k (.bl true) G):(dh n).t [x,x] G k E:=
 Yz (Jp h1) (Jp h1) h1 h2 h3 hk
theorem kI (Φ:ao) (n:Nat) (h1:Φ "_law_same"=dh n) {l:List D} {G:DH} {g:Hld} {k:List D->DH->Prop} (hg:held g G) (hn:nrs l=true) (hd:aR l < n) (hs:jh l=true) (hl:l.length<=100000)
  (he:k (List.replicate (bA l l).length (.bl true)) G):
  CompG Φ (Ex.call "_law_same" (Exs.cons (Ex.var 0) (Exs.cons (Ex.var 1) Exs.nil))) (Tg.tp (Tgs.cons (Tg.nm 0) (Tgs.cons (Tg.nm 1) Tgs.nil))) Tx.yes (bA l l) g [none,none] G k:=by
 refine CompG.inv (P:=λi acc ρ G'=>(∃o1 o2,ρ=[o1,o2])/\G'=G/\acc=List.replicate i (.bl true)) ⟨⟨_,_,rfl⟩,rfl,rfl⟩ (λ_ _ _ _ p=>by rw[p.2.1];exact hg) (by rw[pU];have hsz:sz=1000000:=rfl;omega) ?_ ?_
 ·rintro i d acc ρ G' hd' ⟨⟨o1,o2,rfl⟩,rfl,rfl⟩ kk hk;obtain ⟨a,ha,rfl⟩:=Yy l i d hd';simp_arith[h1];refine Jq (Jj hn ha) (Nat.lt_of_le_of_lt (Jm ha) hd) (Jl hs ha) (hk _ _ _ ⟨⟨_,_,rfl⟩,rfl,?_⟩);simp[List.replicate_succ']
 ·rintro acc ρ G' ⟨_,rfl,rfl⟩;exact he
theorem vq{G:DH}{x:D}{l:List D}(hv:view G x=.lst l):x=.lst l\/∃p,x=.ref p/\G p=some (.lst l):=by
 cases x with
 |lst l'=>cases hv;exact .inl rfl
 |ref p=>
  refine .inr ⟨p,rfl,?_⟩;unfold view at hv;cases g:G p with
  |none=>simp only[g]at hv;cases hv
  |some o=>cases o;simp only[g]at hv;cases hv;rfl
 |_=>cases hv
theorem YB (Φ:ao) (n:Nat) (h1:Φ "_law_same"=dh n) (ds:List D) (G:DH) (h:Jo (n+1) ds G):aC Φ dI noE (env0 ds 0) G (ends λd G'=>G'=G/\d=.bl true):=by
 obtain ⟨x,y,v,rfl,hx,hy,hn,hd,hs⟩:=h;cases v with
 |non=>cases yL hx;cases yL hy;simp_arith[dI]
 |bl b=>cases rB hx;cases rB hy;simp_arith[dI];simp
 |int i=>cases cL hx;cases cL hy;simp_arith[dI];simp
 |str l=>cases dR hx;cases dR hy;simp_arith[dI];simp
 |ref p=>simp[nr]at hn
 |scr p=>simp[nr]at hn
 |exn p=>simp[nr]at hn
 |exa _ _ _=>simp[nr]at hn
 |obj _ _ _=>simp[nr]at hn
 |tup l=>
  cases dO hx;cases dO hy;rw[nr]at hn;rw[dpt]at hd;rw[gR,af,ck]at hs;simp_arith[dI];simp_arith[gx,BEq.rfl];refine kI Φ n h1 (by first |trivial | (unfold held;simp)) hn (by omega) hs.2 hs.1 ?_;rw[kj,km,kE];simp
 |lst l=>
  rw[nr]at hn;rw[dpt]at hd;rw[gR,af,ck]at hs;rcases vq hx with rfl |⟨p,rfl,ex⟩
  ·rcases vq hy with rfl |⟨q,rfl,ey⟩
   ·simp_arith[dI];simp_arith[gx,BEq.rfl];refine kI Φ n h1 (by trivial) hn (by omega) hs.2 hs.1 ?_;rw[kj,km,kE];simp
   ·simp_arith[dI,cT ey,gb ey];simp_arith[gx,BEq.rfl,cT ey,gb ey];refine kI Φ n h1 (by exact ⟨ey,trivial⟩) hn (by omega) hs.2 hs.1 ?_;rw[kj,km,kE];simp
  ·rcases vq hy with rfl |⟨q,rfl,ey⟩
   ·simp_arith[dI,cT ex,gb ex];simp_arith[gx,BEq.rfl,cT ex,gb ex];refine kI Φ n h1 (by exact ⟨ex,trivial⟩) hn (by omega) hs.2 hs.1 ?_;rw[kj,km,kE];simp
   ·simp_arith[dI,cT ex,gb ex,cT ey,gb ey];simp_arith[gx,BEq.rfl,cT ex,gb ex,cT ey,gb ey];refine kI Φ n h1 (by exact ⟨ex,ey,trivial⟩) hn (by omega) hs.2 hs.1 ?_;rw[kj,km,kE];simp
theorem YC(ds:List D)(G:DH)(a:(dh 0).A):¬(dh 0).pre ds G a:=λ⟨_,_,_,_,_,_,_,_,h,_⟩=>by omega
def okF(w:Nat)(l:List Nat):Prop:=l.length=w/\∀c∈l,isF c
theorem okF.app{w v:Nat}{l m:List Nat}(h:okF w l)(h':okF v m):okF (w+v) (l++m):=⟨by rw[bd,h.1,h'.1],λc hc=>(cf.mp hc).elim (h.2 c) (h'.2 c)⟩
theorem okF.one{c:Nat}(h:isF c):okF 1 [c]:=⟨rfl,λd hd=>by rw[a8.mp hd];exact h⟩
theorem fJ{p:Addr}{m:Int}{G:DH}{k:D->DH->Prop}{E:EK}(hp:Pen G p)(h1:0 < m)(h2:m < 1152921504606846976)(hk:∀(r:Nat)(G':DH),(r:Int) < m->Pen G' p->Sb p G G'->k (.int r) G'):d8.t [.ref p,.int m] G k E:=by refine cI ⟨p,m,rfl,hp,h1,h2⟩ λd G' hx=>?_;obtain ⟨p2,m2,r,e1,e2,r0,r1,hp',sb⟩:=hx;cases e1;subst e2;obtain ⟨n,rfl⟩:=dr r0;exact hk n G' r1 hp' sb
theorem YD{n:Nat}(h:(n:Int) < 2):∃c,atI [48,49] (n:Int)=some c/\isF c:=by
 have:n=0\/n=1:=by omega
 rcases this with rfl |rfl
 ·exact ⟨48,rfl,.inl rfl⟩
 ·exact ⟨49,rfl,.inr (.inl rfl)⟩
theorem YF{n:Nat}(h:(n:Int) < 3):∃c,atI [48,49,42] (n:Int)=some c/\isF c:=by
 have:n=0\/n=1\/n=2:=by omega
 rcases this with rfl |rfl |rfl
 ·exact ⟨48,rfl,.inl rfl⟩
 ·exact ⟨49,rfl,.inr (.inl rfl)⟩
 ·exact ⟨42,rfl,.inr (.inr rfl)⟩
def vy(ds:List D)(G:DH):Prop:=∃p l,ds=[.ref p,.str l]/\Pen G p/\(∀c∈l,isF c)/\l.length<=1000
def vz(ds:List D)(G:DH)(d:D)(G':DH):Prop:=∃p l m,ds=[.ref p,.str l]/\d=.str m/\okF l.length m/\Pen G' p/\Sb p G G'
def gU:RF.Spec:=bN vy vz
theorem Jr{p:Addr}{l:List Nat}{G:DH}{k:D->DH->Prop}{E:EK}(hp:Pen G p)(hl:∀c∈l,isF c)(h2:l.length<=1000)(hk:∀(m:List Nat)(G':DH),okF l.length m->Pen G' p->Sb p G G'->k (.str m) G'):gU.t [.ref p,.str l] G k E:=by refine cI ⟨p,l,rfl,hp,hl,h2⟩ λd G' hx=>?_;obtain ⟨p2,l2,m,e1,e2,h,hp',sb⟩:=hx;cases e1;subst e2;exact hk m G' h hp' sb
theorem YG (Φ:ao) (h1:Φ "_law_take"=d8) (ds:List D) (G:DH) (h:vy ds G):aC Φ u5 noE (env0 ds 2) G (ends (vz ds G)):=by
 obtain ⟨p,l,rfl,hp,hl,hl2⟩:=h;simp_all_arith[u5];refine seq λM hM=>?_;simp_arith[ends];refine hM _ _ (seq λM hM=>?_);simp_arith![ends];refine ForG.inv (P:=λi ρ G'=>(∃o m,ρ=[some (.ref p),some (.str l),some (.str m),o]/\okF i m)/\Pen G' p/\Sb p G G') ⟨⟨_,_,rfl,rfl,by simp⟩,hp,Sb.refl _ _⟩ (λ_ _ _ _=>trivial) ?_ ?_
 ·rintro i d ρ G2 hd ⟨⟨o,m,rfl,hm⟩,hp2,sb2⟩ kk hk;rw[ce]at hd;obtain ⟨c,hc,rfl⟩:=bS.mp hd;have hi:i < l.length:=(a7.mp hc).1;have fc:=hl c (bv hc);have l1:=hm.1;simp_arith![ends];refine seq λM hM=>?_;have fin:∀(c:Nat)(G3:DH),isF c->Pen G3 p->Sb p G2 G3->M [some (.ref p),some (.str l),some (.str m),some (.str [c])] G3:=by
   intro c G3 fc hp3 sb3;refine hM _ _ (last ?_);simp_arith[ends];exact ⟨by have hsz:sz=1000000:=rfl;omega,hk _ _ ⟨⟨_,_,rfl,hm.app (okF.one fc)⟩,hp3,sb2.trans sb3⟩⟩
  simp_arith[h1];cases ht:([c]==[42]) with
  |false=>exact fin c G2 fc hp2 (Sb.refl _ _)
  |true=>
   refine fJ hp2 (by decide) (by decide) λr G3 hr hp3 sb3=>?_;simp_arith[ends];cases hr0:((r:Int)==0) with
   |false=>exact fin c G3 fc hp3 sb3
   |true=>
    refine fJ hp3 (by decide) (by decide) λr' G4 hr' hp4 sb4=>?_;obtain ⟨c',e,fc'⟩:=YD hr';simp_arith[e];exact fin c' G4 fc' hp4 (sb3.trans sb4)
 ·rintro ρ G2 ⟨⟨o,m,rfl,hm⟩,hp2,sb2⟩;refine hM _ _ ?_;simp_arith[ends];exact ⟨p,l,m,rfl,rfl,by simpa using hm,hp2,sb2⟩
theorem YH (Φ:ao) (h1:Φ "_law_take"=d8) (ds:List D) (G:DH) (h:vy ds G):aC Φ uZ noE (env0 ds 2) G (ends (vz ds G)):=by
 obtain ⟨p,l,rfl,hp,hl,hl2⟩:=h;simp_all_arith[uZ];refine seq λM hM=>?_;simp_arith[ends];refine hM _ _ (seq λM hM=>?_);simp_arith![ends];refine ForG.inv (P:=λi ρ G'=>(∃o m,ρ=[some (.ref p),some (.str l),some (.str m),o]/\okF i m)/\Pen G' p/\Sb p G G') ⟨⟨_,_,rfl,rfl,by simp⟩,hp,Sb.refl _ _⟩ (λ_ _ _ _=>trivial) ?_ ?_
 ·rintro i d ρ G2 hd ⟨⟨o,m,rfl,hm⟩,hp2,sb2⟩ kk hk;rw[ce]at hd;obtain ⟨c,hc,rfl⟩:=bS.mp hd;have hi:i < l.length:=(a7.mp hc).1;have fc:=hl c (bv hc);have l1:=hm.1;simp_arith![ends];refine seq λM hM=>?_;have fin:∀(c:Nat)(G3:DH),isF c->Pen G3 p->Sb p G2 G3->M [some (.ref p),some (.str l),some (.str m),some (.str [c])] G3:=by
   intro c G3 fc hp3 sb3;refine hM _ _ (last ?_);simp_arith[ends];exact ⟨by have hsz:sz=1000000:=rfl;omega,hk _ _ ⟨⟨_,_,rfl,hm.app (okF.one fc)⟩,hp3,sb2.trans sb3⟩⟩
  simp_arith[h1];refine fJ hp2 (by decide) (by decide) λr G3 hr hp3 sb3=>?_;simp_arith[ends];cases hr0:((r:Int)==0) with
  |false=>exact fin c G3 fc hp3 sb3
  |true=>exact fin 42 G3 (.inr (.inr rfl)) hp3 sb3
 ·rintro ρ G2 ⟨⟨o,m,rfl,hm⟩,hp2,sb2⟩;refine hM _ _ ?_;simp_arith[ends];exact ⟨p,l,m,rfl,rfl,by simpa using hm,hp2,sb2⟩
theorem Js{G G':DH}{p:Addr}{x:D}{fs:List (List Nat)}(hv:view G x=.lst (fs.map D.str))(hp:Pen G p)(sb:Sb p G G'):view G' x=.lst (fs.map D.str):=by
 cases x with
 |ref q=>
  unfold view at hv;dsimp only at hv;cases g:G q with
  |none=>rw[g]at hv;cases hv
  |some o=>
   cases o with
   |lst ds=>
    rw[g]at hv;have e:ds=fs.map D.str:=by simpa using hv
    have hn:q≠p:=by
     rintro rfl;obtain ⟨ns,k,st,e1,_⟩:=hp;rw[g,e]at e1;cases fs with
     |nil=>simp at e1
     |cons a r=>simp at e1
    rw[cT (sb q _ g hn),e]
 |lst l=>exact hv
 |_=>cases hv
def Jt(ds:List D)(G:DH):Prop:=∃p,∃w:Nat,∃x,∃fs:List (List Nat),ds=[.ref p,.int w,x]/\Pen G p/\0 < w/\w<=1000/\view G x=.lst (fs.map D.str)/\fs.length<=1000/\∀f∈fs,okF w f
def vA(ds:List D)(G:DH)(d:D)(G':DH):Prop:=∃p,∃w:Nat,∃x m,ds=[.ref p,.int w,x]/\d=.str m/\okF w m/\Pen G' p/\Sb p G G'
def p8:RF.Spec:=bN Jt vA
theorem YJ{p:Addr}{w:Nat}{x:D}{fs:List (List Nat)}{G:DH}{k:D->DH->Prop}{E:EK}(hp:Pen G p)(h1:0 < w)(h2:w<=1000)(hv:view G x=.lst (fs.map D.str))(h3:fs.length<=1000)(h4:∀f∈fs,okF w f)
  (hk:∀(m:List Nat)(G':DH),okF w m->Pen G' p->Sb p G G'->k (.str m) G'):p8.t [.ref p,.int w,x] G k E:=by
 refine cI ⟨p,w,x,fs,rfl,hp,h1,h2,hv,h3,h4⟩ λd G' hx=>?_;obtain ⟨p2,w2,x2,m,e1,e2,h,hp',sb⟩:=hx;simp only[List.cons.injEq,D.ref.injEq,D.int.injEq,Int.ofNat_inj,and_true]at e1;obtain ⟨rfl,rfl,rfl⟩:=e1;subst e2;exact hk m G' h hp' sb
theorem YK(fs:List (List Nat)):nrs (fs.map D.str)=true:=by
 induction fs with
 |nil=>rfl
 |cons a l ih=>rw[dy,nrs,ih];rfl
theorem YL(fs:List (List Nat)):aR (fs.map D.str)=0:=by
 induction fs with
 |nil=>rfl
 |cons a l ih=>rw[dy,aR,ih];rfl
theorem YM{w n:Nat}{l:List Nat}{c:Nat}(h:okF w l)(hn:n < w)(fc:isF c):okF w (cut l none (some (n:Int))++[c]++cut l (some ((n:Int)+1)) none):=by
 have h1:=h.1;rw[uL,uM];refine ⟨?_,λd hd=>?_⟩
 ·simp;omega
 ·rcases cf.mp hd with hd |hd
  ·rcases cf.mp hd with hd |hd
   ·exact h.2 d (List.mem_of_mem_take hd)
   ·rw[a8.mp hd];exact fc
  ·exact h.2 d (List.mem_of_mem_drop hd)
theorem YQ (Φ:ao) (h1:Φ "_law_take"=d8) (h2:Φ "_law_form"=j9) (h3:Φ "_law_within"=gU) (h4:Φ "_law_wider"=gU) (ds:List D) (G:DH) (h:Jt ds G):aC Φ u6 noE (env0 ds 3) G (ends (vA ds G)):=by
 obtain ⟨p,w,x,fs,rfl,hp,w1,w2,hv,hf,hfs⟩:=h;simp_all_arith[u6];refine seq λM hM=>?_;simp_arith[h1];refine fJ hp (by decide) (by decide) λkd G2 hkd hp2 sb2=>?_;have hv2:=Js hv hp sb2;refine hM _ _ (seq λM hM=>?_);have drawn:∀(ρ:aj) (G3:DH),Pen G3 p->Sb p G G3->aC Φ (.cons (.ret (.call "_law_form" (.cons (.var 0) (.cons (.var 1) .nil)))) .nil) noE (some (.ref p)::some (.int w)::ρ) G3 { nx:=M,rt:=vA [.ref p,.int w,x] G,bk:=λ_ _=>False,ct:=λ_ _=>False }:=by intro ρ G3 hp3 sb3;simp_arith[h2];refine cI ⟨p,w,rfl,hp3,w2⟩ λd G4 hx=>?_;obtain ⟨p4,n4,l,e1,e2,l1,l2,hp4,sb4⟩:=hx;simp only[List.cons.injEq,D.ref.injEq,D.int.injEq,Int.ofNat_inj,and_true]at e1;obtain ⟨rfl,rfl⟩:=e1;exact ⟨p,w,x,l,rfl,e2,⟨l1,l2⟩,hp4,sb3.trans sb4⟩
 simp_arith![hv2,Yh,YL,YK];refine ⟨by decide,?_⟩;cases he:(fs.map D.str).isEmpty with
 |true=>exact drawn _ _ hp2 sb2
 |false=>
  have hlen:0 < fs.length:=by
   cases fs with
   |nil=>simp at he
   |cons a r=>simp
  simp_arith![ends];cases hk2:decide ((kd:Int) < 2) with
  |true=>exact drawn _ _ hp2 sb2
  |false=>
   simp_arith[ends];refine hM _ _ (seq λM hM=>?_);simp_arith[h1,hv2,ax];refine fJ hp2 (by omega) (by omega) λr G3 hr hp3 sb3=>?_;have hv3:=Js hv2 hp2 sb3;simp_arith[hv3];have hr':r < fs.length:=by omega
   refine dH (a:=.str fs[r]) (cU (by simp[hr'])) ?_;have fok:=hfs fs[r] (List.getElem_mem _);generalize fs[r]=f at fok;refine hM _ _ (seq λM hM=>?_);have sb':=sb2.trans sb3;simp_arith[ends];cases hk3:((kd:Int)==2) with
   |true=>exact ⟨p,w,x,f,rfl,rfl,fok,hp3,sb'⟩
   |false=>
    refine hM _ _ (seq λM hM=>?_);simp_arith![ends];cases hk5:decide ((kd:Int) < 5) with
    |true=>
     simp_arith[h1];refine fJ hp3 (by omega) (by omega) λat' G4 hat hp4 sb4=>?_;refine fJ hp4 (by decide) (by decide) λs G5 hs hp5 sb5=>?_;obtain ⟨c,e,fc⟩:=YF hs;have c1:=Cm f none (some (at':Int));have c2:=Cm f (some ((at':Int)+1)) none;have f1:=fok.1;simp_arith[e,bd];exact ⟨by have hsz:sz=1000000:=rfl;omega,by have hsz:sz=1000000:=rfl;omega,p,w,x,_,rfl,rfl,YM fok (by omega) fc,hp5,sb'.trans (sb4.trans sb5)⟩
    |false=>
     simp_arith[ends];refine hM _ _ (seq λM hM=>?_);have f1:=fok.1;simp_arith[h3];cases hk6:((kd:Int)==5) with
     |true=>
      refine Jr hp3 fok.2 (by omega) λm G4 hm hp4 sb4=>?_;rw[f1]at hm;exact ⟨p,w,x,m,rfl,rfl,hm,hp4,sb'.trans sb4⟩
     |false=>
      refine hM _ _ ?_;simp_arith[h4];refine Jr hp3 fok.2 (by omega) λm G4 hm hp4 sb4=>?_;rw[f1]at hm;exact ⟨p,w,x,m,rfl,rfl,hm,hp4,sb'.trans sb4⟩
def alt(c:Nat):List Nat:=if c=42 then [48,49] else [c]
def step1(acc:List (List Nat))(c:Nat):List (List Nat):=acc.flatMap λt=>(alt c).map λs=>t++[s]
def aF(f:List Nat):List (List Nat):=f.foldl step1 [[]]
def Fits(f w:List Nat):Prop:=f.length=w.length/\∀(i c s:Nat),f[i]?=some c->w[i]?=some s->s∈alt c
theorem vB(f:List Nat)(c:Nat):aF (f++[c])=step1 (aF f) c:=by unfold aF;rw[List.foldl_append];rfl
theorem YS{acc:List (List Nat)}{c:Nat}{w:List Nat}:w∈step1 acc c↔∃t s,t∈acc/\s∈alt c/\w=t++[s]:=by
 unfold step1;rw[ic];constructor
 ·rintro ⟨t,ht,h⟩;obtain ⟨s,hs,rfl⟩:=cy.mp h;exact ⟨t,s,ht,hs,rfl⟩
 ·rintro ⟨t,s,ht,hs,rfl⟩;exact ⟨t,ht,cy.mpr ⟨s,hs,rfl⟩⟩
theorem vC{f w:List Nat}{c s:Nat}:Fits (f++[c]) (w++[s])↔Fits f w/\s∈alt c:=by
 constructor
 ·rintro ⟨h1,h2⟩;have hl:f.length=w.length:=by simpa using h1
  refine ⟨⟨hl,λi c' s' hc hs=>?_⟩,?_⟩
  ·have i1:=(a7.mp hc).1;exact h2 i c' s' (by rw[fE i1];exact hc) (by rw[fE (by omega)];exact hs)
  ·exact h2 f.length c s (by simp) (by rw[hl];simp)
 ·rintro ⟨⟨h1,h2⟩,h3⟩;refine ⟨by simp[h1],λi c' s' hc hs=>?_⟩;by_cases hi:i < f.length
  ·rw[fE hi]at hc;rw[fE (by omega)]at hs;exact h2 i c' s' hc hs
  ·have i2:=(a7.mp hc).1;simp at i2;have e:i=f.length:=by omega
   subst e;simp at hc;rw[h1]at hs;simp at hs;subst hc hs;exact h3
theorem gf{f w:List Nat}:w∈aF f↔Fits f w:=by
 induction f using Cp generalizing w with
 |nil=>
  simp[aF,Fits];constructor
  ·rintro rfl;simp
  ·intro h;exact cK.mp h.symm
 |snoc f c ih=>
  rw[vB,YS];constructor
  ·rintro ⟨t,s,ht,hs,rfl⟩;exact vC.mpr ⟨ih.mp ht,hs⟩
  ·intro h;have hl:=h.1;simp at hl;have hne:w≠[]:=by rintro rfl;simp at hl
   refine ⟨w.dropLast,w.getLast hne,?_,?_,(fo hne).symm⟩
   ·rw[<-fo hne]at h;exact ih.mpr (vC.mp h).1
   ·rw[<-fo hne]at h;exact (vC.mp h).2
theorem vD{f w:List Nat}(h:w∈aF f):w.length=f.length:=(gf.mp h).1.symm
theorem Ju{acc:List (List Nat)}{c:Nat}:(step1 acc c).length<=2 * acc.length:=by
 unfold step1;induction acc with
 |nil=>simp
 |cons a r ih=>
  rw[List.flatMap_cons,bd,ax,c6];have:(alt c).length<=2:=by unfold alt;split <;> simp
  omega
theorem Jv(f:List Nat):(aF f).length<=2 ^ f.length:=by
 induction f using Cp with
 |nil=>simp[aF]
 |snoc f c ih=>
  rw[vB,bd,List.length_singleton,Nat.pow_succ];have:=@Ju (aF f) c;omega
theorem YT{a b:List (List Nat)}{c:Nat}:step1 (a++b) c=step1 a c++step1 b c:=by unfold step1;rw[List.flatMap_append]
def Jw(ds:List D)(_:DH):Prop:=∃f:List Nat,ds=[.str f]/\f.length<=12
def Jx(ds:List D)(G:DH)(d:D)(G':DH):Prop:=∃f:List Nat,ds=[.str f]/\d=.lst ((aF f).map D.str)/\Sa G G'
def qb:RF.Spec:=bN Jw Jx
theorem Jy{f:List Nat}{G:DH}{k:D->DH->Prop}{E:EK}(h:f.length<=12)(hk:∀G',Sa G G'->k (.lst ((aF f).map D.str)) G'):qb.t [.str f] G k E:=by refine cI ⟨f,rfl,h⟩ λd G' hx=>?_;obtain ⟨f2,e1,e2,sa⟩:=hx;cases e1;subst e2;exact hk G' sa
theorem YW(Φ:ao)(ds:List D)(G:DH)(h:Jw ds G):aC Φ vg noE (env0 ds 4) G (ends (Jx ds G)):=by
 obtain ⟨f,rfl,hf⟩:=h;simp_all_arith[vg];refine seq λM hM=>?_;simp_arith[ends];refine ⟨by decide,hM _ _ (seq λM hM=>?_)⟩;simp_arith![ends];refine ForG.inv (P:=λi ρ G'=>(∃o2 o3 o4,ρ=[some (.str f),some (.lst ((aF (f.take i)).map D.str)),o2,o3,o4])/\Sa G G') ⟨⟨_,_,_,rfl⟩,Sa.refl G⟩ (λ_ _ _ _=>trivial) ?_ ?_
 ·rintro i d ρ G2 hd ⟨⟨o2,o3,o4,rfl⟩,sa⟩ kk hk;rw[ce]at hd;obtain ⟨c,hc,rfl⟩:=bS.mp hd;have hi:=(a7.mp hc).1;have ht:f.take (i+1)=f.take i++[c]:=by rw[fm,hc];rfl
  have hcard:(aF (f.take i)).length<=4096:=by
   have h1:=Jv (f.take i);have h2:(f.take i).length<=12:=by rw[c9];omega
   have h3:=Nat.pow_le_pow_right (show 0 < 2 by decide) h2;have h4:2 ^ 12=4096:=by decide
   omega
  simp_arith![ends];refine seq λM hM=>?_;simp_arith[ends];refine λq hq=>hM _ _ (seq λM hM=>?_);simp_arith![ends];refine ForG.inv (P:=λj ρ G'=>(∃o4,ρ=[some (.str f),some (.lst ((aF (f.take i)).map D.str)),some (.str [c]),some (.ref q),o4])/\Sa G G'/\G' q=some (.lst ((step1 ((aF (f.take i)).take j) c).map D.str))) ⟨⟨_,rfl⟩,sa.trans (Sa.new hq),cH⟩ (λ_ _ _ _=>trivial) ?_ ?_
  ·rintro j d ρ G3 hd3 ⟨⟨o4,rfl⟩,sa3,g3⟩ kk' hk';rw[ce]at hd3;obtain ⟨t,htt,rfl⟩:=bS.mp hd3;have hj:=(a7.mp htt).1;have tlen:t.length<=12:=by rw[vD (bv htt),c9];omega
   have tk:(aF (f.take i)).take (j+1)=(aF (f.take i)).take j++[t]:=by rw[fm,htt];rfl
   have st:step1 [t] c=(alt c).map λs=>t++[s]:=by simp[step1]
   have l1:(step1 ((aF (f.take i)).take j) c).length<=8192:=by
    have:=@Ju ((aF (f.take i)).take j) c;have:((aF (f.take i)).take j).length<=4096:=by rw[c9];omega
    omega
   have al2:(alt c).length<=2:=by unfold alt;split <;> simp
   simp_arith![ends];refine last ?_;simp_arith[fG g3];refine ⟨by decide,?_⟩;have ix:atI [D.str [48,49],D.str [c]] (if (!([c]==[42]))=true then 1 else 0)=some (.str (alt c)):=by
    unfold alt;by_cases h42:c=42
    ·subst h42;rfl
    ·have:([c]==[42])=false:=by simp[h42]
     rw[this,if_neg h42];rfl
   simp_arith[ix];refine CompG.map (f:=λd=>match d with |.str [s]=>.str (t++[s]) |_=>.non) (I:=λρ=>∃o,ρ=[o,some (.str t)]) ⟨_,rfl⟩ trivial (by simp;have hsz:sz=1000000:=rfl;omega) ?_ ?_
   ·rintro d ρ hd ⟨o,rfl⟩ kk2 hk2;obtain ⟨s,_,rfl⟩:=cy.mp hd;simp_arith[ends];exact ⟨by have hsz:sz=1000000:=rfl;omega,hk2 _ ⟨_,rfl⟩⟩
   ·rw[eJ];simp_arith[Function.comp_def,fG g3,ax];refine ⟨by have hsz:sz=1000000:=rfl;omega,hk' _ _ ⟨⟨_,rfl⟩,?_,?_⟩⟩
    ·intro b ob hb;by_cases hbq:b=q
     ·subst hbq;exfalso;have:=sa b _ hb;rw[hq]at this;cases this
     ·rw[gC hbq];exact sa3 b _ hb
    ·rw[cH,tk,YT,st,List.map_append,eJ];rfl
  ·rintro ρ G3 ⟨⟨o4,rfl⟩,sa3,g3⟩;rw[ax,gI]at g3;refine hM _ _ (last ?_);simp_arith[g3];refine hk _ _ ⟨⟨_,_,_,by rw[ht,vB]⟩,?_⟩;intro b ob hb;have hbq:b≠q:=by
    rintro rfl;have:=sa b _ hb;rw[hq]at this;cases this
   rw[rz hbq];exact sa3 b _ hb
 ·rintro ρ G2 ⟨⟨o2,o3,o4,rfl⟩,sa⟩;rw[ax,gI];refine hM _ _ ?_;simp_arith[ends];exact ⟨f,rfl,rfl,sa⟩
def fK(c s:Nat):Bool:=c==42||c==s
def dJ:List Nat->List Nat->Bool
 |c::f,s::w=>fK c s&&dJ f w
 |_,_=>true
def bJ(f w:List Nat):Bool:=decide (f.length=w.length)&&dJ f w
noncomputable def kJ:List D->Option D
 |[.str f,.str w]=>if decide (f.length<=100000) then some (.bl (bJ f w)) else none
 |_=>none
theorem JB:∀(f w:List Nat),bA (f.map λc=>D.str [c]) (w.map λc=>D.str [c])=(f.zip w).map λp=>D.tup [.str [p.1],.str [p.2]]
 |[],w=>by simp[bA]
 |c::f,[]=>by simp[bA]
 |c::f,s::w=>by simp[bA,JB f w]
theorem JC:∀(f w:List Nat),((f.zip w).map λp=>fK p.1 p.2).all id=dJ f w
 |[],w=>by simp[dJ]
 |c::f,[]=>by simp[dJ]
 |c::f,s::w=>by simp[dJ,JC f w]
theorem vG{c s:Nat}:(([c]==[s]):Bool)=(c==s):=by
 by_cases h:c=s
 ·subst h;simp
 ·rw[ge.mpr h,ge.mpr (by simp[h])]
theorem YX{a b:Nat}:((((a:Nat):Int)==((b:Nat):Int)):Bool)=decide (a=b):=by
 by_cases h:a=b
 ·subst h;simp
 ·rw[cS h,ge];omega
theorem YZ(Φ:ao)(ds:List D)(G:DH)(d:D)(h:kJ ds=some d):aC Φ j5 noE (env0 ds 0) G (ends λd' G'=>G'=G/\d'=d):=by
 unfold kJ at h;split at h
 ·rename_i f w;split at h
  ·rename_i hl;have hl:=of_decide_eq_true hl;cases h;simp_arith[j5,YX,bJ];cases he:decide (f.length=w.length) with
   |false=>simp_arith[Bool.false_and]
   |true=>
    simp_arith[JB,Bool.true_and];refine CompG.map (f:=λd=>match d with |.tup [.str [c],.str [s]]=>.bl (fK c s) |_=>.non) (I:=λρ=>∃o o',ρ=[o,o']) ⟨_,_,rfl⟩ trivial (by simp;have hsz:sz=1000000:=rfl;omega) ?_ ?_
    ·rintro d ρ hd ⟨o,o',rfl⟩ kk hk;obtain ⟨⟨c,s⟩,_,rfl⟩:=cy.mp hd;simp_arith[vG];have:=hk [some (.str [c]),some (.str [s])] ⟨_,_,rfl⟩;unfold fK at this;cases hc:(c==42) with
     |true=>simp_arith[hc]at this ⊢;exact this
     |false=>simp_arith[hc]at this ⊢;exact this
    ·rw[eJ];simp_arith[Function.comp_def,BX,JC,and_self]
  ·cases h
 ·cases h
theorem Y0{p:Addr}{G:DH}{k:D->DH->Prop}{E:EK}(hp:Pen G p)(hk:∀G',Pen G' p->Sb p G G'->k (.ref p) G'):p7.t [.ref p] G k E:=
 cI ⟨p,rfl,hp⟩ λd G' hx=>by obtain ⟨p2,e1,e2,hp',sb⟩:=hx;cases e1;subst e2;exact hk G' hp' sb
def gW:Option (List Nat)->D
 |some l=>.str l
 |none=>.non
noncomputable def gY:List D->Option D
 |[.str f,.int n,.str [c]]=>if decide (0<=n)&&decide (n < f.length)&&decide (f.length<=1000) then some (.str (f.set n.toNat c)) else none
 |_=>none
theorem Y4{l:List Nat}{n c:Nat}(h:n < l.length):l.take n++[c]++l.drop (n+1)=l.set n c:=by rw[List.set_eq_take_append_cons_drop,if_pos h];simp
theorem Y5(Φ:ao)(ds:List D)(G:DH)(d:D)(h:gY ds=some d):aC Φ j7 noE (env0 ds 0) G (ends λd' G'=>G'=G/\d'=d):=by
 unfold gY at h;split at h
 ·rename_i f n c;split at h
  ·rename_i hl;simp only[af,ck]at hl;obtain ⟨⟨h0,h1⟩,h2⟩:=hl;cases h;obtain ⟨k,rfl⟩:=dr h0;simp_arith[j7,uL,uM,bd,c9,dA,im,Y4 (show k < f.length by omega)];exact ⟨by have hsz:sz=1000000:=rfl;omega,by have hsz:sz=1000000:=rfl;omega⟩
  ·cases h
 ·cases h
def stc(b:List Nat):Nat:=b.countP (·==42)
theorem Y6{b:List Nat}{n c:Nat}{G:DH}{k:D->DH->Prop}{E:EK}(h:n < b.length)(hl:b.length<=1000)(hk:k (.str (b.set n c)) G):(bT gY).t [.str b,.int n,.str [c]] G k E:=
 pX (by
  unfold gY;dsimp only;rw[if_pos (by simp only[af,ck];omega),im]) hk
theorem Y7{f l:List Nat}(h:f.length=l.length):bJ f l=dJ f l:=by unfold bJ;rw[fe h];rfl
theorem Y8{f:List Nat}{i c:Nat}(h:f[i]?=some c):stc (f.take (i+1))=stc (f.take i)+(if (c==42)=true then 1 else 0):=by unfold stc;rw[fm,h,List.countP_append];cases hc:(c==42) <;> simp[hc]
theorem JD{c s:Nat}:fK c s=true↔c=42\/c=s:=by unfold fK;simp
def opp(b:Nat):Nat:=if b=48 then 49 else 48
theorem Y9{f g:List Nat}(h:bJ f g=true):dJ f g=true:=by unfold bJ at h;rw[af]at h;exact h.2
noncomputable def ji:List D->Option D
 |[.str f,.str g]=>if decide (g.length<=100000) then some (.bl (bJ g f)) else none
 |_=>none
theorem Za (Φ:ao) (h1:Φ "fits"=bT kJ) (ds:List D) (G:DH) (d:D) (h:ji ds=some d):aC Φ j6 noE (env0 ds 0) G (ends λd' G'=>G'=G/\d'=d):=by
 unfold ji at h;split at h
 ·rename_i f g;split at h
  ·rename_i hl;cases h;simp_arith[j6,h1];exact pX (d:=.bl (bJ g f)) (if_pos hl) ⟨rfl,rfl⟩
  ·cases h
 ·cases h
theorem JF{f g:List Nat}{G:DH}{k:D->DH->Prop}{E:EK}(h:g.length<=1000)(hk:k (.bl (bJ g f)) G):(bT ji).t [.str f,.str g] G k E:=pX (if_pos (fe (by omega))) hk
theorem Zb{p:Addr}{n:Nat}{G:DH}{k:D->DH->Prop}{E:EK}(hp:Pen G p)(hn:n<=1000)(hk:∀(l:List Nat)(G':DH),okF n l->Pen G' p->Sb p G G'->k (.str l) G'):j9.t [.ref p,.int n] G k E:=by refine cI ⟨p,n,rfl,hp,hn⟩ λd G' ⟨p2,n2,l,e1,e2,l1,l2,hp',sb⟩=>?_;simp only[List.cons.injEq,D.ref.injEq,D.int.injEq,Int.ofNat_inj,and_true]at e1;obtain ⟨rfl,rfl⟩:=e1;subst e2;exact hk l G' ⟨l1,l2⟩ hp' sb
def qe:RF.Spec:=ghS (A:=Addr×Nat) (λa ds G=>ds=[.ref a.1,.int a.2]/\Pen G a.1/\0 < a.2/\a.2<=6) (λa G d G'=>∃(w:Nat)(f g:List Nat),d=.tup [.str f,.str g]/\1<=w/\w<=6/\okF w f/\okF w g/\Pen G' a.1/\Sb a.1 G G')
theorem Zc{p:Addr}{m:Nat}{G:DH}{k:D->DH->Prop}{E:EK}(h1:Pen G p)(h2:0 < m)(h3:m<=6)(hk:∀(w:Nat)(f g:List Nat)(G':DH),1<=w->w<=6->okF w f->okF w g->Pen G' p->Sb p G G'->k (.tup [.str f,.str g]) G'):qe.t [.ref p,.int m] G k E:=
 uQ (p,m) ⟨rfl,h1,h2,h3⟩ λd G' ⟨w,f,g,e1,e2,e3,e4,e5,e6,e7⟩=>by subst e1;exact hk w f g G' e2 e3 e4 e5 e6 e7
theorem Zd (Φ:ao) (h1:Φ "_law_take"=d8) (h2:Φ "_law_form"=j9) (h3:Φ "_law_form_like"=p8) (a:Addr×Nat) (ds:List D) (G:DH) (h:ds=[.ref a.1,.int a.2]/\Pen G a.1/\0 < a.2/\a.2<=6):
  aC Φ u9 noE (env0 ds 2) G (ends λd G'=>∃(w:Nat)(f g:List Nat),d=.tup [.str f,.str g]/\1<=w/\w<=6/\okF w f/\okF w g/\Pen G' a.1/\Sb a.1 G G'):=by
 obtain ⟨p,m⟩:=a;obtain ⟨rfl,hp,m0,m6⟩:=h;dsimp only at hp m0 m6 ⊢;simp_all_arith[u9];refine seq λM hM=>?_;simp_arith[h1];refine fJ hp (by omega) (by omega) λn G1 hn hp1 sb1=>?_;simp_arith[ends];refine hM _ _ (seq λM hM=>?_);have ew:(1:Int)+(n:Int)=((1+n:Nat):Int):=by omega
 simp_arith[h2,ew];refine Zb hp1 (by omega) λf G2 hf hp2 sb2=>hM _ _ (last ?_);simp_arith[h3];refine ⟨by decide,YJ (fs:=[f]) hp2 (by omega) (by omega) rfl (by simp) (λx hx=>by rw[a8.mp hx];exact hf) λg G3 hg hp3 sb3=>?_⟩;exact ⟨by decide,1+n,f,g,rfl,by omega,by omega,hf,hg,hp3,(sb1.trans sb2).trans sb3⟩
def bH:List Nat->List (List Nat)
 |[]=>[[]]
 |c::f=>(alt c).flatMap λs=>(bH f).map (s::·)
theorem JG:∀(f:List Nat)(acc:List (List Nat)),f.foldl step1 acc=acc.flatMap λt=>(bH f).map (t ++ ·)
 |[],acc=>by simp[bH]
 |c::f,acc=>by
  rw[List.foldl_cons,JG f,step1,List.flatMap_assoc];congr 1;funext t;rw[bH,List.flatMap_map,List.map_flatMap];congr 1;funext s;rw[eJ];congr 1;funext x;simp
theorem gZ(f:List Nat):aF f=bH f:=by unfold aF;rw[JG];simp
theorem vH:∀(b:List Nat),(bH b).length=2 ^ stc b
 |[]=>rfl
 |c::b=>by
  have ih:=vH b;rw[bH];unfold alt stc;unfold stc at ih;split
  ·rename_i h;subst h;simp[ih,Nat.pow_succ];omega
  ·rename_i h;simp[ih,h]
def unl(f g:List Nat)(n:Nat):List Nat:=(List.range n).filter λi=>f[i]? != g[i]?
noncomputable def bO(f g:List Nat):Option (List Nat):=if bJ g f=true then some g else if bJ f g=true then some f else match unl f g f.length with |[i]=>some (f.set i 42) |_=>none
noncomputable def jj:List D->Option D
 |[.str f,.str g]=>if decide (f.length=g.length)&&decide (f.length<=1000) then some (gW (bO f g)) else none
 |_=>none
theorem Ze{f g:List Nat}{G:DH}{k:D->DH->Prop}{E:EK}(hl:f.length=g.length)(h:f.length<=1000)(hk:k (gW (bO f g)) G):(bT jj).t [.str f,.str g] G k E:=pX (if_pos (by rw[fe hl,fe h];rfl)) hk
theorem Zf{f g:List Nat}{n:Nat}:unl f g (n+1)=unl f g n++(if (f[n]? != g[n]?)=true then [n] else []):=by unfold unl;rw[List.range_succ,List.filter_append];congr 1;rw[List.filter_cons,List.filter_nil]
theorem Zg{f g:List Nat}{n:Nat}:(unl f g n).length<=n:=by unfold unl;exact cw (List.length_filter_le _ _) (by simp)
theorem JK{f g:List Nat}{i:Nat}(hl:f.length=g.length)(h:unl f g f.length=[i]):i < f.length/\f[i]?≠g[i]?/\∀j,j≠i->f[j]?=g[j]?:=by
 have hm:∀j,j∈unl f g f.length↔j < f.length/\f[j]?≠g[j]?:=λj=>by unfold unl;simp
 have h1:=(hm i).mp (by rw[h];simp);refine ⟨h1.1,h1.2,λj hj=>?_⟩;by_cases hlt:j < f.length
 ·apply Classical.byContradiction;intro hne;have:=(hm j).mpr ⟨hlt,hne⟩;rw[h]at this;exact hj (a8.mp this)
 ·rw[dn (by omega),dn (by omega)]
theorem Zh (Φ:ao) (h1:Φ "lies_in"=bT ji) (h2:Φ "with_sign"=bT gY) (ds:List D) (G:DH) (d:D) (h:jj ds=some d):aC Φ j8 noE (env0 ds 1) G (ends λd' G'=>G'=G/\d'=d):=by
 unfold jj at h;split at h
 ·rename_i f g;split at h
  ·rename_i hh;rw[af,ck,ck]at hh;obtain ⟨hl,hz⟩:=hh;cases h;simp_all_arith[j8];refine seq λM hM=>?_;simp_arith[h1];refine JF (by omega) ?_;cases q1:bJ g f with
   |true=>
    have ej:bO f g=some g:=by unfold bO;rw[if_pos q1]
    simp_arith[ej,gW]
   |false=>
    simp_arith[ends];refine hM _ _ (seq λM hM=>?_);simp_arith[h1];refine JF (by omega) ?_;cases q2:bJ f g with
    |true=>
     have ej:bO f g=some f:=by unfold bO;rw[if_neg (by rw[q1];decide),if_pos q2]
     simp_arith[ej,gW]
    |false=>
     have ej:bO f g=match unl f g f.length with |[i]=>some (f.set i 42) |_=>none:=by unfold bO;rw[if_neg (by rw[q1];decide),if_neg (by rw[q2];decide)]
     simp_arith[ends];refine hM _ _ (seq λM hM=>?_);simp_arith[ends];refine CompG.inv (P:=λi acc ρ G'=>(∃o0 o1,ρ=[o0,o1,some (.str g)])/\G'=G/\acc=(unl f g i).map λj:Nat=>D.int (j:Int)) ⟨⟨_,_,rfl⟩,rfl,rfl⟩ (λ_ _ _ _ _=>trivial) (by rw[gP,ax];have hsz:sz=1000000:=rfl;omega) ?_ ?_
     ·rintro i d acc ρ G' hd ⟨⟨o0,o1,rfl⟩,rfl,rfl⟩ kk hk;rw[jX]at hd;obtain ⟨d',hd',rfl⟩:=bS.mp hd;rw[ce]at hd';obtain ⟨x,hx,rfl⟩:=bS.mp hd';have hi:=(a7.mp hx).1;have hy:g[i]?=some (g[i]'(by omega)):=by simp[show i < g.length by omega]
      generalize (g[i]'(by omega))=y at hy;have us:=@Zf f g i;simp_arith![ends];refine dH (a:=y) (by rw[Nat.zero_add];exact cU hy) ?_;simp_arith[vG];cases hxy:(x==y) with
      |true=>
       have e:x=y:=by simpa using hxy
       simp_arith[ends];refine hk none _ _ ⟨⟨some (.int ((0+i:Nat):Int)),some (.str [x]),rfl⟩,rfl,?_⟩;rw[us,hx,hy,e];simp
      |false=>
       have e:x≠y:=by simpa using hxy
       simp_arith[ends];refine hk (some (.int ((0+i:Nat):Int))) _ _ ⟨⟨some (.int ((0+i:Nat):Int)),some (.str [x]),rfl⟩,rfl,?_⟩;rw[us,hx,hy];simp[e]
     ·rintro acc ρ G' ⟨_,rfl,rfl⟩;rw[gP,ax];have ul:=@Zg f g f.length;refine hM _ _ (seq λM hM=>?_);cases hu:unl f g f.length with
      |nil=>
       rw[hu]at ej;simp_arith[ends];refine hM _ _ ?_;simp_arith[ej,gW]
      |cons i r=>
       cases r with
       |nil=>
        rw[hu]at ej;have:=(JK hl hu).1;simp_arith[h2];exact Y6 this hz ⟨rfl,by rw[ej];rfl⟩
       |cons j r=>
        have e:((((List.map (λj:Nat=>D.int (j:Int)) (i::j::r)).length:Nat):Int)==1)=false:=by rw[ge,ax,c6,c6];omega
        rw[hu]at ej;simp_arith![e];refine hM _ _ ?_;simp_arith[ej,gW]
  ·cases h
 ·cases h
theorem Zi{c:Nat}{f:List Nat}(h:c≠42):bH (c::f)=(bH f).map (c::·):=by rw[bH];unfold alt;rw[if_neg h];simp
theorem Zj{f:List Nat}:bH (42::f)=(bH f).map (48::·)++(bH f).map (49::·):=by rw[bH];unfold alt;rw[if_pos rfl];simp
theorem JM(f:List Nat):bH f≠[]:=λh=>by
 have:=vH f;rw[h]at this;have h1:0 < 2 ^ stc f:=Nat.two_pow_pos _;rw[<-this]at h1;exact absurd h1 (dL _)
theorem kO:∀{m:List Nat}{j c:Nat},m[j]?=some c->(∀w∈bH m,∃s,w[j]?=some s/\s∈alt c)/\∀s∈alt c,∃w∈bH m,w[j]?=some s
 |[],j,c,h=>by simp at h
 |a::m,0,c,h=>by
  have e:a=c:=by simpa using h
  subst e;rw[bH];refine ⟨λw hw=>?_,λs hs=>?_⟩
  ·obtain ⟨s,hs,hw⟩:=ic.mp hw;obtain ⟨l,_,rfl⟩:=cy.mp hw;exact ⟨s,rfl,hs⟩
  ·obtain ⟨l,hl⟩:=List.exists_mem_of_ne_nil _ (JM m);exact ⟨s::l,ic.mpr ⟨s,hs,cy.mpr ⟨l,hl,rfl⟩⟩,rfl⟩
 |a::m,j+1,c,h=>by
  have ih:=kO (m:=m) (j:=j) (c:=c) (by simpa using h);rw[bH];refine ⟨λw hw=>?_,λs hs=>?_⟩
  ·obtain ⟨s,hs,hw⟩:=ic.mp hw;obtain ⟨l,hl,rfl⟩:=cy.mp hw;obtain ⟨x,e,hx⟩:=ih.1 l hl;exact ⟨x,by simpa using e,hx⟩
  ·obtain ⟨l,hl,e⟩:=ih.2 s hs;have ha:∃y,y∈alt a:=by
    unfold alt;split
    ·exact ⟨48,aT⟩
    ·exact ⟨a,aT⟩
   obtain ⟨y,hy⟩:=ha;exact ⟨y::l,ic.mpr ⟨y,hy,cy.mpr ⟨l,hl,rfl⟩⟩,by simpa using e⟩
theorem vI:∀(ls ks:List (List Nat)),ks.Nodup->(ls.foldl putN ks).Nodup/\∀y,(y∈ks\/y∈ls)->y∈ls.foldl putN ks
 |[],ks,hn=>⟨hn,λy h=>by rcases h with h |h;exact h;cases h⟩
 |x::ls,ks,hn=>by
  have hp:(putN ks x).Nodup/\x∈putN ks x/\∀y∈ks,y∈putN ks x:=by
   unfold putN;split
   ·rename_i hx;exact ⟨hn,hx,λy hy=>hy⟩
   ·rename_i hx;refine ⟨List.nodup_append.mpr ⟨hn,List.pairwise_singleton _ _,λa ha b hb e=>?_⟩,aS _ aT,λy hy=>ff _ hy⟩;rw[a8.mp hb]at e;exact hx (e ▸ ha)
  obtain ⟨h1,h2⟩:=vI ls (putN ks x) hp.1;refine ⟨h1,λy h=>?_⟩;rcases h with h |h
  ·exact h2 y (.inl (hp.2.2 y h))
  ·rcases bb.mp h with rfl |h
   ·exact h2 _ (.inl hp.2.1)
   ·exact h2 y (.inr h)
theorem JN{ls:List (List Nat)}{y:List Nat}(h:y∈ls):y∈bF ls:=(vI ls [] List.Pairwise.nil).2 y (.inr h)
theorem JP(ls:List (List Nat)):(bF ls).Nodup:=(vI ls [] List.Pairwise.nil).1
theorem Zk{a b:List Nat}:∀{l:List (List Nat)},l.Nodup->(∀x∈l,x=a\/x=b)->l.length<=2
 |[],_,_=>by decide
 |[x],_,_=>eh 1
 |[x,y],_,_=>av 2
 |x::y::z::l,hn,h=>by
  have hx:=h x (by simp);have hy:=h y (by simp);have hz:=h z (by simp);simp only[eS,bb,not_or]at hn;obtain ⟨⟨n1,n2,_⟩,⟨n3,_⟩,_⟩:=hn;rcases hx with rfl |rfl <;> rcases hy with rfl |rfl <;> rcases hz with rfl |rfl <;> first |exact absurd rfl n1 |exact absurd rfl n2 |exact absurd rfl n3
theorem vJ:∀ls:List (List Nat),aW (ls.map D.str)=some ls
 |[]=>rfl
 |l::ls=>by rw[dy,aW,vJ ls]
theorem vK{m:List Nat}(h:m.length<=6):(aF m).length<=64:=by have h6:2 ^ m.length<=2 ^ 6:=Nat.pow_le_pow_right (by decide) h;exact cw (Jv m) h6
theorem JQ:∀f:List Nat,(bH f).Nodup
 |[]=>List.pairwise_singleton _ _
 |c::f=>by
  have ih:=JQ f;have hm:∀s:Nat,((bH f).map (s::·)).Nodup:=λs=>by
   unfold List.Nodup;rw[List.pairwise_map];exact ih.imp λh e=>h (List.cons.inj e).2
  by_cases hc:c=42
  ·subst hc;rw[Zj];refine List.nodup_append.mpr ⟨hm 48,hm 49,λx hx y hy e=>?_⟩;obtain ⟨p,_,rfl⟩:=cy.mp hx;obtain ⟨q,_,rfl⟩:=cy.mp hy;cases e
  ·rw[Zi hc];exact hm c
theorem qg:∀{U W:List (List Nat)},U.Nodup->(∀x∈U,x∈W)->U.length<=W.length
 |[],W,_,_=>fS _
 |x::U,W,hn,h=>by
  obtain ⟨s,t,rfl⟩:=List.append_of_mem (h x aT);have hn':=eS.mp hn;have ih:=qg (U:=U) (W:=s++t) hn'.2 λy hy=>by
   have hy':=h y (bo _ hy);rcases cf.mp hy' with z |z
   ·exact ff _ z
   ·rcases bb.mp z with e |z
    ·rw[e]at hy;exact absurd hy hn'.1
    ·exact aS _ z
  rw[bd]at ih;rw[bd,c6,c6];omega
def vL(a:List Nat×List (List Nat)):Prop:=a.1.length<=6/\a.2≠[]/\a.2.length<=64/\(∀w∈a.2,w.length=a.1.length)/\∀(j c:Nat),a.1[j]?=some c->(∀w∈a.2,∃s,w[j]?=some s/\s∈alt c)/\∀s∈alt c,∃w∈a.2,w[j]?=some s
def dM(W:List (List Nat))(j:Nat):List (List Nat):=W.map λw=>[w.getD j 0]
theorem JR{W ls':List (List Nat)}{j c:Nat}(w1:∀w∈W,∃s,w[j]?=some s/\s∈alt c)(w2:∀s∈alt c,∃w∈W,w[j]?=some s)(hp:ls'.Perm (bF (dM W j))):(bF (dM W j)).length<=64/\((c≠42/\ls'=[[c]])\/(c=42/\∃a b,ls'=[a,b])):=by
 have hmem:∀y∈bF (dM W j),∃s∈alt c,y=[s]:=λy hy=>by
  obtain ⟨w,hw,rfl⟩:=cy.mp (um _ hy);obtain ⟨s,e,hs⟩:=w1 w hw;exact ⟨s,hs,by rw[eL,e];rfl⟩
 have hin:∀s∈alt c,[s]∈bF (dM W j):=λs hs=>by
  obtain ⟨w,hw,e⟩:=w2 s hs;exact JN (cy.mpr ⟨w,hw,by rw[eL,e];rfl⟩)
 have hnd:=JP (dM W j);generalize bF (dM W j)=U at hp hmem hin hnd;by_cases h42:c=42
 ·subst h42;have ha:alt 42=[48,49]:=rfl;rw[ha]at hmem hin;have hle:=Zk (a:=[48]) (b:=[49]) hnd λx hx=>by
   obtain ⟨s,hs,rfl⟩:=hmem x hx;simp only[bb,e9,or_false]at hs;rcases hs with rfl |rfl
   ·exact .inl rfl
   ·exact .inr rfl
  have h48:=hin 48 (by simp);have h49:=hin 49 (by simp);refine ⟨by omega,.inr ⟨rfl,?_⟩⟩;have h48':=hp.mem_iff.mpr h48;have h49':=hp.mem_iff.mpr h49;have hl:ls'.length<=2:=by rw[hp.length_eq];exact hle
  match ls',h48',h49',hl with
  |[],h,_,_=>cases h
  |[x],h,h',_=>
   have e1:=a8.mp h;have e2:=a8.mp h';rw[<-e1]at e2;cases e2
  |[a,b],_,_,_=>exact ⟨a,b,rfl⟩
  |_::_::_::_,_,_,hl=>simp at hl
 ·have ha:alt c=[c]:=by unfold alt;rw[if_neg h42]
  rw[ha]at hmem hin;have hU:∀x∈U,x=[c]:=λx hx=>by
   obtain ⟨s,hs,rfl⟩:=hmem x hx;rw[a8.mp hs]
  have hc':=hin c aT;have e:U=[[c]]:=by
   match U,hnd,hU,hc' with
   |[],_,_,h=>cases h
   |[x],_,h,_=>rw[h x aT]
   |x::y::l,hn,h,_=>
    have hx:=h x (by simp);have hy:=h y (by simp);simp only[eS,bb,not_or]at hn;exact absurd (hx.trans hy.symm) hn.1.1
  subst e;exact ⟨(show 1<=64 from by decide),.inl ⟨h42,List.perm_singleton.mp hp⟩⟩
def sFO:RF.Spec:=j4 (λa:List Nat×List (List Nat)=>[.lst (a.2.map D.str)]) vL (λa=>.str a.1)
theorem Zm(Φ:ao)(a:List Nat×List (List Nat))(G:DH)(h:vL a):aC Φ vd noE (env0 [.lst (a.2.map D.str)] 3) G (ends λd G'=>G'=G/\d=.str a.1):=by
 obtain ⟨m,W⟩:=a;obtain ⟨hl,hne,h64,hwl,hat⟩:=h;dsimp only at hl hne h64 hwl hat ⊢;obtain ⟨w0,ws,ew⟩:∃w0 ws,W=w0::ws:=by
  cases W with
  |nil=>exact absurd rfl hne
  |cons a l=>exact ⟨a,l,rfl⟩
 have hw0:w0.length=m.length:=hwl w0 (by rw[ew];exact aT);have e0:(W.map D.str)[0]?=some (.str w0):=by rw[ew];rfl
 simp_all_arith[vd];refine seq λM hM=>?_;simp_arith[ends];refine hM _ _ (seq λM hM=>?_);simp_arith![ends];refine dH (a:=.str w0) (cU (j:=0) e0) ?_;simp_arith![ends];refine ⟨⟨by omega,by omega⟩,ForG.inv (P:=λi ρ G'=>(∃o2 o3,ρ=[some (.lst (W.map D.str)),some (.str (m.take i)),o2,o3])/\G'=G) ⟨⟨_,_,rfl⟩,rfl⟩ (λ_ _ _ _=>trivial) ?_ ?_⟩
 ·rintro i d ρ G' hd ⟨⟨o2,o3,rfl⟩,rfl⟩ kk hk;unfold bY at hd;rw[ce]at hd;obtain ⟨j,hj,rfl⟩:=bS.mp hd;have hji:j=i/\i < m.length:=by
   have:=a7.mp hj;obtain ⟨q1,q2⟩:=this;rw[List.getElem_range]at q2;rw[hW]at q1;exact ⟨q2.symm,by omega⟩
  obtain ⟨rfl,hif⟩:=hji;have hx:m[j]?=some m[j]:=by simp[hif]
  generalize m[j]=c at hx;obtain ⟨w1,w2⟩:=hat j c hx;have tm:m.take (j+1)=m.take j++[c]:=by rw[fm,hx];rfl
  have ezj:(0:Int)+(j:Int)=((j:Nat):Int):=by omega
  simp_arith![ezj];refine seq λM hM=>?_;simp_arith![ends];refine CompG.map (f:=λd=>match d with |.str l=>.str [l.getD j 0] |_=>.non) (I:=λρ=>∃o,ρ=[o,some (.int j)]) ⟨_,rfl⟩ trivial (by rw[ax];have hsz:sz=1000000:=rfl;omega) ?_ ?_
  ·rintro d ρ hd ⟨o,rfl⟩ kk hk;obtain ⟨l,hl,rfl⟩:=cy.mp hd;have hll:l.length=m.length:=hwl l hl;have hlj:l[j]?=some (l.getD j 0):=by rw[eL,a9 (by omega)];rfl
   simp_arith[ends];refine dH (a:=l.getD j 0) (cU hlj) ?_;exact hk _ ⟨_,rfl⟩
  ·have el:(W.map D.str).map (λd=>match d with |.str l=>D.str [l.getD j 0] |_=>.non)=(dM W j).map D.str:=by
    unfold dM;rw[eJ,eJ];rfl
   rw[el];have ed:aW ((dM W j).map D.str)=some (dM W j):=vJ _;simp_arith![ed];refine ⟨⟨by unfold dM;rw[ax];omega,(JR w1 w2 (eP _)).1⟩,λls' pm=>hM _ _ (last ?_)⟩;rcases (JR w1 w2 pm).2 with ⟨h42,rfl⟩ |⟨rfl,a,b,rfl⟩
   ·simp_arith[ends];refine ⟨by decide,dH (a:=.str [c]) rfl ?_⟩;simp_arith[ends];refine ⟨by rw[c9];have hsz:sz=1000000:=rfl;omega,hk _ _ ⟨⟨some (.int j),_,by rw[tm]⟩,rfl⟩⟩
   ·simp_arith[ends];refine ⟨by decide,dH (a:=.str [42]) rfl ?_⟩;simp_arith[ends];refine ⟨by rw[c9];have hsz:sz=1000000:=rfl;omega,hk _ _ ⟨⟨some (.int j),_,by rw[tm]⟩,rfl⟩⟩
 ·rintro ρ G' ⟨⟨o2,o3,rfl⟩,rfl⟩;refine hM _ _ ?_;simp_arith[ends];unfold bY;rw[ax,hW,hw0];show D.str (m.take m.length)=_;rw[gI]
def aN(f g:List Nat):List Nat:=List.zipWith (λa b=>if a=b then a else 42) f g
theorem d9{f g:List Nat}(hl:f.length=g.length):(aN f g).length=f.length:=by unfold aN;rw[List.length_zipWith,hl,Nat.min_self]
theorem g8{f g:List Nat}{j a b:Nat}(ha:f[j]?=some a)(hb:g[j]?=some b):(aN f g)[j]?=some (if a=b then a else 42):=by unfold aN;rw[List.getElem?_zipWith,ha,hb]
theorem qi:∀f g:List Nat,aN f g=aN g f
 |[],[]=>rfl
 |[],_::_=>rfl
 |_::_,[]=>rfl
 |a::f,b::g=>by
  have ih:=qi f g;unfold aN at ih ⊢;rw[List.zipWith_cons_cons,List.zipWith_cons_cons,ih];congr 1;by_cases h:a=b
  ·rw[if_pos h,if_pos h.symm,h]
  ·rw[if_neg h,if_neg (λz=>h z.symm)]
theorem cJ{f:List Nat}{j:Nat}(h:j < f.length):∃a,f[j]?=some a:=⟨f[j],a9 h⟩
theorem vM{a b s:Nat}(ha:isF a)(hb:isF b)(h:s∈alt a):s∈alt (if a=b then a else 42):=by
 split
 ·exact h
 ·rcases ha with rfl |rfl |rfl
  ·rw[a8.mp h];exact aT
  ·rw[a8.mp h];exact bo _ aT
  ·exact h
theorem JS{a b s:Nat}(ha:isF a)(hb:isF b)(h:s∈alt (if a=b then a else 42)):s∈alt a\/s∈alt b:=by
 split at h
 ·exact .inl h
 ·rename_i hab;have h:s=48\/s=49:=by
   have h:s∈[48,49]:=h;simpa using h
  rcases ha with rfl |rfl |rfl
  ·rcases hb with rfl |rfl |rfl
   ·exact absurd rfl hab
   ·rcases h with rfl |rfl
    ·exact .inl aT
    ·exact .inr aT
   ·exact .inr (by rcases h with rfl |rfl <;> decide)
  ·rcases hb with rfl |rfl |rfl
   ·rcases h with rfl |rfl
    ·exact .inr aT
    ·exact .inl aT
   ·exact absurd rfl hab
   ·exact .inr (by rcases h with rfl |rfl <;> decide)
  ·exact .inl (by rcases h with rfl |rfl <;> decide)
theorem qj{f g w:List Nat}(hl:f.length=g.length)(hf:∀x∈f,isF x)(hg:∀x∈g,isF x)(h:w∈aF f):w∈aF (aN f g):=by
 obtain ⟨h1,h2⟩:=gf.mp h;refine gf.mpr ⟨(d9 hl).trans h1,λi c s hc hs=>?_⟩;have hi:i < f.length:=by have:=(a7.mp hc).1;rw[d9 hl]at this;exact this
 obtain ⟨a,ha⟩:=cJ hi;obtain ⟨b,hb⟩:=cJ (f:=g) (j:=i) (by omega);rw[g8 ha hb]at hc;cases hc;exact vM (hf a (bv ha)) (hg b (bv hb)) (h2 i a s ha hs)
theorem Zn{f g:List Nat}(hl:f.length=g.length)(h:bJ f g=true){j a b:Nat}(ha:f[j]?=some a)(hb:g[j]?=some b):a=42\/a=b:=by
 have hz:=Y9 h;clear h;induction f generalizing g j with
 |nil=>simp at ha
 |cons x f ih=>
  cases g with
  |nil=>simp at hl
  |cons y g=>
   have hz:(fK x y&&dJ f g)=true:=hz;rw[af]at hz;cases j with
   |zero=>
    have e1:x=a:=by simpa using ha
    have e2:y=b:=by simpa using hb
    subst e1 e2;exact JD.mp hz.1
   |succ j=>exact ih (g:=g) (j:=j) (by simpa using hl) (by simpa using ha) (by simpa using hb) hz.2
theorem JT{f g:List Nat}(hl:f.length=g.length)(h:bJ g f=true):aN f g=g:=by
 refine List.ext_getElem? λj=>?_;rcases Nat.lt_or_ge j f.length with hj |hj
 ·obtain ⟨a,ha⟩:=cJ hj;obtain ⟨b,hb⟩:=cJ (f:=g) (j:=j) (by omega);rw[g8 ha hb,hb];rcases Zn hl.symm h hb ha with rfl |rfl
  ·by_cases e:a=42
   ·rw[if_pos e,e]
   ·rw[if_neg e]
  ·rw[if_pos rfl]
 ·rw[dn (by rw[d9 hl];exact hj),dn (by omega)]
theorem JV{f g:List Nat}(hl:f.length=g.length)(h:¬bJ f g=true):∃(j a b:Nat),f[j]?=some a/\g[j]?=some b/\a≠42/\a≠b:=by
 rw[Y7 hl]at h;induction f generalizing g with
 |nil=>
  cases g with
  |nil=>exact absurd rfl h
  |cons y g=>simp at hl
 |cons x f ih=>
  cases g with
  |nil=>simp at hl
  |cons y g=>
   have e:dJ (x::f) (y::g)=(fK x y&&dJ f g):=rfl;rw[e,af]at h;by_cases hx:fK x y=true
   ·obtain ⟨j,a,b,h1,h2,h3⟩:=ih (g:=g) (by simpa using hl) λz=>h ⟨hx,z⟩;exact ⟨j+1,a,b,by simpa using h1,by simpa using h2,h3⟩
   ·rw[JD,not_or]at hx;exact ⟨0,x,y,rfl,rfl,hx.1,hx.2⟩
theorem JW{b:Nat}(hb:isF b)(h:b≠42):opp b≠b:=by
 rcases hb with rfl |rfl |rfl
 ·decide
 ·decide
 ·exact absurd rfl h
theorem JX(b:Nat):opp b=48\/opp b=49:=by unfold opp;split;exact .inr rfl;exact .inl rfl
theorem Zo{f g:List Nat}(hl:f.length=g.length)(hf:∀x∈f,isF x)(hg:∀x∈g,isF x)(h:bO f g=none):∃w∈aF (aN f g),w∉aF f/\w∉aF g:=by
 unfold bO at h;by_cases h1:bJ g f=true
 ·rw[if_pos h1]at h;cases h
 rw[if_neg h1]at h;by_cases h2:bJ f g=true
 ·rw[if_pos h2]at h;cases h
 rw[if_neg h2]at h;obtain ⟨i,bi,ai,gi,fi,ni,di⟩:=JV hl.symm h1;obtain ⟨k,ak,bk,fk,gk,nk,dk⟩:=JV hl h2;have hm:∀j,j∈unl f g f.length↔j < f.length/\f[j]?≠g[j]?:=λj=>by unfold unl;simp
 have key:∃(i k a b:Nat),i≠k/\g[i]?=some b/\b≠42/\f[i]?≠some b/\f[k]?=some a/\a≠42/\g[k]?≠some a:=by
  by_cases e:i=k
  ·subst e;rw[fi]at fk;cases fk;rw[gi]at gk;cases gk;have hex:∃j,j≠i/\j < f.length/\f[j]?≠g[j]?:=by
    apply Classical.byContradiction;intro hno;have hi:i∈unl f g f.length:=(hm i).mpr ⟨(a7.mp fi).1,by rw[fi,gi];intro z;exact dk (bP z)⟩;have hnd:(unl f g f.length).Nodup:=by unfold unl;exact List.Pairwise.filter _ List.nodup_range
    have hall:∀j∈unl f g f.length,j=i:=λj hj=>by
     apply Classical.byContradiction;intro hne;exact hno ⟨j,hne,(hm j).mp hj⟩
    have e1:unl f g f.length=[i]:=by
     match unl f g f.length,hi,hnd,hall with
     |[],hi,_,_=>cases hi
     |[x],_,_,hall=>rw[hall x aT]
     |x::y::l,_,hn,hall=>
      have hx:=hall x (by simp);have hy:=hall y (by simp);simp only[eS,bb,not_or]at hn;exact absurd (hx.trans hy.symm) hn.1.1
    rw[e1]at h;cases h
   obtain ⟨j,hji,hjl,hjd⟩:=hex;obtain ⟨a,ha⟩:=cJ hjl;obtain ⟨b,hb⟩:=cJ (f:=g) (j:=j) (by omega);have hab:a≠b:=λz=>hjd (by rw[ha,hb,z]);by_cases ha42:a=42
   ·refine ⟨j,i,ai,b,hji,hb,λz=>hab (by rw[ha42,z]),by rw[ha];intro z;exact hab (bP z),fi,nk,by rw[gi];intro z;exact di (bP z)⟩
   ·refine ⟨i,j,a,bi,λz=>hji z.symm,gi,ni,by rw[fi];intro z;exact di (bP z).symm,ha,ha42,by rw[hb];intro z;exact hab (bP z).symm⟩
  ·exact ⟨i,k,ak,bi,e,gi,ni,by rw[fi];intro z;exact di (bP z).symm,fk,nk,by rw[gk];intro z;exact dk (bP z).symm⟩
 obtain ⟨i,k,a,b,hik,gi,nb,fi,fk,na,gk⟩:=key;have il:i < f.length:=by have:=(a7.mp gi).1;omega
 have kl:k < f.length:=(a7.mp fk).1;have hbF:=hg b (bv gi);have haF:=hf a (bv fk);have hi42:(aN f g)[i]?=some 42:=by obtain ⟨a',ha'⟩:=cJ il;rw[g8 ha' gi,if_neg (λz=>fi (by rw[ha',z]))]
 have hk42:(aN f g)[k]?=some 42:=by obtain ⟨b',hb'⟩:=cJ (f:=g) (j:=k) (by omega);rw[g8 fk hb',if_neg (λz=>gk (by rw[hb',z]))]
 let v:=(aN f g).map λc=>if c=42 then 48 else c
 have vl:v.length=f.length:=by show ((aN f g).map _).length=_;rw[ax,d9 hl]
 let w:=(v.set i (opp b)).set k (opp a)
 have wi:w[i]?=some (opp b):=by show ((v.set i (opp b)).set k (opp a))[i]?=_;rw[fg (λz=>hik z.symm),eK (by omega)]
 have wk:w[k]?=some (opp a):=by show ((v.set i (opp b)).set k (opp a))[k]?=_;rw[eK (by rw[List.length_set];omega)]
 refine ⟨w,gf.mpr ⟨?_,λj c s hc hs=>?_⟩,λhw=>?_,λhw=>?_⟩
 ·show (aN f g).length=((v.set i (opp b)).set k (opp a)).length;rw[List.length_set,List.length_set,vl,d9 hl]
 ·by_cases ek:j=k
  ·subst ek;rw[hk42]at hc;cases hc;rw[wk]at hs;cases hs;rcases JX a with z |z <;> rw[z] <;> decide
  ·by_cases ei:j=i
   ·subst ei;rw[hi42]at hc;cases hc;rw[wi]at hs;cases hs;rcases JX b with z |z <;> rw[z] <;> decide
   ·have hs:((v.set i (opp b)).set k (opp a))[j]?=some s:=hs;rw[fg (λz=>ek z.symm),fg (λz=>ei z.symm)]at hs;have hs:((aN f g).map λc=>if c=42 then 48 else c)[j]?=some s:=hs;rw[ce,hc]at hs;have hs:(if c=42 then 48 else c)=s:=bP hs;unfold alt;split
    ·rename_i z;rw[if_pos z]at hs;rw[<-hs];exact aT
    ·rename_i z;rw[if_neg z]at hs;rw[<-hs];exact aT
 ·have:=(gf.mp hw).2 k a (opp a) fk wk;unfold alt at this;rw[if_neg na]at this;exact JW haF na (a8.mp this)
 ·have:=(gf.mp hw).2 i b (opp b) gi wi;unfold alt at this;rw[if_neg nb]at this;exact JW hbF nb (a8.mp this)
theorem Zq{f g m:List Nat}(hl:f.length=g.length)(hf:∀x∈f,isF x)(hg:∀x∈g,isF x)(h:bO f g=some m):m=aN f g/\∀w∈aF (aN f g),w∈aF f\/w∈aF g:=by
 unfold bO at h;by_cases h1:bJ g f=true
 ·rw[if_pos h1]at h;cases h;have e:=JT hl h1;rw[e];exact ⟨rfl,λw hw=>.inr hw⟩
 rw[if_neg h1]at h;by_cases h2:bJ f g=true
 ·rw[if_pos h2]at h;cases h;have e:=JT hl.symm h2;rw[qi]at e;rw[e];exact ⟨rfl,λw hw=>.inl hw⟩
 rw[if_neg h2]at h;split at h
 ·rename_i i hu;cases h;obtain ⟨hi,hne,hsame⟩:=JK hl hu;obtain ⟨a,ha⟩:=cJ hi;obtain ⟨b,hb⟩:=cJ (f:=g) (j:=i) (by omega);have hab:a≠b:=λz=>hne (by rw[ha,hb,z]);have e:f.set i 42=aN f g:=by
   refine List.ext_getElem? λj=>?_;by_cases ej:j=i
   ·subst ej;rw[eK hi,g8 ha hb,if_neg hab]
   ·rw[fg (λz=>ej z.symm)];rcases Nat.lt_or_ge j f.length with hj |hj
    ·obtain ⟨c,hc⟩:=cJ hj;have hc':g[j]?=some c:=by rw[<-hsame j ej];exact hc
     rw[g8 hc hc',if_pos rfl,hc]
    ·rw[dn hj,dn (by rw[d9 hl];exact hj)]
  refine ⟨e,λw hw=>?_⟩;rw[<-e]at hw;obtain ⟨wl,wa⟩:=gf.mp hw;rw[List.length_set]at wl;obtain ⟨s,hs⟩:=cJ (f:=w) (j:=i) (by omega);have h42:=wa i 42 s (eK hi) hs;have rest:∀(u:List Nat)(c:Nat),u.length=w.length->u[i]?=some c->s∈alt c->(∀j,j≠i->u[j]?=f[j]?)->w∈aF u:=by
   intro u c ul uc sc us;refine gf.mpr ⟨ul,λj c' s' h1 h2=>?_⟩;by_cases ej:j=i
   ·subst ej;rw[uc]at h1;cases h1;rw[hs]at h2;cases h2;exact sc
   ·refine wa j c' s' ?_ h2;rw[fg (λz=>ej z.symm),<-us j ej];exact h1
  rcases JS (hf a (bv ha)) (hg b (bv hb)) (by rw[if_neg hab];exact h42) with z |z
  ·exact .inl (rest f a wl ha z λj _=>rfl)
  ·exact .inr (rest g b (by omega) hb z λj hj=>(hsame j hj).symm)
 ·cases h
theorem JZ{n:Nat}{f g:List Nat}{W:List (List Nat)}(hn:n<=6)(hf:okF n f)(hg:okF n g)(hp:W.Perm (bF (aF f++aF g))):vL (aN f g,W)/\(bF (aF f++aF g)).length<=64/\W.Nodup/\∀w,w∈W↔(w∈aF f\/w∈aF g):=by
 have hl:f.length=g.length:=hf.1.trans hg.1.symm;have hmem:∀w,w∈W↔(w∈aF f\/w∈aF g):=λw=>by
  rw[hp.mem_iff];constructor
  ·intro h;exact cf.mp (um _ h)
  ·intro h;exact JN (cf.mpr h)
 have hnd:W.Nodup:=hp.nodup_iff.mpr (JP _);have hwl:∀w∈W,w.length=(aN f g).length:=λw hw=>by
  rw[d9 hl];rcases (hmem w).mp hw with z |z
  ·exact vD z
  ·rw[vD z,hl]
 have hfl:=hf.1;have h6:(aN f g).length<=6:=by rw[d9 hl];omega
 have hsub:∀w∈W,w∈aF (aN f g):=λw hw=>by
  rcases (hmem w).mp hw with z |z
  ·exact qj hl hf.2 hg.2 z
  ·rw[qi];exact qj hl.symm hg.2 hf.2 z
 have hle:W.length<=64:=cw (qg hnd hsub) (vK h6);refine ⟨⟨h6,?_,hle,hwl,λj c hc=>?_⟩,by rw[<-hp.length_eq];exact hle,hnd,hmem⟩
 ·intro e;cases ew:aF f with
  |nil=>rw[gZ]at ew;exact JM f ew
  |cons x l=>
   have:x∈W:=(hmem x).mpr (.inl (by rw[ew];exact aT));rw[show W=[] from e]at this;cases this
 ·have hj:j < f.length:=by
   have:=(a7.mp hc).1;rw[d9 hl]at this;exact this
  obtain ⟨a,ha⟩:=cJ hj;obtain ⟨b,hb⟩:=cJ (f:=g) (j:=j) (by omega);have haF:=hf.2 a (bv ha);have hbF:=hg.2 b (bv hb);rw[g8 ha hb]at hc;cases hc;have ca:(if a=b then a else 42)=if b=a then b else 42:=by
   by_cases e:a=b
   ·rw[if_pos e,if_pos e.symm,e]
   ·rw[if_neg e,if_neg (λz=>e z.symm)]
  refine ⟨λw hw=>?_,λs hs=>?_⟩
  ·rcases (hmem w).mp hw with z |z
   ·rw[gZ]at z;obtain ⟨s,h1,h2⟩:=(kO ha).1 w z;exact ⟨s,h1,vM haF hbF h2⟩
   ·rw[gZ]at z;obtain ⟨s,h1,h2⟩:=(kO hb).1 w z;exact ⟨s,h1,by rw[ca];exact vM hbF haF h2⟩
  ·rcases JS haF hbF hs with z |z
   ·obtain ⟨w,h1,h2⟩:=(kO ha).2 s z;exact ⟨w,(hmem w).mpr (.inl (by rw[gZ];exact h1)),h2⟩
   ·obtain ⟨w,h1,h2⟩:=(kO hb).2 s z;exact ⟨w,(hmem w).mpr (.inr (by rw[gZ];exact h1)),h2⟩
theorem Zr{f g:List Nat}{W:List (List Nat)}(hl:f.length=g.length)(hf:∀x∈f,isF x)(hg:∀x∈g,isF x)(hnd:W.Nodup)(hmem:∀w,w∈W↔(w∈aF f\/w∈aF g)):
  (bO f g=none/\W.length < 2 ^ stc (aN f g))\/(bO f g=some (aN f g)/\¬W.length < 2 ^ stc (aN f g)):=by
 have ew:(aF (aN f g)).length=2 ^ stc (aN f g):=by rw[gZ,vH]
 have hsub:∀w∈W,w∈aF (aN f g):=λw hw=>by
  rcases (hmem w).mp hw with z |z
  ·exact qj hl hf hg z
  ·rw[qi];exact qj hl.symm hg hf z
 cases h:bO f g with
 |none=>
  obtain ⟨w,h1,h2,h3⟩:=Zo hl hf hg h;refine .inl ⟨rfl,?_⟩;have hw:w∉W:=λz=>by rcases (hmem w).mp z with z |z;exact h2 z;exact h3 z
  have:=qg (U:=w::W) (W:=aF (aN f g)) (eS.mpr ⟨hw,hnd⟩) λx hx=>by
   rcases bb.mp hx with e |hx
   ·rw[e];exact h1
   ·exact hsub x hx
  rw[ew,c6]at this;omega
 |some m=>
  obtain ⟨rfl,h2⟩:=Zq hl hf hg h;refine .inr ⟨rfl,?_⟩;have:=qg (U:=aF (aN f g)) (W:=W) (by rw[gZ];exact JQ _) λx hx=>(hmem x).mpr (h2 x hx);omega
def vN:RF.Spec:=j4 (λf:List Nat=>[.str f]) (λf=>f.length<=1000) (λf=>.int ((2 ^ stc f:Nat):Int))
theorem Zt(Φ:ao)(f:List Nat)(G:DH)(h:f.length<=1000):aC Φ vf noE (env0 [.str f] 2) G (ends λd G'=>G'=G/\d=.int ((2 ^ stc f:Nat):Int)):=by
 simp_all_arith[vf];refine seq λM hM=>?_;simp_arith[ends];refine hM _ _ (seq λM hM=>?_);simp_arith![ends];refine ForG.inv (P:=λi ρ G'=>(∃o2,ρ=[some (.str f),some (.int ((2 ^ stc (f.take i):Nat):Int)),o2])/\G'=G) ⟨⟨_,rfl⟩,rfl⟩ (λ_ _ _ _=>trivial) ?_ ?_
 ·rintro i d ρ G' hd ⟨⟨o2,rfl⟩,rfl⟩ kk hk;rw[ce]at hd;obtain ⟨c,hc,rfl⟩:=bS.mp hd;have st:=Y8 hc;simp_arith![ends];refine last ?_;simp_arith[vG];cases hb:(c==42) with
  |true=>
   rw[hb,if_pos rfl]at st;refine ⟨fH (by decide),hk _ _ ⟨⟨some (.str [c]),?_⟩,rfl⟩⟩;rw[st,Nat.pow_succ,Int.natCast_mul];rfl
  |false=>
   rw[hb,if_neg (by decide),Nat.add_zero]at st;refine ⟨fH (by decide),hk _ _ ⟨⟨some (.str [c]),?_⟩,rfl⟩⟩;rw[st];show [_,some (D.int (((2 ^ stc (f.take i):Nat):Int) * 1)),_]=_;rw[Int.mul_one];rfl
 ·rintro ρ G' ⟨⟨o2,rfl⟩,rfl⟩;rw[ax,gI];refine hM _ _ ?_;simp_arith[ends]
structure R4(Φ:ao):Prop where
 words:Φ "_law_words"=qb
 many:Φ "_law_many_words"=vN
 same:Φ "_law_same"=dh 9
 join:Φ "joined"=bT jj
 form:Φ "_law_form_of"=sFO
def J0(a:Nat×List Nat×List Nat)(ds:List D)(_:DH):Prop:=ds=[.str a.2.1,.str a.2.2]/\a.1<=6/\okF a.1 a.2.1/\okF a.1 a.2.2
def ql:RF.Spec:=ghS J0 (λ_ G d G'=>Sa G G'/\d=.bl true)
theorem kW{w:Nat}{f g:List Nat}{G:DH}{k:D->DH->Prop}{E:EK}(h1:w<=6)(h2:okF w f)(h3:okF w g)(hk:∀G',Sa G G'->k (.bl true) G'):ql.t [.str f,.str g] G k E:=
 uQ (w,f,g) ⟨rfl,h1,h2,h3⟩ λd G' ⟨e1,e2⟩=>by subst e2;exact hk G' e1
theorem Zu(Φ:ao)(F:R4 Φ)(a:Nat×List Nat×List Nat)(ds:List D)(G:DH)(h:J0 a ds G):aC Φ vh noE (env0 ds 2) G (ends λd G'=>Sa G G'/\d=.bl true):=by
 obtain ⟨w,f,g⟩:=a;obtain ⟨rfl,hw,hf,hg⟩:=h;dsimp only at hw hf hg;have hl:f.length=g.length:=hf.1.trans hg.1.symm;have hfl:=hf.1;have wf:=vK (m:=f) (by omega);have wg:=vK (m:=g) (by omega);simp_all_arith[vh];refine seq λM hM=>?_;simp_arith[F.words];refine Jy (by omega) λG1 sa1=>?_;simp_arith[F.words];refine Jy (by omega) λG2 sa2=>?_;have ed:aW ((aF f++aF g).map D.str)=some (aF f++aF g):=vJ _;simp_arith[<-List.map_append,ed,ax,bd];have ok0:=JZ hw hf hg (eP _);refine ⟨by have hsz:sz=1000000:=rfl;omega,⟨by omega,ok0.2.1⟩,λW pm=>hM _ _ (seq λM hM=>?_)⟩;obtain ⟨okw,_,hnd,hmem⟩:=JZ hw hf hg pm;simp_arith[F.form];refine Jc (aN f g,W) rfl okw (hM _ _ (seq λM hM=>?_));have hz:(aN f g).length<=1000:=by rw[d9 hl];omega
 simp_arith[F.many];refine Jc (aN f g) rfl hz ?_;have fin:∀d,d=gW (bO f g)->M [some (.str f),some (.str g),some (.lst (W.map D.str)),some d] G2:=by rintro d rfl;refine hM _ _ (last ?_);simp_arith[F.join,F.same];refine Ze hl (by omega) ?_;refine Jq (by cases bO f g <;> rfl) (by cases bO f g <;> exact (show 0 < 9 by decide)) (by cases bO f g <;> rfl) ?_;exact ⟨sa1.trans sa2,rfl⟩
 simp_arith[ax];have hc:=Zr hl hf.2 hg.2 hnd hmem;rcases hc with ⟨hj,hlt⟩ |⟨hj,hlt⟩
 ·rw[fe (show ((W.length:Nat):Int) < ((2 ^ stc (aN f g):Nat):Int) from Int.ofNat_lt.mpr hlt)];exact fin _ (by rw[hj];rfl)
 ·rw[cS (show ¬((W.length:Nat):Int) < ((2 ^ stc (aN f g):Nat):Int) from λz=>hlt (Int.ofNat_lt.mp z))];exact fin _ (by rw[hj];rfl)
structure F04(Φ:ao):Prop where
 opn:Φ "_law_open"=vp
 anew:Φ "_law_anew"=p7
 pair:Φ "_law_pair"=qe
 right:Φ "_law_right"=ql
 take:Φ "_law_take"=d8
theorem J1{n c:Nat}{f:List Nat}{at_:Nat}(hf:okF n f)(h:at_ < n)(hc:isF c):okF n (f.take at_++[c]++f.drop (at_+1)):=by
 refine ⟨?_,λx hx=>?_⟩
 ·have:=hf.1;rw[bd,bd,c9,dA,List.length_singleton];omega
 ·rcases cf.mp hx with z |z
  ·rcases cf.mp z with z |z
   ·exact hf.2 x (List.mem_of_mem_take z)
   ·rw[a8.mp z];exact hc
  ·exact hf.2 x (List.mem_of_mem_drop z)
theorem Zv(Φ:ao)(F:F04 Φ)(ds:List D)(G:DH)(h:∃ns:List Int,ds=[.scr ns]/\ns.length<=63):aC Φ vm noE (env0 ds 6) G (ends λd _=>d=.bl true):=by
 obtain ⟨ns,rfl,hl⟩:=h;simp_all_arith[vm];refine seq λM hM=>?_;simp_arith[F.opn];refine cI ⟨ns,rfl,hl⟩ λd' G1 ⟨p,e1,_,hp,_⟩=>?_;subst e1;refine hM _ _ (seq λM hM=>?_);simp_arith![ends];refine ⟨by decide,ForG.inv (P:=λi ρ G'=>(∃o2 o3 o4 o5 o6,ρ=[some (.scr ns),some (.ref p),o2,o3,o4,o5,o6])/\Pen G' p) ⟨⟨_,_,_,_,_,rfl⟩,hp⟩ (λ_ _ _ _=>trivial) ?_ ?_⟩
 ·rintro i d ρ G2 hd ⟨⟨o2,o3,o4,o5,o6,rfl⟩,hp2⟩ kk hk;simp_arith![ends];refine seq λM hM=>?_;simp_arith[F.anew,F.pair];refine Y0 hp2 λG3 hp3 _=>?_;refine Zc (m:=6) hp3 (by decide) (by decide) λw f g G4 w1 w6 hf hg hp4 _=>?_;simp_arith[ends];refine hM _ _ (seq λM hM=>?_);simp_arith[F.right];refine kW w6 hf hg λG5 sa5=>?_;simp_arith[F.right];refine kW w6 hg hf λG6 sa6=>?_;simp_arith[F.right];refine kW w6 hf hf λG7 sa7=>?_;simp_arith[ends];have hp7:=((hp4.sa sa5).sa sa6).sa sa7;refine hM _ _ (seq λM hM=>?_);have hfl:=hf.1;simp_arith[F.take];refine fJ hp7 (by omega) (by omega) λat_ G8 hat hp8 sb8=>hM _ _ (seq λM hM=>?_);simp_arith![ends];refine CompG.map (f:=λd=>match d with |.str [c]=>.str (f.take at_++[c]++f.drop (at_+1)) |_=>.non) (I:=λρ=>∃o,ρ=[o,some (.str f),some (.int at_)]) ⟨_,rfl⟩ trivial (by decide) ?_ ?_
  ·rintro d ρ hd ⟨o,rfl⟩ kk hk;have hd:d=.str [48]\/d=.str [49]:=by simpa using hd
   obtain ⟨c,rfl⟩:∃c,d=.str [c]:=by rcases hd with rfl |rfl;exact ⟨48,rfl⟩;exact ⟨49,rfl⟩
   have hkk:=hk [some (.str [c]),some (.str f),some (.int at_)] ⟨_,rfl⟩;simp_arith[uL,uM,bd,c9,dA];exact ⟨by have hsz:sz=1000000:=rfl;omega,by have hsz:sz=1000000:=rfl;omega,hkk⟩
  ·refine hM _ _ (last ?_);have h0:=J1 hf (by omega:at_ < w) (c:=48) (.inl rfl);have h1:=J1 hf (by omega:at_ < w) (c:=49) (.inr (.inl rfl));simp_arith[F.right,dy,gL];refine kW w6 h0 h1 λG9 sa9=>?_;simp_arith[F.right];refine kW w6 h1 h0 λG10 sa10=>?_;simp_arith[ends];exact hk _ _ ⟨⟨_,_,_,_,_,rfl⟩,(hp8.sa sa9).sa sa10⟩
 ·rintro ρ G2 ⟨_,hp2⟩;refine hM _ _ ?_;simp_arith[ends]
end RF
namespace HD
open PySem PySem.W
def sv(x:Str)(t:Nat):Value:=.str x t
def ri(n:Nat):Value:=.int n 0
def gh (l:List Value):Obj:=⟨.type "tuple",none,.seq ⟨l⟩ 0,⟨[]⟩⟩
def eE(c:Value)(l:List Value):Obj:=⟨c,none,.fields ⟨l⟩,⟨[]⟩⟩
def kY:Str:="/claim/cut.py"
noncomputable def vO(n q:Str)(ln ac fl a b:Nat)(isf:Bool)(l1 l2 tm:Value)(t t2:Nat):Obj:=
 eE (.type "code") [sv n t,sv q (t+1),sv kY (t+2),ri ln,ri ac,ri 0,ri 0,ri fl,.ref a,.bool isf,ri 181,.ref b,.none,l1,l2,tm,ri t2,ri ln,sv kY (t2+1)]
def toks(t:Nat):List Str->List Value
 |[]=>[]
 |x::r=>sv x t::toks (t+1) r
def fdO(n q:Str)(p:Arguments)(b:List Stmt)(sc:Scope)(g:Nat)(md cd:Value):Data:=
 .func { name:=n,qualname:=q,params:=p,body:=.stmts b,scope:=sc,globals:=g,closure:=[],defaults:=.none,kwdefaults:=.none,pyModule:=md,code:=cd }
def enO(P:Params)(k:Str)(t:Nat)(v:Value):DictEntry:={ hash:=PyData.keyHash P k,key:=sv k t,val:=v }
def kZ (l:List DictEntry) (e:Nat):Obj:=⟨.type "dict",none,.dict ⟨l⟩ e,⟨[]⟩⟩
noncomputable def frO (c l:Nat) (md:Value):Obj:=⟨.type "frame",none,.plain,⟨[some (.ref c),some (.ref 3),some (.ref l),none,some md,none,some (.ref 0)]⟩⟩
def bfO (s:String) (v:Value):Obj:=eE (.type "builtin_function_or_method") [.builtin s,v]
def veM:List Value:=[.type "ValueError",.type "Exception",.type "BaseException",.type "object"]
def qm (b:Expr):Bool:=match b with |.Name n _=>n==("ValueError":Str) |_=>false
noncomputable def fnO(q:Str)(a t:Nat)(md:Value)(n:Str)(p:Arguments)(b:List Stmt)(sc:Scope)(ln:Nat):List Obj:=match localNames p sc (.stmts b) with
 |some l=>[gh [],eE .none [],gh (toks (t+3) l.1),gh [],⟨.none,none,fdO n q p b sc 0 .none .none,⟨[]⟩⟩,
   vO n q ln p.args.length 3 a (a+1) true (.ref (a+2)) (.ref (a+3)) (.ref (a+4)) t (t+3+l.1.length),⟨.type "function",none,fdO n q p b sc 3 md (.ref (a+5)),⟨[]⟩⟩]
 |none=>[gh [],eE .none [],⟨.none,none,fdO n q p b sc 0 .none .none,⟨[]⟩⟩,
   vO n q ln p.args.length 3 a (a+1) true .none .none (.ref (a+2)) t (t+3),⟨.type "function",none,fdO n q p b sc 3 md (.ref (a+3)),⟨[]⟩⟩]
noncomputable def fnA(p:Arguments)(b:List Stmt)(sc:Scope):Nat:=match localNames p sc (.stmts b) with |some _=>7 |none=>5
noncomputable def fnT(p:Arguments)(b:List Stmt)(sc:Scope):Nat:=match localNames p sc (.stmts b) with |some l=>l.1.length+5 |none=>5
def dot:Str:="."
structure MO where
 os:List Obj
 es:List DictEntry
 cs:List Value
 a:Nat
 t:Nat
noncomputable def qp(P:Params)(c:Str)(md:Value):List Stmt->Nat->Nat->MO
 |.FunctionDef n p b _ _ _ sc _ _ pos::r,a,t=>
  let m:=qp P c md r (a+fnA p b sc) (t+fnT p b sc+1)
  ⟨fnO (c++dot++n) a t md n p b sc pos.line++m.os,enO P n (t+fnT p b sc) (.ref (a+fnA p b sc - 1))::m.es,ri pos.line::ri pos.col::.ref (a+fnA p b sc - 2)::m.cs,m.a,m.t⟩
 |_::r,a,t=>qp P c md r a t
 |[],a,t=>⟨[],[],[],a,t⟩
def clA(P:Params)(a:Nat)(b:List Stmt):Nat:=(qp P dot .none b (a+7) 0).a+2
noncomputable def stO(P:Params)(r:Nat)(sub:List Value)(a t:Nat)(md:Value)(s:Stmt):List Obj:=match s with
 |.FunctionDef n p b _ _ _ sc _ _ pos=>fnO n a t md n p b sc pos.line
 |.ClassDef n bs _ body _ _ _ _ _ st pos=>
  let m:=qp P n md body (a+7) (t+12)
  let c:=m.a+2
  let u:=m.t+st.length
  let d1:=[enO P "__module__" (t+7) md]
  let d2:=enO P "__firstlineno__" (t+11) (.int pos.line (t+10))::m.es++[enO P "__static_attributes__" u (.ref m.a)]
  let b:List Value:=match bs with |b::_=>(match qm b with |true=>[.type "ValueError"] |false=>[.ref r]) |[]=>[]
  let own:Bool:=match bs with |[]=>true |_=>false
  let ve:Bool:=match bs with |b::_=>qm b |[]=>false
  let wr (v:Nat):Obj:=eE (.type "getset_descriptor") [sv "__weakref__" v,.ref c,.builtin "ExceptionGroup.__weakref__",.none]
  let typ (mro:List Value) (sub:List Value) (nw:String):Obj:=
   ⟨.type "type",none,.cls { name:=n,bases:=(match own with |true=>[.type "object"] |false=>b),mro:=.ref c::mro,ns:=m.a+1,qualname:=n,subclasses:=sub },
    ⟨[(match own with |true=>none |false=>some (.ref a)),none,some (sv n t),some (sv n (t+8)),some (.builtin nw),some (.bool true)]⟩⟩
  [gh b,bfO "type.__prepare__" (.type "type"),kZ (d1++enO P "__qualname__" (t+9) (sv n (t+8))::d2) (4+m.es.length),gh [],eE .none m.cs,
   vO n n pos.line 0 0 (a+3) (a+4) false .none .none .none (t+2) (t+5),frO (a+5) (a+2) md]++m.os++[gh (toks m.t st)] ++
  (match own with
  |true=>[kZ (d1++d2++[enO P "__dict__" (u+2) (.ref (c+1)),enO P "__weakref__" (u+4) (.ref (c+2)),enO P "__doc__" (u+5) .none]) 4,typ [.type "object"] [] "object.__new__",
    eE (.type "getset_descriptor") [sv "__dict__" (u+1),.ref c,.builtin "function.__dict__",.builtin "function.__dict__#set"],wr (u+3)]
  |false=>(match ve with
   |true=>[kZ (d1++d2++[enO P "__weakref__" (u+2) (.ref (c+1)),enO P "__doc__" (u+3) .none]) 3,typ veM sub "ValueError.__new__",wr (u+1)]
   |false=>[kZ (d1++d2++[enO P "__doc__" (u+1) .none]) 2,typ (.ref r::veM) [] "ValueError.__new__"])) ++
  [eE (.type "super") [.ref c,.ref c,.ref c],bfO "object.__init_subclass__" (.ref c)]
 |_=>[]
noncomputable def mdO(t:Nat)(md:Value)(s:Stmt):Value:=match s with
 |.Assign [.Name n _] (.Constant (.str x) _ _) _=>(match n==("__name__":Str) with |true=>sv x t |false=>md)
 |_=>md
noncomputable def enS(P:Params)(lk:Str->Value)(t u a a':Nat)(s:Stmt):List DictEntry:=match s with
 |.Assign [.Name n _] (.Name y _) _=>[enO P n t (lk y)]
 |.FunctionDef n _ _ _ _ _ _ _ _ _=>[enO P n (u-1) (.ref (a'-1))]
 |.ClassDef n _ _ b _ _ _ _ _ _ _=>[enO P n (u-1) (.ref (clA P a b))]
 |.Assign [.Name n _] (.Constant c _ _) _=>(match n==("__name__":Str) with
  |true=>[]
  |false=>[enO P n (t+1) (match c with |.int i=>.int i t |.str x=>sv x t |_=>.none)])
 |_=>[]
noncomputable def fnS(a':Nat)(s:Stmt):List (Str×Value):=match s with
 |.FunctionDef n _ _ _ _ _ _ _ _ _=>[(n,.ref (a'-1))]
 |_=>[]
noncomputable def cdS(a a':Nat)(s:Stmt):List Value:=match s with
 |.FunctionDef _ _ _ _ _ _ _ _ _ pos=>[ri pos.line,ri pos.col,.ref (a'-2)]
 |.ClassDef _ _ _ _ _ _ _ _ _ _ pos=>[ri pos.line,ri pos.col,.ref (a+5)]
 |_=>[]
noncomputable def sbS(P:Params)(a:Nat)(s:Stmt):List Value:=match s with
 |.ClassDef _ bs _ b0 _ _ _ _ _ _ _=>(match bs with |b::_=>(match qm b with |true=>[] |false=>[.ref (clA P a b0)]) |[]=>[])
 |_=>[]
noncomputable def Zw(P:Params)(a:Nat)(s:Stmt):List Nat:=match s with
 |.ClassDef _ bs _ b0 _ _ _ _ _ _ _=>(match bs with |b::_=>(match qm b with |true=>[clA P a b0] |false=>[]) |[]=>[])
 |_=>[]
noncomputable def fold{α:Type}(f:Nat->Nat->Nat->Nat->Value->Stmt->List α):List (Nat×Nat)->Value->List Stmt->List α
 | (a,t)::(a',u)::r,md,s::ss=>f a a' t u md s++fold f ((a',u)::r) (mdO t md s) ss
 |_,_,_=>[]
def J2:List (Nat×Nat)->Value->List Stmt->Value
 | (_,t)::r,md,s::ss=>J2 r (mdO t md s) ss
 |_,md,_=>md
def gj:Value:=sv "__main__" 164
noncomputable def Zx(P:Params)(v:Value):List DictEntry:=
 [enO P "__name__" 165 v,enO P "__doc__" 166 .none,enO P "__package__" 167 .none,enO P "__loader__" 168 (.builtin "__main__.__loader__#opaque"),enO P "__spec__" 169 .none,
  enO P "__annotations__" 170 (.ref 6),enO P "__builtins__" 171 (.ref 4),enO P "__file__" 173 (sv kY 172),enO P "__cached__" 174 .none]
noncomputable def ents(N:List (Nat×Nat))(b:List Stmt)(P:Params):List DictEntry:=Zx P (J2 N gj b)++fold (λa a' t u _ s=>enS P (λy=>((fold (λ_ a' _ _ _ s=>fnS a' s) N gj b).lookup y).getD .none) t u a a' s) N gj b
def put{α:Type}:Nat->α->List α->List α
 |_,_,[]=>[]
 |0,x,_::r=>x::r
 |n+1,x,y::r=>y::put n x r
noncomputable def J3(cs:List Value):List Obj:=[gh [],eE .none cs,
 eE (.type "code") [sv "<module>" 182,sv "<module>" 183,sv kY 184,ri 1,ri 0,ri 0,ri 0,ri 0,.ref 11,.bool false,ri 181,.ref 12,.none,.none,.none,.none,ri 185,ri 1,sv kY 186],frO 13 3 gj]
def Zy(B:List Obj):List Obj:=B++J3 []
noncomputable def objs(B:List Obj)(N:List (Nat×Nat))(b:List Stmt)(P:Params):List Obj:=
 let es:=ents N b P
 put 3 (kZ es es.length) (B++J3 (fold (λa a' _ _ _ s=>cdS a a' s) N gj b) ++
  fold (λa _ t _ md s=>stO P ((fold (λa _ _ _ _ s=>Zw P a s) N gj b).headD 0) (fold (λa _ _ _ _ s=>sbS P a s) N gj b) a t md s) N gj b)
def evs{α:Type}:List α->List α
 |[]=>[]
 |[x]=>[x]
 |x::_::r=>x::evs r
noncomputable def bt:Nat->List Obj->BT
 |0,_=>.nil
 |_,[]=>.nil
 |n+1,x::r=>.node x (bt n (evs r)) (bt n (evs r.tail))
def nameless(s:Stmt):Bool:=match s with
 |.Assign [.Name n _] _ _=>!(n==("__name__":Str))
 |_=>true
noncomputable def pick:Nat->List Nat->List Obj->Frag
 |i,a::r,o::os=>(match Nat.beq a i with |true=>(a,o)::pick (i+1) r os |false=>pick (i+1) (a::r) os)
 |_,_,_=>[]
end HD
def PySem.W.Fast.tw5555471914669349206:PySem.Program:=PySem.Challenge.pw_starsieve_k04_forms_joined
theorem PySem.W.Fast.te5555471914669349206:PySem.Challenge.pw_starsieve_k04_forms_joined=PySem.W.Fast.tw5555471914669349206:=rfl
namespace HK
open PySem PySem.W PySem.W.Fast
def pw:Program:=PySem.Challenge.pw_starsieve_k04_forms_joined
def rl:OpenLaw:=PySem.Challenge.rw_starsieve_k04_forms_joined
noncomputable def NN:List (Nat×Nat):=[(15,187),(15,189),(20,195),(27,203),(34,212),(39,218),(39,220),(46,231),(53,241),(60,248),(67,259),(72,265),(79,273),(86,283),(93,293),(100,305),(105,311),(110,317),(115,323),(122,333),(129,342),(136,352),(141,358)]
def L1(P:Params):List Obj:=HD.objs (boot_heap P).objs.toList NN pw.main.body P
def H1(P:Params):Heap:=⟨⟨L1 P⟩,{}⟩
def T1(P:Params):BT:=HD.bt 12 (L1 P)
def LA(P:Params):List Obj:=HD.Zy (boot_heap P).objs.toList
def HA(P:Params):Heap:=⟨⟨LA P⟩,{}⟩
def T0(P:Params):BT:=HD.bt 5 (LA P)
def env:Env:={ scope:=pw.main.scope,locals:=mainNs,globals:=mainNs,cells:=[],code:=.ref 13,frame:=some 14 }
def bE:List Stmt:=behindTheImports pw
def cE:Code:=.body bE env
def p0:Pos:=⟨0,0,0,0⟩
def B:List Frame:=[topFrame p0]
def ann:Option Value:=some (.ref 6)
def qv:Program:={ pw with main:={ pw.main with body:=pw.main.body.filter HD.nameless } }
noncomputable def as:List Nat:=[3,18,19,25,26,32,33,37,38,44,45,51,52,58,59,65,66,70,71,77,78,84,85,91,92,98,99,103,104,108,109,113,114,120,121,127,128,134,135,139,140]
def K(P:Params):Frag:=HD.pick 0 as (L1 P)
def Xt(s:Shared):Bool:=xlAt qv [] s&&recOk (RowW.records rl.row.toRowW) s
def see{α:Type}(_:α):Bool:=true
theorem primed:(see T1&&see T0&&see H1&&see HA&&see cE&&see B&&see env&&see bE&&see qv&&see K&&see Xt)=true:=by k_qdec
theorem pre(w:World)(os:OsState):topGo treeTable pw w 11 ann 12 ⟨boot_heap w.params,⟨[]⟩,boot_drawn,boot_toks,os⟩ (topStub pw)=some (⟨HA w.params,⟨[]⟩,{},187,os⟩,⟨denote treeTable cE,cE,p0,B⟩):=by have _:=primed;rw[PySem.W.Fast.te15667345088766844465,PySem.W.Fast.te14364793385576792824,PySem.W.Fast.te1032975242618825031,PySem.W.Fast.te8093259214132618727,PySem.W.Fast.te1718297227530528222,PySem.W.Fast.te11892475500146522536];rfl'
theorem block(w:World)(os:OsState):segRun treeTable pw w 11 ann 1 2 ⟨HA w.params,⟨[]⟩,{},187,os⟩ (blockOf bE env cE p0 B)=some (.next,SharedT.abs ⟨T0 w.params,15,{},⟨[]⟩,{},187,os⟩,cE,p0):=by rw[PySem.W.Fast.te14374325043358763698,PySem.W.Fast.te14364793385576792824,PySem.W.Fast.te1032975242618825031,PySem.W.Fast.te8093259214132618727,PySem.W.Fast.te1718297227530528222,PySem.W.Fast.te14938417808399470215,PySem.W.Fast.te16330338443398637341,PySem.W.Fast.te10239294469119128424];rfl'
theorem piece(w:World)(os:OsState):segRunT treeTable pw w 11 ann 1 9000 ⟨T0 w.params,15,{},⟨[]⟩,{},187,os⟩ (piecesOf bE env cE p0 B)=some (.next,⟨T1 w.params,141,{},⟨[]⟩,{},358,os⟩,cE,⟨122,0,132,15⟩):=by rw[PySem.W.Fast.te10110043849684766642,PySem.W.Fast.te14364793385576792824,PySem.W.Fast.te1032975242618825031,PySem.W.Fast.te13069687644243786066,PySem.W.Fast.te14938417808399470215,PySem.W.Fast.te1718297227530528222,PySem.W.Fast.te16330338443398637341,PySem.W.Fast.te10239294469119128424];rfl'
theorem fin(w:World)(os:OsState):topRun treeTable pw w 11 ann 3 (SharedT.abs ⟨T1 w.params,141,{},⟨[]⟩,{},358,os⟩) ⟨doneF .next,cE,⟨122,0,132,15⟩,B⟩=some ⟨H1 w.params,⟨[]⟩,{},358,os⟩:=by rw[PySem.W.Fast.te14082659384304107361,PySem.W.Fast.te14364793385576792824,PySem.W.Fast.te1032975242618825031,PySem.W.Fast.te13069687644243786066,PySem.W.Fast.te1718297227530528222,PySem.W.Fast.te14158929756966004236];rfl'
theorem run(w:World)(os:OsState):topRun treeTable pw w 11 ann (12+(2+(9000+3))) ⟨boot_heap w.params,⟨[]⟩,boot_drawn,boot_toks,os⟩ (topStub pw)=some ⟨H1 w.params,⟨[]⟩,{},358,os⟩:=by refine go_top (pre w os) (piece_block (block w os) ?_);have h:=piece_app (rest:=[]) (segRun_of (piece w os)) (piece_nil (fin w os));rw[List.append_nil]at h;exact h
theorem size (w:World):((boot_heap w.params).isNs mainGlobals&&(Array.mk []:Array GenState).size==0,(boot_heap w.params).objs.size,(boot_heap w.params).nsMap mainGlobals "__annotations__")=(true,11,ann):=by rfl'
theorem Zz(w:World)(os:OsState):(staticsOk (importedModules pw.main.body) (boot_heap w.params) (H1 w.params)&&namesBound pw (H1 w.params)&&gensDone ⟨H1 w.params,⟨[]⟩,{},358,os⟩&&laidKept (boot_heap w.params) (H1 w.params))=true:=by rw[PySem.W.Fast.te1032975242618825031,PySem.W.Fast.te14158929756966004236,PySem.W.Fast.te5923862056798008813];rfl'
theorem ZC(w:World)(os:OsState):openSeen qv [] (importedModules pw.main.body) Xt true ⟨H1 w.params,⟨[]⟩,{},358,os⟩=openGood qv []:=by rw[PySem.W.Fast.te1032975242618825031,PySem.W.Fast.te14158929756966004236,PySem.W.Fast.te5923862056798008813,PySem.W.Fast.te3994408356199485718,PySem.W.Fast.te3154452736318265832,PySem.W.Fast.te4187177175401517315];rfl'
theorem ZD(w:World):as.map (H1 w.params).get?=(K w.params).map (λp=>some p.2):=by rw[PySem.W.Fast.te14158929756966004236,PySem.W.Fast.te538113369711794958];rfl'
theorem eAs(P:Params):as=(K P).map (·.1):=by rw[PySem.W.Fast.te538113369711794958];rfl'
def hook:Hook:=kHook K as eAs
theorem left:LeftO pw qv [] Xt hook.obs hook.val 12000:=by refine LeftO.of_pieces (boot_open (by rfl') (by decide) (λs=>by rfl')) size run (by decide) λw=>funext λos=>?_;exact Prod.ext (Zz w os) (Prod.ext (ZC w os) (ZD w))
end HK
namespace Lk04
open PySem PySem.Spec PyProof.Rows L2 RF
open PySem.W (mg_of mg_none_of)
def Φ:ao:=λf=>if f="_law_anew" then p7 else if f="_law_open" then vp else if f="_law_spread" then p6 else if f="_law_take" then d8 else if f="_law_signs" then vo else if f="_law_form" then j9 else if f="_law_wider" then gU else if f="_law_within" then gU else if f="_law_form_like" then p8 else if f="_law_pair" then qe else if f="_law_form_of" then sFO else if f="_law_many_words" then vN else if f="_law_same" then dh 9 else if f="_law_words" then qb else if f="fits" then bT kJ else if f="lies_in" then bT ji else if f="with_sign" then bT gY else if f="joined" then bT jj else if f="_law_right" then ql else if f="law" then kh else bN (λ_ _=>False) (λ_ _ _ _=>False)
def J4:Φ "_law_anew"=p7:=by rfl'
def J5:Φ "_law_open"=vp:=by rfl'
def J6:Φ "_law_spread"=p6:=by rfl'
def gm:Φ "_law_take"=d8:=by rfl'
def J7:Φ "_law_signs"=vo:=by rfl'
def vP:Φ "_law_form"=j9:=by rfl'
def J8:Φ "_law_wider"=gU:=by rfl'
def J9:Φ "_law_within"=gU:=by rfl'
def Ka:Φ "_law_form_like"=p8:=by rfl'
def Kc:Φ "_law_pair"=qe:=by rfl'
def Kd:Φ "_law_form_of"=sFO:=by rfl'
def Ke:Φ "_law_many_words"=vN:=by rfl'
def Kf:Φ "_law_same"=dh 9:=by rfl'
def Kg:Φ "_law_words"=qb:=by rfl'
def Kh:Φ "fits"=bT kJ:=by rfl'
def Kl:Φ "lies_in"=bT ji:=by rfl'
def Km:Φ "with_sign"=bT gY:=by rfl'
def Ko:Φ "joined"=bT jj:=by rfl'
def Kp:Φ "_law_right"=ql:=by rfl'
noncomputable def bt:List String:=["all","bool","enumerate","int","isinstance","len","list","range","set","sorted","str","tuple","zip"]
def cn:List (String×D):=[]
def xs:List (String×Bool):=[]
abbrev CK:=λN s f o b=>aL (bx N (aD s) f bt cn xs o) b (aY s)=true
abbrev BB:=λ(l:PySem.W.OpenLaw) (w:World) (mg:Str->Option Value) (base:Heap) k f o=>Bse Φ l.prog w (HK.K w.params) mg base (CX1 l.prog w) k f bt cn xs o
abbrev NQ:=λP (s:Str) (n:Nat)=>PySem.W.nsIn (HK.K P) mainGlobals s=some (some (.ref n))
abbrev BQ:=λP fd ps=>Binds (HK.K P) fd ps []
abbrev LN:Str:="law_starsieve_k04_forms_joined"
def f0:List (String×Nat):=[]
def f1:=("_law_anew",1)::f0
def f2:=("_law_open",1)::f1
def f3:=("_law_spread",2)::f2
def f4:=("_law_take",2)::f3
def f5:=("_law_signs",3)::f4
def f6:=("_law_form",2)::f5
def f7:=("_law_wider",2)::f6
def f8:=("_law_within",2)::f7
def f9:=("_law_form_like",3)::f8
def f10:=("_law_pair",2)::f9
def f11:=("_law_form_of",1)::f10
def f12:=("_law_many_words",1)::f11
def f13:=("_law_same",2)::f12
def f14:=("_law_words",1)::f13
def f15:=("fits",2)::f14
def f16:=("lies_in",2)::f15
def f17:=("with_sign",3)::f16
def f18:=("joined",2)::f17
def f19:=("_law_right",2)::f18
def S(i:Nat):Stmt:=HK.pw.main.body.getD i (.Pass ⟨0,0,0,0⟩)
def lg:Stmt:=S 8
theorem ZF:fnB ["pen"] ["pen"] (aD lg)=true:=by ac_rfl
theorem ZG:CK ["pen"] lg f0 {} uT:=by ac_rfl
def lq:Stmt:=S 7
theorem ZJ:fnB ["script","cells","k","cell"] ["script"] (aD lq)=true:=by ac_rfl
theorem ZK:CK ["script","cells","k","cell"] lq f1 {} uU:=by ac_rfl
def lr:Stmt:=S 6
theorem ZL:fnB ["cell","at","one","two","three"] ["cell","at"] (aD lr)=true:=by ac_rfl
theorem ZM:CK ["cell","at","one","two","three"] lr f2 {} uV:=by ac_rfl
def lu:Stmt:=S 9
theorem ZP:fnB ["pen","many","at","cell","found"] ["pen","many"] (aD lu)=true:=by ac_rfl
theorem ZQ:CK ["pen","many","at","cell","found"] lu f3 {} uW:=by ac_rfl
def lw:Stmt:=S 10
theorem ZR:fnB ["pen","width","signs"] ["pen","width","signs"] (aD lw)=true:=by ac_rfl
theorem ZS:CK ["pen","width","signs"] lw f4 {} uX:=by ac_rfl
def lz:Stmt:=S 11
theorem ZV:fnB ["pen","width"] ["pen","width"] (aD lz)=true:=by ac_rfl
theorem ZW:CK ["pen","width"] lz f5 {} uY:=by ac_rfl
def lA:Stmt:=S 13
theorem ZX:fnB ["pen","form","found","sign"] ["pen","form"] (aD lA)=true:=by ac_rfl
theorem ZZ:CK ["pen","form","found","sign"] lA f6 {} uZ:=by ac_rfl
def lB:Stmt:=S 12
theorem Z0:fnB ["pen","form","found","sign"] ["pen","form"] (aD lB)=true:=by ac_rfl
theorem Z1:CK ["pen","form","found","sign"] lB f7 {} u5:=by ac_rfl
def lC:Stmt:=S 14
theorem Z2:fnB ["pen","width","forms","kind","form","at"] ["pen","width","forms"] (aD lC)=true:=by ac_rfl
theorem Z3:CK ["pen","width","forms","kind","form","at"] lC f8 {} u6:=by ac_rfl
def lE:Stmt:=S 18
theorem Z4:fnB ["pen","widest","width","form"] ["pen","widest"] (aD lE)=true:=by ac_rfl
theorem Z5:CK ["pen","widest","width","form"] lE f9 {} u9:=by ac_rfl
def lF:Stmt:=S 17
theorem Z6:fnB ["words","found","at","signs"] ["words"] (aD lF)=true:=by ac_rfl
theorem Z7:CK ["words","found","at","signs"] lF f10 {} vd:=by ac_rfl
def lG:Stmt:=S 19
theorem Z8:fnB ["form","many","sign"] ["form"] (aD lG)=true:=by ac_rfl
theorem Z9:CK ["form","many","sign"] lG f11 {} vf:=by ac_rfl
def lH:Stmt:=S 16
theorem aaa:fnB ["found","due"] ["found","due"] (aD lH)=true:=by ac_rfl
theorem aab:CK ["found","due"] lH f13 {} dI:=by ac_rfl
def lJ:Stmt:=S 15
theorem aac:fnB ["form","found","sign","longer","text"] ["form"] (aD lJ)=true:=by ac_rfl
theorem aad:CK ["form","found","sign","longer","text"] lJ f13 {} vg:=by ac_rfl
def lK:Stmt:=S 1
theorem aae:fnB ["form","word"] ["form","word"] (aD lK)=true:=by ac_rfl
theorem aaf:CK ["form","word"] lK f14 {} j5:=by ac_rfl
def lL:Stmt:=S 2
theorem aag:fnB ["form","other"] ["form","other"] (aD lL)=true:=by ac_rfl
theorem aah:CK ["form","other"] lL f15 {} j6:=by ac_rfl
def lM:Stmt:=S 3
theorem aai:fnB ["form","at","sign"] ["form","at","sign"] (aD lM)=true:=by ac_rfl
theorem aaj:CK ["form","at","sign"] lM f16 {} j7:=by ac_rfl
def lN:Stmt:=S 4
theorem aak:fnB ["form","other","unlike"] ["form","other"] (aD lN)=true:=by ac_rfl
theorem aal:CK ["form","other","unlike"] lN f17 {} j8:=by ac_rfl
def lO:Stmt:=S 20
theorem aam:fnB ["form","other","words","due"] ["form","other"] (aD lO)=true:=by ac_rfl
theorem aan:CK ["form","other","words","due"] lO f18 {} vh:=by ac_rfl
def lQ:Stmt:=S 21
theorem aao:fnB ["script","pen","turn","form","other","at","halves"] ["script"] (aD lQ)=true:=by ac_rfl
theorem aap:CK ["script","pen","turn","form","other","at","halves"] lQ f19 {} vm:=by ac_rfl
noncomputable def fdM(n:Str)(st:Stmt)(m:Str)(t c:Nat):FuncData:=PySem.W.fnOf n n (jm st) (aY st) (aD st) .none .none .none (.str m t) none (.ref c) .none
theorem mkF {K:PF} {n m:Str} {st:Stmt} {a t c:Nat}(l:K.lookup a=some ⟨.type "function",none,.func (fdM n st m t c),⟨[]⟩⟩:=by rfl')(h1:PySem.W.codeIn K (.ref c) n=true:=by eq_refl)(h2:PySem.W.keepIn K (.ref a)=true:=by eq_refl):Fun K n n st a (fdM n st m t c):=Qw l h1 h2
theorem tK:type_of% @PySem.W.Fast.te538113369711794958:=PySem.W.Fast.te538113369711794958
local macro_rules|`(tactic|ac_nf)=>`(tactic|(intro _ _ _ _ _ _ us hl;first|(obtain ⟨_,h⟩:=jg hl;subst h;rfl)|(obtain ⟨_,_,h⟩:=dg hl;subst h;rfl)|(obtain ⟨_,_,_,h⟩:=uO hl;subst h;rfl)))
local macro_rules|`(tactic|eq_refl)=>`(tactic|(first|rw[tK]|(unfold NQ;rw[tK]));rfl')
section
variable {P:Params}
def Kq:FuncData:=fdM "_law_anew" lg LN 218 58
theorem Kr:Fun (HK.K P) "_law_anew" "_law_anew" lg 59 Kq:=mkF
theorem aaq:NQ P "_law_anew" 59:=by eq_refl
theorem aar:BQ P Kq ["pen"]:=Kr.binds (by ac_nf)
def Ks:FuncData:=fdM "_law_open" lq LN 218 51
theorem Ku:Fun (HK.K P) "_law_open" "_law_open" lq 52 Ks:=mkF
theorem aas:NQ P "_law_open" 52:=by eq_refl
theorem aat:BQ P Ks ["script"]:=Ku.binds (by ac_nf)
def Kv:FuncData:=fdM "_law_spread" lr LN 218 44
theorem Kw:Fun (HK.K P) "_law_spread" "_law_spread" lr 45 Kv:=mkF
theorem aau:NQ P "_law_spread" 45:=by eq_refl
theorem aav:BQ P Kv ["cell","at"]:=Kw.binds (by ac_nf)
def Ky:FuncData:=fdM "_law_take" lu LN 218 65
theorem Kz:Fun (HK.K P) "_law_take" "_law_take" lu 66 Ky:=mkF
theorem aaw:NQ P "_law_take" 66:=by eq_refl
theorem aax:BQ P Ky ["pen","many"]:=Kz.binds (by ac_nf)
def KC:FuncData:=fdM "_law_signs" lw LN 218 70
theorem KD:Fun (HK.K P) "_law_signs" "_law_signs" lw 71 KC:=mkF
theorem aay:NQ P "_law_signs" 71:=by eq_refl
theorem aaz:BQ P KC ["pen","width","signs"]:=KD.binds (by ac_nf)
def KH:FuncData:=fdM "_law_form" lz LN 218 77
theorem KJ:Fun (HK.K P) "_law_form" "_law_form" lz 78 KH:=mkF
theorem aaA:NQ P "_law_form" 78:=by eq_refl
theorem aaB:BQ P KH ["pen","width"]:=KJ.binds (by ac_nf)
def KN:FuncData:=fdM "_law_wider" lA LN 218 91
theorem KQ:Fun (HK.K P) "_law_wider" "_law_wider" lA 92 KN:=mkF
theorem aaC:NQ P "_law_wider" 92:=by eq_refl
theorem aaD:BQ P KN ["pen","form"]:=KQ.binds (by ac_nf)
def KR:FuncData:=fdM "_law_within" lB LN 218 84
theorem KY:Fun (HK.K P) "_law_within" "_law_within" lB 85 KR:=mkF
theorem aaE:NQ P "_law_within" 85:=by eq_refl
theorem aaF:BQ P KR ["pen","form"]:=KY.binds (by ac_nf)
def KZ:FuncData:=fdM "_law_form_like" lC LN 218 98
theorem K1:Fun (HK.K P) "_law_form_like" "_law_form_like" lC 99 KZ:=mkF
theorem aaG:NQ P "_law_form_like" 99:=by eq_refl
theorem aaH:BQ P KZ ["pen","width","forms"]:=K1.binds (by ac_nf)
def K3:FuncData:=fdM "_law_pair" lE LN 218 120
theorem K4:Fun (HK.K P) "_law_pair" "_law_pair" lE 121 K3:=mkF
theorem aaI:NQ P "_law_pair" 121:=by eq_refl
theorem aaJ:BQ P K3 ["pen","widest"]:=K4.binds (by ac_nf)
def K5:FuncData:=fdM "_law_form_of" lF LN 218 113
theorem K6:Fun (HK.K P) "_law_form_of" "_law_form_of" lF 114 K5:=mkF
theorem aaK:NQ P "_law_form_of" 114:=by eq_refl
theorem aaL:BQ P K5 ["words"]:=K6.binds (by ac_nf)
def K7:FuncData:=fdM "_law_many_words" lG LN 218 127
theorem K8:Fun (HK.K P) "_law_many_words" "_law_many_words" lG 128 K7:=mkF
theorem aaM:NQ P "_law_many_words" 128:=by eq_refl
theorem aaN:BQ P K7 ["form"]:=K8.binds (by ac_nf)
def vQ:FuncData:=fdM "_law_same" lH LN 218 108
theorem qt:Fun (HK.K P) "_law_same" "_law_same" lH 109 vQ:=mkF
theorem K9:NQ P "_law_same" 109:=by eq_refl
theorem La:BQ P vQ ["found","due"]:=qt.binds (by ac_nf)
def Lb:FuncData:=fdM "_law_words" lJ LN 218 103
theorem Ld:Fun (HK.K P) "_law_words" "_law_words" lJ 104 Lb:=mkF
theorem aaO:NQ P "_law_words" 104:=by eq_refl
theorem aaP:BQ P Lb ["form"]:=Ld.binds (by ac_nf)
def Lg:FuncData:=fdM "fits" lK "starsieve.forms" 187 18
theorem Lh:Fun (HK.K P) "fits" "fits" lK 19 Lg:=mkF
theorem aaQ:NQ P "fits" 19:=by eq_refl
theorem j5:BQ P Lg ["form","word"]:=Lh.binds (by ac_nf)
def Li:FuncData:=fdM "lies_in" lL "starsieve.forms" 187 25
theorem Lj:Fun (HK.K P) "lies_in" "lies_in" lL 26 Li:=mkF
theorem aaR:NQ P "lies_in" 26:=by eq_refl
theorem j6:BQ P Li ["form","other"]:=Lj.binds (by ac_nf)
def Lk:FuncData:=fdM "with_sign" lM "starsieve.forms" 187 32
theorem Ln:Fun (HK.K P) "with_sign" "with_sign" lM 33 Lk:=mkF
theorem aaS:NQ P "with_sign" 33:=by eq_refl
theorem j7:BQ P Lk ["form","at","sign"]:=Ln.binds (by ac_nf)
def Lp:FuncData:=fdM "joined" lN "starsieve.forms" 187 37
theorem Lq:Fun (HK.K P) "joined" "joined" lN 38 Lp:=mkF
theorem aaT:NQ P "joined" 38:=by eq_refl
theorem j8:BQ P Lp ["form","other"]:=Lq.binds (by ac_nf)
def Lr:FuncData:=fdM "_law_right" lO LN 218 134
theorem Ls:Fun (HK.K P) "_law_right" "_law_right" lO 135 Lr:=mkF
theorem aaU:NQ P "_law_right" 135:=by eq_refl
theorem aaV:BQ P Lr ["form","other"]:=Ls.binds (by ac_nf)
def vR:FuncData:=fdM "law" lQ LN 218 139
theorem aaW:Fun (HK.K P) "law" "law" lQ 140 vR:=mkF
theorem aaX:NQ P "law" 140:=by eq_refl
theorem aaY:PySem.W.nsIn (HK.K P) mainGlobals "all"=some none:=by eq_refl
theorem aaZ:PySem.W.nsIn (HK.K P) mainGlobals "bool"=some none:=by eq_refl
theorem aa0:PySem.W.nsIn (HK.K P) mainGlobals "enumerate"=some none:=by eq_refl
theorem aa1:PySem.W.nsIn (HK.K P) mainGlobals "int"=some none:=by eq_refl
theorem aa2:PySem.W.nsIn (HK.K P) mainGlobals "isinstance"=some none:=by eq_refl
theorem aa3:PySem.W.nsIn (HK.K P) mainGlobals "len"=some none:=by eq_refl
theorem aa4:PySem.W.nsIn (HK.K P) mainGlobals "list"=some none:=by eq_refl
theorem aa5:PySem.W.nsIn (HK.K P) mainGlobals "range"=some none:=by eq_refl
theorem aa6:PySem.W.nsIn (HK.K P) mainGlobals "set"=some none:=by eq_refl
theorem aa7:PySem.W.nsIn (HK.K P) mainGlobals "sorted"=some none:=by eq_refl
theorem aa8:PySem.W.nsIn (HK.K P) mainGlobals "str"=some none:=by eq_refl
theorem aa9:PySem.W.nsIn (HK.K P) mainGlobals "tuple"=some none:=by eq_refl
theorem aba:PySem.W.nsIn (HK.K P) mainGlobals "zip"=some none:=by eq_refl
theorem x_s:xsB (HK.K P) xs=true:=by eq_refl
end
section
variable {l:PySem.W.OpenLaw} {w:World} {h:Heap} {mg:Str->Option Value} {base:Heap} (X:(HK.K w.params).In h) (G:h.Ns mainGlobals mg)
include X G
theorem B0:BB l w mg base 0 f0 {}:=bse trivial ⟨mg_none_of X G aaY,mg_none_of X G aaZ,mg_none_of X G aa0,mg_none_of X G aa1,mg_none_of X G aa2,mg_none_of X G aa3,mg_none_of X G aa4,mg_none_of X G aa5,mg_none_of X G aa6,mg_none_of X G aa7,mg_none_of X G aa8,mg_none_of X G aa9,mg_none_of X G aba,trivial⟩ trivial X G x_s
theorem B1:BB l w mg base 1 f1 {}:=(B0 X G).step Kr aar (mg_of X G aaq) J4 0 ZF ZG rfl rfl (cR (λds G h=>Yr Φ  ds G h))
theorem B2:BB l w mg base 2 f2 {}:=(B1 X G).step Ku aat (mg_of X G aas) J5 3 ZJ ZK rfl rfl (cR (λds G h=>Yx Φ  ds G h))
theorem B3:BB l w mg base 3 f3 {}:=(B2 X G).step Kw aav (mg_of X G aau) J6 3 ZL ZM rfl rfl (cR (λds G h=>Yq Φ  ds G h))
theorem B4:BB l w mg base 4 f4 {}:=(B3 X G).step Kz aax (mg_of X G aaw) gm 3 ZP ZQ rfl rfl (cR (λds G h=>Ys Φ J6 ds G h))
theorem B5:BB l w mg base 5 f5 {}:=(B4 X G).step KD aaz (mg_of X G aay) J7 0 ZR ZS rfl rfl (cR (λds G h=>Yv Φ gm ds G h))
theorem B6:BB l w mg base 6 f6 {}:=(B5 X G).step KJ aaB (mg_of X G aaA) vP 0 ZV ZW rfl rfl (cR (λds G h=>Yw Φ gm J7 ds G h))
theorem B7:BB l w mg base 7 f7 {}:=(B6 X G).step KQ aaD (mg_of X G aaC) J8 2 ZX ZZ rfl rfl (cR (λds G h=>YH Φ gm ds G h))
theorem B8:BB l w mg base 8 f8 {}:=(B7 X G).step KY aaF (mg_of X G aaE) J9 2 Z0 Z1 rfl rfl (cR (λds G h=>YG Φ gm ds G h))
theorem B9:BB l w mg base 9 f9 {}:=(B8 X G).step K1 aaH (mg_of X G aaG) Ka 3 Z2 Z3 rfl rfl (cR (λds G h=>YQ Φ gm vP J9 J8 ds G h))
theorem B10:BB l w mg base 10 f10 {}:=(B9 X G).step K4 aaJ (mg_of X G aaI) Kc 2 Z4 Z5 rfl rfl (uR (λa ds G h=>Zd Φ gm vP Ka a ds G h))
theorem B11:BB l w mg base 11 f11 {}:=(B10 X G).step K6 aaL (mg_of X G aaK) Kd 3 Z6 Z7 rfl rfl (Jd (λa G h=>Zm Φ  a G h))
theorem B12:BB l w mg base 12 f12 {}:=(B11 X G).step K8 aaN (mg_of X G aaM) Ke 2 Z8 Z9 rfl rfl (Jd (λa G h=>Zt Φ  a G h))
theorem Lw:∀n:Nat,FnOk l.prog w (HK.K w.params) mg base (CX1 l.prog w) (12+n) 109 vQ ["found","due"] (lift (HK.K w.params) 2 (dh n))
 |0=>Ym YC
 |n+1=>uK (fs:=f13) qt ((B12 X G).self (by ac_rfl) (Lw n) qt.kp La (mg_of X G K9)) (dh (n+1)) 2 0 aaa aab rfl rfl (cR (λds G h=>YB (pZ Φ "_law_same" (dh n)) n (if_pos rfl) ds G h))
theorem B13:BB l w mg base 21 f13 {}:=(B12 X G).add (j:=9) Kf (Lw X G 9) qt.kp La (mg_of X G K9)
theorem B14:BB l w mg base 22 f14 {}:=(B13 X G).step Ld aaP (mg_of X G aaO) Kg 4 aac aad rfl rfl (cR (λds G h=>YW Φ  ds G h))
theorem B15:BB l w mg base 23 f15 {}:=(B14 X G).step Lh j5 (mg_of X G aaQ) Kh 0 aae aaf rfl rfl (pY (λds G d h=>YZ Φ  ds G d h))
theorem B16:BB l w mg base 24 f16 {}:=(B15 X G).step Lj j6 (mg_of X G aaR) Kl 0 aag aah rfl rfl (pY (λds G d h=>Za Φ Kh ds G d h))
theorem B17:BB l w mg base 25 f17 {}:=(B16 X G).step Ln j7 (mg_of X G aaS) Km 0 aai aaj rfl rfl (pY (λds G d h=>Y5 Φ  ds G d h))
theorem B18:BB l w mg base 26 f18 {}:=(B17 X G).step Lq j8 (mg_of X G aaT) Ko 1 aak aal rfl rfl (pY (λds G d h=>Zh Φ Kl Km ds G d h))
theorem B19:BB l w mg base 27 f19 {}:=(B18 X G).step Ls aaV (mg_of X G aaU) Kp 2 aam aan rfl rfl (uR (λa ds G h=>Zu Φ ⟨Kg,Ke,Kf,Ko,Kd⟩ a ds G h))
theorem abb:FnOk l.prog w (HK.K w.params) mg base (CX1 l.prog w) 28 140 vR ["script"] (lift (HK.K w.params) 1 (kh)):=uK aaW (B19 X G) (kh) 1 6 aao aap rfl rfl (cR (λds G h=>Zv Φ ⟨J5,J4,Kc,Kp,gm⟩ ds G h))
omit X G in
theorem all (fa:Addr) (X:(HK.K w.params).In h) (G:h.Ns mainGlobals mg) (hfa:mg "law"=some (.ref fa)):∃fd:FuncData,(∀(s:Shared) (v:Value),BindsTo s fd ⟨[v],[]⟩ [("script",v)])/\∀base:Heap,(HK.K w.params).In base->base.Ns mainGlobals mg->FnOk l.prog w (HK.K w.params) mg base (CX1 l.prog w) 28 fa fd ["script"] (lift (HK.K w.params) 1 (kh)):=by have e:=hfa.symm.trans (PySem.W.mg_of X G aaX);cases e;exact ⟨vR,λs v=>.of_eq rfl,λbase _ _=>abb X G⟩
end
theorem walk {l:PySem.W.OpenLaw} {q:Program} {loose:List Str} {XP:(Str->Option Value)->Heap->Prop} {d:DefRec} (hn:l.most=some 63) (hdf:d.params.defaults=[]) (hdn:d.name="law"):
  PySem.W.WalkO q loose XP HK.hook.says l.row.toRowW d [] (λf vs=>PySem.call f vs):=
 L2.Qv (n:=63) (k:=28) (x:="script") (K:=HK.K) (CX:=λw=>CX1 l.prog w) (sp:=λw=>lift (HK.K w.params) 1 (kh)) hn (by decide) hdf ⟨rfl,by decide,by decide⟩ (λ_ _ Y=>Y) (λw mg fa h X G hmg=>all fa X G (hdn ▸ hmg)) (λw H a ns hl hO hS=>Yn (Yo λns _ hl=>⟨ns,rfl,hl⟩) (HK.K w.params) H a ns hl hO hS) λ_ _ _ _ _ z=>Yb z
end Lk04
open PySem PySem.W PyProof.Rows
set_option maxHeartbeats 0 in
theorem PySem.Challenge.cw_starsieve_k04_forms_joined_holds : PySem.Challenge.rw_starsieve_k04_forms_joined.Holds := by
 have said:PySem.Challenge.rw_starsieve_k04_forms_joined.row.wellSaid=true:=by ac_rfl
 refine ⟨by ac_rfl,?_⟩;refine PySem.W.holds_open (q:=HK.qv) (loose:=[]) (Xt:=HK.Xt) (XP:=XL HK.qv []) (Yf:=HK.hook.obs) (Ya:=HK.hook.val) (YP:=HK.hook.says) (N:=12000) HK.left HK.hook.of HK.hook.keeps
  (λs e=>xl_of s (Bool.and_eq_true_iff.mp e).1) XL.keeps (by rfl) (by rfl) (by rfl) (λs e=>recFacts_of (Bool.and_eq_true_iff.mp e).2) (by rfl) (by assumption) (by ac_rfl) ⟨rfl,rfl,rfl,rfl,rfl,by ac_rfl⟩ ?hw ?hc
 case hw=>exact ⟨[.list []],by ac_rfl,by ac_rfl⟩
 exact Lk04.walk rfl rfl rfl
